package code

import (
	"strconv"
	"strings"

	"soundings/api"
)

const (
	maxTextBytes   = 4000 // of a program
	maxNumberBytes = 11   // of a number in a text
)

const (
	wordVars   = "vars"
	wordFields = "fields"
)

// printHead is the first line of a program's text.
func printHead(p api.Program) string {
	return printLine(wordVars, strconv.Itoa(p.Vars), wordFields, strconv.Itoa(p.Fields))
}

// printInstr is the line of an instruction.
func printInstr(known map[int]shape, x api.Instr) string {
	s := known[x.Kind]
	words := []string{s.word}
	for _, q := range s.parts {
		words = append(words, strconv.Itoa(*slot(&x, q)))
	}
	return printLine(words...)
}

// printLine is the line that has these words.
func printLine(words ...string) string {
	return strings.Join(words, " ") + "\n"
}

// parseLines reads a program, not checked yet; or tells the first line that is none (0, if all are).
func parseLines(s string) (api.Program, int) {
	head, s, ended := strings.Cut(s, "\n")
	p, ok := parseHead(head)
	if !ended || !ok {
		return p, 1
	}
	known := shapes()
	for line := 2; s != ""; line++ {
		text, rest, ended := strings.Cut(s, "\n")
		x, ok := parseInstr(known, text)
		if !ended || !ok {
			return p, line
		}
		p.Code = append(p.Code, x)
		s = rest
	}
	return p, 0
}

// parseHead reads the first line: a program without code.
func parseHead(line string) (api.Program, bool) {
	words := strings.Split(line, " ")
	if len(words) != 4 || words[0] != wordVars || words[2] != wordFields {
		return api.Program{}, false
	}
	vars, one := parseNumber(words[1])
	fields, two := parseNumber(words[3])
	return api.Program{Vars: vars, Fields: fields}, one && two
}

// parseInstr reads the line of an instruction.
func parseInstr(known map[int]shape, line string) (api.Instr, bool) {
	words := strings.Split(line, " ")
	kind, ok := find(known, func(s shape) bool {
		return s.word == words[0] && len(s.parts) == len(words)-1
	})
	if !ok {
		return api.Instr{}, false
	}
	x := api.Instr{Kind: kind}
	for i, q := range known[kind].parts {
		n, ok := parseNumber(words[i+1])
		if !ok {
			return api.Instr{}, false
		}
		*slot(&x, q) = n
	}
	return x, true
}

// parseNumber reads a number: it must be just what would be printed for it, so no nought or plus stands ahead.
func parseNumber(word string) (int, bool) {
	if len(word) > maxNumberBytes {
		return 0, false
	}
	n, err := strconv.Atoi(word)
	return n, err == nil && strconv.Itoa(n) == word
}
