package solve

import (
	"iter"

	"soundings/api"
	"soundings/picture"
	"soundings/step"
)

// firstWide is the first round that widens.
const firstWide = 4

// checkAll pictures of a right program: one for each place.
func checkAll(p api.Program, l []api.Picture) api.Errno {
	if len(l) != len(p.Code)+1 {
		return api.ErrForm
	}
	for _, x := range l {
		if e := picture.Check(p, x); e != api.OK {
			return e
		}
	}
	return api.OK
}

// isWithin: is a right picture within another one?
func isWithin(p api.Program, x, y api.Picture) bool {
	ok, _ := picture.Within(p, x, y)
	return ok
}

// edges of the instructions that are looked for, from the first one to the last, each with the place of its instruction. Who goes through them may change pictures: an instruction is not looked at till its turn comes.
func edges(p api.Program, l []api.Picture, isLookedFor func(at int) bool) iter.Seq2[int, api.Edge] {
	return func(yield func(int, api.Edge) bool) {
		for at := range p.Code {
			if !isLookedFor(at) {
				continue
			}
			out, _, _, _ := step.Step(p, at, l[at])
			for _, x := range out {
				if !yield(at, x) {
					return
				}
			}
		}
	}
}

// solver has for each place of a right program the picture till now, and the round in which its instruction is due: that of its first turn after the picture changed. In other rounds it is left out: its edges' pictures would be those of its last turn, which are within what is there since then, so that they could change nothing.
type solver struct {
	program  api.Program
	pictures []api.Picture
	due      []int
}

// newSolver: runs stand at the beginning, and nowhere else.
func newSolver(p api.Program, begin api.Picture) *solver {
	s := &solver{program: p, pictures: []api.Picture{begin}, due: []int{1}}
	for range p.Code {
		s.pictures = append(s.pictures, api.Picture{None: true})
		s.due = append(s.due, 0)
	}
	return s
}

// round n, counted from 1 on: does it change something?
func (s *solver) round(n int) bool {
	changed := false
	isDue := func(at int) bool { return s.due[at] == n }
	for at, x := range edges(s.program, s.pictures, isDue) {
		// Joined or widened by what is within it, a picture stays as it is.
		if isWithin(s.program, x.Picture, s.pictures[x.To]) {
			continue
		}
		changed = true
		if x.To > at {
			s.goOn(n, x)
		} else {
			s.goBack(n, x)
		}
	}
	return changed
}

// goOn along an edge to a place behind: its turn comes in this round.
func (s *solver) goOn(n int, x api.Edge) {
	s.put(x, picture.Join)
	s.due[x.To] = n
}

// goBack along an edge to the head of a loop: its turn comes in the next round. Widening cuts short what would grow by a little each time.
func (s *solver) goBack(n int, x api.Edge) {
	if n < firstWide {
		s.put(x, picture.Join)
	} else {
		s.put(x, picture.Widen)
	}
	s.due[x.To] = n + 1
}

// put an edge's picture to what is there.
func (s *solver) put(x api.Edge, how func(p api.Program, x, y api.Picture) (api.Picture, api.Errno)) {
	s.pictures[x.To], _ = how(s.program, s.pictures[x.To], x.Picture)
}
