package step

import (
	"soundings/api"
	"soundings/guess"
	"soundings/picture"
	"soundings/span"
)

// stepper is the instruction that is stepped, where it stands, from a picture that is only read, and what came of it till now. Program and picture are right, so that no call has an error.
type stepper struct {
	api.Instr
	program       api.Program
	at            int
	from          api.Picture
	edges         []api.Edge
	wrong, failed bool
}

// step along all edges.
func (s *stepper) step() {
	switch s.Kind {
	case api.CodeNew:
		s.makeThing()
	case api.CodePut:
		s.put()
	case api.CodeIf:
		s.onTrue(s.Goto)
		s.onFalse(s.next())
	case api.CodeGoto:
		s.edge(s.Goto, func(*api.Picture) {})
	case api.CodeExpect:
		s.onTrue(s.next())
		_, s.failed = s.truth()
	case api.CodePrint:
		s.edge(s.next(), func(*api.Picture) {})
	case api.CodeEnd:
	default:
		s.set(s.comes())
	}
}

// next is the place behind the instruction.
func (s *stepper) next() int {
	return s.at + 1
}

// edge on which runs go on, with what is changed there. What is joined with none stays as it is, in new memory: a picture of its own.
func (s *stepper) edge(to int, change func(x *api.Picture)) {
	x, _ := picture.Join(s.program, s.from, api.Picture{None: true})
	change(&x)
	s.edges = append(s.edges, api.Edge{To: to, Picture: x})
}

// set To, if something comes.
func (s *stepper) set(g api.Guess) {
	if nothing, _ := guess.Within(s.program, g, api.Guess{Span: api.Span{None: true}}); nothing {
		return
	}
	s.edge(s.next(), func(x *api.Picture) { x.Vars[s.To] = g })
}

// makeThing of this site.
func (s *stepper) makeThing() {
	s.edge(s.next(), func(x *api.Picture) {
		x.Vars[s.To] = api.Guess{Span: api.Span{None: true}, Sites: []int{s.at}}
		for i := range x.Fields[s.at] {
			x.Fields[s.at][i].Null = true
		}
	})
}

// comes: what To may become.
func (s *stepper) comes() api.Guess {
	none := api.Span{None: true}
	switch s.Kind {
	case api.CodeNumber:
		return api.Guess{Span: api.Span{Lo: s.N, Hi: s.N}}
	case api.CodeTruth:
		return api.Guess{Span: none, True: s.N == 1, False: s.N == 0}
	case api.CodeNull:
		return api.Guess{Span: none, Null: true}
	case api.CodeGet:
		return s.get()
	case api.CodeInput:
		return api.Guess{Span: api.Span{Lo: -s.N, Hi: s.N}}
	}
	g, wrong, _ := guess.Do(s.program, s.Kind, s.from.Vars[s.A], s.from.Vars[s.B])
	s.wrong = wrong
	return g
}

// things that A may be, by their sites; it is wrong, if A may be something else.
func (s *stepper) things() []int {
	a := s.from.Vars[s.A]
	s.wrong = a.Null || !a.Span.None || a.True || a.False
	return a.Sites
}

// get: what the field may be of all things that A may be.
func (s *stepper) get() api.Guess {
	g := api.Guess{Span: api.Span{None: true}}
	for _, site := range s.things() {
		g, _ = guess.Join(s.program, g, s.from.Fields[site][s.N])
	}
	return g
}

// put what B may be, too, into the field of all things that A may be: one of them is changed, the others of its site are not.
func (s *stepper) put() {
	sites := s.things()
	if len(sites) == 0 {
		return
	}
	s.edge(s.next(), func(x *api.Picture) {
		for _, site := range sites {
			f := &x.Fields[site][s.N]
			*f, _ = guess.Join(s.program, *f, s.from.Vars[s.B])
		}
	})
}

// truth of A: may it count as true; may it not?
func (s *stepper) truth() (bool, bool) {
	yes, no, _ := guess.Truth(s.program, s.from.Vars[s.A])
	return yes, no
}

// onTrue is the edge for runs where A counts as true, if there may be some.
func (s *stepper) onTrue(to int) {
	if yes, _ := s.truth(); !yes {
		return
	}
	s.edge(to, func(x *api.Picture) {
		a := &x.Vars[s.A]
		a.Null, a.False, a.Span = false, false, withoutZero(a.Span)
	})
}

// onFalse is the edge for runs where A does not count as true, if there may be some.
func (s *stepper) onFalse(to int) {
	if _, no := s.truth(); !no {
		return
	}
	s.edge(to, func(x *api.Picture) {
		a := &x.Vars[s.A]
		a.True, a.Sites = false, nil
		a.Span, _ = span.Meet(a.Span, api.Span{})
	})
}

// withoutZero is a span without a 0 that stands at its end. (None has noughts there, and meets nothing.)
func withoutZero(s api.Span) api.Span {
	if s.Lo == 0 {
		s, _ = span.Meet(s, api.Span{Lo: 1, Hi: api.Most})
	}
	if s.Hi == 0 {
		s, _ = span.Meet(s, api.Span{Lo: api.Least, Hi: -1})
	}
	return s
}
