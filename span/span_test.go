package span_test

import (
	"math"
	"math/rand"
	"testing"

	"soundings/api"
	"soundings/span"
)

const (
	least = -2147483648
	most  = 2147483647
)

var (
	none = api.Span{None: true}
	all  = from(least, most)
)

// from lo to hi.
func from(lo, hi int) api.Span { return api.Span{Lo: lo, Hi: hi} }

// small spans: all of numbers from -4 to 4, and none.
func small() []api.Span {
	spans := []api.Span{none}
	for lo := -4; lo <= 4; lo++ {
		for hi := lo; hi <= 4; hi++ {
			spans = append(spans, from(lo, hi))
		}
	}
	return spans
}

// numbers of a small span.
func numbers(s api.Span) []int {
	var l []int
	for n := s.Lo; n <= s.Hi && !s.None; n++ {
		l = append(l, n)
	}
	return l
}

// hull is the least span that has these numbers.
func hull(l []int) api.Span {
	if len(l) == 0 {
		return none
	}
	s := from(l[0], l[0])
	for _, n := range l {
		s = from(min(s.Lo, n), max(s.Hi, n))
	}
	return s
}

// has asks Has of a right span.
func has(t *testing.T, s api.Span, n int) bool {
	t.Helper()
	ok, e := span.Has(s, n)
	if e != api.OK {
		t.Fatalf("Has of %v, %d: %d", s, n, e)
	}
	return ok
}

// put is a call that puts two spans together.
type put func(s, t api.Span) (api.Span, api.Errno)

// do is Do of a kind.
func do(kind int) put {
	return func(s, t api.Span) (api.Span, api.Errno) { return span.Do(kind, s, t) }
}

// becomes: what comes of two right spans is that one.
func becomes(t *testing.T, name string, call put, s, u, want api.Span) {
	t.Helper()
	if got, e := call(s, u); got != want || e != api.OK {
		t.Errorf("%s of %v and %v is %v, %d, not %v", name, s, u, got, e, want)
	}
}

// wrongSpans has what Check says of spans that are none. Of several errors it is the first that C1 names.
func wrongSpans() map[api.Span]api.Errno {
	return map[api.Span]api.Errno{
		from(least-1, 0):                  api.ErrRange,
		from(0, most+1):                   api.ErrRange,
		from(most+1, 0):                   api.ErrRange,
		from(0, least-1):                  api.ErrRange,
		from(math.MinInt, math.MaxInt):    api.ErrRange,
		from(math.MaxInt, math.MinInt):    api.ErrRange,
		{None: true, Lo: least - 1}:       api.ErrRange,
		{None: true, Hi: most + 1}:        api.ErrRange,
		{None: true, Lo: 1, Hi: 1}:        api.ErrForm,
		{None: true, Lo: -1}:              api.ErrForm,
		{None: true, Hi: 1}:               api.ErrForm,
		{None: true, Lo: most, Hi: least}: api.ErrForm,
		{None: true, Lo: least, Hi: most}: api.ErrForm,
		from(1, 0):                        api.ErrState,
		from(0, -1):                       api.ErrState,
		from(least+1, least):              api.ErrState,
		from(most, least):                 api.ErrState,
	}
}

func TestC1Check(t *testing.T) {
	for _, s := range []api.Span{none, {}, all, from(least, least), from(most, most), from(-1, 1), from(0, most)} {
		if e := span.Check(s); e != api.OK {
			t.Errorf("Check of %v is %d", s, e)
		}
	}
	for s, want := range wrongSpans() {
		if e := span.Check(s); e != want {
			t.Errorf("Check of %v is %d, not %d", s, e, want)
		}
	}
}

// refused: each call answers this error, and nothing else, of these two.
func refused(t *testing.T, s, u api.Span, want api.Errno) {
	t.Helper()
	for name, call := range map[string]put{"Join": span.Join, "Meet": span.Meet, "Widen": span.Widen, "sum": do(api.CodeAdd), "no kind": do(0)} {
		if got, e := call(s, u); got != (api.Span{}) || e != want {
			t.Errorf("%s of %v and %v is %v, %d, not %d", name, s, u, got, e, want)
		}
	}
	if ok, e := span.Within(s, u); ok || e != want {
		t.Errorf("Within of %v and %v is %v, %d, not %d", s, u, ok, e, want)
	}
}

func TestC1OthersTellItFirst(t *testing.T) {
	for s, want := range wrongSpans() {
		for _, n := range []int{0, s.Lo, s.Hi} {
			if ok, e := span.Has(s, n); ok || e != want {
				t.Errorf("Has of %v, %d is %v, %d, not %d", s, n, ok, e, want)
			}
		}
		for _, right := range []api.Span{none, {}, all, from(1, 2)} {
			refused(t, s, right, want)
			refused(t, right, s, want)
		}
		for u := range wrongSpans() {
			refused(t, s, u, want)
		}
	}
}

func TestC2Has(t *testing.T) {
	for _, s := range small() {
		for n := -6; n <= 6; n++ {
			want := !s.None && n >= s.Lo && n <= s.Hi
			if got := has(t, s, n); got != want {
				t.Errorf("%v has %d: %v", s, n, got)
			}
		}
	}
	for _, n := range []int{least - 1, most + 1, math.MinInt, math.MaxInt} {
		if has(t, all, n) || has(t, none, n) {
			t.Errorf("a span has %d", n)
		}
	}
	for _, n := range []int{least, -1, 0, most} {
		if !has(t, all, n) || has(t, none, n) {
			t.Errorf("all have not %d, or none has", n)
		}
	}
}

func TestC2JoinMeetWithin(t *testing.T) {
	for _, s := range small() {
		for _, u := range small() {
			becomes(t, "Join", span.Join, s, u, hull(append(numbers(s), numbers(u)...)))
			var both []int
			within := true
			for _, n := range numbers(s) {
				if has(t, u, n) {
					both = append(both, n)
				} else {
					within = false
				}
			}
			becomes(t, "Meet", span.Meet, s, u, hull(both))
			if got, e := span.Within(s, u); got != within || e != api.OK {
				t.Errorf("%v is within %v: %v, %d", s, u, got, e)
			}
		}
	}
}

func TestC2AtTheEnds(t *testing.T) {
	low, high := from(least, -1), from(0, most)
	becomes(t, "Join", span.Join, low, high, all)
	becomes(t, "Meet", span.Meet, low, high, none)
	becomes(t, "Meet", span.Meet, from(least, 0), high, api.Span{})
	becomes(t, "Join", span.Join, from(least, least), from(most, most), all)
	becomes(t, "Join", span.Join, none, all, all)
	becomes(t, "Meet", span.Meet, all, low, low)
	becomes(t, "Join", span.Join, none, api.Span{}, api.Span{})
	becomes(t, "Meet", span.Meet, none, api.Span{}, none)
	for _, s := range []api.Span{none, low, high, all} {
		if ok, e := span.Within(s, all); !ok || e != api.OK {
			t.Errorf("%v is not within all: %d", s, e)
		}
	}
	if ok, _ := span.Within(api.Span{}, none); ok {
		t.Errorf("0 is within none")
	}
}

func TestC2Widen(t *testing.T) {
	for _, c := range []struct{ s, by, want api.Span }{
		{api.Span{}, from(0, 1), from(0, most)},
		{api.Span{}, from(1, 1), from(0, most)},
		{api.Span{}, from(-1, 0), from(least, 0)},
		{api.Span{}, from(-1, -1), from(least, 0)},
		{api.Span{}, from(-1, 1), all},
		{from(1, 5), from(2, 4), from(1, 5)},
		{from(1, 5), from(1, 5), from(1, 5)},
		{from(1, 5), from(5, 6), from(1, most)},
		{from(1, 5), from(0, 1), from(least, 5)},
		{from(1, 5), none, from(1, 5)},
		{none, from(1, 5), from(1, 5)},
		{none, api.Span{}, api.Span{}},
		{none, none, none},
		{none, all, all},
		{all, from(1, 5), all},
		{from(0, most), from(-1, 0), all},
		{from(least, most-1), from(0, most), all},
		{from(least+1, most), from(least, 0), all},
	} {
		becomes(t, "Widen", span.Widen, c.s, c.by, c.want)
	}
}

func TestC3DoOfSmallSpans(t *testing.T) {
	for name, c := range map[string]struct {
		kind int
		how  func(n, m int) int
	}{
		"sum":        {api.CodeAdd, func(n, m int) int { return n + m }},
		"difference": {api.CodeSub, func(n, m int) int { return n - m }},
		"product":    {api.CodeMul, func(n, m int) int { return n * m }},
	} {
		for _, s := range small() {
			for _, u := range small() {
				var come []int
				for _, n := range numbers(s) {
					for _, m := range numbers(u) {
						come = append(come, c.how(n, m))
					}
				}
				becomes(t, name, do(c.kind), s, u, hull(come))
			}
		}
	}
}

func TestC3DoAtTheEnds(t *testing.T) {
	one := from(1, 1)
	for _, c := range []struct {
		kind       int
		s, t, want api.Span
	}{
		{api.CodeAdd, from(1, 2), from(3, 5), from(4, 7)},
		{api.CodeAdd, all, api.Span{}, all},
		{api.CodeAdd, from(5, most-1), one, from(6, most)},
		{api.CodeAdd, from(5, most), one, all},
		{api.CodeAdd, from(most, most), one, all},
		{api.CodeAdd, from(least+1, 5), from(-1, 2), from(least, 7)},
		{api.CodeAdd, from(least, 5), from(-1, 2), all},
		{api.CodeAdd, from(least, least), from(most, most), from(-1, -1)},
		{api.CodeAdd, from(least, least), from(least, least), all},
		{api.CodeSub, api.Span{}, from(least, -1), all},
		{api.CodeSub, api.Span{}, from(least+1, -1), from(1, most)},
		{api.CodeSub, from(-1, -1), all, all},
		{api.CodeSub, from(-1, -1), from(least, 0), from(-1, most)},
		{api.CodeSub, from(-1, -1), from(0, most), from(least, -1)},
		{api.CodeSub, from(-2, -1), from(0, most), all},
		{api.CodeSub, from(least, least), one, all},
		{api.CodeSub, from(most, most), from(most, most), api.Span{}},
		{api.CodeMul, from(least, least), from(-1, -1), all},
		{api.CodeMul, from(least, most), one, all},
		{api.CodeMul, from(least+1, most), from(-1, -1), from(least+1, most)},
		{api.CodeMul, from(65536, 65536), from(32767, 32767), from(2147418112, 2147418112)},
		{api.CodeMul, from(65536, 65536), from(32767, 32768), all},
		{api.CodeMul, from(65536, 65536), from(-32768, 0), from(least, 0)},
		{api.CodeMul, from(65536, 65536), from(-32769, 0), all},
		{api.CodeMul, from(46340, 46340), from(46340, 46340), from(2147395600, 2147395600)},
		{api.CodeMul, from(46341, 46341), from(46341, 46341), all},
		{api.CodeMul, from(65536, 65536), from(65536, 65536), all},
		{api.CodeMul, all, all, all},
		{api.CodeMul, all, api.Span{}, api.Span{}},
		{api.CodeMul, api.Span{}, all, api.Span{}},
	} {
		becomes(t, "Do", do(c.kind), c.s, c.t, c.want)
	}
}

func TestC3NoneAndKinds(t *testing.T) {
	for kind := api.CodeNumber - 2; kind <= api.CodeEnd+2; kind++ {
		known := kind == api.CodeAdd || kind == api.CodeSub || kind == api.CodeMul
		for _, s := range []api.Span{none, from(1, 2), all} {
			for _, u := range []api.Span{none, from(1, 2), all} {
				got, e := span.Do(kind, s, u)
				if !known && (got != (api.Span{}) || e != api.ErrKind) {
					t.Errorf("kind %d of %v and %v is %v, %d", kind, s, u, got, e)
				}
				if known && (e != api.OK || (got == none) != (s.None || u.None)) {
					t.Errorf("kind %d of %v and %v is %v, %d", kind, s, u, got, e)
				}
			}
		}
	}
}

// draw a number: often one near to an end, or near to 0.
func draw(r *rand.Rand) int {
	near := []int{least, -65536, 0, 46341, 65536, most}[r.Intn(6)]
	if r.Intn(3) == 0 {
		near = int(int32(r.Uint32()))
	}
	return max(least, min(near+r.Intn(7)-3, most))
}

// drawSpan draws a right span.
func drawSpan(r *rand.Rand) api.Span {
	if r.Intn(8) == 0 {
		return none
	}
	n, m := draw(r), draw(r)
	return from(min(n, m), max(n, m))
}

// inside is a number of a span: an end, or one between.
func inside(r *rand.Rand, s api.Span) int {
	switch r.Intn(3) {
	case 0:
		return s.Lo
	case 1:
		return s.Hi
	}
	return s.Lo + r.Intn(s.Hi-s.Lo+1)
}

func TestC4WhatComesOfNumbersIsInWhatComesOfSpans(t *testing.T) {
	r := rand.New(rand.NewSource(1))
	how := map[int]func(n, m int) int{
		api.CodeAdd: func(n, m int) int { return n + m },
		api.CodeSub: func(n, m int) int { return n - m },
		api.CodeMul: func(n, m int) int { return n * m },
	}
	for range 100000 {
		s, u := drawSpan(r), drawSpan(r)
		if s.None || u.None {
			continue
		}
		n, m := inside(r, s), inside(r, u)
		for kind, how := range how {
			got, e := span.Do(kind, s, u)
			if come := int(int32(how(n, m))); e != api.OK || !has(t, got, come) {
				t.Fatalf("kind %d of %v and %v is %v, %d, without %d", kind, s, u, got, e, come)
			}
		}
		for _, call := range []put{span.Join, span.Widen} {
			if got, e := call(s, u); e != api.OK || !has(t, got, n) || !has(t, got, m) {
				t.Fatalf("%v and %v are %v, %d, without %d or %d", s, u, got, e, n, m)
			}
		}
	}
}

func TestC4WidenedSpansStay(t *testing.T) {
	r := rand.New(rand.NewSource(2))
	for range 5000 {
		s, changes := drawSpan(r), 0
		if s.None {
			changes = -1 // The first one that is not none is no widening yet.
		}
		for range 20 {
			wide, e := span.Widen(s, drawSpan(r))
			if e != api.OK {
				t.Fatal(e)
			}
			if wide != s {
				changes++
			}
			s = wide
		}
		if changes > 2 {
			t.Fatalf("it was changed %d times, to %v", changes, s)
		}
	}
}

func TestP1WhateverIsHandedIn(t *testing.T) {
	ends := []int{math.MinInt, least - 1, least, -1, 0, 1, most, most + 1, math.MaxInt}
	var spans []api.Span
	for _, lo := range ends {
		for _, hi := range ends {
			spans = append(spans, from(lo, hi), api.Span{None: true, Lo: lo, Hi: hi})
		}
	}
	for _, s := range spans {
		for _, u := range spans {
			for kind := api.CodeCopy; kind <= api.CodeLess; kind++ {
				if got, e := span.Do(kind, s, u); span.Check(got) != api.OK || e != api.OK && got != (api.Span{}) {
					t.Fatalf("kind %d of %v and %v is %v, %d", kind, s, u, got, e)
				}
			}
			for _, call := range []put{span.Join, span.Meet, span.Widen} {
				if got, e := call(s, u); span.Check(got) != api.OK || e != api.OK && got != (api.Span{}) {
					t.Fatalf("%v and %v are %v, %d", s, u, got, e)
				}
			}
		}
	}
}

func TestP3TheSameEachTime(t *testing.T) {
	r := rand.New(rand.NewSource(3))
	for range 1000 {
		s, u, v := drawSpan(r), drawSpan(r), drawSpan(r)
		for _, call := range []put{span.Join, span.Meet, span.Widen, do(api.CodeAdd), do(api.CodeMul), do(api.CodeEnd)} {
			first, e := call(s, u)
			call(v, s)
			if again, f := call(s, u); again != first || f != e {
				t.Fatalf("%v and %v are %v, %d, then %v, %d", s, u, first, e, again, f)
			}
		}
	}
}
