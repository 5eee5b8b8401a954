package loaf_test

import (
	"math"
	"math/rand/v2"
	"reflect"
	"slices"
	"sync"
	"testing"

	"muscovado/api"
	"muscovado/loaf"
	"muscovado/weigh"
)

// asked are the arguments of all functions beside the batch.
type asked struct{ stove, cart, loaf, err int }

// answer is what a function returns: its results in a list, and its error.
type answer struct {
	name    string
	results []any
	e       api.Errno
}

// answers returns what all functions but Check say.
func answers(b api.Batch, a asked) []answer {
	var list []answer
	add := func(name string, e api.Errno, results ...any) {
		list = append(list, answer{name, results, e})
	}
	can, e := loaf.Can(b)
	add("Can", e, can)
	s, e := loaf.Rate(b, a.stove)
	add("Rate", e, s)
	s, e = loaf.Rough(b, a.cart)
	add("Rough", e, s)
	s, e = loaf.Out(b, a.loaf)
	add("Out", e, s)
	s, e = loaf.Total(b)
	add("Total", e, s)
	n, e := loaf.Short(b, a.loaf)
	add("Short", e, n)
	l, e := loaf.Faults(b)
	add("Faults", e, l)
	s, e = loaf.Shorts(b)
	add("Shorts", e, s)
	s, e = loaf.Owed(b)
	add("Owed", e, s)
	l, e = loaf.Proof(b, a.loaf)
	add("Proof", e, l)
	l, e = loaf.Wrong(b)
	add("Wrong", e, l)
	n, left, e := loaf.Next(b, a.err)
	add("Next", e, n, left)
	return list
}

// answerOf returns what one of the functions says.
func answerOf(name string, b api.Batch, a asked) answer {
	list := answers(b, a)
	return list[slices.IndexFunc(list, func(x answer) bool { return x.name == name })]
}

// zero returns whether a result is a zero value; an empty list is one, too.
func zero(x any) bool {
	if list, ok := x.(ints); ok {
		return len(list) == 0
	}
	return reflect.ValueOf(x).IsZero()
}

// sameResult returns whether two results are the same; nil and empty lists are.
func sameResult(a, b any) bool {
	return reflect.DeepEqual(a, b) || zero(a) && zero(b)
}

func sameAnswer(a, b answer) bool {
	return a.e == b.e && slices.EqualFunc(a.results, b.results, sameResult)
}

// failures returns the errors by the names of the functions, and whether all other results are zero values wherever there is one.
func failures(list []answer) (errs map[string]api.Errno, clean bool) {
	errs, clean = map[string]api.Errno{}, true
	for _, x := range list {
		errs[x.name] = x.e
		for _, r := range x.results {
			clean = clean && (x.e == api.OK || zero(r))
		}
	}
	return errs, clean
}

// bounds returns all bounds that are asked of a batch that has a truth, by the functions and their arguments.
func bounds(t *testing.T, b api.Batch) map[string]api.Span {
	t.Helper()
	all := map[string]api.Span{}
	add := func(name string, number int, s api.Span, e api.Errno) {
		t.Helper()
		if e != api.OK || s.Lo > s.Hi {
			t.Fatalf("%+v: %s(%d) = %v %d", b, name, number, s, e)
		}
		all[name+string(rune('0'+number))] = s
	}
	for i := range b.Stoves {
		s, e := loaf.Rate(b, i)
		add("Rate", i, s, e)
	}
	for i := range b.Carts {
		s, e := loaf.Rough(b, i)
		add("Rough", i, s, e)
	}
	for i := range b.Loaves {
		s, e := loaf.Out(b, i)
		add("Out", i, s, e)
	}
	s, e := loaf.Total(b)
	add("Total", 0, s, e)
	s, e = loaf.Shorts(b)
	add("Shorts", 0, s, e)
	s, e = loaf.Owed(b)
	add("Owed", 0, s, e)
	return all
}

// verdicts returns Short of all loaves of a batch that has a truth.
func verdicts(t *testing.T, b api.Batch) (list ints) {
	t.Helper()
	for i := range b.Loaves {
		v, e := loaf.Short(b, i)
		if e != api.OK || v != api.Yes && v != api.No && v != api.Open {
			t.Fatalf("%+v: Short(%d) = %d %d", b, i, v, e)
		}
		list = append(list, v)
	}
	return list
}

func canBe(t *testing.T, b api.Batch) bool {
	t.Helper()
	can, e := loaf.Can(b)
	if e != api.OK {
		t.Fatalf("%+v: Can: %d", b, e)
	}
	return can
}

// within returns whether no bound of one batch is wider than that of another one; wider is called for those that are narrower.
func within(narrow, wide map[string]api.Span, narrower func()) bool {
	for name, w := range wide {
		n := narrow[name]
		if n.Lo < w.Lo || n.Hi > w.Hi {
			return false
		}
		if n != w {
			narrower()
		}
	}
	return len(narrow) == len(wide)
}

// P7.1, and R1 and R3: the errors of a batch, and their order.
func TestCheck(t *testing.T) {
	with := func(change func(b *api.Batch)) api.Batch { return but(exampleS(), change) }
	works := func(w api.Works) api.Batch { return with(func(b *api.Batch) { b.Works, b.Vessel = w, 9 }) }
	stoves := func(s ...api.Span) api.Batch {
		return with(func(b *api.Batch) { b.Stoves, b.Carts = s, make(spans, 3) })
	}
	carts := func(s ...api.Span) api.Batch { return with(func(b *api.Batch) { b.Carts, b.Paper = s, 4 }) }
	paper := func(n int) api.Batch { return with(func(b *api.Batch) { b.Paper, b.Loaves = n, make(loaves, 5) }) }
	// The first and the last loaf, with more that is wrong behind the last one.
	of := func(l ...api.Loaf) api.Batch { return with(func(b *api.Batch) { b.Loaves = l }) }
	good, bad := slow(40, 0, 4, 0, 5, 43, 3), quick(-1, 0, 0)
	value, missing, sequence, excess := api.ErrValue, api.ErrMissing, api.ErrSequence, api.ErrExcess
	for i, x := range []struct {
		b    api.Batch
		want api.Errno
	}{
		{exampleS(), api.OK}, {exampleT(), api.OK}, {exampleU(), api.OK}, {plain(0), api.OK},
		// The errors of the works come first, and then that they have no truth.
		{api.Batch{}, api.ErrShortage}, {works(api.Works{}), api.ErrShortage}, {works(api.Works{Vessels: make([]api.Vessel, 7)}), excess}, {works(api.Works{Vessels: []api.Vessel{{From: 0}}}), missing}, {works(vat(41)), value}, {works(vat(-1)), value},
		{works(api.Works{Vessels: []api.Vessel{{From: -1, Loss: span(0, 21)}}}), value}, {works(api.Works{Vessels: []api.Vessel{{From: -1, Loss: span(2, 1)}}}), sequence},
		{works(vat(40, make([]api.Reading, 7)...)), excess}, {works(vat(40, reading(1, 0, 0))), missing}, {works(vat(40, api.Reading{Scale: 3})), missing}, {works(vat(40, reading(0, 61, 0))), value}, {works(vat(40, reading(0, 1, 10))), value},
		{works(vat(40, reading(0, 50, 0))), api.ErrConflict}, {works(vat(40, reading(0, 5, 0), reading(0, 7, 1))), api.ErrConflict}, {works(api.Works{Vessels: []api.Vessel{{From: -1, Room: 2, Loss: span(3, 3)}, {From: 0}}}), api.ErrConflict},
		{works(vat(40)), missing}, {works(vat(40, slices.Repeat([]api.Reading{reading(0, 5, 0)}, 6)...)), missing},
		// The contradiction is in a vessel out of which no loaf came.
		{with(func(b *api.Batch) {
			b.Works.Vessels = append(b.Works.Vessels, api.Vessel{From: -1, Room: 3})
			b.Works.Readings = append(b.Works.Readings, reading(1, 5, 1))
		}), api.ErrConflict},
		{with(func(b *api.Batch) { b.Vessel, b.Stoves = 1, make(spans, 3) }), missing}, {with(func(b *api.Batch) { b.Vessel, b.Stoves = -1, make(spans, 3) }), missing}, {with(func(b *api.Batch) { b.Vessel = math.MaxInt }), missing}, {with(func(b *api.Batch) { b.Vessel = math.MinInt }), missing},
		{with(func(b *api.Batch) {
			b.Works.Vessels, b.Vessel = append(b.Works.Vessels, api.Vessel{From: 0, Room: 40}), 1
		}), api.OK},

		{stoves(span(0, 3), span(0, 3), span(0, 3)), excess}, {stoves(span(-1, 9), span(2, 1), span(0, 0)), excess}, {stoves(span(0, 3), span(3, 3)), excess}, {with(func(b *api.Batch) { b.Stoves = spans{span(0, 3), span(3, 3)} }), api.OK}, {with(func(b *api.Batch) { b.Stoves = spans{span(0, 0)} }), api.OK},
		{stoves(span(-1, 0)), value}, {stoves(span(0, 4)), value}, {stoves(span(4, 3)), value}, {stoves(span(4, 4)), value}, {stoves(span(0, -1)), value}, {stoves(span(math.MinInt, math.MaxInt)), value}, {stoves(span(math.MaxInt, math.MinInt)), value},
		{stoves(span(1, 0)), sequence}, {stoves(span(3, 2)), sequence}, {stoves(span(1, 0), span(0, 4)), sequence}, {stoves(span(0, 4), span(1, 0)), value}, {stoves(span(0, 0), span(1, 0)), sequence}, {stoves(span(0, 0), span(1, 4)), value},
		{with(func(b *api.Batch) { b.Stoves, b.Loaves = nil, nil }), api.OK}, {with(func(b *api.Batch) { b.Stoves = nil }), missing}, {with(func(b *api.Batch) { b.Carts = nil }), missing},

		{carts(span(0, 3), span(0, 3), span(0, 3)), excess}, {carts(span(-1, 9), span(2, 1), span(0, 0)), excess}, {with(func(b *api.Batch) { b.Carts = spans{span(0, 3), span(3, 3)} }), api.OK}, {with(func(b *api.Batch) { b.Carts = spans{span(0, 0)} }), api.OK},
		{carts(span(-1, 0)), value}, {carts(span(0, 4)), value}, {carts(span(4, 3)), value}, {carts(span(0, -1)), value}, {carts(span(math.MinInt, math.MaxInt)), value},
		{carts(span(1, 0)), sequence}, {carts(span(3, 2)), sequence}, {carts(span(1, 0), span(0, 4)), sequence}, {carts(span(0, 4), span(1, 0)), value}, {carts(span(0, 0), span(1, 0)), sequence},

		{paper(-1), value}, {paper(4), value}, {paper(math.MaxInt), value}, {paper(math.MinInt), value}, {paper(3), excess}, {paper(0), excess}, {with(func(b *api.Batch) { b.Paper = 3 }), api.OK}, {with(func(b *api.Batch) { b.Paper = 0 }), api.OK},
		{of(), api.OK}, {of(good, good, good, good), api.OK}, {of(good, good, good, good, good), excess}, {of(bad, bad, bad, bad, bad), excess},
		{of(slow(99, 1, 0, 0, 0, 0, 0)), missing}, {of(slow(99, -2, 0, 0, 0, 0, 0)), missing}, {of(slow(99, math.MinInt, 0, 0, 0, 0, 0)), missing}, {of(slow(99, 0, 0, 1, 0, 0, 0)), missing}, {of(slow(99, 0, 0, -2, 0, 0, 0)), missing}, {of(slow(0, 0, 0, math.MaxInt, 0, 0, 0)), missing},
		{of(slow(0, -1, 4, -1, 5, 0, 0)), api.OK}, {of(slow(0, 0, 0, 0, 0, 0, 0)), api.OK},
		{of(slow(-1, 0, 0, 0, 0, 0, 0)), value}, {of(slow(41, 0, 0, 0, 0, 0, 0)), value}, {of(slow(0, 0, -1, 0, 0, 0, 0)), value}, {of(slow(0, 0, 5, 0, 0, 0, 0)), value}, {of(slow(0, -1, 5, -1, 0, 0, 0)), value}, {of(slow(0, 0, 0, 0, -1, 0, 0)), value}, {of(slow(0, 0, 0, 0, 6, 0, 0)), value}, {of(slow(0, -1, 0, -1, 6, 0, 0)), value},
		{of(slow(0, 0, 0, 0, 0, -1, 0)), value}, {of(slow(0, 0, 0, 0, 0, 44, 0)), value}, {of(slow(0, 0, 0, 0, 0, math.MaxInt, 0)), value}, {of(slow(0, 0, 0, 0, 0, 0, -1)), value}, {of(slow(0, 0, 0, 0, 0, 0, 4)), value}, {of(slow(0, 0, 0, 0, 0, 0, math.MinInt)), value},
		{of(bad, slow(0, 1, 0, 0, 0, 0, 0)), value}, {of(slow(0, 1, 0, 0, 0, 0, 0), bad), missing}, {of(good, slow(0, 0, 0, 1, 0, 0, 0)), missing}, {of(good, bad), value}, {of(good, good, good, slow(0, 0, 0, 0, 0, 0, 4)), value},
		{with(func(b *api.Batch) { b.Paper, b.Loaves = 0, loaves{quick(40, 43, 3)} }), api.OK}, // Found may be as much as if there were a paper
	} {
		if e := loaf.Check(x.b); e != x.want {
			t.Errorf("%d: Check = %d, want %d", i, e, x.want)
		}
		if x.want == api.OK {
			continue
		}
		// Check's error comes before that of any other argument, and alone.
		for _, a := range []asked{{}, {-1, -1, -1, -1}, {9, 9, 9, 9}} {
			errs, clean := failures(answers(x.b, a))
			for name, e := range errs {
				if e != x.want || !clean {
					t.Errorf("%d: %s: %d, clean %t", i, name, e, clean)
				}
			}
		}
	}
}

// The errors of the other arguments, their order, and that there is no truth.
func TestArgumentsAndConflict(t *testing.T) {
	missing, conflict, nothing := api.ErrMissing, api.ErrConflict, api.ErrNothing
	type errs = map[string]api.Errno
	untrue := func(more errs) errs {
		all := errs{}
		for _, name := range []string{"Rate", "Rough", "Out", "Total", "Short", "Faults", "Shorts", "Owed", "Proof", "Next"} {
			all[name] = conflict
		}
		for name, e := range more {
			all[name] = e
		}
		return all
	}
	two := but(exampleS(), func(b *api.Batch) {
		b.Stoves, b.Carts = append(b.Stoves, span(0, 3)), append(b.Carts, span(0, 3))
	})
	never := but(exampleS(), func(b *api.Batch) { b.Works = vat(2) })
	for i, x := range []struct {
		b    api.Batch
		a    asked
		want errs // those that are not OK
	}{
		{exampleS(), asked{loaf: 1}, nil},
		{exampleS(), asked{loaf: 0}, errs{"Proof": nothing}},
		{exampleS(), asked{loaf: 2}, errs{"Proof": nothing}},
		{exampleS(), asked{stove: 1, loaf: 1}, errs{"Rate": missing}},
		{exampleS(), asked{stove: -1, loaf: 1}, errs{"Rate": missing}},
		{exampleS(), asked{stove: math.MaxInt, loaf: 1}, errs{"Rate": missing}},
		{exampleS(), asked{cart: 1, loaf: 1}, errs{"Rough": missing}},
		{exampleS(), asked{cart: -1, loaf: 1}, errs{"Rough": missing}},
		{exampleS(), asked{cart: math.MinInt, loaf: 1}, errs{"Rough": missing}},
		{exampleS(), asked{loaf: 3}, errs{"Out": missing, "Short": missing, "Proof": missing}},
		{exampleS(), asked{loaf: -1}, errs{"Out": missing, "Short": missing, "Proof": missing}},
		{exampleS(), asked{loaf: math.MaxInt}, errs{"Out": missing, "Short": missing, "Proof": missing}},
		{exampleS(), asked{loaf: 1, err: 3}, errs{"Next": nothing}},
		{exampleS(), asked{loaf: 1, err: 4}, errs{"Next": api.ErrValue}},
		{exampleS(), asked{loaf: 1, err: -1}, errs{"Next": api.ErrValue}},
		{exampleS(), asked{loaf: 1, err: math.MaxInt}, errs{"Next": api.ErrValue}},
		{two, asked{1, 1, 1, 0}, nil},
		{two, asked{2, 2, 1, 0}, errs{"Rate": missing, "Rough": missing}},
		{plain(0), asked{}, errs{"Rate": missing, "Rough": missing, "Out": missing, "Short": missing, "Proof": missing, "Next": nothing}},
		{plain(9, quick(3, 3, 0)), asked{}, errs{"Rate": missing, "Rough": missing, "Proof": nothing, "Next": nothing}},
		{exampleU(), asked{}, untrue(nil)},
		{exampleU(), asked{1, 1, 3, 4}, untrue(errs{"Rate": missing, "Rough": missing, "Out": missing, "Short": missing, "Proof": missing, "Next": api.ErrValue})},
		{exampleU(), asked{stove: -1}, untrue(errs{"Rate": missing})},
		{exampleU(), asked{err: -1}, untrue(errs{"Next": api.ErrValue})},
		{never, asked{}, untrue(errs{"Wrong": nothing})},
		{plain(9, quick(3, 10, 0)), asked{err: 3}, untrue(errs{"Rate": missing, "Rough": missing})},
	} {
		got, clean := failures(answers(x.b, x.a))
		for name, e := range got {
			if e != x.want[name] || !clean {
				t.Errorf("%d: %s: %d, want %d, clean %t", i, name, e, x.want[name], clean)
			}
		}
	}
}

// The table of the chapter.
func TestExamples(t *testing.T) {
	s, u := exampleS(), exampleU()
	for i, x := range []struct {
		change func(b *api.Batch)
		want   api.Errno
	}{
		{func(b *api.Batch) {}, api.OK},
		{func(b *api.Batch) { b.Vessel = 1 }, api.ErrMissing},
		{func(b *api.Batch) { b.Stoves[0] = span(2, 1) }, api.ErrSequence},
		{func(b *api.Batch) { b.Paper = 4 }, api.ErrValue},
		{func(b *api.Batch) { b.Loaves[0].Cart = 1 }, api.ErrMissing},
	} {
		if e := loaf.Check(but(s, x.change)); e != x.want {
			t.Error(i, e)
		}
	}
	for i, x := range []struct {
		name string
		b    api.Batch
		a    asked
		e    api.Errno
		want []any
	}{
		{"Can", s, asked{}, api.OK, []any{true}},
		{"Can", u, asked{}, api.OK, []any{false}},
		{"Rate", s, asked{}, api.OK, []any{span(1, 2)}},
		{"Rough", s, asked{}, api.OK, []any{span(1, 1)}},
		{"Rate", s, asked{stove: 1}, api.ErrMissing, []any{span(0, 0)}},
		{"Rough", s, asked{cart: 1}, api.ErrMissing, []any{span(0, 0)}},
		{"Out", s, asked{loaf: 0}, api.OK, []any{span(12, 14)}},
		{"Out", s, asked{loaf: 1}, api.OK, []any{span(10, 11)}},
		{"Out", s, asked{loaf: 2}, api.OK, []any{span(5, 7)}},
		{"Total", s, asked{}, api.OK, []any{span(29, 31)}},
		{"Total", exampleT(), asked{}, api.OK, []any{span(29, 30)}},
		{"Short", s, asked{loaf: 0}, api.OK, []any{api.No}},
		{"Short", s, asked{loaf: 1}, api.OK, []any{api.Yes}},
		{"Short", s, asked{loaf: 2}, api.OK, []any{api.Open}},
		{"Short", exampleT(), asked{loaf: 0}, api.OK, []any{api.Yes}},
		{"Faults", s, asked{}, api.OK, []any{ints{1}}},
		{"Faults", exampleT(), asked{}, api.OK, []any{ints{0, 1}}},
		{"Faults", u, asked{}, api.ErrConflict, []any{ints(nil)}},
		{"Shorts", s, asked{}, api.OK, []any{span(1, 2)}},
		{"Owed", s, asked{}, api.OK, []any{span(1, 2)}},
		{"Proof", s, asked{loaf: 1}, api.OK, []any{ints(nil)}},
		{"Proof", s, asked{loaf: 0}, api.ErrNothing, []any{ints(nil)}},
		{"Proof", exampleT(), asked{loaf: 0}, api.OK, []any{ints{1, 2}}},
		{"Wrong", s, asked{}, api.OK, []any{ints(nil)}},
		{"Wrong", u, asked{}, api.OK, []any{ints{1}}},
		{"Next", s, asked{err: 0}, api.OK, []any{2, 0}},
		{"Next", s, asked{err: 3}, api.ErrNothing, []any{0, 0}},
	} {
		if got := answerOf(x.name, x.b, x.a); !sameAnswer(got, answer{x.name, x.want, x.e}) {
			t.Errorf("%d: %s: %v %d, want %v %d", i, x.name, got.results, got.e, x.want, x.e)
		}
	}
}

// P7.1, P7.2 and P7.8: what all truths say when they are gone through.
func TestBounds(t *testing.T) {
	narrow, tight, never := map[string]int{}, 0, 0
	samples(2500, 1, 8, false, func(b api.Batch, all []truth, _ *rand.Rand) {
		if can := canBe(t, b); can != (len(all) > 0) {
			t.Fatalf("%+v: Can = %t, but %d truths", b, can, len(all))
		}
		if len(all) == 0 {
			never++
			return
		}
		is := func(name string, want api.Span, s api.Span, e api.Errno) {
			t.Helper()
			if e != api.OK || s != want {
				t.Fatalf("%+v: %s = %v %d, want %v", b, name, s, e, want)
			}
		}
		for i, r := range b.Stoves {
			s, e := loaf.Rate(b, i)
			is("Rate", boundsOf(all, func(t truth) int { return t.stoves[i] }), s, e)
			if s != r {
				narrow["stove"]++
			}
		}
		for i, r := range b.Carts {
			s, e := loaf.Rough(b, i)
			is("Rough", boundsOf(all, func(t truth) int { return t.carts[i] }), s, e)
			if s != r {
				narrow["cart"]++
			}
		}
		var sum api.Span
		for i := range b.Loaves {
			s, e := loaf.Out(b, i)
			is("Out", boundsOf(all, func(t truth) int { return t.outs[i] }), s, e)
			sum.Lo, sum.Hi = sum.Lo+s.Lo, sum.Hi+s.Hi
		}
		s, e := loaf.Total(b)
		is("Total", boundsOf(all, truth.total), s, e)
		if s != sum {
			tight++
		}
	})
	if narrow["stove"] < 150 || narrow["cart"] < 150 || tight < 800 || never < 100 {
		t.Error(narrow, tight, never)
	}
}

// P7.2: the edges that the terms name.
func TestOut(t *testing.T) {
	all := api.Works{Vessels: []api.Vessel{{From: -1, Room: 40}}}
	of := func(paper int, stoves, carts spans, l ...api.Loaf) api.Batch {
		return api.Batch{Works: all, Stoves: stoves, Carts: carts, Paper: paper, Loaves: l}
	}
	from := func(w api.Works, vessel int, l ...api.Loaf) api.Batch {
		return api.Batch{Works: w, Vessel: vessel, Loaves: l}
	}
	any := spans{span(0, 3)}
	pans := api.Works{Vessels: []api.Vessel{{From: -1, Room: 20, Loss: span(2, 3)}, {From: 0, Room: 9}, {From: 0, Room: 8}}, Readings: []api.Reading{reading(0, 15, 1)}}
	for i, x := range []struct {
		b     api.Batch
		outs  spans
		total api.Span
	}{
		// What comes out is from 0 to MaxLoaf, and what is left is not below 0.
		{of(0, nil, nil, quick(0, 40, 3)), spans{span(37, 40)}, span(37, 40)}, {of(0, nil, nil, quick(0, 43, 3)), spans{span(40, 40)}, span(40, 40)}, {of(0, nil, nil, quick(0, 43, 2)), nil, span(0, 0)},
		{of(0, nil, nil, quick(0, 1, 3)), spans{span(0, 4)}, span(0, 4)}, {of(0, nil, nil, quick(0, 0, 0)), spans{span(0, 0)}, span(0, 0)}, {of(0, nil, nil, quick(0, 7, 0)), spans{span(7, 7)}, span(7, 7)},
		// The paper is weighed, too.
		{of(3, nil, nil, quick(0, 43, 3)), spans{span(37, 40)}, span(37, 40)}, {of(3, nil, nil, quick(0, 43, 0)), spans{span(40, 40)}, span(40, 40)}, {of(3, nil, nil, quick(0, 0, 3)), spans{span(0, 0)}, span(0, 0)}, {of(3, nil, nil, quick(0, 0, 2)), nil, span(0, 0)}, {of(2, nil, nil, quick(0, 7, 1)), spans{span(4, 6)}, span(4, 6)},
		// Stoves take by the day, and carts by the mile; where there is none, days and miles do not matter.
		{of(0, any, any, slow(0, 0, 4, -1, 0, 5, 0)), spans{span(5, 17)}, span(5, 17)}, {of(0, any, any, slow(0, -1, 0, 0, 5, 5, 0)), spans{span(5, 20)}, span(5, 20)}, {of(0, any, any, slow(0, 0, 4, 0, 5, 5, 0)), spans{span(5, 32)}, span(5, 32)}, {of(0, any, any, slow(0, -1, 4, -1, 5, 5, 0)), spans{span(5, 5)}, span(5, 5)},
		{of(0, spans{span(1, 1), span(2, 3)}, nil, slow(0, 0, 2, -1, 0, 5, 0), slow(0, 1, 3, -1, 0, 5, 1)), spans{span(7, 7), span(10, 15)}, span(17, 22)}, {of(0, nil, spans{span(1, 1), span(2, 3)}, slow(0, -1, 0, 0, 2, 5, 0), slow(0, -1, 0, 1, 3, 5, 1)), spans{span(7, 7), span(10, 15)}, span(17, 22)},
		{of(0, any, any, slow(0, 0, 0, 0, 0, 5, 1)), spans{span(4, 6)}, span(4, 6)},
		// What was lost came out, too, so that the least of it is what was lost, and the greatest MaxLoaf.
		{of(0, spans{span(2, 2)}, nil, slow(0, 0, 3, -1, 0, 0, 1)), spans{span(6, 7)}, span(6, 7)}, {of(0, any, nil, slow(0, 0, 4, -1, 0, 35, 0)), spans{span(35, 39)}, span(35, 39)}, {of(0, spans{span(3, 3)}, any, slow(0, 0, 4, 0, 5, 20, 0)), spans{span(32, 37)}, span(32, 37)}, {of(0, spans{span(3, 3)}, any, slow(0, 0, 4, 0, 5, 29, 3)), spans{span(38, 40)}, span(38, 40)},
		// All loaves of a stove lose by the same rate: these two weigh 10 together with the rate 0, 13 with 1, and 17 or so with 2.
		{but(of(0, spans{span(0, 1)}, nil, slow(0, 0, 1, -1, 0, 5, 0), slow(0, 0, 2, -1, 0, 5, 0)), func(b *api.Batch) { b.Works = vat(12) }), spans{span(5, 5), span(5, 5)}, span(10, 10)},
		{but(of(0, any, nil, slow(0, 0, 1, -1, 0, 5, 0), slow(0, 0, 2, -1, 0, 5, 1)), func(b *api.Batch) { b.Works = vat(40, reading(0, 17, 0)) }), spans{span(7, 7), span(10, 10)}, span(17, 17)},
		// All that came out is a weight of the vessel.
		{from(vat(9), 0, quick(0, 5, 2), quick(0, 4, 2)), spans{span(3, 7), span(2, 6)}, span(5, 9)}, {from(vat(6), 0, quick(0, 5, 2), quick(0, 4, 2)), spans{span(3, 4), span(2, 3)}, span(5, 6)}, {from(vat(40, reading(0, 12, 0)), 0, quick(0, 5, 2), quick(0, 4, 2)), spans{span(6, 7), span(5, 6)}, span(12, 12)}, {from(vat(4), 0, quick(0, 5, 2), quick(0, 4, 2)), nil, span(0, 0)}, {from(vat(40, reading(0, 14, 0)), 0, quick(0, 5, 2), quick(0, 4, 2)), nil, span(0, 0)},
		{from(pans, 1, quick(0, 5, 3)), spans{span(3, 8)}, span(3, 8)}, {from(pans, 1, quick(0, 8, 3)), spans{span(5, 9)}, span(5, 9)}, {from(pans, 2, quick(0, 8, 3)), spans{span(5, 8)}, span(5, 8)}, {from(pans, 2, quick(0, 1, 1)), spans{span(2, 2)}, span(2, 2)}, {from(pans, 2, quick(0, 1, 0)), nil, span(0, 0)}, {from(pans, 0, quick(0, 12, 3)), spans{span(14, 15)}, span(14, 15)}, {from(pans, 0, quick(0, 18, 3)), spans{span(15, 16)}, span(15, 16)},
		// Without loaves nothing came out, which the vessel has to weigh then.
		{from(vat(5), 0), nil, span(0, 0)}, {from(vat(5, reading(0, 1, 1)), 0), nil, span(0, 0)},
	} {
		if x.outs == nil && len(x.b.Loaves) > 0 {
			if canBe(t, x.b) {
				t.Error(i, "there is a truth")
			}
			continue
		}
		total, e := loaf.Total(x.b)
		if e != api.OK || total != x.total {
			t.Error(i, total, e)
		}
		for l, want := range x.outs {
			if s, e := loaf.Out(x.b, l); e != api.OK || s != want {
				t.Error(i, l, s, e)
			}
		}
	}
	if canBe(t, from(vat(5, reading(0, 2, 1)), 0)) {
		t.Error("a vessel that is not empty, but no loaf came out of it")
	}
}

// P7.1: rates that loaves tell.
func TestRateRough(t *testing.T) {
	any := spans{span(0, 3), span(0, 3)}
	of := func(weight int, l ...api.Loaf) api.Batch {
		return api.Batch{Works: vat(40, reading(0, weight, 0)), Stoves: any, Carts: any, Loaves: l}
	}
	free := span(0, 3)
	for i, x := range []struct {
		b           api.Batch
		rate, rough [2]api.Span
	}{
		{of(9, slow(0, 0, 2, -1, 0, 5, 0)), [2]api.Span{span(2, 2), free}, [2]api.Span{free, free}},
		{of(9, slow(0, 1, 2, -1, 0, 5, 0)), [2]api.Span{free, span(2, 2)}, [2]api.Span{free, free}},
		{of(9, slow(0, -1, 2, 0, 2, 5, 0)), [2]api.Span{free, free}, [2]api.Span{span(2, 2), free}},
		{of(9, slow(0, -1, 2, 1, 2, 5, 0)), [2]api.Span{free, free}, [2]api.Span{free, span(2, 2)}},
		{of(9, slow(0, 0, 2, -1, 0, 5, 1)), [2]api.Span{span(2, 2), free}, [2]api.Span{free, free}},
		{of(9, slow(0, 0, 2, -1, 0, 5, 2)), [2]api.Span{span(1, 3), free}, [2]api.Span{free, free}},
		{of(9, slow(0, 0, 1, 1, 3, 5, 0)), [2]api.Span{span(1, 1), free}, [2]api.Span{free, span(1, 1)}},
		{of(9, slow(0, 0, 1, 1, 1, 5, 0)), [2]api.Span{span(1, 3), free}, [2]api.Span{free, span(1, 3)}},
		{of(30, slow(0, 0, 4, 1, 5, 3, 0)), [2]api.Span{span(3, 3), free}, [2]api.Span{free, span(3, 3)}},
		{of(13, slow(0, 0, 1, -1, 0, 5, 0), slow(0, 0, 2, -1, 0, 5, 0)), [2]api.Span{span(1, 1), free}, [2]api.Span{free, free}},
		{of(13, slow(0, 0, 1, -1, 0, 5, 0), slow(0, 1, 2, -1, 0, 5, 0)), [2]api.Span{span(1, 3), span(0, 1)}, [2]api.Span{free, free}},
		{of(5, slow(0, 0, 0, 0, 0, 5, 0)), [2]api.Span{free, free}, [2]api.Span{free, free}},
	} {
		for n := range 2 {
			s, e := loaf.Rate(x.b, n)
			r, f := loaf.Rough(x.b, n)
			if e != api.OK || f != api.OK || s != x.rate[n] || r != x.rough[n] {
				t.Error(i, n, s, r, e, f)
			}
		}
	}
}

// P7.3, P7.4 and P7.9: a loaf is the works' fault just if no truth of drying and carriage explains it.
func TestShort(t *testing.T) {
	count, apart := map[int]int{}, 0
	samples(1500, 2, 12, true, func(b api.Batch, all []truth, _ *rand.Rand) {
		var faults, least, most ints
		for i := range b.Loaves {
			v, e := loaf.Short(b, i)
			if want := verdictOn(b, slices.Values(all), i); e != api.OK || v != want {
				t.Fatalf("%+v: Short(%d) = %d %d, want %d", b, i, v, e, want)
			}
			count[v]++
			if v == api.Yes {
				faults, least = append(faults, i), append(least, i)
			}
			if v != api.No {
				most = append(most, i)
			}
		}
		if l, e := loaf.Faults(b); e != api.OK || !slices.Equal(l, faults) {
			t.Fatalf("%+v: Faults = %v %d, want %v", b, l, e, faults)
		}
		s, e := loaf.Shorts(b)
		if want := boundsOf(all, func(t truth) int { return t.shorts(b) }); e != api.OK || s != want {
			t.Fatalf("%+v: Shorts = %v %d, want %v", b, s, e, want)
		}
		if s.Lo > len(least) || s.Hi < len(most) {
			apart++
		}
		s, e = loaf.Owed(b)
		if want := boundsOf(all, func(t truth) int { return t.owed(b) }); e != api.OK || s != want {
			t.Fatalf("%+v: Owed = %v %d, want %v", b, s, e, want)
		}
	})
	if count[api.Yes] < 500 || count[api.No] < 500 || count[api.Open] < 500 || apart < 100 {
		t.Error(count, apart)
	}
}

// P7.3 and P7.4: what was promised to the pound, and what loaves that weigh much together do not lack.
func TestShortsAndOwed(t *testing.T) {
	yes, no, perhaps := api.Yes, api.No, api.Open
	of := func(room, weight int, l ...api.Loaf) api.Batch {
		return api.Batch{Works: vat(room, reading(0, weight, 0)), Loaves: l}
	}
	for i, x := range []struct {
		b            api.Batch
		short        ints
		shorts, owed api.Span
	}{
		{plain(40, quick(5, 5, 0)), ints{no}, span(0, 0), span(0, 0)}, {plain(40, quick(6, 5, 0)), ints{yes}, span(1, 1), span(1, 1)}, {plain(40, quick(4, 5, 0)), ints{no}, span(0, 0), span(0, 0)},
		{plain(40, quick(4, 5, 1)), ints{no}, span(0, 0), span(0, 0)}, {plain(40, quick(5, 5, 1)), ints{perhaps}, span(0, 1), span(0, 1)}, {plain(40, quick(6, 5, 1)), ints{perhaps}, span(0, 1), span(0, 2)}, {plain(40, quick(7, 5, 1)), ints{yes}, span(1, 1), span(1, 3)},
		{plain(40, quick(0, 0, 0)), ints{no}, span(0, 0), span(0, 0)}, {plain(40, quick(40, 0, 0)), ints{yes}, span(1, 1), span(40, 40)}, {plain(40, quick(40, 38, 3)), ints{perhaps}, span(0, 1), span(0, 5)},
		// Both weigh 10 together: one of them is short, or both are as heavy as promised.
		{of(40, 10, quick(5, 5, 2), quick(5, 5, 2)), ints{perhaps, perhaps}, span(0, 1), span(0, 2)},
		{of(40, 9, quick(5, 5, 2), quick(5, 5, 2)), ints{perhaps, perhaps}, span(1, 1), span(1, 2)},
		{of(40, 12, quick(5, 5, 2), quick(5, 5, 2)), ints{no, no}, span(0, 0), span(0, 0)},
		{of(40, 7, quick(5, 5, 2), quick(5, 5, 2)), ints{yes, yes}, span(2, 2), span(3, 3)},
		{of(40, 8, quick(5, 5, 2), quick(5, 5, 2)), ints{perhaps, perhaps}, span(1, 2), span(2, 2)},
		{of(40, 13, quick(5, 5, 1), quick(4, 4, 1), quick(3, 3, 1)), ints{perhaps, perhaps, perhaps}, span(0, 1), span(0, 1)},
		{of(40, 20, quick(6, 5, 3), quick(6, 5, 3), quick(6, 5, 3), quick(6, 5, 3)), ints{perhaps, perhaps, perhaps, perhaps}, span(1, 4), span(4, 8)},
		{plain(40), nil, span(0, 0), span(0, 0)},
		// One rate for both loaves: with the greatest one they are as heavy as promised, or the second one alone is.
		{api.Batch{Works: vat(40), Stoves: spans{span(0, 3)}, Loaves: loaves{slow(11, 0, 2, -1, 0, 5, 0), slow(8, 0, 1, -1, 0, 5, 0)}}, ints{perhaps, perhaps}, span(0, 2), span(0, 9)},
		{api.Batch{Works: vat(40), Stoves: spans{span(0, 2)}, Loaves: loaves{slow(11, 0, 2, -1, 0, 5, 0), slow(7, 0, 1, -1, 0, 5, 0)}}, ints{yes, perhaps}, span(1, 2), span(2, 8)},
	} {
		s, e := loaf.Shorts(x.b)
		o, f := loaf.Owed(x.b)
		if got := verdicts(t, x.b); e != api.OK || f != api.OK || s != x.shorts || o != x.owed || !slices.Equal(got, x.short) {
			t.Error(i, got, s, o, e, f)
		}
	}
}

// P7.5 and P7.11: the fewest other loaves whose findings prove that a loaf is short.
func TestProof(t *testing.T) {
	count := map[int]int{}
	samples(1200, 3, 12, true, func(b api.Batch, all []truth, _ *rand.Rand) {
		for i := range b.Loaves {
			got, e := loaf.Proof(b, i)
			want, due := proof(b, i)
			if e != due || !slices.Equal(got, want) {
				t.Fatalf("%+v: Proof(%d) = %v %d, want %v %d", b, i, got, e, want, due)
			}
			if e != api.OK {
				count[-1]++
				continue
			}
			count[len(got)]++
			for _, list := range lists(numbers(len(b.Loaves), i)) {
				last := slices.Equal(list, got)
				if proves(b, i, list) != last {
					t.Fatalf("%+v: Proof(%d) = %v, but %v", b, i, got, list)
				}
				if last {
					break
				}
			}
		}
	})
	if count[-1] < 500 || count[0] < 300 || count[1] < 50 || count[2] < 30 || count[3] < 5 {
		t.Error(count)
	}
	nothing := api.ErrNothing
	weighing := func(weight int, b api.Batch) api.Batch {
		b.Works = vat(40, reading(0, weight, 0))
		return b
	}
	stove := spans{span(0, 3)}
	for i, x := range []struct {
		b    api.Batch
		loaf int
		want ints
		e    api.Errno
	}{
		{plain(40, quick(5, 4, 0)), 0, nil, api.OK}, {plain(40, quick(5, 5, 0)), 0, nil, nothing}, {plain(40, quick(5, 5, 1)), 0, nil, nothing},
		// What the vessel weighs proves it with no finding, but the loaf's own one.
		{plain(4, quick(5, 4, 3)), 0, nil, api.OK}, {plain(4, quick(5, 5, 3), quick(0, 0, 3)), 0, nil, api.OK},
		// Without its finding another loaf can weigh what it likes, but nothing below 0.
		{plain(8, quick(5, 5, 1), quick(0, 4, 0)), 0, ints{1}, api.OK}, {plain(8, quick(5, 5, 3), quick(0, 1, 0), quick(0, 3, 0)), 0, ints{1, 2}, api.OK}, {plain(8, quick(5, 5, 3), quick(0, 1, 0), quick(0, 4, 0)), 0, ints{2}, api.OK}, {plain(7, quick(0, 3, 0), quick(5, 4, 3), quick(0, 3, 0)), 1, ints{0}, api.OK}, {plain(8, quick(0, 1, 0), quick(0, 4, 0), quick(5, 5, 3)), 2, ints{1}, api.OK},
		// Of several as short ones the first one: 0 3 and not 1 2; one alone and not two.
		{plain(9, quick(0, 2, 0), quick(0, 1, 0), quick(5, 4, 3), quick(0, 3, 0)), 2, ints{0, 3}, api.OK}, {plain(10, quick(0, 2, 0), quick(0, 2, 0), quick(0, 2, 0), quick(5, 3, 3)), 3, ints{0, 1, 2}, api.OK}, {plain(10, quick(0, 1, 0), quick(0, 2, 0), quick(0, 4, 0), quick(5, 3, 3)), 3, ints{1, 2}, api.OK}, {plain(10, quick(0, 1, 0), quick(0, 1, 0), quick(0, 6, 0), quick(5, 2, 3)), 3, ints{2}, api.OK}, {plain(10, quick(0, 3, 0), quick(0, 3, 0), quick(0, 3, 0), quick(5, 1, 3)), 3, nil, api.OK},
		{plain(10, quick(5, 3, 3), quick(0, 3, 0), quick(0, 3, 0), quick(0, 3, 0)), 0, ints{1, 2}, api.OK}, {plain(10, quick(5, 3, 3), quick(0, 1, 0), quick(0, 4, 0), quick(0, 5, 0)), 0, ints{1, 3}, api.OK}, {plain(9, quick(5, 3, 3), quick(0, 1, 0), quick(0, 4, 0), quick(0, 4, 0)), 0, ints{1, 2}, api.OK},
		// Another loaf lost by the stove what shows its rate. Its own finding stays.
		{weighing(12, api.Batch{Stoves: stove, Loaves: loaves{slow(8, 0, 1, -1, 0, 4, 1), slow(0, 0, 1, -1, 0, 5, 0)}}), 0, ints{1}, api.OK},
		{plain(40, quick(9, 8, 0), quick(0, 0, 3)), 0, nil, api.OK},
		// Days, and miles, of a loaf without its finding do matter: it weighs at least what it lost.
		{api.Batch{Works: vat(9), Stoves: spans{span(1, 3)}, Loaves: loaves{quick(6, 5, 3), slow(0, 0, 4, -1, 0, 0, 0)}}, 0, nil, api.OK},
		{api.Batch{Works: vat(9), Carts: spans{span(1, 3)}, Loaves: loaves{quick(5, 5, 3), slow(0, -1, 0, 0, 5, 1, 0)}}, 0, nil, api.OK},
		{api.Batch{Works: vat(9), Carts: spans{span(1, 3)}, Loaves: loaves{quick(5, 5, 3), slow(0, -1, 0, 0, 4, 1, 0)}}, 0, ints{1}, api.OK},
	} {
		got, e := loaf.Proof(x.b, x.loaf)
		if e != x.e || !slices.Equal(got, x.want) {
			t.Error(i, got, e, x.want, x.e)
		}
		if want, due := proof(x.b, x.loaf); due != x.e || !slices.Equal(want, x.want) {
			t.Error(i, "the reference:", want, due)
		}
	}
}

// P7.6 and P7.12: the fewest loaves without whose findings there is a truth.
func TestWrong(t *testing.T) {
	count := map[int]int{}
	for odds := 1; odds <= 5; odds += 2 {
		samples(700, uint64(30+odds), odds, false, func(b api.Batch, all []truth, _ *rand.Rand) {
			got, e := loaf.Wrong(b)
			want, due := wrong(b)
			if e != due || !slices.Equal(got, want) {
				t.Fatalf("%+v: Wrong = %v %d, want %v %d", b, got, e, want, due)
			}
			if (e == api.OK && len(got) == 0) != (len(all) > 0) {
				t.Fatalf("%+v: Wrong = %v, but %d truths", b, got, len(all))
			}
			if e != api.OK {
				count[-1]++
				return
			}
			count[len(got)]++
			for _, list := range lists(numbers(len(b.Loaves))) {
				last := slices.Equal(list, got)
				if trueWithout(b, list) != last {
					t.Fatalf("%+v: Wrong = %v, but %v", b, got, list)
				}
				if last {
					break
				}
			}
		})
	}
	if count[-1] < 3 || count[0] < 500 || count[1] < 300 || count[2] < 40 {
		t.Error(count)
	}
	one := spans{span(1, 1)}
	of := func(room int, l ...api.Loaf) api.Batch { return plain(room, l...) }
	dry := func(room int, l ...api.Loaf) api.Batch { return api.Batch{Works: vat(room), Stoves: one, Loaves: l} }
	for i, x := range []struct {
		b    api.Batch
		want ints
		e    api.Errno
	}{
		{of(9, quick(0, 9, 0)), nil, api.OK}, {of(9, quick(0, 10, 0)), ints{0}, api.OK}, {of(9, quick(0, 10, 1)), nil, api.OK}, {of(9), nil, api.OK},
		{of(9, quick(0, 5, 0), quick(0, 5, 0)), ints{0}, api.OK}, {of(9, quick(0, 1, 0), quick(0, 9, 0)), ints{0}, api.OK}, {of(9, quick(0, 1, 0), quick(0, 10, 0)), ints{1}, api.OK}, {of(9, quick(0, 10, 0), quick(0, 10, 0)), ints{0, 1}, api.OK},
		{of(9, quick(0, 3, 0), quick(0, 3, 0), quick(0, 3, 0), quick(0, 1, 0)), ints{0}, api.OK}, {of(9, quick(0, 1, 0), quick(0, 4, 0), quick(0, 3, 0), quick(0, 3, 0)), ints{1}, api.OK}, {of(9, quick(0, 4, 0), quick(0, 4, 0), quick(0, 4, 0), quick(0, 4, 0)), ints{0, 1}, api.OK}, {of(9, quick(0, 8, 0), quick(0, 1, 0), quick(0, 1, 0), quick(0, 8, 0)), ints{0, 1}, api.OK}, {of(9, quick(0, 5, 0), quick(0, 4, 0), quick(0, 4, 0), quick(0, 5, 0)), ints{0, 1}, api.OK}, {of(9, quick(0, 6, 0), quick(0, 5, 0), quick(0, 4, 0), quick(0, 5, 0)), ints{0, 1}, api.OK}, {of(9, quick(0, 6, 0), quick(0, 3, 0), quick(0, 4, 0), quick(0, 7, 0)), ints{0, 3}, api.OK}, {of(5, quick(0, 6, 0), quick(0, 6, 0), quick(0, 6, 0), quick(0, 6, 0)), ints{0, 1, 2, 3}, api.OK},
		// Too little was found.
		{but(of(9, quick(0, 3, 0), quick(0, 3, 0)), func(b *api.Batch) { b.Works = vat(9, reading(0, 8, 0)) }), ints{0}, api.OK}, {but(of(9, quick(0, 3, 0)), func(b *api.Batch) { b.Works = vat(9, reading(0, 8, 0)) }), ints{0}, api.OK}, {but(of(9), func(b *api.Batch) { b.Works = vat(9, reading(0, 8, 0)) }), nil, api.ErrNothing},
		// Whatever was found, a loaf weighed what it lost, and no more than a loaf may.
		{dry(9, slow(0, 0, 4, -1, 0, 6, 0)), ints{0}, api.OK}, {dry(4, slow(0, 0, 4, -1, 0, 6, 0)), ints{0}, api.OK}, {dry(3, slow(0, 0, 4, -1, 0, 6, 0)), nil, api.ErrNothing}, {dry(7, slow(0, 0, 4, -1, 0, 0, 0), slow(0, 0, 4, -1, 0, 0, 0)), nil, api.ErrNothing}, {dry(8, slow(0, 0, 4, -1, 0, 0, 0), slow(0, 0, 4, -1, 0, 0, 0)), nil, api.OK}, {dry(40, slow(0, 0, 4, -1, 0, 37, 0)), ints{0}, api.OK}, {dry(40, slow(0, 0, 4, -1, 0, 36, 0)), nil, api.OK},
		{api.Batch{Works: vat(8), Stoves: spans{span(3, 3)}, Loaves: loaves{slow(0, 0, 3, -1, 0, 8, 0)}}, nil, api.ErrNothing},
	} {
		got, e := loaf.Wrong(x.b)
		if e != x.e || !slices.Equal(got, x.want) {
			t.Error(i, got, e, x.want, x.e)
		}
	}
}

// P7.7 and P7.13: the loaf that should be weighed again.
func TestNext(t *testing.T) {
	count := map[int]int{}
	samples(2500, 4, 0, true, func(b api.Batch, all []truth, dice *rand.Rand) {
		err := dice.IntN(api.MaxLoafErr + 1)
		if len(all) > 300 || open(b, all) == 0 && dice.IntN(4) > 0 {
			return
		}
		got, left, e := loaf.Next(b, err)
		want, most, due := next(b, all, err)
		if e != due || got != want || left != most {
			t.Fatalf("%+v: Next(%d) = %d %d %d, want %d %d %d", b, err, got, left, e, want, most, due)
		}
		if e != api.OK {
			count[-1]++
			return
		}
		count[got]++
		count[10+left]++
		for other := range b.Loaves {
			most := worst(b, all, other, err)
			if most < left || other < got && most == left || other == got && most != left {
				t.Fatalf("%+v: Next(%d) = %d %d, but %d leaves %d", b, err, got, left, other, most)
			}
		}
	})
	if count[-1] < 300 || count[0] < 120 || count[1] < 60 || count[2] < 30 || count[3] < 6 || count[10] < 100 || count[11] < 50 || count[12] < 10 {
		t.Error(count)
	}
}

// P7.7: what counts is the greatest number whatever is found, and the number of those that are open now.
func TestNextOfFew(t *testing.T) {
	nothing := api.ErrNothing
	weighing := func(weight int, l ...api.Loaf) api.Batch {
		return api.Batch{Works: vat(40, reading(0, weight, 0)), Loaves: l}
	}
	stoves := func(l ...api.Loaf) api.Batch {
		return api.Batch{Works: vat(40), Stoves: spans{span(0, 1)}, Loaves: l}
	}
	for i, x := range []struct {
		b               api.Batch
		err, loaf, left int
		e               api.Errno
	}{
		{plain(20, quick(5, 5, 1)), 0, 0, 0, api.OK}, {plain(20, quick(5, 5, 1)), 1, 0, 0, nothing}, {plain(20, quick(5, 5, 0)), 0, 0, 0, nothing}, {plain(20), 0, 0, 0, nothing},
		{plain(20, quick(5, 5, 3), quick(5, 5, 3)), 0, 0, 1, api.OK}, {plain(20, quick(5, 5, 0), quick(5, 5, 3)), 0, 1, 0, api.OK}, {plain(20, quick(9, 5, 3), quick(1, 5, 3), quick(5, 5, 3)), 0, 2, 0, api.OK},
		// What one loaf weighs tells what the other one does.
		{weighing(10, quick(5, 5, 2), quick(5, 5, 2)), 0, 0, 0, api.OK}, {weighing(10, quick(5, 5, 2), quick(5, 5, 2)), 1, 0, 0, nothing}, {weighing(10, quick(4, 5, 2), quick(5, 5, 2)), 0, 0, 0, api.OK},
		{weighing(15, quick(5, 5, 1), quick(5, 5, 1), quick(5, 5, 1)), 0, 0, 2, api.OK},
		// A loaf that is not open itself tells the rate by which another one is.
		{stoves(slow(0, 0, 4, -1, 0, 5, 0), slow(6, 0, 1, -1, 0, 5, 0)), 0, 0, 0, nothing}, {but(stoves(slow(0, 0, 4, -1, 0, 5, 0), slow(6, 0, 1, -1, 0, 5, 0)), func(b *api.Batch) { b.Works = vat(40, reading(0, 12, 3)) }), 0, 0, 0, nothing},
		// What was found before stays true: with 7 found now, and 5 by scales that err by 1 before, there is nothing but 6.
		{plain(20, quick(6, 5, 1)), 1, 0, 0, nothing}, {plain(20, quick(5, 3, 2)), 1, 0, 0, nothing}, {plain(20, quick(5, 3, 2)), 0, 0, 0, api.OK}, {plain(20, quick(7, 8, 1)), 0, 0, 0, nothing}, {plain(20, quick(8, 8, 1)), 0, 0, 0, api.OK},
		// Nothing can be left below 0, nor above MaxLoaf, so less is open.
		{plain(20, quick(1, 0, 1)), 0, 0, 0, api.OK}, {plain(20, quick(1, 0, 1)), 1, 0, 0, nothing}, {plain(40, quick(40, 40, 1)), 0, 0, 0, api.OK}, {plain(40, quick(40, 40, 3)), 3, 0, 0, nothing},
	} {
		n, left, e := loaf.Next(x.b, x.err)
		if n != x.loaf || left != x.left || e != x.e {
			t.Error(i, n, left, e)
		}
		if n, left, e := next(x.b, truths(x.b), x.err); n != x.loaf || left != x.left || e != x.e {
			t.Error(i, "the reference:", n, left, e)
		}
	}
}

// P7.10: if all loaves were weighed as they were, no loaf that was as heavy as promised is the works' fault.
func TestHonest(t *testing.T) {
	dice := rand.New(rand.NewPCG(5, 7))
	faults, sound := 0, 0
	for range 1500 {
		b, told := random(dice, 0)
		wrong, e := loaf.Wrong(b)
		if e != api.OK || len(wrong) > 0 || !canBe(t, b) {
			t.Fatalf("%+v: %+v: Wrong = %v %d", b, told, wrong, e)
		}
		list, e := loaf.Faults(b)
		if e != api.OK {
			t.Fatalf("%+v: Faults: %d", b, e)
		}
		verdicts := verdicts(t, b)
		for i := range b.Loaves {
			switch fault := slices.Contains(list, i); {
			case fault && !told.short(b, i), (verdicts[i] == api.Yes) != fault, verdicts[i] == api.No && told.short(b, i):
				t.Fatalf("%+v: %+v: Faults = %v, Short = %v", b, told, list, verdicts)
			case fault:
				faults++
			case !told.short(b, i):
				sound++
			}
		}
		all := bounds(t, b)
		in := func(name string, number, n int) {
			if s := all[name+string(rune('0'+number))]; n < s.Lo || n > s.Hi {
				t.Fatalf("%+v: %+v: %s(%d) = %v", b, told, name, number, s)
			}
		}
		for i := range b.Stoves {
			in("Rate", i, told.stoves[i])
		}
		for i := range b.Carts {
			in("Rough", i, told.carts[i])
		}
		for i := range b.Loaves {
			in("Out", i, told.outs[i])
		}
		in("Total", 0, told.total())
		in("Shorts", 0, told.shorts(b))
		in("Owed", 0, told.owed(b))
	}
	if faults < 300 || sound < 500 {
		t.Error(faults, sound)
	}
}

// P7.14: if a rate, or an Err, is known better, no bound is wider, and no verdict but Open changes.
func TestSurer(t *testing.T) {
	narrower, settled := 0, 0
	samples(900, 6, 10, true, func(b api.Batch, _ []truth, dice *rand.Rand) {
		wide, before := bounds(t, b), verdicts(t, b)
		better := func(change func(b *api.Batch)) {
			c := but(b, change)
			if loaf.Check(c) != api.OK || !canBe(t, c) {
				return
			}
			if narrow := bounds(t, c); !within(narrow, wide, func() { narrower++ }) {
				t.Fatalf("%+v: %v, with more known %+v: %v", b, wide, c, narrow)
			}
			for i, now := range verdicts(t, c) {
				if before[i] != api.Open && now != before[i] {
					t.Fatalf("%+v: %v, with more known %+v: %d", b, before, c, now)
				}
				if now != before[i] {
					settled++
				}
			}
		}
		for i, r := range b.Stoves {
			if r.Lo < r.Hi {
				better(func(b *api.Batch) { b.Stoves[i].Lo++ })
				better(func(b *api.Batch) { b.Stoves[i].Hi-- })
			}
		}
		for i, r := range b.Carts {
			if r.Lo < r.Hi {
				better(func(b *api.Batch) { b.Carts[i].Lo++ })
				better(func(b *api.Batch) { b.Carts[i].Hi-- })
			}
		}
		for i, l := range b.Loaves {
			if l.Err > 0 {
				better(func(b *api.Batch) { b.Loaves[i].Err-- })
			}
		}
		for i, r := range b.Works.Readings {
			if r.Err > 0 {
				better(func(b *api.Batch) { b.Works.Readings[i].Err-- })
			}
		}
	})
	if narrower < 1000 || settled < 200 {
		t.Error(narrower, settled)
	}
}

// P7.15: one reading more of the works never widens a bound; the total lies within what the vessel weighs.
func TestVessel(t *testing.T) {
	narrower, never := 0, 0
	samples(900, 7, 10, true, func(b api.Batch, _ []truth, dice *rand.Rand) {
		wide := bounds(t, b)
		vessel, e := weigh.Weight(b.Works, b.Vessel)
		if total := wide["Total0"]; e != api.OK || total.Lo < vessel.Lo || total.Hi > vessel.Hi {
			t.Fatalf("%+v: all loaves weigh %v, the vessel %v", b, total, vessel)
		}
		for number := range b.Works.Vessels {
			weight, _ := weigh.Weight(b.Works, number)
			more := but(b, func(b *api.Batch) {
				b.Works.Readings = append(b.Works.Readings, reading(number, weight.Lo+dice.IntN(weight.Hi-weight.Lo+1), dice.IntN(3)))
			})
			if !canBe(t, more) {
				never++
				continue
			}
			if narrow := bounds(t, more); !within(narrow, wide, func() { narrower++ }) {
				t.Fatalf("%+v: %v, with a reading more %+v: %v", b, wide, more, narrow)
			}
		}
	})
	if narrower < 500 || never < 50 {
		t.Error(narrower, never)
	}
}

// P7.16: the less was promised, the fewer loaves are short; what is promised does not matter for rates and weights.
func TestPromise(t *testing.T) {
	fewer, changed := 0, 0
	samples(900, 8, 10, false, func(b api.Batch, all []truth, dice *rand.Rand) {
		less := but(b, func(b *api.Batch) {
			for i := range b.Loaves {
				b.Loaves[i].Promise = max(0, b.Loaves[i].Promise-pick(dice, 0, 0, 1, 2, 5))
			}
		})
		was, e := loaf.Wrong(b)
		is, f := loaf.Wrong(less)
		if can := canBe(t, less); can != (len(all) > 0) || e != f || !slices.Equal(was, is) {
			t.Fatalf("%+v: Wrong = %v %d, with less promised %v %d", b, was, e, is, f)
		}
		if len(all) == 0 {
			return
		}
		before, now := bounds(t, b), bounds(t, less)
		for name, s := range before {
			n := now[name]
			switch name {
			case "Shorts0", "Owed0":
				if n.Lo > s.Lo || n.Hi > s.Hi {
					t.Fatalf("%+v: %s = %v, with less promised %+v: %v", b, name, s, less, n)
				}
				if n != s {
					fewer++
				}
			default:
				if n != s {
					t.Fatalf("%+v: %s = %v, with less promised %+v: %v", b, name, s, less, n)
				}
			}
		}
		// Short in all truths becomes short in some, and this in none, but never the other way.
		rank := map[int]int{api.No: 0, api.Open: 1, api.Yes: 2}
		old, v := verdicts(t, b), verdicts(t, less)
		for i := range v {
			if rank[v[i]] > rank[old[i]] {
				t.Fatalf("%+v: %v, with less promised %+v: %v", b, old, less, v)
			}
			if v[i] != old[i] {
				changed++
			}
		}
		faults, _ := loaf.Faults(b)
		left, _ := loaf.Faults(less)
		for _, i := range left {
			if !slices.Contains(faults, i) {
				t.Fatalf("%+v: %v, with less promised %+v: %v", b, faults, less, left)
			}
		}
	})
	if fewer < 500 || changed < 300 {
		t.Error(fewer, changed)
	}
}

// P7.17: if the paper weighs one more, and so does all that was found, all is as it was.
func TestPaper(t *testing.T) {
	looked := 0
	samples(900, 9, 6, false, func(b api.Batch, _ []truth, dice *rand.Rand) {
		if b.Paper == api.MaxPaper {
			return
		}
		looked++
		more := but(b, func(b *api.Batch) {
			b.Paper++
			for i := range b.Loaves {
				b.Loaves[i].Found++
			}
		})
		for number := range max(1, len(b.Loaves)) {
			a := asked{number, number, number, dice.IntN(api.MaxLoafErr + 1)}
			was, is := answers(b, a), answers(more, a)
			for i := range was {
				if !sameAnswer(was[i], is[i]) {
					t.Fatalf("%+v: %v, with a heavier paper %v", b, was[i], is[i])
				}
			}
		}
	})
	if looked < 500 {
		t.Error(looked)
	}
}

// renumbered returns a batch whose loaf i was the loaf old[i].
func renumbered(b api.Batch, old ints) api.Batch {
	return but(b, func(c *api.Batch) {
		for i, l := range old {
			c.Loaves[i] = b.Loaves[l]
		}
	})
}

// P7.18: if loaves have other numbers, their bounds and verdicts are the same under these. Which of several loaves come first depends on the numbers.
func TestRenumbered(t *testing.T) {
	lists := 0
	samples(900, 10, 6, false, func(b api.Batch, all []truth, dice *rand.Rand) {
		if len(b.Loaves) == 0 {
			return
		}
		old := dice.Perm(len(b.Loaves))
		c := renumbered(b, old)
		of := func(list ints) (theirs ints) {
			for _, i := range list {
				theirs = append(theirs, old[i])
			}
			slices.Sort(theirs)
			return theirs
		}
		for number := range old {
			err := dice.IntN(api.MaxLoafErr + 1)
			was, is := answers(b, asked{0, 0, old[number], err}), answers(c, asked{0, 0, number, err})
			for i, x := range was {
				y := is[i]
				fail := func() {
					t.Fatalf("%+v: %v, renumbered %v: %v", b, x, old, y)
				}
				if x.e != y.e {
					fail()
				}
				if x.e != api.OK {
					continue
				}
				switch x.name {
				case "Faults":
					if !slices.Equal(of(y.results[0].(ints)), x.results[0].(ints)) {
						fail()
					}
				case "Proof", "Wrong":
					theirs := of(y.results[0].(ints))
					if len(theirs) != len(x.results[0].(ints)) {
						fail()
					}
					if len(theirs) > 0 {
						lists++
					}
					if x.name == "Proof" && !proves(b, old[number], theirs) || x.name == "Wrong" && !trueWithout(b, theirs) {
						fail()
					}
				case "Next":
					if x.results[1] != y.results[1] {
						fail()
					}
				default:
					if !sameAnswer(x, y) {
						fail()
					}
				}
			}
		}
	})
	if lists < 300 {
		t.Error(lists)
	}
}

// T1: loaves that lost nothing are vessels that another one fills, in which nothing is lost; a loaf is the works' fault just if its vessel cannot weigh as much as was promised.
func TestLossless(t *testing.T) {
	dice := rand.New(rand.NewPCG(11, 7))
	never, count := 0, map[bool]int{}
	for range 1500 {
		b := api.Batch{Works: vat(dice.IntN(api.MaxRoom + 1)), Paper: dice.IntN(api.MaxPaper + 1), Stoves: spans{span(0, 0)}, Carts: spans{span(0, 3)}}
		if dice.IntN(2) == 0 {
			b.Vessel = 1
			b.Works.Vessels = append(b.Works.Vessels, api.Vessel{From: dice.IntN(2) - 1, Room: dice.IntN(30), Loss: span(2, 3)})
		}
		sum := 0
		for range 1 + dice.IntN(api.MaxLoaves) {
			l := slow(dice.IntN(15), dice.IntN(2)-1, dice.IntN(5), -1, dice.IntN(6), b.Paper+dice.IntN(12), dice.IntN(4))
			if dice.IntN(3) == 0 {
				l.Cart, l.Miles = 0, 0
			}
			sum += l.Found - b.Paper
			b.Loaves = append(b.Loaves, l)
		}
		for range dice.IntN(3) {
			b.Works.Readings = append(b.Works.Readings, reading(dice.IntN(b.Vessel+1), min(api.MaxShown, sum+dice.IntN(4)), dice.IntN(5)))
		}
		if loaf.Check(b) != api.OK {
			continue
		}
		w := copied(b).Works
		w.Vessels[b.Vessel].Loss = api.Span{}
		first := len(w.Vessels)
		for i, l := range b.Loaves {
			w.Vessels = append(w.Vessels, api.Vessel{From: b.Vessel, Room: api.MaxLoaf})
			w.Readings = append(w.Readings, reading(first+i, l.Found-b.Paper, l.Err))
		}
		can, e := weigh.Can(w)
		if e != api.OK || canBe(t, b) != can {
			t.Fatalf("%+v: %+v: %t %d", b, w, can, e)
		}
		if !can {
			never++
			continue
		}
		total, _ := loaf.Total(b)
		if s, e := weigh.Weight(w, b.Vessel); e != api.OK || s != total {
			t.Fatalf("%+v: Total = %v, the vessel weighs %v", b, total, s)
		}
		for i, v := range verdicts(t, b) {
			out, _ := loaf.Out(b, i)
			s, e := weigh.Weight(w, first+i)
			fault := s.Hi < b.Loaves[i].Promise
			if e != api.OK || s != out || (v == api.Yes) != fault {
				t.Fatalf("%+v: %d: Out = %v, Short = %d, its vessel weighs %v", b, i, out, v, s)
			}
			count[fault]++
		}
	}
	if never < 200 || count[true] < 200 || count[false] < 300 {
		t.Error(never, count)
	}
}

// All that the limits let be, of two loaves, against the reference; of four, that there is an answer.
func TestLimits(t *testing.T) {
	any := span(0, api.MaxLoafRate)
	full := api.Batch{Works: vat(40), Stoves: spans{any, any}, Carts: spans{any, any}, Paper: 3, Loaves: loaves{slow(20, 0, 4, 1, 5, 6, 3), slow(17, 1, 4, 0, 5, 4, 3)}}
	all := truths(full)
	now := bounds(t, full)
	for name, measure := range map[string]func(truth) int{
		"Rate0":  func(t truth) int { return t.stoves[0] },
		"Rate1":  func(t truth) int { return t.stoves[1] },
		"Rough0": func(t truth) int { return t.carts[0] },
		"Rough1": func(t truth) int { return t.carts[1] },
		"Out0":   func(t truth) int { return t.outs[0] },
		"Out1":   func(t truth) int { return t.outs[1] },
		"Total0": truth.total,
		"Shorts0": func(t truth) int {
			return t.shorts(full)
		},
		"Owed0": func(t truth) int { return t.owed(full) },
	} {
		if want := boundsOf(all, measure); now[name] != want {
			t.Error(name, now[name], want)
		}
	}
	for err := range api.MaxLoafErr + 1 {
		n, left, e := loaf.Next(full, err)
		if want, most, due := next(full, all, err); n != want || left != most || e != due {
			t.Error(err, n, left, e, want, most, due)
		}
	}
	four := but(full, func(b *api.Batch) {
		b.Loaves = slices.Repeat(loaves{slow(40, 0, 4, 1, 5, 43, 3), slow(0, 1, 4, 0, 5, 43, 3)}, 2)
	})
	if l, e := loaf.Wrong(four); e != api.OK || !slices.Equal(l, ints{0, 1, 2}) {
		t.Error(l, e)
	}
	four.Loaves[0].Found, four.Loaves[1].Found, four.Loaves[2].Found, four.Loaves[3].Found = 10, 9, 13, 8
	// As much as was promised is only left if the rates are such that the loaf 0, which lost as much, weighs something, too.
	if l, e := loaf.Proof(four, 2); e != api.OK || len(l) > 0 {
		t.Error(l, e)
	}
	if s, e := loaf.Total(four); e != api.OK || s != span(16, 40) {
		t.Error(s, e)
	}
	if s, e := loaf.Shorts(four); e != api.OK || s != span(2, 2) {
		t.Error(s, e)
	}
}

// P1, R3, R5 and R7: whatever the arguments are.
func TestAnyArguments(t *testing.T) {
	dice := rand.New(rand.NewPCG(12, 7))
	odd := func() int {
		switch dice.IntN(12) {
		case 0:
			return math.MaxInt
		case 1:
			return math.MinInt
		case 2:
			return -1
		}
		return dice.IntN(5)
	}
	right := 0
	for range 6000 {
		b := exampleS()
		if dice.IntN(4) == 0 {
			b.Works = api.Works{}
			for range dice.IntN(8) {
				b.Works.Vessels = append(b.Works.Vessels, api.Vessel{From: odd(), Room: odd(), Loss: span(odd(), odd())})
			}
			for range dice.IntN(8) {
				b.Works.Readings = append(b.Works.Readings, api.Reading{Vessel: odd(), Scale: odd(), Shown: odd(), Err: odd()})
			}
			b.Vessel = odd()
		}
		if dice.IntN(2) == 0 {
			b.Stoves = nil
			for range dice.IntN(4) {
				b.Stoves = append(b.Stoves, span(odd(), odd()))
			}
		}
		if dice.IntN(2) == 0 {
			b.Carts, b.Paper = nil, odd()
			for range dice.IntN(4) {
				b.Carts = append(b.Carts, span(odd(), odd()))
			}
		}
		if dice.IntN(2) == 0 {
			b.Loaves = nil
			for range dice.IntN(6) {
				b.Loaves = append(b.Loaves, slow(odd(), odd(), odd(), odd(), odd(), odd(), odd()))
			}
		}
		errs, clean := failures(answers(b, asked{odd(), odd(), odd(), odd()}))
		e := loaf.Check(b)
		for name, f := range errs {
			if !clean || e != api.OK && f != e {
				t.Fatalf("%+v: %s: %d, Check %d, clean %t", b, name, f, e, clean)
			}
		}
		if e == api.OK {
			right++
		}
	}
	if right < 300 {
		t.Error(right)
	}
}

// R2, R4 and R6: no call changes an argument, nor memory behind it, and all calls of the same say the same, side by side too.
func TestNothingKept(t *testing.T) {
	samples(150, 13, 6, false, func(b api.Batch, _ []truth, dice *rand.Rand) {
		// There is room behind the lists, in which something stands.
		b.Works.Vessels = append(slices.Clone(b.Works.Vessels), api.Vessel{Room: 7})[:len(b.Works.Vessels)]
		b.Works.Readings = append(slices.Clone(b.Works.Readings), reading(7, 7, 7))[:len(b.Works.Readings)]
		b.Stoves = append(slices.Clone(b.Stoves), span(7, 7))[:len(b.Stoves)]
		b.Carts = append(slices.Clone(b.Carts), span(7, 7))[:len(b.Carts)]
		b.Loaves = append(slices.Clone(b.Loaves), quick(7, 7, 7))[:len(b.Loaves)]
		whole := func() api.Batch {
			c := b
			c.Works.Vessels, c.Works.Readings = b.Works.Vessels[:len(b.Works.Vessels)+1], b.Works.Readings[:len(b.Works.Readings)+1]
			c.Stoves, c.Carts, c.Loaves = b.Stoves[:len(b.Stoves)+1], b.Carts[:len(b.Carts)+1], b.Loaves[:len(b.Loaves)+1]
			return copied(c)
		}
		a := asked{0, 0, dice.IntN(len(b.Loaves) + 1), dice.IntN(4)}
		before, want := whole(), answers(b, a)
		var calls sync.WaitGroup
		for range 4 {
			calls.Go(func() {
				if got := answers(b, a); !slices.EqualFunc(got, want, sameAnswer) {
					t.Errorf("%+v: %v, then %v", b, want, got)
				}
			})
		}
		calls.Wait()
		if after := whole(); !reflect.DeepEqual(before, after) {
			t.Fatalf("%+v became %+v", before, after)
		}
	})
	// Nil and empty lists mean the same.
	none := api.Batch{Works: vat(9)}
	empty := api.Batch{Works: vat(9, []api.Reading{}...), Stoves: spans{}, Carts: spans{}, Loaves: loaves{}}
	if got, want := answers(empty, asked{}), answers(none, asked{}); !slices.EqualFunc(got, want, sameAnswer) {
		t.Error(got, want)
	}
	if e := loaf.Check(api.Batch{Works: api.Works{Vessels: []api.Vessel{}}}); e != api.ErrShortage {
		t.Error(e)
	}
}
