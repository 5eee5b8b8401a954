package thread_test

import (
	"math"
	"math/rand/v2"
	"reflect"
	"slices"
	"sync"
	"testing"

	"muscovado/api"
	"muscovado/thread"
)

// asked are the arguments of all functions beside the boil.
type asked struct {
	pan, time, tick, thread int
	starts, heats           []int
	proof                   api.Proof
}

// answer is what a function returns: its results in a list, and its error.
type answer struct {
	name    string
	results []any
	e       api.Errno
}

// answers returns what all functions but Check say.
func answers(b api.Boil, a asked) []answer {
	var list []answer
	add := func(name string, e api.Errno, results ...any) {
		list = append(list, answer{name, results, e})
	}
	course, e := thread.Course(b, a.starts, a.heats)
	add("Course", e, course)
	n, e := thread.Count(b)
	add("Count", e, n)
	l, e := thread.Wrong(b)
	add("Wrong", e, l)
	s, e := thread.Thick(b, a.pan, a.time)
	add("Thick", e, s)
	s, e = thread.Heat(b, a.tick)
	add("Heat", e, s)
	l, e = thread.Threads(b, a.pan, a.time)
	add("Threads", e, l)
	n, e = thread.Verdict(b, a.pan, a.time, a.thread)
	add("Verdict", e, n)
	l, e = thread.Strike(b, a.pan)
	add("Strike", e, l)
	n, m, e := thread.Surest(b, a.pan)
	add("Surest", e, n, m)
	n, m, v, e := thread.Burns(b)
	add("Burns", e, n, m, v)
	l, e = thread.Damp(b, a.tick)
	add("Damp", e, l)
	l, e = thread.Plan(b)
	add("Plan", e, l)
	l, e = thread.Lacking(b)
	add("Lacking", e, l)
	n, m, e = thread.Next(b, a.time)
	add("Next", e, n, m)
	more, e := thread.Add(b, a.proof)
	add("Add", e, more)
	return list
}

// zero returns whether a result is a zero value; an empty list is one, too.
func zero(x any) bool {
	v := reflect.ValueOf(x)
	return v.IsZero() || v.Kind() == reflect.Slice && v.Len() == 0
}

// failures returns the errors by the names of the functions, and whether all other results are zero values wherever there is one.
func failures(b api.Boil, a asked) (errs map[string]api.Errno, clean bool) {
	errs, clean = map[string]api.Errno{}, true
	for _, x := range answers(b, a) {
		errs[x.name] = x.e
		for _, r := range x.results {
			clean = clean && (x.e == api.OK || zero(r))
		}
	}
	return errs, clean
}

func change(f func(b *api.Boil)) api.Boil {
	b := exampleS()
	f(&b)
	return b
}

// P2.1, and P1 to R3: the errors of a boil, and their order.
func TestCheck(t *testing.T) {
	starts := func(list ...api.Span) api.Boil { return change(func(b *api.Boil) { b.Starts = list }) }
	heats := func(list ...api.Span) api.Boil { return change(func(b *api.Boil) { b.Heats = list }) }
	rates := func(list ...int) api.Boil { return change(func(b *api.Boil) { b.Rates = list }) }
	marks := func(list ...int) api.Boil { return change(func(b *api.Boil) { b.Marks = list }) }
	for i, x := range []struct {
		b    api.Boil
		want api.Errno
	}{
		{exampleS(), api.OK}, {exampleT(), api.OK}, {exampleW(), api.OK}, {exampleU(), api.OK}, {exampleV(), api.OK},
		{full(1), api.OK}, {full(3), api.OK}, {full(4), api.ErrExcess}, {full(0), api.ErrShortage}, {api.Boil{}, api.ErrShortage},
		{starts(span(0, 0), span(40, 40)), api.OK}, {starts(span(-1, 0), span(0, 0)), api.ErrValue}, {starts(span(0, 0), span(0, 41)), api.ErrValue},
		{starts(span(41, 0), span(0, 0)), api.ErrValue}, {starts(span(0, -1), span(0, 0)), api.ErrValue}, {starts(span(5, 4), span(0, 0)), api.ErrSequence},
		{starts(span(5, 4), span(0, 41)), api.ErrSequence}, {starts(span(0, 41), span(5, 4)), api.ErrValue},
		{starts(span(0, 0)), api.ErrConflict}, {starts(span(0, 0), span(0, 0), span(0, 0)), api.ErrConflict}, {starts(span(5, 4)), api.ErrSequence},
		{rates(), api.ErrConflict}, {rates(1), api.ErrConflict}, {rates(1, 1, 1), api.ErrConflict}, {rates(0, 9, 9), api.ErrConflict},
		{rates(1, 3), api.OK}, {rates(0, 1), api.ErrValue}, {rates(1, 4), api.ErrValue}, {rates(1, -1), api.ErrValue},
		{change(func(b *api.Boil) { b.Rates, b.Marks = ints{4, 1}, nil }), api.ErrValue},
		{marks(), api.ErrConflict}, {marks(1, 2), api.ErrConflict}, {marks(0, 99), api.ErrConflict}, {marks(1, 2, 3, 4), api.ErrConflict},
		{marks(1, 2, 3), api.OK}, {marks(58, 59, 60), api.OK}, {marks(0, 1, 2), api.ErrValue}, {marks(58, 59, 61), api.ErrValue}, {marks(3, -1, 5), api.ErrValue},
		{marks(8, 8, 16), api.ErrSequence}, {marks(8, 12, 12), api.ErrSequence}, {marks(8, 7, 16), api.ErrSequence}, {marks(8, 7, 61), api.ErrValue},
		{change(func(b *api.Boil) { b.Marks, b.Heats = ints{8, 8, 16}, nil }), api.ErrSequence},
		{heats(), api.ErrShortage}, {heats(make([]api.Span, 5)...), api.OK}, {heats(make([]api.Span, 6)...), api.ErrExcess},
		{heats(span(0, 4), span(4, 4)), api.OK}, {heats(span(-1, 4), span(4, 4)), api.ErrValue}, {heats(span(0, 5), span(4, 4)), api.ErrValue},
		{heats(span(5, 0)), api.ErrValue}, {heats(span(2, 1)), api.ErrSequence}, {heats(span(2, 1), span(0, 5)), api.ErrSequence}, {heats(span(0, 5), span(2, 1)), api.ErrValue},
		{change(func(b *api.Boil) { b.Heats, b.Proofs = nil, make([]api.Proof, 9) }), api.ErrShortage},
		{only(exampleS(), make([]api.Proof, 8)...), api.OK}, {only(exampleS(), make([]api.Proof, 9)...), api.ErrExcess},
		{exampleS(proof(-1, 0, 0)), api.ErrMissing}, {exampleS(proof(2, 0, 0)), api.ErrMissing}, {exampleS(proof(0, -1, 0)), api.ErrMissing}, {exampleS(proof(0, 4, 0)), api.ErrMissing},
		{exampleS(proof(1, 3, 3)), api.OK}, {exampleS(proof(1, 3, -1)), api.ErrSort}, {exampleS(proof(1, 3, 4)), api.ErrSort},
		{exampleS(proof(2, 9, 9)), api.ErrMissing}, {exampleS(proof(0, 4, 9)), api.ErrMissing}, {exampleS(proof(0, 0, 9), proof(9, 0, 0)), api.ErrSort},
		{only(exampleS(), append(make([]api.Proof, 8), proof(9, 9, 9))...), api.ErrExcess},
	} {
		if e := thread.Check(x.b); e != x.want {
			t.Errorf("%d: Check = %d, want %d", i, e, x.want)
		}
		if x.want == api.OK {
			continue
		}
		// Check's error comes before that of any other argument, and alone.
		for _, a := range []asked{{}, {pan: 9, time: -1, tick: 9, thread: 9, proof: proof(9, 9, 9)}} {
			errs, clean := failures(x.b, a)
			for name, e := range errs {
				if e != x.want || !clean {
					t.Errorf("%d: %s: %d, clean %t", i, name, e, clean)
				}
			}
		}
	}
}

// The errors of the other arguments, and that there is no truth.
func TestArgumentsAndConflict(t *testing.T) {
	type errs = map[string]api.Errno
	good := asked{pan: 1, time: 3, tick: 2, thread: api.Burnt, starts: ints{5, 8}, heats: ints{2, 2, 1}, proof: proof(0, 2, 1)}
	but := func(f func(a *asked)) asked {
		a := good
		f(&a)
		return a
	}
	// For the pan 1 of S, and all its pans, there is no time to strike.
	s := func(more errs) errs {
		all := errs{"Strike": api.ErrNothing, "Plan": api.ErrNothing}
		for name, e := range more {
			all[name] = e
		}
		return all
	}
	w := errs{}
	for _, name := range []string{"Thick", "Heat", "Threads", "Verdict", "Strike", "Surest", "Burns", "Damp", "Plan", "Lacking", "Next"} {
		w[name] = api.ErrConflict
	}
	wrong := func(more errs) errs {
		all := errs{}
		for name, e := range w {
			all[name] = e
		}
		for name, e := range more {
			all[name] = e
		}
		return all
	}
	pans := errs{"Thick": api.ErrMissing, "Threads": api.ErrMissing, "Verdict": api.ErrMissing, "Strike": api.ErrMissing, "Surest": api.ErrMissing}
	times := errs{"Thick": api.ErrMissing, "Threads": api.ErrMissing, "Verdict": api.ErrMissing, "Next": api.ErrMissing}
	ticks := errs{"Heat": api.ErrMissing, "Damp": api.ErrMissing}
	threads := errs{"Verdict": api.ErrSort}
	for i, x := range []struct {
		b    api.Boil
		a    asked
		want errs
	}{
		{exampleS(), but(func(a *asked) { a.tick = 1 }), s(nil)},
		{exampleS(), good, s(errs{"Damp": api.ErrNothing})},
		{exampleS(), but(func(a *asked) { a.pan, a.tick = 2, 1 }), s(pans)},
		{exampleS(), but(func(a *asked) { a.pan, a.tick, a.thread = -1, 1, 4 }), s(pans)},
		{exampleS(), but(func(a *asked) { a.time, a.tick = 4, 1 }), s(times)},
		{exampleS(), but(func(a *asked) { a.time, a.tick, a.thread = -1, 1, -1 }), s(times)},
		{exampleS(), but(func(a *asked) { a.tick = 3 }), s(ticks)},
		{exampleS(), but(func(a *asked) { a.tick = -1 }), s(ticks)},
		{exampleS(), but(func(a *asked) { a.tick, a.thread = 1, 4 }), s(threads)},
		{exampleS(), but(func(a *asked) { a.tick, a.thread = 1, -1 }), s(threads)},
		{exampleS(), but(func(a *asked) { a.tick, a.proof = 1, proof(2, 0, 9) }), s(errs{"Add": api.ErrMissing})},
		{exampleS(), but(func(a *asked) { a.tick, a.proof = 1, proof(0, 4, 9) }), s(errs{"Add": api.ErrMissing})},
		{exampleS(), but(func(a *asked) { a.tick, a.proof = 1, proof(1, 3, 4) }), s(errs{"Add": api.ErrSort})},
		{exampleS(), but(func(a *asked) { a.tick, a.proof = 1, proof(1, 0, 2) }), s(errs{"Add": api.ErrConflict})},
		{exampleW(), good, wrong(nil)},
		{exampleW(), but(func(a *asked) { a.pan = 2 }), wrong(pans)},
		{exampleW(), but(func(a *asked) { a.time = 4 }), wrong(times)},
		{exampleW(), but(func(a *asked) { a.tick = 3 }), wrong(ticks)},
		{exampleW(), but(func(a *asked) { a.thread = 4 }), wrong(threads)},
	} {
		got, clean := failures(x.b, x.a)
		for name, e := range got {
			if e != x.want[name] || !clean {
				t.Errorf("%d: %s: %d, want %d, clean %t", i, name, e, x.want[name], clean)
			}
		}
	}
}

// The table of the chapter.
func TestExamples(t *testing.T) {
	same := func(name string, got []int, e api.Errno, want []int, wantE api.Errno) {
		if e != wantE || !slices.Equal(got, want) {
			t.Errorf("%s: %v %d, want %v %d", name, got, e, want, wantE)
		}
	}
	s, w, u, v := exampleS(), exampleW(), exampleU(), exampleV()
	told := exampleT()
	for i, x := range []struct {
		b     api.Boil
		count int
		wrong []int
	}{{s, 15, nil}, {told, 6, nil}, {w, 0, ints{1}}} {
		n, e := thread.Count(x.b)
		l, f := thread.Wrong(x.b)
		if n != x.count || e != api.OK || f != api.OK || !slices.Equal(l, x.wrong) {
			t.Error("Count, Wrong", i, n, l, e, f)
		}
	}
	course, e := thread.Course(s, ints{5, 8}, ints{2, 2, 1})
	same("Course", slices.Concat(course...), e, ints{5, 8, 7, 12, 9, 16, 10, 18}, api.OK)
	a, e := thread.Thick(s, 0, 3)
	same("Thick(S; 0, 3)", ints{a.Lo, a.Hi}, e, ints{9, 13}, api.OK)
	a, e = thread.Thick(s, 1, 2)
	same("Thick(S; 1, 2)", ints{a.Lo, a.Hi}, e, ints{14, 16}, api.OK)
	a, e = thread.Heat(s, 0)
	same("Heat(S; 0)", ints{a.Lo, a.Hi}, e, ints{1, 2}, api.OK)
	a, e = thread.Heat(told, 0)
	same("Heat(T; 0)", ints{a.Lo, a.Hi}, e, ints{1, 1}, api.OK)
	l, e := thread.Threads(s, 0, 3)
	same("Threads(S; 0, 3)", l, e, ints{1, 2}, api.OK)
	l, e = thread.Threads(s, 1, 2)
	same("Threads(S; 1, 2)", l, e, ints{2, 3}, api.OK)
	for _, x := range [][4]int{{1, 2, api.Burnt, api.Open}, {0, 2, api.Short, api.Yes}, {0, 2, api.Long, api.No}} {
		n, e := thread.Verdict(s, x[0], x[1], x[2])
		same("Verdict", ints{n}, e, ints{x[3]}, api.OK)
	}
	l, e = thread.Strike(told, 1)
	same("Strike(T; 1)", l, e, ints{2}, api.OK)
	l, e = thread.Strike(told, 0)
	same("Strike(T; 0)", l, e, nil, api.ErrNothing)
	time, n, e := thread.Surest(s, 1)
	same("Surest(S; 1)", ints{time, n}, e, ints{1, 9}, api.OK)
	time, n, e = thread.Surest(s, 0)
	same("Surest(S; 0)", ints{time, n}, e, ints{3, 4}, api.OK)
	pan, time, n, e := thread.Burns(s)
	same("Burns(S)", ints{pan, time, n}, e, ints{1, 2, api.Open}, api.OK)
	pan, time, n, e = thread.Burns(told)
	same("Burns(T)", ints{pan, time, n}, e, ints{1, 3, api.Yes}, api.OK)
	pan, time, n, e = thread.Burns(u)
	same("Burns(U)", ints{pan, time, n}, e, ints{0, 0, 0}, api.ErrNothing)
	for i, x := range []struct {
		b    api.Boil
		tick int
		want []int
		e    api.Errno
	}{{s, 0, ints{0, 1}, api.OK}, {s, 1, ints{1, 2}, api.OK}, {s, 2, nil, api.ErrNothing}, {told, 2, ints{2}, api.OK}, {u, 0, nil, api.OK}} {
		if l, e := thread.Damp(x.b, x.tick); e != x.e || !slices.Equal(l, x.want) {
			t.Error("Damp", i, l, e)
		}
	}
	l, e = thread.Plan(u)
	same("Plan(U)", l, e, ints{0, 2}, api.OK)
	l, e = thread.Plan(v)
	same("Plan(V)", l, e, nil, api.ErrNothing)
	l, e = thread.Lacking(v)
	same("Lacking(V)", l, e, ints{0, 1}, api.OK)
	l, e = thread.Lacking(told)
	same("Lacking(T)", l, e, ints{0}, api.OK)
	l, e = thread.Lacking(u)
	same("Lacking(U)", l, e, nil, api.ErrNothing)
	pan, n, e = thread.Next(s, 1)
	same("Next(S; 1)", ints{pan, n}, e, ints{1, 9}, api.OK)
}

// P2.1: Course.
func TestCourse(t *testing.T) {
	for i, x := range []struct {
		b             api.Boil
		starts, heats []int
		want          api.Errno
	}{
		{exampleS(), ints{5, 8}, ints{2, 2, 1}, api.OK},
		{exampleW(), ints{4, 8}, ints{1, 2, 3}, api.OK}, // proofs do not matter
		{exampleS(), nil, nil, api.ErrShortage}, {exampleS(), ints{9}, nil, api.ErrShortage}, {exampleS(), ints{9, 9, 9}, nil, api.ErrExcess},
		{exampleS(), ints{3, 8}, nil, api.ErrBarred}, {exampleS(), ints{7, 8}, nil, api.ErrBarred}, {exampleS(), ints{5, 9}, ints{2, 2, 1}, api.ErrBarred},
		{exampleS(), ints{5, 7}, ints{2, 2, 1, 1}, api.ErrBarred}, {exampleS(), ints{math.MaxInt, math.MinInt}, ints{}, api.ErrBarred},
		{exampleS(), ints{5, 8}, nil, api.ErrShortage}, {exampleS(), ints{5, 8}, ints{9, 9}, api.ErrShortage}, {exampleS(), ints{5, 8}, ints{9, 9, 9, 9}, api.ErrExcess},
		{exampleS(), ints{5, 8}, ints{0, 2, 1}, api.ErrBarred}, {exampleS(), ints{5, 8}, ints{3, 2, 1}, api.ErrBarred}, {exampleS(), ints{5, 8}, ints{2, 2, 4}, api.ErrBarred},
		{exampleS(), ints{5, 8}, ints{2, 2, math.MinInt}, api.ErrBarred},
	} {
		if l, e := thread.Course(x.b, x.starts, x.heats); e != x.want || (e == api.OK) != (len(l) > 0) {
			t.Errorf("%d: %v %d, want %d", i, l, e, x.want)
		}
	}
	samples(200, 1, false, func(b api.Boil, _ []run) {
		for _, r := range runs(b) {
			got, e := thread.Course(b, r.thick[0], r.heats)
			if e != api.OK || !slices.EqualFunc(got, r.thick, slices.Equal[ints]) {
				t.Fatalf("%+v: Course(%v, %v) = %v %d, want %v", b, r.thick[0], r.heats, got, e, r.thick)
			}
		}
	})
	// As thick as a pan can be.
	b := full(3)
	l, e := thread.Course(b, ints{40, 40, 40}, ints{4, 4, 4, 4, 4})
	if e != api.OK || len(l) != 6 || !slices.Equal(l[5], ints{100, 100, 100}) {
		t.Error(l, e)
	}
}

// P2.2, P2.10 and P2.19.
func TestCountAndWrong(t *testing.T) {
	contradicting := 0
	samples(1500, 2, false, func(b api.Boil, all []run) {
		n, e := thread.Count(b)
		if e != api.OK || n != len(all) {
			t.Fatalf("%+v: Count = %d %d, want %d", b, n, e, len(all))
		}
		wrong, e := thread.Wrong(b)
		if want := wrongBefore(b); e != api.OK || !slices.Equal(wrong, want) {
			t.Fatalf("%+v: Wrong = %v %d, want %v", b, wrong, e, want)
		}
		if n, _ := thread.Count(without(b, wrong)); n == 0 {
			t.Fatalf("%+v: without %v there is no truth", b, wrong)
		}
		if len(all) == 0 {
			contradicting++
		} else if len(wrong) > 0 {
			t.Fatalf("%+v: %v, but there is a truth", b, wrong)
		}
	})
	if contradicting < 100 {
		t.Error("contradicting boils:", contradicting)
	}
}

// Many proofs, most of them arbitrary: the fewest wrong ones are several, of pans that differ.
func TestWrongOfMany(t *testing.T) {
	r := rand.New(rand.NewPCG(3, 3))
	many := 0
	samples(150, 3, false, func(b api.Boil, _ []run) {
		b = only(b)
		for range 4 + r.IntN(5) {
			b = with(b, proof(r.IntN(len(b.Starts)), r.IntN(len(b.Heats)+1), r.IntN(4)))
		}
		got, e := thread.Wrong(b)
		if want := wrongBefore(b); e != api.OK || !slices.Equal(got, want) {
			t.Fatalf("%+v: Wrong = %v %d, want %v", b, got, e, want)
		}
		if len(got) > 2 {
			many++
		}
	})
	if many < 50 {
		t.Error("of several proofs:", many)
	}
	// Of two that contradict each other the first one; the one that contradicts two others; all, if each one is wrong.
	b := steady(2, 9)
	for i, x := range []struct {
		b    api.Boil
		want []int
	}{
		{only(full(1), proof(0, 0, 0), proof(0, 0, 1)), ints{0}},
		{only(full(1), proof(0, 0, 0), proof(0, 0, 1), proof(0, 0, 0)), ints{1}},
		{only(full(1), proof(0, 0, 1), proof(0, 5, 0), proof(0, 0, 0)), ints{0}},
		{with(b, slices.Repeat([]api.Proof{proof(0, 1, 3)}, 8)...), ints{0, 1, 2, 3, 4, 5, 6, 7}},
		{with(b, proof(0, 1, 1), proof(0, 2, 2), proof(0, 0, 1), proof(0, 0, 0)), ints{1, 3}},
		// One heat for all pans: that of the first proof, or that of the other ones.
		{with(api.Boil{Starts: []api.Span{span(0, 0), span(0, 0)}, Rates: ints{1, 1}, Marks: ints{1, 2, 3}, Heats: []api.Span{span(0, 3)}}, proof(0, 1, 3), proof(1, 1, 2), proof(0, 1, 2)), ints{0}},
		{with(api.Boil{Starts: []api.Span{span(0, 0), span(0, 0)}, Rates: ints{1, 1}, Marks: ints{1, 2, 3}, Heats: []api.Span{span(0, 3)}}, proof(0, 1, 3), proof(1, 1, 2), proof(0, 1, 3), proof(1, 1, 2)), ints{0, 2}},
	} {
		if got, e := thread.Wrong(x.b); e != api.OK || !slices.Equal(got, x.want) {
			t.Error(i, got, e, x.want)
		}
	}
}

// P2.3, P2.9 and P2.11.
func TestThickAndHeat(t *testing.T) {
	samples(500, 4, true, func(b api.Boil, all []run) {
		places(b, func(pan, time int) {
			want := bounds(all, func(r run) int { return r.thick[time][pan] })
			if got, e := thread.Thick(b, pan, time); e != api.OK || got != want {
				t.Fatalf("%+v: Thick(%d, %d) = %v %d, want %v", b, pan, time, got, e, want)
			}
		})
		for tick := range b.Heats {
			want := bounds(all, func(r run) int { return r.heats[tick] })
			if got, e := thread.Heat(b, tick); e != api.OK || got != want {
				t.Fatalf("%+v: Heat(%d) = %v %d, want %v", b, tick, got, e, want)
			}
		}
	})
}

// P2.11: with a proof less nothing becomes narrower.
func TestLessIsNotNarrower(t *testing.T) {
	samples(300, 5, true, func(b api.Boil, _ []run) {
		for i := range b.Proofs {
			less := without(b, ints{i})
			places(b, func(pan, time int) {
				now, _ := thread.Thick(b, pan, time)
				wide, e := thread.Thick(less, pan, time)
				if e != api.OK || wide.Lo > now.Lo || wide.Hi < now.Hi {
					t.Fatalf("%+v: without %d %v becomes %v", b, i, now, wide)
				}
			})
			for tick := range b.Heats {
				now, _ := thread.Heat(b, tick)
				wide, e := thread.Heat(less, tick)
				if e != api.OK || wide.Lo > now.Lo || wide.Hi < now.Hi {
					t.Fatalf("%+v: without %d %v becomes %v", b, i, now, wide)
				}
			}
		}
	})
}

// P2.12.
func TestThicker(t *testing.T) {
	samples(500, 6, true, func(b api.Boil, _ []run) {
		for tick := range b.Heats {
			heat, _ := thread.Heat(b, tick)
			for pan, rate := range b.Rates {
				before, _ := thread.Thick(b, pan, tick)
				after, _ := thread.Thick(b, pan, tick+1)
				if after.Lo < before.Lo+rate*heat.Lo || after.Hi > before.Hi+rate*heat.Hi {
					t.Fatalf("%+v: in the tick %d %v becomes %v", b, tick, before, after)
				}
			}
		}
	})
}

// P2.4 and P2.13.
func TestThreadsAndVerdict(t *testing.T) {
	samples(500, 7, true, func(b api.Boil, all []run) {
		places(b, func(pan, time int) {
			var want []int
			for kind, n := range tally(b, all, pan, time) {
				if n > 0 {
					want = append(want, kind)
				}
				if v, e := thread.Verdict(b, pan, time, kind); e != api.OK || v != verdict(n, len(all)) {
					t.Fatalf("%+v: Verdict(%d, %d, %d) = %d %d, but in %d of %d", b, pan, time, kind, v, e, n, len(all))
				}
			}
			if got, e := thread.Threads(b, pan, time); e != api.OK || !slices.Equal(got, want) {
				t.Fatalf("%+v: Threads(%d, %d) = %v %d, want %v", b, pan, time, got, e, want)
			}
		})
	})
	// The marks themselves, and one less.
	b := steady(1, 0)
	for thick, want := range map[int]int{0: api.Breaks, 7: api.Breaks, 8: api.Short, 11: api.Short, 12: api.Long, 15: api.Long, 16: api.Burnt, 40: api.Burnt} {
		b.Starts[0] = span(thick, thick)
		if got, e := thread.Threads(b, 0, 0); e != api.OK || !slices.Equal(got, ints{want}) {
			t.Error(thick, got, e)
		}
	}
}

// P2.5, P2.14 and P2.15.
func TestStrikeAndSurest(t *testing.T) {
	sure := 0
	samples(800, 8, true, func(b api.Boil, all []run) {
		for pan := range b.Starts {
			times, want := strikes(b, all, pan), api.OK
			if len(times) == 0 {
				want = api.ErrNothing
			} else {
				sure++
			}
			if got, e := thread.Strike(b, pan); e != want || !slices.Equal(got, times) {
				t.Fatalf("%+v: Strike(%d) = %v %d, want %v", b, pan, got, e, times)
			}
			best, most, want := 0, 0, api.ErrNothing
			for time := range len(b.Heats) + 1 {
				if n := tally(b, all, pan, time)[api.Long]; n > most {
					best, most, want = time, n, api.OK
				}
			}
			time, n, e := thread.Surest(b, pan)
			if time != best || n != most || e != want {
				t.Fatalf("%+v: Surest(%d) = %d %d %d, want %d %d %d", b, pan, time, n, e, best, most, want)
			}
			if e != api.OK || len(b.Proofs) == api.MaxProofs {
				continue
			}
			for other := range len(b.Heats) + 1 {
				m, _ := thread.Count(with(b, proof(pan, other, api.Long)))
				if m > n || other < time && m == n || other == time && m != n {
					t.Fatalf("%+v: Surest(%d) = %d %d, but %d at %d", b, pan, time, n, m, other)
				}
			}
		}
	})
	if sure < 200 {
		t.Error("pans that are struck:", sure)
	}
}

// P2.6 and P2.16.
func TestBurns(t *testing.T) {
	found := map[int]int{}
	samples(800, 9, true, func(b api.Boil, all []run) {
		pan, time, v, e := 0, 0, 0, api.ErrNothing
	first:
		for at := range len(b.Heats) + 1 {
			for p := range b.Starts {
				if n := tally(b, all, p, at)[api.Burnt]; n > 0 {
					pan, time, v, e = p, at, verdict(n, len(all)), api.OK
					break first
				}
			}
		}
		found[v]++
		p, at, w, f := thread.Burns(b)
		if p != pan || at != time || w != v || f != e {
			t.Fatalf("%+v: Burns = %d %d %d %d, want %d %d %d %d", b, p, at, w, f, pan, time, v, e)
		}
	})
	if found[0] < 50 || found[api.Yes] < 50 || found[api.Open] < 50 {
		t.Error("boils:", found)
	}
}

// P2.6 and P2.17.
func TestDamp(t *testing.T) {
	found := map[int]int{}
	samples(500, 10, true, func(b api.Boil, all []run) {
		for tick := range b.Heats {
			want, some := damp(b, all, tick)
			got, e := thread.Damp(b, tick)
			if !slices.Equal(got, want) || (e == api.OK) != some || !some && e != api.ErrNothing {
				t.Fatalf("%+v: Damp(%d) = %v %d, want %v", b, tick, got, e, want)
			}
			if some {
				found[len(got)]++
			} else {
				found[-1]++
			}
		}
	})
	if found[-1] < 50 || found[0] < 50 || found[1] < 50 || found[2] < 50 {
		t.Error("ticks:", found)
	}
	// What a pan weighs against what it bears: the first of three that together are too many, whatever the tick is.
	b := steady(5, 13)
	for tick, want := range []ints{{0, 1, 2}, {1, 2, 3}, {2, 3, 4}, nil, nil} {
		if got, _ := thread.Damp(b, tick); !slices.Equal(got, want) {
			t.Error(tick, got, want)
		}
	}
	// Burnt by one, and at first.
	for thick, want := range map[int]api.Errno{15: api.OK, 16: api.ErrNothing, 17: api.ErrNothing} {
		if _, e := thread.Damp(steady(1, 0, thick), 0); e != want {
			t.Error(thick, e)
		}
	}
	// Ticks that are damped keep the truths as they are: that a heat was great says that the pan was thin.
	thin := with(api.Boil{Starts: []api.Span{span(0, 9)}, Rates: ints{1}, Marks: ints{1, 10, 12}, Heats: []api.Span{span(0, 4), span(4, 4)}}, proof(0, 1, 1))
	if got, e := thread.Damp(thin, 0); e != api.OK || !slices.Equal(got, ints{1}) {
		t.Error(got, e)
	}
}

// P2.7 and P2.18.
func TestPlanAndLacking(t *testing.T) {
	found := map[int]int{}
	look := func(b api.Boil, all []run) {
		var times [][]int
		for pan := range b.Starts {
			times = append(times, strikes(b, all, pan))
		}
		good, want := plans(times), api.OK
		if len(good) == 0 {
			good, want = [][]int{nil}, api.ErrNothing
		}
		plan, e := thread.Plan(b)
		if e != want || !slices.Equal(plan, good[0]) {
			t.Fatalf("%+v: Plan = %v %d, want %v", b, plan, e, good[0])
		}
		pans, f := thread.Lacking(b)
		if (f == api.OK) == (e == api.OK) || f != api.OK && f != api.ErrNothing || !slices.Equal(pans, lacking(times)) {
			t.Fatalf("%+v: Lacking = %v %d, want %v", b, pans, f, lacking(times))
		}
		found[len(pans)]++
		for i := range pans {
			var theirs [][]int
			for _, pan := range slices.Delete(slices.Clone(pans), i, i+1) {
				theirs = append(theirs, times[pan])
			}
			if len(plans(theirs)) == 0 {
				t.Fatalf("%+v: Lacking = %v, but also without %d", b, pans, pans[i])
			}
		}
	}
	samples(400, 11, true, look)
	r := rand.New(rand.NewPCG(11, 3))
	for range 600 {
		starts := make(ints, 1+r.IntN(3))
		for i := range starts {
			starts[i] = 9 + r.IntN(4)
		}
		b := steady(1+r.IntN(4), starts...)
		look(b, truths(b))
	}
	if found[0] < 50 || found[1] < 50 || found[2] < 30 || found[3] < 5 {
		t.Error("pans:", found)
	}
	// The first pan gives the first time away, as it can be struck later and another one cannot; a time that was tried is free again.
	for i, x := range []struct {
		b             api.Boil
		plan, lacking []int
	}{
		{steady(3, 11, 12, 14), ints{1, 2, 0}, nil},
		{steady(2, 11, 10, 11), nil, ints{0, 1, 2}},
		{steady(2, 10, 9, 10), nil, ints{1}},
		{steady(4, 9, 9, 10), ints{3, 4, 2}, nil},
		{steady(4, 9, 9, 9), nil, ints{0, 1, 2}},
		{steady(3, 12, 9, 9), nil, ints{1, 2}},
	} {
		l, _ := thread.Plan(x.b)
		k, _ := thread.Lacking(x.b)
		if !slices.Equal(l, x.plan) || !slices.Equal(k, x.lacking) {
			t.Error(i, l, k)
		}
	}
}

// P2.8, P2.20 and P2.21.
func TestNext(t *testing.T) {
	something := 0
	samples(600, 12, true, func(b api.Boil, all []run) {
		for time := range len(b.Heats) + 1 {
			pan, left, want := 0, len(all), api.ErrNothing
			for p := range b.Starts {
				n := tally(b, all, p, time)
				if most := slices.Max(n[:]); most < left {
					pan, left, want = p, most, api.OK
				}
			}
			if want != api.OK {
				left = 0
			} else {
				something++
			}
			p, n, e := thread.Next(b, time)
			if p != pan || n != left || e != want {
				t.Fatalf("%+v: Next(%d) = %d %d %d, want %d %d %d", b, time, p, n, e, pan, left, want)
			}
		}
	})
	if something < 200 {
		t.Error("times at which a proof helps:", something)
	}
	// Of pans that are equally good the first one; also with MaxProofs proofs.
	b := steady(1, 0, 0, 0)
	b.Starts = []api.Span{span(8, 8), span(7, 8), span(7, 8)}
	if pan, left, e := thread.Next(b, 0); pan != 1 || left != 2 || e != api.OK {
		t.Error(pan, left, e)
	}
	b.Proofs = slices.Repeat([]api.Proof{proof(0, 0, 1)}, api.MaxProofs)
	if pan, left, e := thread.Next(b, 0); pan != 1 || left != 2 || e != api.OK {
		t.Error(pan, left, e)
	}
}

// P2.8: Add.
func TestAdd(t *testing.T) {
	r := rand.New(rand.NewPCG(13, 3))
	found := map[api.Errno]int{}
	samples(500, 13, false, func(b api.Boil, all []run) {
		p := proof(r.IntN(len(b.Starts)), r.IntN(len(b.Heats)+1), r.IntN(4))
		want := api.OK
		if len(all) > 0 && !slices.ContainsFunc(all, func(r run) bool { return r.right(b, p) }) {
			want = api.ErrConflict
		}
		found[want]++
		got, e := thread.Add(b, p)
		due := with(b, p)
		if want != api.OK {
			due = api.Boil{}
		}
		if e != want || !sameBoil(got, due) {
			t.Fatalf("%+v: Add(%v) = %+v %d, want %d", b, p, got, e, want)
		}
	})
	if found[api.OK] < 100 || found[api.ErrConflict] < 100 {
		t.Error(found)
	}
	// A boil without a truth takes whatever is proved; as long as there is room.
	if b, e := thread.Add(exampleW(), proof(0, 0, api.Burnt)); e != api.OK || len(b.Proofs) != 3 || b.Proofs[2] != proof(0, 0, api.Burnt) {
		t.Error(b, e)
	}
	b := steady(1, 0)
	for n := range api.MaxProofs {
		more, e := thread.Add(b, proof(0, 1, api.Breaks))
		if e != api.OK || len(more.Proofs) != n+1 {
			t.Fatal(n, more, e)
		}
		b = more
	}
	for _, p := range []api.Proof{proof(0, 1, 0), proof(0, 1, 3), proof(9, 9, 9)} {
		if more, e := thread.Add(b, p); e != api.ErrExcess || !sameBoil(more, api.Boil{}) {
			t.Error(p, more, e)
		}
	}
}

func sameBoil(a, b api.Boil) bool {
	return slices.Equal(a.Starts, b.Starts) && slices.Equal(a.Rates, b.Rates) && slices.Equal(a.Marks, b.Marks) && slices.Equal(a.Heats, b.Heats) && slices.Equal(a.Proofs, b.Proofs)
}

// P2.9: proofs that are right in a run leave it a truth.
func TestTrue(t *testing.T) {
	r := rand.New(rand.NewPCG(14, 3))
	samples(400, 14, false, func(b api.Boil, _ []run) {
		all := runs(b)
		told := all[r.IntN(len(all))]
		b.Proofs = nil
		for range r.IntN(api.MaxProofs + 1) {
			p := proof(r.IntN(len(b.Starts)), r.IntN(len(b.Heats)+1), 0)
			p.Thread = told.thread(b, p.Pan, p.Tick)
			more, e := thread.Add(b, p)
			if e != api.OK {
				t.Fatalf("%+v: Add(%v): %d", b, p, e)
			}
			b = more
		}
		if wrong, e := thread.Wrong(b); e != api.OK || len(wrong) > 0 {
			t.Fatalf("%+v: Wrong = %v %d", b, wrong, e)
		}
		places(b, func(pan, time int) {
			s, e := thread.Thick(b, pan, time)
			l, f := thread.Threads(b, pan, time)
			if n := told.thick[time][pan]; e != api.OK || f != api.OK || n < s.Lo || n > s.Hi || !slices.Contains(l, told.thread(b, pan, time)) {
				t.Fatalf("%+v: %v is not within %v, %v", b, told, s, l)
			}
		})
		for tick, heat := range told.heats {
			if s, e := thread.Heat(b, tick); e != api.OK || heat < s.Lo || heat > s.Hi {
				t.Fatalf("%+v: %v is not within %v", b, told, s)
			}
		}
	})
}

// P2.21.
func TestMore(t *testing.T) {
	samples(300, 15, false, func(b api.Boil, _ []run) {
		if len(b.Proofs) == api.MaxProofs {
			return
		}
		all, _ := thread.Count(b)
		places(b, func(pan, time int) {
			sum := 0
			for kind := range 4 {
				n, e := thread.Count(with(b, proof(pan, time, kind)))
				if sum += n; e != api.OK || n > all {
					t.Fatalf("%+v: %d truths, with a proof more %d", b, all, n)
				}
			}
			if sum != all {
				t.Fatalf("%+v: %d truths, by their threads %d", b, all, sum)
			}
		})
	})
}

// renumbered returns a boil whose pan i was the pan old[i].
func renumbered(b api.Boil, old []int) api.Boil {
	c := api.Boil{Marks: b.Marks, Heats: b.Heats}
	for _, pan := range old {
		c.Starts, c.Rates = append(c.Starts, b.Starts[pan]), append(c.Rates, b.Rates[pan])
	}
	for _, p := range b.Proofs {
		c.Proofs = append(c.Proofs, proof(slices.Index(old, p.Pan), p.Tick, p.Thread))
	}
	return c
}

// P2.22: what does not say which of several pans is the first one.
func TestRenumbered(t *testing.T) {
	r := rand.New(rand.NewPCG(16, 3))
	samples(300, 16, false, func(b api.Boil, _ []run) {
		old := r.Perm(len(b.Starts))
		c := renumbered(b, old)
		for now, pan := range old {
			for time := range len(b.Heats) + 1 {
				was := answers(b, asked{pan: pan, time: time, tick: min(time, len(b.Heats)-1), thread: api.Long, proof: proof(pan, time, api.Long)})
				is := answers(c, asked{pan: now, time: time, tick: min(time, len(b.Heats)-1), thread: api.Long, proof: proof(now, time, api.Long)})
				for i, x := range was {
					y := is[i]
					switch x.name {
					case "Course":
						continue
					case "Add":
						if x.e == api.OK && !sameBoil(renumbered(x.results[0].(api.Boil), old), y.results[0].(api.Boil)) {
							t.Fatalf("%+v: %v, renumbered %v: %v", b, x.results, old, y.results)
						}
						x.results, y.results = nil, nil
					case "Plan", "Lacking":
						x.results, y.results = []any{len(x.results[0].([]int))}, []any{len(y.results[0].([]int))}
					case "Burns":
						// The same time, but of several pans another one can be the first; its verdict is another one, too.
						x.results, y.results = x.results[1:2], y.results[1:2]
					case "Next":
						x.results, y.results = x.results[1:], y.results[1:]
					}
					if x.e != y.e || !slices.EqualFunc(x.results, y.results, reflect.DeepEqual) {
						t.Fatalf("%+v: %s: %v %d, renumbered %v: %v %d", b, x.name, x.results, x.e, old, y.results, y.e)
					}
				}
			}
		}
	})
}

// All that the limits let be, of one pan, against the reference; of three pans, that there are as many truths as there must be.
func TestLimits(t *testing.T) {
	for i, proofs := range [][]api.Proof{nil, {proof(0, 5, 3)}, {proof(0, 2, 1), proof(0, 4, 2), proof(0, 5, 2)}} {
		b := full(1, proofs...)
		all := truths(b)
		if n, e := thread.Count(b); e != api.OK || n != len(all) {
			t.Error(i, n, e, len(all))
		}
		for time := range 6 {
			want := bounds(all, func(r run) int { return r.thick[time][0] })
			got, e := thread.Thick(b, 0, time)
			n := tally(b, all, 0, time)
			v, f := thread.Verdict(b, 0, time, api.Burnt)
			if e != api.OK || f != api.OK || got != want || v != verdict(n[api.Burnt], len(all)) {
				t.Error(i, time, got, want, v, n)
			}
		}
	}
	if n, e := thread.Count(full(3)); e != api.OK || n != 41*41*41*3125 {
		t.Error(n, e)
	}
	// At first each thickness from 20 to 39 is short.
	if n, e := thread.Count(full(3, proof(1, 0, 1))); e != api.OK || n != 41*20*41*3125 {
		t.Error(n, e)
	}
	if l, e := thread.Damp(full(3, proof(0, 0, 1), proof(1, 0, 1), proof(2, 0, 2)), 0); e != api.OK || !slices.Equal(l, ints{0, 1, 2, 3}) {
		t.Error(l, e)
	}
}

// P1, R3, R5 and R7: whatever the arguments are.
func TestAnyArguments(t *testing.T) {
	r := rand.New(rand.NewPCG(17, 3))
	odd := func() int {
		switch r.IntN(8) {
		case 0:
			return math.MaxInt
		case 1:
			return math.MinInt
		case 2:
			return -1
		}
		return r.IntN(4)
	}
	oddly := func() (list []int) {
		for range r.IntN(5) {
			list = append(list, odd())
		}
		return list
	}
	for range 3000 {
		b := api.Boil{Rates: oddly(), Marks: oddly()}
		for range r.IntN(5) {
			b.Starts = append(b.Starts, span(odd(), odd()))
		}
		for range r.IntN(7) {
			b.Heats = append(b.Heats, span(odd(), odd()))
		}
		if r.IntN(4) == 0 {
			b = exampleS()
		}
		for range r.IntN(9) {
			b.Proofs = append(b.Proofs, proof(odd(), odd(), odd()))
		}
		a := asked{odd(), odd(), odd(), odd(), oddly(), oddly(), proof(odd(), odd(), odd())}
		errs, clean := failures(b, a)
		e := thread.Check(b)
		for name, f := range errs {
			if !clean || e != api.OK && f != e {
				t.Fatalf("%+v, %+v: %s: %d, Check %d, clean %t", b, a, name, f, e, clean)
			}
		}
	}
}

// R2, R4 and R6: no call changes an argument, nor memory behind it, and all calls of the same say the same, side by side too.
func TestNothingKept(t *testing.T) {
	samples(60, 18, false, func(b api.Boil, _ []run) {
		// There is room behind the lists, in which something stands.
		b.Heats = append(slices.Clone(b.Heats), span(7, 7))[:len(b.Heats)]
		b.Proofs = append(slices.Clone(b.Proofs), proof(7, 7, 7))[:len(b.Proofs)]
		a := asked{thread: api.Long, proof: proof(0, 0, api.Short)}
		for pan := range b.Starts {
			a.starts = append(a.starts, b.Starts[pan].Lo)
		}
		for tick := range b.Heats {
			a.heats = append(a.heats, b.Heats[tick].Hi)
		}
		before, lists := copied(b), [][]int{slices.Clone(a.starts), slices.Clone(a.heats)}
		want := answers(b, a)
		var calls sync.WaitGroup
		for range 4 {
			calls.Go(func() {
				if got := answers(b, a); !reflect.DeepEqual(got, want) {
					t.Errorf("%+v: %v, then %v", b, want, got)
				}
			})
		}
		calls.Wait()
		behind := b.Heats[:len(b.Heats)+1][len(b.Heats)] == span(7, 7) && b.Proofs[:len(b.Proofs)+1][len(b.Proofs)] == proof(7, 7, 7)
		if !sameBoil(before, b) || !behind || !slices.Equal(a.starts, lists[0]) || !slices.Equal(a.heats, lists[1]) {
			t.Fatalf("%+v became %+v", before, b)
		}
	})
	// Nil and empty lists mean the same.
	empty := exampleU()
	empty.Proofs = []api.Proof{}
	a := asked{starts: ints{12, 10}, heats: ints{1, 1}, thread: api.Long, proof: proof(0, 0, api.Long)}
	if got, want := answers(empty, a), answers(exampleU(), a); !reflect.DeepEqual(got, want) {
		t.Error(got, want)
	}
	// A result is new memory.
	b := exampleS()
	more, _ := thread.Add(b, proof(1, 0, api.Short))
	more.Starts[0], more.Rates[0], more.Marks[0], more.Heats[0], more.Proofs[0] = span(9, 9), 3, 1, span(4, 4), proof(1, 1, 1)
	if !sameBoil(b, exampleS()) {
		t.Error("a result is shared:", b)
	}
	course, _ := thread.Course(b, ints{5, 8}, ints{2, 2, 1})
	course[0] = append(course[0], 99)
	if course[1][0] != 7 {
		t.Error("rows share memory:", course)
	}
}

func copied(b api.Boil) api.Boil {
	return api.Boil{Starts: slices.Clone(b.Starts), Rates: slices.Clone(b.Rates), Marks: slices.Clone(b.Marks), Heats: slices.Clone(b.Heats), Proofs: slices.Clone(b.Proofs)}
}
