package weigh_test

import (
	"math"
	"math/rand/v2"
	"reflect"
	"slices"
	"sync"
	"testing"

	"muscovado/api"
	"muscovado/weigh"
)

// answers returns what all functions say of works, for the arguments a, b and err.
func answers(w api.Works, a, b, err int) []any {
	var list []any
	add := func(x ...any) { list = append(list, x) }
	add(weigh.Check(w))
	one := func(x any, e api.Errno) { add(x, e) }
	can, e := weigh.Can(w)
	one(can, e)
	for _, f := range []func(api.Works) ([]int, api.Errno){weigh.Truth, weigh.Sure, weigh.Knots, weigh.Untrue, weigh.Useless, weigh.Thieves} {
		l, e := f(w)
		one(slices.Concat(l, []int{}), e)
	}
	for _, f := range []func(api.Works) (api.Span, api.Errno){weigh.Lost, weigh.Stands} {
		s, e := f(w)
		one(s, e)
	}
	for _, f := range []func(api.Works, int) (api.Span, api.Errno){weigh.Weight, weigh.Loss} {
		s, e := f(w, a)
		one(s, e)
	}
	v, e := weigh.Heavier(w, a, b)
	one(v, e)
	more, e := weigh.Beyond(w, a)
	one(more, e)
	next, left, e := weigh.Next(w, err)
	one([2]int{next, left}, e)
	return list
}

// failures returns the errors of all functions but Check, and whether all other results are zero values wherever there is one.
func failures(w api.Works, a, b, err int) (errs []api.Errno, zero bool) {
	zero = true
	for _, x := range answers(w, a, b, err)[1:] {
		pair := x.([]any)
		e := pair[1].(api.Errno)
		errs = append(errs, e)
		if v := reflect.ValueOf(pair[0]); e != api.OK && !v.IsZero() && !(v.Kind() == reflect.Slice && v.Len() == 0) {
			zero = false
		}
	}
	return errs, zero
}

func TestCheck(t *testing.T) {
	change := func(f func(w *api.Works)) api.Works {
		w := exampleS()
		f(&w)
		return w
	}
	of := func(v int, x api.Vessel) api.Works {
		return change(func(w *api.Works) { w.Vessels[v] = x })
	}
	vessels := func(n int) api.Works {
		return api.Works{Vessels: slices.Repeat([]api.Vessel{vessel(-1, 0, 0, 0)}, n)}
	}
	readings := func(n int) api.Works {
		return api.Works{Vessels: exampleU().Vessels, Readings: make([]api.Reading, n)}
	}
	for i, x := range []struct {
		w    api.Works
		want api.Errno
	}{
		{exampleS(), api.OK}, {exampleW(), api.OK}, {exampleU(), api.OK},
		{vessels(0), api.ErrShortage}, {vessels(6), api.OK}, {vessels(7), api.ErrExcess},
		{api.Works{Readings: make([]api.Reading, 7)}, api.ErrShortage},
		{of(0, vessel(-2, 0, 0, 0)), api.ErrMissing}, {of(0, vessel(0, 0, 0, 0)), api.ErrMissing},
		{of(3, vessel(3, 0, 0, 0)), api.ErrMissing}, {of(3, vessel(2, 0, 0, 0)), api.OK}, {of(1, vessel(2, 0, 0, 0)), api.ErrMissing},
		{of(1, vessel(1, 0, 0, 0)), api.ErrMissing}, {of(2, vessel(-1, 0, 0, 0)), api.OK},
		{of(0, vessel(-1, -1, 0, 0)), api.ErrValue}, {of(0, vessel(-1, 0, 0, 0)), api.OK}, {of(0, vessel(-1, 41, 0, 0)), api.ErrValue},
		{of(0, vessel(-1, 0, -1, 0)), api.ErrValue}, {of(0, vessel(-1, 0, 21, 21)), api.ErrValue}, {of(0, vessel(-1, 0, 0, 21)), api.ErrValue},
		{of(0, vessel(-1, 0, 0, -1)), api.ErrValue}, {of(0, vessel(-1, 0, 20, 20)), api.OK}, {of(0, vessel(-1, 0, 4, 1)), api.ErrSequence},
		{of(3, vessel(1, 0, 4, 1)), api.ErrSequence}, // of a last one, too
		// The first error of one vessel, and then of the next one.
		{of(0, vessel(5, 99, 99, 0)), api.ErrMissing}, {of(0, vessel(-1, 99, 3, 2)), api.ErrValue}, {of(0, vessel(-1, 0, 21, 0)), api.ErrValue},
		{change(func(w *api.Works) { w.Vessels[1].Loss, w.Vessels[2].From = span(2, 1), 9 }), api.ErrSequence},
		{change(func(w *api.Works) { w.Vessels[3].Room, w.Readings = 41, make([]api.Reading, 7) }), api.ErrValue},
		{readings(6), api.OK}, {readings(7), api.ErrExcess},
		{exampleS(reading(-1, 0, 0, 0)), api.ErrMissing}, {exampleS(reading(4, 0, 0, 0)), api.ErrMissing},
		{exampleS(reading(3, -1, 0, 0)), api.ErrMissing}, {exampleS(reading(3, 3, 0, 0)), api.ErrMissing}, {exampleS(reading(3, 2, 0, 0)), api.OK},
		{exampleS(reading(0, 0, -1, 0)), api.ErrValue}, {exampleS(reading(0, 0, 61, 0)), api.ErrValue}, {exampleS(reading(0, 0, 60, 9)), api.OK},
		{exampleS(reading(0, 0, 0, -1)), api.ErrValue}, {exampleS(reading(0, 0, 0, 10)), api.ErrValue},
		{exampleS(reading(0, 3, 61, 0)), api.ErrMissing}, {exampleS(reading(0, 0, 61, 0), reading(9, 0, 0, 0)), api.ErrValue},
	} {
		if e := weigh.Check(x.w); e != x.want {
			t.Errorf("%d: Check = %d, want %d", i, e, x.want)
		}
		if x.want == api.OK {
			continue
		}
		// Check's error comes before that of any other argument, and alone.
		errs, zero := failures(x.w, 9, -1, 99)
		if !zero || slices.ContainsFunc(errs, func(e api.Errno) bool { return e != x.want }) {
			t.Errorf("%d: %v, zero %t", i, errs, zero)
		}
	}
}

func TestArgumentsAndConflict(t *testing.T) {
	const no, miss, value, conflict = api.OK, api.ErrMissing, api.ErrValue, api.ErrConflict
	// In the order of answers: Can, Truth, Sure, Knots, Untrue, Useless, Thieves, Lost, Stands, Weight, Loss, Heavier, Beyond, Next.
	for i, x := range []struct {
		w         api.Works
		a, b, err int
		want      []api.Errno
	}{
		{exampleS(), 0, 1, 0, make([]api.Errno, 14)},
		{exampleS(), 4, 0, 10, []api.Errno{no, no, no, no, no, no, no, no, no, miss, miss, miss, miss, value}},
		{exampleS(), -1, 0, -1, []api.Errno{no, no, no, no, no, no, no, no, no, miss, miss, miss, miss, value}},
		{exampleS(), 0, 4, 0, []api.Errno{no, no, no, no, no, no, no, no, no, no, no, miss, no, no}},
		{exampleS(), 0, -1, 0, []api.Errno{no, no, no, no, no, no, no, no, no, no, no, miss, no, no}},
		{exampleW(), 1, 1, 0, []api.Errno{no, conflict, conflict, no, no, conflict, no, conflict, conflict, conflict, conflict, conflict, no, conflict}},
		{exampleW(), 9, 1, 10, []api.Errno{no, conflict, conflict, no, no, conflict, no, conflict, conflict, miss, miss, miss, miss, value}},
		{exampleW(), 1, 9, 9, []api.Errno{no, conflict, conflict, no, no, conflict, no, conflict, conflict, conflict, conflict, miss, no, conflict}},
	} {
		errs, zero := failures(x.w, x.a, x.b, x.err)
		if !zero || !slices.Equal(errs, x.want) {
			t.Errorf("%d: %v, zero %t, want %v", i, errs, zero, x.want)
		}
	}
}

func TestExamples(t *testing.T) {
	type ints = []int
	lists := func(name string, got []int, e api.Errno, want []int, wantE api.Errno) {
		if e != wantE || !slices.Equal(got, want) {
			t.Errorf("%s: %v %d, want %v %d", name, got, e, want, wantE)
		}
	}
	s, w, u := exampleS(), exampleW(), exampleU()
	can, _ := weigh.Can(s)
	cannot, _ := weigh.Can(w)
	if !can || cannot {
		t.Error("Can", can, cannot)
	}
	l, e := weigh.Truth(s)
	lists("Truth(S)", l, e, ints{29, 15, 11, 15}, api.OK)
	l, e = weigh.Truth(w)
	lists("Truth(W)", l, e, nil, api.ErrConflict)
	want := []api.Span{span(29, 31), span(1, 4), span(15, 17), span(0, 2), span(11, 13), span(0, 0), span(15, 15), span(0, 0)}
	if got := found(s); !slices.Equal(got, want) {
		t.Error("Weight, Loss", got)
	}
	a, _ := weigh.Lost(s)
	b, _ := weigh.Stands(s)
	if a != span(1, 5) || b != span(26, 28) {
		t.Error("Lost, Stands", a, b)
	}
	l, e = weigh.Sure(s)
	lists("Sure(S)", l, e, ints{3}, api.OK)
	l, e = weigh.Sure(u)
	lists("Sure(U)", l, e, nil, api.OK)
	for _, x := range []struct{ a, b, want int }{{1, 2, api.Yes}, {2, 1, api.No}, {1, 3, api.Open}, {3, 1, api.No}, {2, 2, api.No}} {
		if v, e := weigh.Heavier(s, x.a, x.b); v != x.want || e != api.OK {
			t.Error("Heavier", x, v, e)
		}
	}
	l, e = weigh.Knots(w)
	lists("Knots(W)", l, e, ints{1}, api.OK)
	l, e = weigh.Knots(s)
	lists("Knots(S)", l, e, nil, api.OK)
	l, e = weigh.Untrue(w)
	lists("Untrue(W)", l, e, ints{0}, api.OK)
	l, e = weigh.Untrue(s)
	lists("Untrue(S)", l, e, nil, api.OK)
	l, e = weigh.Useless(s)
	lists("Useless(S)", l, e, nil, api.OK)
	l, e = weigh.Useless(exampleS(reading(3, 2, 16, 1)))
	lists("Useless", l, e, ints{3}, api.OK)
	v, left, e := weigh.Next(s, 0)
	lists("Next(S)", ints{v, left}, e, ints{0, 3}, api.OK)
	v, left, e = weigh.Next(u, 0)
	lists("Next(U)", ints{v, left}, e, ints{0, 0}, api.ErrNothing)
	n, e := weigh.Beyond(w, 1)
	lists("Beyond(W, 1)", ints{n}, e, ints{2}, api.OK)
	n, e = weigh.Beyond(w, 0)
	lists("Beyond(W, 0)", ints{n}, e, ints{0}, api.ErrNothing)
	n, e = weigh.Beyond(s, 1)
	lists("Beyond(S, 1)", ints{n}, e, ints{0}, api.OK)
	l, e = weigh.Thieves(w)
	lists("Thieves(W)", l, e, ints{1}, api.OK)
	l, e = weigh.Thieves(s)
	lists("Thieves(S)", l, e, nil, api.OK)
}

// P1.1 and P1.11.
func TestTruth(t *testing.T) {
	samples(600, 1, false, func(w api.Works, all [][]int) {
		can, e := weigh.Can(w)
		if e != api.OK || can != (len(all) > 0) {
			t.Fatalf("%+v: Can = %t %d, want %d truths", w, can, e, len(all))
		}
		got, e := weigh.Truth(w)
		if len(all) == 0 {
			if got != nil || e != api.ErrConflict {
				t.Fatalf("%+v: Truth = %v %d", w, got, e)
			}
		} else if e != api.OK || !isTruth(w, got) || !slices.Equal(got, all[0]) {
			t.Fatalf("%+v: Truth = %v %d, want %v", w, got, e, all[0])
		}
	})
}

// P1.2, P1.3 and P1.9, with P1.10.
func TestBounds(t *testing.T) {
	samples(600, 2, true, func(w api.Works, all [][]int) {
		if got, want := found(w), every(w); !slices.Equal(got, want) {
			t.Fatalf("%+v: Weight and Loss are %v, want %v", w, got, want)
		}
		a, e := weigh.Lost(w)
		b, f := weigh.Stands(w)
		if e != api.OK || a != bounds(all, func(t []int) int { return lost(w, t) }) {
			t.Fatalf("%+v: Lost = %v %d", w, a, e)
		}
		if f != api.OK || b != bounds(all, func(t []int) int { return stands(w, t) }) {
			t.Fatalf("%+v: Stands = %v %d", w, b, f)
		}
		var sure []int
		for v := range w.Vessels {
			weights := map[int]bool{}
			for _, truth := range all {
				weights[truth[v]] = true
			}
			if len(weights) == 1 {
				sure = append(sure, v)
			}
			if s, _ := weigh.Weight(w, v); s.Hi-s.Lo+1 != len(weights) {
				t.Fatalf("%+v: not all of %v are weights of %d", w, s, v)
			}
		}
		if got, e := weigh.Sure(w); e != api.OK || !slices.Equal(got, sure) {
			t.Fatalf("%+v: Sure = %v %d, want %v", w, got, e, sure)
		}
	})
}

func TestBoundsOfLargeWorks(t *testing.T) {
	chain, star := api.Works{}, api.Works{}
	for v := range api.MaxVessels {
		chain.Vessels = append(chain.Vessels, vessel(v-1, api.MaxRoom, 0, api.MaxLoss))
		star.Vessels = append(star.Vessels, vessel(min(0, v-1), api.MaxRoom, 2, api.MaxLoss))
	}
	sources := api.Works{Vessels: slices.Repeat([]api.Vessel{vessel(-1, api.MaxRoom, 0, api.MaxLoss)}, api.MaxVessels)}
	// Rooms of what is filled that are greater than that of the vessel which fills it.
	small := api.Works{Vessels: []api.Vessel{vessel(-1, 3, 1, 20), vessel(0, 40, 0, 0), vessel(0, 40, 0, 0)}}
	for i, x := range []struct {
		w                    api.Works
		weight, loss         api.Span // of the vessel 0
		last, lost, standing api.Span
	}{
		{chain, span(0, 40), span(0, 20), span(0, 40), span(0, 40), span(0, 40)},
		{plus(chain, reading(0, 0, 40, 0), reading(5, 0, 1, 1)), span(40, 40), span(0, 20), span(0, 2), span(38, 40), span(0, 2)},
		{star, span(2, 40), span(2, 20), span(0, 38), span(2, 20), span(0, 38)},
		{plus(star, reading(0, 0, 40, 0), reading(1, 1, 18, 0)), span(40, 40), span(2, 20), span(0, 20), span(2, 20), span(20, 38)},
		{sources, span(0, 40), span(0, 0), span(0, 40), span(0, 0), span(0, 240)},
		{plus(sources, reading(0, 0, 60, 9)), span(0, 0), span(0, 0), span(0, 0), span(0, 0), span(0, 0)},
		{plus(sources, reading(0, 0, 45, 9)), span(36, 40), span(0, 0), span(0, 40), span(0, 0), span(36, 240)},
		{small, span(1, 3), span(1, 3), span(0, 2), span(1, 3), span(0, 2)},
	} {
		weight, e := weigh.Weight(x.w, 0)
		loss, _ := weigh.Loss(x.w, 0)
		last, _ := weigh.Weight(x.w, len(x.w.Vessels)-1)
		all, _ := weigh.Lost(x.w)
		standing, _ := weigh.Stands(x.w)
		if i == 5 {
			if e != api.ErrConflict {
				t.Error(i, e)
			}
			continue
		}
		if weight != x.weight || loss != x.loss || last != x.last || all != x.lost || standing != x.standing {
			t.Error(i, weight, loss, last, all, standing, e)
		}
	}
}

// P1.4 and P1.18.
func TestHeavier(t *testing.T) {
	samples(400, 3, true, func(w api.Works, all [][]int) {
		for a := range w.Vessels {
			for b := range w.Vessels {
				above := 0
				for _, truth := range all {
					if truth[a] > truth[b] {
						above++
					}
				}
				want := api.Open
				switch above {
				case 0:
					want = api.No
				case len(all):
					want = api.Yes
				}
				got, e := weigh.Heavier(w, a, b)
				if e != api.OK || got != want || a == b && got != api.No {
					t.Fatalf("%+v: Heavier(%d, %d) = %d %d, want %d", w, a, b, got, e, want)
				}
				if other, _ := weigh.Heavier(w, b, a); other == api.Yes && got == api.Yes {
					t.Fatalf("%+v: %d and %d are both heavier", w, a, b)
				}
			}
		}
	})
}

// P1.5 and P1.13.
func TestKnots(t *testing.T) {
	samples(600, 4, false, func(w api.Works, all [][]int) {
		has := func(v int) bool {
			b, _ := branch(w, v)
			return len(truths(b)) > 0
		}
		var want []int
		for v := range w.Vessels {
			if !has(v) && !slices.ContainsFunc(fills(w, v), func(f int) bool { return !has(f) }) {
				want = append(want, v)
			}
		}
		got, e := weigh.Knots(w)
		if e != api.OK || !slices.Equal(got, want) || (len(all) > 0) != (len(got) == 0) {
			t.Fatalf("%+v: Knots = %v %d, want %v", w, got, e, want)
		}
		bare := api.Works{Vessels: w.Vessels}
		if can, _ := weigh.Can(bare); !can {
			return // what contradicts itself without readings is a knot without them, too
		}
		for _, v := range got {
			_, old := branch(w, v)
			silent := w
			silent.Readings = slices.DeleteFunc(slices.Clone(w.Readings), func(r api.Reading) bool { return slices.Contains(old, r.Vessel) })
			if left, _ := weigh.Knots(silent); slices.Contains(left, v) {
				t.Fatalf("%+v: %d is still a knot without the readings of its branch", w, v)
			}
		}
	})
	// Two knots in two branches, in one vessel above the other none.
	w := exampleS(reading(1, 0, 20, 0), reading(2, 2, 30, 0))
	if got, _ := weigh.Knots(w); !slices.Equal(got, []int{1, 2}) {
		t.Error("two knots:", got)
	}
	// One without readings: there is more lost than there is room.
	w = api.Works{Vessels: []api.Vessel{vessel(-1, 2, 3, 5), vessel(0, 4, 0, 0)}}
	if got, _ := weigh.Knots(w); !slices.Equal(got, []int{0}) {
		t.Error("no readings:", got)
	}
}

// P1.5 and P1.14.
func TestUntrue(t *testing.T) {
	samples(600, 5, false, func(w api.Works, all [][]int) {
		var want []int
		found := false
		for _, set := range scaleSets() {
			can := len(truths(silenced(w, set))) > 0
			if can && !found {
				want, found = set, true
			}
		}
		got, e := weigh.Untrue(w)
		if found != (e == api.OK) || !found && e != api.ErrNothing || !slices.Equal(got, want) {
			t.Fatalf("%+v: Untrue = %v %d, want %v %t", w, got, e, want, found)
		}
	})
	u := exampleU()
	for i, x := range []struct {
		readings []api.Reading
		want     []int
	}{
		{[]api.Reading{reading(0, 1, 9, 0), reading(0, 2, 8, 0)}, []int{1}},
		{[]api.Reading{reading(0, 2, 20, 0)}, []int{2}},
		{[]api.Reading{reading(0, 0, 20, 0), reading(0, 1, 20, 0), reading(0, 2, 9, 0)}, []int{0, 1}},
		{[]api.Reading{reading(0, 0, 20, 0), reading(0, 1, 9, 0), reading(0, 2, 20, 0)}, []int{0, 2}},
		{[]api.Reading{reading(0, 0, 9, 0), reading(0, 1, 20, 0), reading(0, 2, 20, 0)}, []int{1, 2}},
		{[]api.Reading{reading(0, 0, 1, 0), reading(0, 1, 2, 0), reading(0, 2, 3, 0)}, []int{0, 1}},
		{[]api.Reading{reading(0, 0, 20, 0), reading(0, 1, 20, 0), reading(0, 2, 20, 0)}, []int{0, 1, 2}},
	} {
		if got, e := weigh.Untrue(plus(u, x.readings...)); e != api.OK || !slices.Equal(got, x.want) {
			t.Error(i, got, e, x.want)
		}
	}
}

// P1.6 and P1.15.
func TestUseless(t *testing.T) {
	samples(400, 6, true, func(w api.Works, all [][]int) {
		now := every(w)
		var want []int
		for r := range w.Readings {
			if slices.Equal(every(without(w, r)), now) {
				want = append(want, r)
			}
		}
		got, e := weigh.Useless(w)
		if e != api.OK || !slices.Equal(got, want) {
			t.Fatalf("%+v: Useless = %v %d, want %v", w, got, e, want)
		}
		for r := range w.Readings {
			wider := false
			for i, before := range found(without(w, r)) {
				wider = wider || before.Lo < now[i].Lo || before.Hi > now[i].Hi
			}
			if wider == slices.Contains(got, r) {
				t.Fatalf("%+v: without the reading %d a bound is wider: %t", w, r, wider)
			}
		}
	})
	// Of two that say the same, each one alone can be left out; at most MaxReadings readings.
	same := plus(exampleU(), slices.Repeat([]api.Reading{reading(0, 0, 4, 1)}, api.MaxReadings)...)
	if got, e := weigh.Useless(same); e != api.OK || !slices.Equal(got, []int{0, 1, 2, 3, 4, 5}) {
		t.Error("the same:", got, e)
	}
}

// P1.7 and P1.16.
func TestNext(t *testing.T) {
	something := 0
	r := rand.New(rand.NewPCG(7, 2))
	samples(800, 7, true, func(w api.Works, all [][]int) {
		// Much may be lost, and some vessels are weighed well, so that one weighing more can say something.
		truth := all[r.IntN(len(all))]
		for v := range w.Vessels {
			w = loosened(w, v, r.IntN(5))
			if len(w.Readings) < api.MaxReadings && r.IntN(2) == 0 {
				w = plus(w, reading(v, 0, truth[v], 0))
			}
		}
		all = truths(w)
		for _, err := range []int{0, 1, 2, api.MaxErr} {
			now := bounds(all, func(t []int) int { return lost(w, t) })
			vessel, left := -1, now.Hi-now.Lo+1
			for v := range w.Vessels {
				if n := leaves(w, v, err); n < left {
					vessel, left = v, n
				}
			}
			want := api.OK
			if vessel < 0 {
				vessel, left, want = 0, 0, api.ErrNothing
			} else {
				something++
			}
			v, n, e := weigh.Next(w, err)
			if v != vessel || n != left || e != want {
				t.Fatalf("%+v: Next(%d) = %d %d %d, want %d %d %d", w, err, v, n, e, vessel, left, want)
			}
		}
	})
	if something < 100 {
		t.Errorf("of 3200 calls only %d find something", something)
	}
	// With MaxReadings readings there may be one more.
	full := exampleS(reading(0, 0, 30, 1), reading(0, 0, 30, 1), reading(0, 0, 30, 1))
	if v, left, e := weigh.Next(full, 0); v != 0 || left != 3 || e != api.OK {
		t.Error("full:", v, left, e)
	}
	// The one that was not weighed yet; of vessels that are equally good the first one.
	w := api.Works{Vessels: []api.Vessel{vessel(-1, 9, 0, 4), vessel(0, 9, 0, 0)}}
	for v := range 2 {
		if got, left, e := weigh.Next(plus(w, reading(v, 0, 6, 0)), 0); got != 1-v || left != 1 || e != api.OK {
			t.Error(v, got, left, e)
		}
	}
	if got, left, e := weigh.Next(plus(w, reading(0, 0, 6, 1), reading(1, 0, 5, 1)), 0); got != 0 || left != 3 || e != api.OK {
		t.Error("equally good:", got, left, e)
	}
}

// P1.8 and P1.17.
func TestBeyond(t *testing.T) {
	samples(500, 8, false, func(w api.Works, all [][]int) {
		var thieves []int
		for v := range w.Vessels {
			want, e := 0, api.ErrNothing
			for more := range 2 * api.MaxRoom {
				if len(truths(loosened(w, v, more))) > 0 {
					want, e = more, api.OK
					break
				}
				if len(fills(w, v)) == 0 {
					break // what is lost in a last one does not matter
				}
				if more > 8 {
					break // all rooms are smaller
				}
			}
			if want > 0 {
				thieves = append(thieves, v)
			}
			if got, f := weigh.Beyond(w, v); got != want || f != e {
				t.Fatalf("%+v: Beyond(%d) = %d %d, want %d %d", w, v, got, f, want, e)
			}
		}
		if got, e := weigh.Thieves(w); e != api.OK || !slices.Equal(got, thieves) || len(all) > 0 && len(got) > 0 {
			t.Fatalf("%+v: Thieves = %v %d, want %v", w, got, e, thieves)
		}
	})
	// As much as a room, which is more than MaxLoss.
	w := api.Works{Vessels: []api.Vessel{vessel(-1, 40, 0, 5), vessel(0, 40, 0, 0)}}
	far := plus(w, reading(0, 0, 40, 0), reading(1, 0, 0, 0))
	if n, e := weigh.Beyond(far, 0); n != 35 || e != api.OK {
		t.Error("far:", n, e)
	}
	if n, e := weigh.Beyond(far, 1); n != 0 || e != api.ErrNothing {
		t.Error("last:", n, e)
	}
	// What is lost is too much, not too little, or there is another contradiction beside.
	for _, w := range []api.Works{plus(w, reading(0, 0, 3, 0), reading(1, 0, 4, 0)), plus(far, reading(1, 0, 50, 0))} {
		if n, e := weigh.Beyond(w, 0); n != 0 || e != api.ErrNothing {
			t.Error(n, e)
		}
		if l, e := weigh.Thieves(w); len(l) != 0 || e != api.OK {
			t.Error(l, e)
		}
	}
	// Either of two explains it.
	deep := api.Works{Vessels: []api.Vessel{vessel(-1, 40, 1, 2), vessel(0, 40, 0, 3), vessel(1, 40, 0, 0)}, Readings: []api.Reading{reading(0, 0, 30, 0), reading(2, 0, 20, 0)}}
	if l, e := weigh.Thieves(deep); e != api.OK || !slices.Equal(l, []int{0, 1}) {
		t.Error("either:", l, e)
	}
}

// P1.10.
func TestKept(t *testing.T) {
	samples(300, 9, true, func(w api.Works, all [][]int) {
		truth, _ := weigh.Truth(w)
		for _, weights := range append(all, truth) {
			sources := 0
			for v, x := range w.Vessels {
				if x.From < 0 {
					sources += weights[v]
				}
			}
			if sources != stands(w, weights)+lost(w, weights) {
				t.Fatalf("%+v: %v: %d in the sources", w, weights, sources)
			}
			a, _ := weigh.Lost(w)
			b, _ := weigh.Stands(w)
			if sources < a.Lo+b.Lo || sources > a.Hi+b.Hi {
				t.Fatalf("%+v: %d in the sources, %v lost, %v stands", w, sources, a, b)
			}
		}
	})
}

// P1.12.
func TestMore(t *testing.T) {
	r := rand.New(rand.NewPCG(10, 2))
	samples(400, 10, true, func(w api.Works, all [][]int) {
		before := found(w)
		for _, more := range near(r, w, 2) {
			for i, s := range found(plus(w, more)) {
				if s.Lo < before[i].Lo || s.Hi > before[i].Hi {
					t.Fatalf("%+v: with %v %v is %v", w, more, before[i], s)
				}
			}
		}
		if n := len(w.Readings); n > 0 {
			again := plus(w, w.Readings[r.IntN(n)])
			if got := found(again); !slices.Equal(got, before) {
				t.Fatalf("%+v: %v", again, got)
			}
		}
	})
}

// P1.19.
func TestCut(t *testing.T) {
	samples(600, 11, true, func(w api.Works, all [][]int) {
		sure, _ := weigh.Sure(w)
		for _, v := range sure {
			b, old := branch(w, v)
			s, _ := weigh.Weight(w, v)
			cut := plus(b, reading(0, 0, s.Lo, 0))
			for i, o := range old {
				a, _ := weigh.Weight(w, o)
				c, e := weigh.Weight(cut, i)
				l, _ := weigh.Loss(w, o)
				m, f := weigh.Loss(cut, i)
				if e != api.OK || f != api.OK || a != c || l != m {
					t.Fatalf("%+v: below %d the vessel %d has %v %v, alone %v %v", w, v, o, a, l, c, m)
				}
			}
		}
	})
}

// P1.20.
func TestApart(t *testing.T) {
	samples(400, 12, true, func(w api.Works, all [][]int) {
		var sum api.Span
		for v, x := range w.Vessels {
			if x.From >= 0 {
				continue
			}
			b, old := branch(w, v)
			s, e := weigh.Lost(b)
			if e != api.OK {
				t.Fatalf("%+v: of the branch %d: %d", w, v, e)
			}
			sum.Lo, sum.Hi = sum.Lo+s.Lo, sum.Hi+s.Hi
			for i, o := range old {
				a, _ := weigh.Weight(w, o)
				c, _ := weigh.Weight(b, i)
				if a != c {
					t.Fatalf("%+v: the vessel %d has %v, apart %v", w, o, a, c)
				}
			}
		}
		if got, _ := weigh.Lost(w); got != sum {
			t.Fatalf("%+v: Lost = %v, of all sources %v", w, got, sum)
		}
	})
}

// renumbered returns works whose vessels have other numbers, each still after the one that fills it, and the new numbers by the old ones.
func renumbered(r *rand.Rand, w api.Works) (api.Works, []int) {
	now := slices.Repeat([]int{-1}, len(w.Vessels))
	var out api.Works
	for len(out.Vessels) < len(w.Vessels) {
		v := r.IntN(len(w.Vessels))
		x := w.Vessels[v]
		if now[v] >= 0 || x.From >= 0 && now[x.From] < 0 {
			continue
		}
		if x.From >= 0 {
			x.From = now[x.From]
		}
		now[v] = len(out.Vessels)
		out.Vessels = append(out.Vessels, x)
	}
	for _, x := range w.Readings {
		x.Vessel = now[x.Vessel]
		out.Readings = append(out.Readings, x)
	}
	return out, now
}

// P1.21.
func TestRenumbered(t *testing.T) {
	r := rand.New(rand.NewPCG(13, 2))
	samples(400, 13, true, func(w api.Works, all [][]int) {
		other, now := renumbered(r, w)
		before, after := found(w), found(other)
		for v, n := range now {
			if before[2*v] != after[2*n] || before[2*v+1] != after[2*n+1] {
				t.Fatalf("%+v: as %+v the vessel %d is %d, but has %v", w, other, v, n, after)
			}
		}
		a, _ := weigh.Lost(w)
		b, _ := weigh.Lost(other)
		c, _ := weigh.Stands(w)
		d, _ := weigh.Stands(other)
		if a != b || c != d {
			t.Fatalf("%+v: lost %v, as %+v %v", w, a, other, b)
		}
	})
}

// P1 and R3, R5: whatever the arguments are.
func TestAnyArguments(t *testing.T) {
	r := rand.New(rand.NewPCG(14, 2))
	odd := func() int {
		switch r.IntN(8) {
		case 0:
			return math.MaxInt
		case 1:
			return math.MinInt
		case 2:
			return -1
		}
		return r.IntN(4)
	}
	for range 3000 {
		var w api.Works
		for range r.IntN(8) {
			w.Vessels = append(w.Vessels, vessel(odd(), odd(), odd(), odd()))
		}
		for range r.IntN(8) {
			w.Readings = append(w.Readings, reading(odd(), odd(), odd(), odd()))
		}
		errs, zero := failures(w, odd(), odd(), odd())
		if e := weigh.Check(w); !zero || e != api.OK && slices.ContainsFunc(errs, func(x api.Errno) bool { return x != e }) {
			t.Fatalf("%+v: %v, zero %t", w, errs, zero)
		}
	}
	for _, n := range []int{math.MaxInt, math.MinInt} {
		if errs, zero := failures(exampleS(), n, n, n); !zero || errs[9] != api.ErrMissing || errs[13] != api.ErrValue {
			t.Error(n, errs, zero)
		}
	}
}

// R2, R4 and R6: no call changes an argument, nor memory behind it, and all calls of the same say the same, side by side too.
func TestNothingKept(t *testing.T) {
	samples(60, 15, false, func(w api.Works, all [][]int) {
		// There is room behind the readings, in which something stands.
		behind := plus(w, reading(7, 7, 7, 7), reading(8, 8, 8, 8))
		w.Readings = behind.Readings[:len(w.Readings)]
		before := api.Works{Vessels: slices.Clone(w.Vessels), Readings: slices.Clone(behind.Readings)}
		want := answers(w, 0, len(w.Vessels)-1, 1)
		var calls sync.WaitGroup
		for range 4 {
			calls.Go(func() {
				if got := answers(w, 0, len(w.Vessels)-1, 1); !reflect.DeepEqual(got, want) {
					t.Errorf("%+v: %v, then %v", w, want, got)
				}
			})
		}
		calls.Wait()
		if !slices.Equal(before.Vessels, w.Vessels) || !slices.Equal(before.Readings, behind.Readings) {
			t.Fatalf("%+v became %+v", before, w)
		}
	})
	for _, w := range []api.Works{{Vessels: exampleU().Vessels, Readings: []api.Reading{}}, exampleU()} {
		if got := answers(w, 0, 0, 0); !reflect.DeepEqual(got, answers(exampleU(), 0, 0, 0)) {
			t.Error("nil and empty:", got)
		}
	}
	first, _ := weigh.Truth(exampleS())
	first[0] = 99
	if again, _ := weigh.Truth(exampleS()); again[0] != 29 {
		t.Error("a result is shared:", again)
	}
}
