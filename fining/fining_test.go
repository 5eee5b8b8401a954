package fining_test

import (
	"math"
	"math/rand/v2"
	"reflect"
	"slices"
	"sync"
	"testing"

	"muscovado/api"
	"muscovado/fining"
)

// asked are the arguments of all functions beside the agents.
type asked struct {
	melt, pass, a, b int
	way, melts       ints
}

// answer is what a function returns: its results in a list, and its error.
type answer struct {
	name    string
	results []any
	e       api.Errno
}

// answers returns what all functions but Check say.
func answers(l agents, x asked) []answer {
	var list []answer
	add := func(name string, e api.Errno, results ...any) {
		list = append(list, answer{name, results, e})
	}
	r, e := fining.May(l, x.melt)
	add("May", e, r)
	r, e = fining.Put(l, x.melt, x.way)
	add("Put", e, r)
	r, e = fining.Reach(l, x.melt)
	add("Reach", e, r)
	r, e = fining.Idle(l, x.melt)
	add("Idle", e, r)
	r, e = fining.Shortest(l, x.melt, x.pass)
	add("Shortest", e, r)
	r, n, e := fining.Cheapest(l, x.melt, x.pass)
	add("Cheapest", e, r, n)
	r, e = fining.Needed(l, x.melt, x.pass)
	add("Needed", e, r)
	r, e = fining.Spoils(l, x.melt, x.pass)
	add("Spoils", e, r)
	r, e = fining.Hopeless(l, x.pass)
	add("Hopeless", e, r)
	m, n, e := fining.Farthest(l, x.pass)
	add("Farthest", e, m, n)
	r, e = fining.Fewest(l, x.pass)
	add("Fewest", e, r)
	r, e = fining.Both(l, x.melts, x.pass)
	add("Both", e, r)
	r, e = fining.Tells(l, x.a, x.b)
	add("Tells", e, r)
	return list
}

// answerOf returns what one of the functions says.
func answerOf(name string, l agents, x asked) answer {
	list := answers(l, x)
	return list[slices.IndexFunc(list, func(x answer) bool { return x.name == name })]
}

// zero returns whether a result is a zero value; an empty list is one, too.
func zero(x any) bool {
	list, is := x.(ints)
	return is && len(list) == 0 || x == 0
}

// sameResult returns whether two results are the same; nil and empty lists are.
func sameResult(a, b any) bool {
	return reflect.DeepEqual(a, b) || zero(a) && zero(b)
}

func sameAnswer(a, b answer) bool {
	return a.e == b.e && slices.EqualFunc(a.results, b.results, sameResult)
}

// failures returns the errors by the names of the functions, and whether all other results are zero values wherever there is one.
func failures(list []answer) (errs map[string]api.Errno, clean bool) {
	errs, clean = map[string]api.Errno{}, true
	for _, x := range list {
		errs[x.name] = x.e
		for _, r := range x.results {
			clean = clean && (x.e == api.OK || zero(r))
		}
	}
	return errs, clean
}

// These return what the functions say that have no error if all arguments are valid.

func reach(t *testing.T, a agents, melt int) ints {
	t.Helper()
	return fine(t)(fining.Reach(a, melt))
}

func without(t *testing.T, a agents, pass int) ints {
	t.Helper()
	return fine(t)(fining.Hopeless(a, pass))
}

func fine(t *testing.T) func(ints, api.Errno) ints {
	t.Helper()
	return func(list ints, e api.Errno) ints {
		t.Helper()
		if e != api.OK {
			t.Fatal(e)
		}
		return list
	}
}

// after returns what a melt is after an agent that may be put to it.
func after(t *testing.T, a agents, melt, number int) int {
	t.Helper()
	list, e := fining.Put(a, melt, ints{number})
	if e != api.OK || len(list) != 1 {
		t.Fatalf("%v: Put(%d, %d) = %v %d", a, melt, number, list, e)
	}
	return list[0]
}

// P9.1, and R1 and R3: the errors of agents, and their order.
func TestCheck(t *testing.T) {
	ok, value, excess, conflict := api.OK, api.ErrValue, api.ErrExcess, api.ErrConflict
	// One agent of several, and one that comes behind it, which is wrong in another way.
	second := func(a api.Agent, behind ...api.Agent) agents { return append(agents{of(0, 0, 0, 0, 1), a}, behind...) }
	clash, dear := of(1, 1, 0, 0, 1), of(0, 0, 0, 0, 10)
	for i, x := range []struct {
		a    agents
		want api.Errno
	}{
		{exampleS(), ok}, {exampleT(), ok}, {nil, ok}, {agents{}, ok}, {counter(4), ok}, {agents{of(63, 0, 63, 63, 9)}, ok}, {agents{of(0, 63, 0, 0, 1)}, ok}, {agents{of(42, 21, 63, 63, 5)}, ok}, {agents{of(32, 16, 8, 4, 9), of(32, 16, 8, 4, 9)}, ok},
		{with(exampleS(), of(0, 0, 0, 0, 1)), excess}, {make(agents, 5), excess}, {slices.Repeat(agents{clash}, 5), excess}, {make(agents, 4), value},
		{second(of(64, 0, 0, 0, 1)), value}, {second(of(-1, 0, 0, 0, 1)), value}, {second(of(math.MinInt, 0, 0, 0, 1)), value}, {second(of(math.MaxInt, 0, 0, 0, 1)), value},
		{second(of(0, 64, 0, 0, 1)), value}, {second(of(0, -1, 0, 0, 1)), value}, {second(of(0, math.MinInt, 0, 0, 1)), value}, {second(of(0, 128, 0, 0, 1)), value},
		{second(of(0, 0, 64, 0, 1)), value}, {second(of(0, 0, -1, 0, 1)), value}, {second(of(0, 0, math.MinInt, 0, 1)), value}, {second(of(0, 0, math.MaxInt, 0, 1)), value},
		{second(of(0, 0, 0, 64, 1)), value}, {second(of(0, 0, 0, -1, 1)), value}, {second(of(0, 0, 0, -64, 1)), value}, {second(of(0, 0, 0, math.MaxInt, 1)), value},
		{second(of(0, 0, 0, 0, 0)), value}, {second(of(0, 0, 0, 0, -1)), value}, {second(of(0, 0, 0, 0, 10)), value}, {second(of(0, 0, 0, 0, math.MaxInt)), value}, {second(of(0, 0, 0, 0, math.MinInt)), value},
		{second(of(3, 1, 0, 0, 1)), conflict}, {second(of(1, 3, 0, 0, 1)), conflict}, {second(of(63, 32, 0, 0, 1)), conflict}, {second(of(32, 32, 0, 0, 9)), conflict}, {second(of(42, 22, 0, 0, 1)), conflict},
		// Faults of which there are none come before those that clash, and these before a cost.
		{second(of(65, 1, 0, 0, 1)), value}, {second(of(-1, 1, 0, 0, 1)), value}, {second(of(1, 1, 0, 64, 1)), value}, {second(of(1, 1, -1, 0, 1)), value}, {second(of(1, 1, 0, 0, 0)), conflict}, {second(of(1, 1, 0, 0, 10)), conflict},
		// All that is said of one agent comes before the next one.
		{second(clash, of(64, 0, 0, 0, 1)), conflict}, {second(dear, clash), value}, {second(of(0, 64, 0, 0, 1), clash), value}, {second(clash, dear), conflict}, {second(of(4, 3, 3, 4, 9), clash), conflict}, {second(of(1, 2, 0, 0, 1), of(2, 1, 0, 0, 1)), ok}, {second(of(1, 2, 0, 0, 1), of(2, 1, 0, 0, 1), clash), conflict},
	} {
		if e := fining.Check(x.a); e != x.want {
			t.Errorf("%d: Check = %d, want %d", i, e, x.want)
		}
		if x.want == ok {
			continue
		}
		// Check's error comes before that of any other argument, and alone.
		for _, y := range []asked{{melts: ints{0}}, {}, {-1, -1, -1, -1, make(ints, 21), ints{-1}}, {64, 64, 64, 64, ints{9}, make(ints, 4)}} {
			errs, clean := failures(answers(x.a, y))
			for name, e := range errs {
				if e != x.want || !clean {
					t.Errorf("%d: %s: %d, clean %t", i, name, e, clean)
				}
			}
		}
	}
}

// P9.1, and R1 and R3: the errors of the other arguments, and their order.
func TestArguments(t *testing.T) {
	ok, value, excess, shortage := api.OK, api.ErrValue, api.ErrExcess, api.ErrShortage
	ofMelt := []string{"May", "Put", "Reach", "Idle", "Shortest", "Cheapest", "Needed", "Spoils"}
	ofPass := []string{"Shortest", "Cheapest", "Needed", "Spoils", "Hopeless", "Farthest", "Fewest", "Both"}
	look := func(x asked, want api.Errno, names ...string) {
		t.Helper()
		errs, clean := failures(answers(exampleS(), x))
		for name, e := range errs {
			due := ok
			if slices.Contains(names, name) {
				due = want
			}
			if e == api.ErrNothing {
				e = ok
			}
			if e != due || !clean {
				t.Errorf("%+v: %s: %d, want %d, clean %t", x, name, e, due, clean)
			}
		}
	}
	for _, n := range []int{64, -1, 65, 128, -64, math.MaxInt, math.MinInt} {
		look(asked{melt: n, melts: ints{0}}, value, ofMelt...)
		look(asked{pass: n, melts: ints{0}}, value, ofPass...)
		look(asked{melt: n, melts: ints{0}, way: ints{9}}, value, ofMelt...)
		look(asked{melt: n, melts: ints{0}, way: make(ints, 21)}, value, ofMelt...)
		look(asked{a: n, melts: ints{0}}, value, "Tells")
		look(asked{b: n, melts: ints{0}}, value, "Tells")
		for _, melts := range []ints{{n}, {0, n}, {n, 0, 0}, {0, 0, n}} {
			look(asked{melts: melts}, value, "Both")
		}
	}
	for _, n := range []int{0, 63, 32, 1} {
		look(asked{n, n, n, n, nil, ints{n, n, n}}, ok)
	}
	// How many melts there are comes before what they are, and what is let pass.
	for i, x := range []struct {
		melts ints
		pass  int
		want  api.Errno
	}{
		{nil, 0, shortage}, {ints{}, 64, shortage}, {make(ints, 4), 0, excess}, {ints{0, 0, 0, 64}, 0, excess}, {ints{-1, 0, 0, 0}, -1, excess}, {make(ints, 9), 64, excess},
		{ints{0, 0, 0}, 64, value}, {ints{64}, -1, value}, {ints{0, 0, 0}, 0, ok}, {ints{0}, 0, ok}, {ints{63}, 63, ok},
	} {
		if l, e := fining.Both(exampleS(), x.melts, x.pass); e != x.want || len(l) > 0 {
			t.Error(i, l, e)
		}
	}
	// Of a way first how long it is, then agent by agent.
	for i, x := range []struct {
		way  ints
		want api.Errno
	}{
		{make(ints, 21), excess}, {slices.Repeat(ints{9}, 21), excess}, {make(ints, 20), api.ErrBarred}, {slices.Repeat(ints{-1}, 20), api.ErrMissing}, {ints{4}, api.ErrMissing}, {ints{-1}, api.ErrMissing}, {ints{math.MaxInt}, api.ErrMissing}, {ints{math.MinInt}, api.ErrMissing},
		{ints{1, 4}, api.ErrBarred}, {ints{4, 1}, api.ErrMissing}, {ints{0, 4}, api.ErrMissing}, {ints{0, 0, 4}, api.ErrBarred}, {ints{2, 0, 1, 0}, api.ErrBarred}, {ints{2, 0, 1, -1}, api.ErrMissing}, {ints{2, 0, 1}, ok}, {nil, ok},
	} {
		if l, e := fining.Put(exampleS(), 7, x.way); e != x.want || e != ok && len(l) > 0 {
			t.Error(i, l, e)
		}
	}
	if l, e := fining.Put(nil, 0, ints{0}); e != api.ErrMissing || len(l) > 0 {
		t.Error(l, e)
	}
	if l, e := fining.Put(agents{of(0, 0, 0, 1, 1)}, 2, make(ints, 20)); e != ok || !slices.Equal(l, slices.Repeat(ints{3}, 20)) {
		t.Error(l, e)
	}
}

// The table of the chapter.
func TestExamples(t *testing.T) {
	s, u := exampleS(), exampleT()
	for i, x := range []struct {
		a    agents
		want api.Errno
	}{
		{s, api.OK},
		{with(s, s[0]), api.ErrExcess},
		{but(s, func(a agents) { a[0].Needs = 64 }), api.ErrValue},
		{but(s, func(a agents) { a[0].Needs, a[0].Not = 3, 1 }), api.ErrConflict},
		{but(s, func(a agents) { a[0].Cost = 0 }), api.ErrValue},
	} {
		if e := fining.Check(x.a); e != x.want {
			t.Error(i, e)
		}
	}
	none := ints(nil)
	odd := numbers(64, func(melt int) bool { return melt%2 == 1 })
	melt := func(melt, pass int) asked { return asked{melt: melt, pass: pass} }
	for i, x := range []struct {
		name string
		a    agents
		x    asked
		e    api.Errno
		want []any
	}{
		{"May", s, melt(7, 0), api.OK, []any{ints{0, 2}}},
		{"May", s, melt(6, 0), api.OK, []any{ints{2, 3}}},
		{"May", s, melt(0, 0), api.OK, []any{none}},
		{"May", s, melt(64, 0), api.ErrValue, []any{none}},
		{"Put", s, asked{melt: 7, way: ints{2, 0, 1}}, api.OK, []any{ints{3, 2, 0}}},
		{"Put", s, asked{melt: 7, way: ints{1}}, api.ErrBarred, []any{none}},
		{"Put", s, asked{melt: 7, way: ints{4}}, api.ErrMissing, []any{none}},
		{"Reach", s, melt(7, 0), api.OK, []any{ints{0, 1, 2, 3, 6, 7}}},
		{"Reach", s, melt(8, 0), api.OK, []any{ints{8}}},
		{"Idle", u, melt(8, 0), api.OK, []any{ints{3}}},
		{"Idle", s, melt(8, 0), api.OK, []any{none}},
		{"Shortest", s, melt(7, 0), api.OK, []any{ints{0, 3}}},
		{"Shortest", s, melt(8, 0), api.ErrNothing, []any{none}},
		{"Shortest", s, melt(8, 8), api.OK, []any{none}},
		{"Shortest", u, melt(7, 0), api.OK, []any{ints{2, 0, 1}}},
		{"Cheapest", s, melt(7, 0), api.OK, []any{ints{2, 0, 1}, 4}},
		{"Cheapest", s, melt(6, 0), api.OK, []any{ints{2, 0, 1}, 4}},
		{"Needed", s, melt(7, 0), api.OK, []any{ints{0}}},
		{"Needed", u, melt(7, 0), api.OK, []any{ints{0, 1, 2}}},
		{"Spoils", u, melt(7, 0), api.OK, []any{ints{3}}},
		{"Spoils", s, melt(7, 0), api.OK, []any{none}},
		{"Hopeless", s, melt(0, 56), api.OK, []any{none}},
		{"Hopeless", u, melt(0, 56), api.OK, []any{none}},
		{"Hopeless", nil, melt(0, 62), api.OK, []any{odd}},
		{"Farthest", s, melt(0, 56), api.OK, []any{4, 3}},
		{"Fewest", s, melt(0, 56), api.OK, []any{ints{0, 1, 2}}},
		{"Both", s, asked{melts: ints{1, 3}}, api.OK, []any{ints{0, 1}}},
		{"Both", s, asked{melts: ints{2, 6}}, api.ErrNothing, []any{none}},
		{"Both", s, asked{}, api.ErrShortage, []any{none}},
		{"Tells", s, asked{a: 2, b: 6}, api.OK, []any{ints{1}}},
		{"Tells", s, asked{a: 1, b: 3}, api.OK, []any{ints{1}}},
		{"Tells", s, asked{a: 5, b: 5}, api.ErrNothing, []any{none}},
	} {
		if got := answerOf(x.name, x.a, x.x); !sameAnswer(got, answer{x.name, x.want, x.e}) {
			t.Errorf("%d: %s = %v %d, want %v %d", i, x.name, got.results, got.e, x.want, x.e)
		}
	}
}

// P9.1, P9.2 and P9.8: what may be put, what a melt is afterwards, and a way in two parts.
func TestMayPutIdle(t *testing.T) {
	idle, barred, right := 0, 0, 0
	samples(700, 1, func(a agents, _ int, dice *rand.Rand) {
		for melt := range allMelts {
			can := fine(t)(fining.May(a, melt))
			stay := fine(t)(fining.Idle(a, melt))
			if want := numbers(len(a), func(n int) bool { return may(a[n], melt) }); !slices.Equal(can, want) {
				t.Fatalf("%v: May(%d) = %v, want %v", a, melt, can, want)
			}
			if want := numbers(len(a), func(n int) bool { return may(a[n], melt) && put(a[n], melt) == melt }); !slices.Equal(stay, want) {
				t.Fatalf("%v: Idle(%d) = %v, want %v", a, melt, stay, want)
			}
			idle += len(stay)
			// A way that goes on with what may be put, and then perhaps with what may not.
			var way ints
			now := melt
			for range dice.IntN(api.MaxPuts - 1) {
				l := fine(t)(fining.May(a, now))
				if len(l) == 0 {
					break
				}
				way = append(way, pick(dice, l...))
				now = put(a[way[len(way)-1]], now)
			}
			all, e := fining.Put(a, melt, way)
			if want, is := follow(a, melt, way); e != api.OK || !is || !slices.Equal(all, want) {
				t.Fatalf("%v: Put(%d, %v) = %v %d, want %v", a, melt, way, all, e, want)
			}
			half := dice.IntN(len(way) + 1)
			head := fine(t)(fining.Put(a, melt, way[:half]))
			tail := fine(t)(fining.Put(a, slices.Concat(ints{melt}, head)[half], way[half:]))
			if !slices.Equal(slices.Concat(head, tail), all) {
				t.Fatalf("%v: Put(%d, %v) = %v, in two parts %v and %v", a, melt, way, all, head, tail)
			}
			l := fine(t)(fining.May(a, now))
			for n := range a {
				list, e := fining.Put(a, melt, slices.Concat(way, ints{n}))
				if is := slices.Contains(l, n); is != (e == api.OK) || !is && (e != api.ErrBarred || len(list) > 0) || is && !slices.Equal(list, slices.Concat(all, ints{put(a[n], now)})) {
					t.Fatalf("%v: May(%d) = %v, but Put of %v and %d: %v %d", a, now, l, way, n, list, e)
				}
				if e == api.OK {
					right++
				} else {
					barred++
				}
			}
		}
	})
	if idle < 5000 || barred < 50000 || right < 10000 {
		t.Error(idle, barred, right)
	}
	// What an agent takes and leaves, it leaves; what it takes and the melt has not does not matter.
	for i, x := range []struct {
		a           api.Agent
		melt, after int
		idle        bool
	}{
		{of(0, 0, 0, 0, 1), 0, 0, true}, {of(0, 0, 0, 0, 1), 63, 63, true}, {of(1, 0, 1, 1, 1), 1, 1, true}, {of(0, 0, 1, 1, 1), 0, 1, false}, {of(0, 0, 63, 0, 1), 0, 0, true}, {of(0, 0, 63, 0, 1), 63, 0, false}, {of(0, 0, 62, 32, 9), 43, 33, false}, {of(0, 0, 0, 12, 9), 4, 12, false}, {of(0, 0, 0, 12, 9), 12, 12, true}, {of(32, 31, 32, 31, 1), 32, 31, false}, {of(0, 0, 8, 0, 1), 55, 55, true},
	} {
		list, e := fining.Put(agents{x.a}, x.melt, ints{0})
		idle := fine(t)(fining.Idle(agents{x.a}, x.melt))
		if e != api.OK || !slices.Equal(list, ints{x.after}) || (len(idle) == 1) != x.idle {
			t.Error(i, list, e, idle)
		}
	}
}

// P9.2 and P9.9: what a melt can become by ways.
func TestReach(t *testing.T) {
	size := map[int]int{}
	samples(1500, 2, func(a agents, _ int, _ *rand.Rand) {
		for melt := range allMelts {
			list := reach(t, a, melt)
			is := reached(a, melt)
			if want := numbers(allMelts, func(m int) bool { return is[m] }); !slices.Equal(list, want) {
				t.Fatalf("%v: Reach(%d) = %v, want %v", a, melt, list, want)
			}
			size[len(list)]++
		}
	})
	one, many := size[1], 0
	for n, times := range size {
		if n > 8 {
			many += times
		}
	}
	if one < 5000 || many < 1000 {
		t.Error(one, many)
	}
	samples(150, 3, func(a agents, _ int, dice *rand.Rand) {
		melt := dice.IntN(allMelts)
		list := reach(t, a, melt)
		for _, m := range list {
			for _, further := range reach(t, a, m) {
				if !slices.Contains(list, further) {
					t.Fatalf("%v: Reach(%d) = %v, but from %d %d can be reached", a, melt, list, m, further)
				}
			}
		}
		for _, way := range lists(a, 4) {
			if l, e := fining.Put(a, melt, way); e == api.OK && !slices.Contains(list, slices.Concat(ints{melt}, l)[len(way)]) {
				t.Fatalf("%v: Reach(%d) = %v, but %v makes %v", a, melt, list, way, l)
			}
		}
	})
	if l := reach(t, counter(4), 15); !slices.Equal(l, numbers(16, func(int) bool { return true })) {
		t.Error(l)
	}
	if l := reach(t, nil, 63); !slices.Equal(l, ints{63}) {
		t.Error(l)
	}
}

// P9.3 and P9.10: the first way that clears a melt.
func TestShortest(t *testing.T) {
	nothing, length := 0, map[int]int{}
	samples(3000, 4, func(a agents, pass int, dice *rand.Rand) {
		w := waysOf(equal(a), pass)
		for melt := range allMelts {
			way, e := fining.Shortest(a, melt, pass)
			want, _, due := w.cheapest(equal(a), melt)
			if e != due || !slices.Equal(way, want) {
				t.Fatalf("%v: Shortest(%d, %d) = %v %d, want %v %d", a, melt, pass, way, e, want, due)
			}
			if e != api.OK {
				nothing++
				continue
			}
			length[len(way)]++
		}
		// All lists that come before it.
		melt := dice.IntN(allMelts)
		way, e := fining.Shortest(a, melt, pass)
		for _, l := range lists(a, 5) {
			if e == api.OK && before(way, l) <= 0 {
				if slices.Equal(l, way) && !clears(a, melt, pass, l) {
					t.Fatalf("%v: Shortest(%d, %d) = %v", a, melt, pass, way)
				}
				break
			}
			if clears(a, melt, pass, l) {
				t.Fatalf("%v: Shortest(%d, %d) = %v %d, but %v", a, melt, pass, way, e, l)
			}
		}
	})
	if nothing < 10000 || length[0] < 3000 || length[1] < 5000 || length[3] < 1000 || length[5] < 200 || length[6]+length[7]+length[8] < 100 {
		t.Error(nothing, length)
	}
}

// P9.3 and P9.11: the first of the ways with the least cost.
func TestCheapest(t *testing.T) {
	nothing, other, ties := 0, 0, 0
	samples(1500, 5, func(a agents, pass int, _ *rand.Rand) {
		w := waysOf(a, pass)
		for melt := range allMelts {
			way, cost, e := fining.Cheapest(a, melt, pass)
			want, least, due := w.cheapest(a, melt)
			if e != due || cost != least || !slices.Equal(way, want) {
				t.Fatalf("%v: Cheapest(%d, %d) = %v %d %d, want %v %d %d", a, melt, pass, way, cost, e, want, least, due)
			}
			short, f := fining.Shortest(a, melt, pass)
			if e != f {
				t.Fatalf("%v: Cheapest(%d, %d): %d, Shortest: %d", a, melt, pass, e, f)
			}
			if e != api.OK {
				nothing++
				continue
			}
			if !slices.Equal(way, short) {
				other++
			}
			if !clears(a, melt, pass, way) || costs(a, way) != cost {
				t.Fatalf("%v: Cheapest(%d, %d) = %v %d", a, melt, pass, way, cost)
			}
			as := 0
			for n, x := range a {
				if !may(x, melt) {
					continue
				}
				_, rest, e := fining.Cheapest(a, put(x, melt), pass)
				if e == api.OK && x.Cost+rest < cost {
					t.Fatalf("%v: Cheapest(%d, %d) = %v %d, but with %d first %d", a, melt, pass, way, cost, n, x.Cost+rest)
				}
				if e == api.OK && x.Cost+rest == cost {
					as++
				}
			}
			if (as > 0) != (len(way) > 0) {
				t.Fatalf("%v: Cheapest(%d, %d) = %v %d, but no agent first costs as much", a, melt, pass, way, cost)
			}
			if as > 1 {
				ties++
			}
		}
	})
	if nothing < 5000 || other < 500 || ties < 500 {
		t.Error(nothing, other, ties)
	}
	one := func(costs ...int) (a agents) {
		for _, c := range costs {
			a = append(a, of(1, 0, 1, 0, c))
		}
		return a
	}
	two := func(direct int) agents { return agents{of(1, 0, 1, 0, direct), of(1, 0, 1, 2, 2), of(2, 0, 2, 0, 2)} }
	for i, x := range []struct {
		a          agents
		melt, pass int
		way        ints
		cost       int
	}{
		{one(3, 2, 2), 1, 0, ints{1}, 2}, {one(2, 2, 2), 1, 0, ints{0}, 2}, {one(9, 8, 7, 6), 1, 0, ints{3}, 6}, {one(9), 0, 0, nil, 0}, {one(9), 1, 1, nil, 0}, {one(9), 3, 2, ints{0}, 9},
		// Of ways that cost as much the shorter one, whatever its agents are.
		{two(3), 1, 0, ints{0}, 3}, {two(4), 1, 0, ints{0}, 4}, {two(5), 1, 0, ints{1, 2}, 4}, {two(1), 3, 0, ints{0, 2}, 3}, {two(4), 3, 0, ints{1, 2}, 4}, {two(2), 3, 0, ints{0, 2}, 4}, {two(1), 3, 2, ints{0}, 1}, {agents{of(1, 0, 1, 2, 2), of(2, 0, 2, 0, 2), of(1, 0, 1, 0, 4)}, 1, 0, ints{2}, 4}, {agents{of(1, 0, 1, 2, 2), of(2, 0, 2, 0, 2), of(1, 0, 1, 0, 5)}, 1, 0, ints{0, 1}, 4},
		// Of ways that are as long, too, the first one in lexicographic order.
		{agents{of(2, 0, 2, 0, 2), of(1, 0, 1, 0, 2)}, 3, 0, ints{0, 1}, 4}, {agents{of(2, 1, 2, 0, 2), of(1, 0, 1, 0, 2)}, 3, 0, ints{1, 0}, 4}, {agents{of(3, 0, 1, 0, 1), of(3, 0, 2, 0, 2), of(1, 2, 1, 0, 1), of(2, 1, 2, 0, 2)}, 3, 0, ints{0, 3}, 3},
		// An agent twice costs twice.
		{agents{of(0, 0, 4, 0, 3), of(4, 0, 4, 1, 1), of(1, 0, 1, 4, 1)}, 5, 1, ints{1}, 1}, {agents{of(8, 0, 8, 4, 1), of(4, 0, 6, 0, 2), of(2, 0, 2, 4, 9)}, 14, 0, ints{0, 1}, 3}, {agents{of(1, 0, 3, 0, 5), of(2, 1, 2, 1, 5)}, 3, 0, ints{0}, 5}, {agents{of(1, 0, 1, 0, 5), of(2, 1, 2, 1, 5)}, 3, 0, ints{0, 1, 0}, 15},
	} {
		way, cost, e := fining.Cheapest(x.a, x.melt, x.pass)
		if e != api.OK || cost != x.cost || !slices.Equal(way, x.way) {
			t.Error(i, way, cost, e)
		}
	}
}

// costs returns what a way costs.
func costs(a agents, way ints) (sum int) {
	for _, n := range way {
		sum += a[n].Cost
	}
	return sum
}

// P9.4 and P9.12: the agents that are in each way that clears a melt.
func TestNeeded(t *testing.T) {
	nothing, count := 0, map[int]int{}
	samples(2000, 6, func(a agents, pass int, _ *rand.Rand) {
		for melt := range allMelts {
			list, e := fining.Needed(a, melt, pass)
			want, due := needed(a, melt, pass)
			if e != due || !slices.Equal(list, want) {
				t.Fatalf("%v: Needed(%d, %d) = %v %d, want %v %d", a, melt, pass, list, e, want, due)
			}
			if e != api.OK {
				nothing++
				continue
			}
			count[len(list)]++
			for n := range a {
				// Without an agent the others have other numbers.
				_, e := fining.Shortest(slices.Delete(slices.Clone(a), n, n+1), melt, pass)
				if is := slices.Contains(list, n); is != (e == api.ErrNothing) {
					t.Fatalf("%v: Needed(%d, %d) = %v, but without %d: %d", a, melt, pass, list, n, e)
				}
			}
		}
	})
	if nothing < 5000 || count[0] < 5000 || count[1] < 3000 || count[2] < 1000 || count[3] < 100 {
		t.Error(nothing, count)
	}
	if l, e := fining.Needed(counter(4), 8, 0); e != api.OK || !slices.Equal(l, ints{0, 1, 2, 3}) {
		t.Error(l, e)
	}
	if l, e := fining.Needed(exampleS(), 0, 0); e != api.OK || len(l) > 0 {
		t.Error(l, e)
	}
}

// P9.4 and P9.13: the agents after which no way clears a melt.
func TestSpoils(t *testing.T) {
	nothing, some, all := 0, 0, 0
	samples(2500, 7, func(a agents, pass int, _ *rand.Rand) {
		lost := without(t, a, pass)
		for melt := range allMelts {
			list, e := fining.Spoils(a, melt, pass)
			want, due := spoils(a, melt, pass)
			if e != due || !slices.Equal(list, want) {
				t.Fatalf("%v: Spoils(%d, %d) = %v %d, want %v %d", a, melt, pass, list, e, want, due)
			}
			if e != api.OK {
				nothing++
				continue
			}
			can := fine(t)(fining.May(a, melt))
			for n := range a {
				is := slices.Contains(list, n)
				if is && !slices.Contains(can, n) {
					t.Fatalf("%v: Spoils(%d, %d) = %v, May %v", a, melt, pass, list, can)
				}
				if slices.Contains(can, n) && is != slices.Contains(lost, after(t, a, melt, n)) {
					t.Fatalf("%v: Spoils(%d, %d) = %v, Hopeless %v", a, melt, pass, list, lost)
				}
			}
			if len(list) > 0 {
				some++
			}
			if len(list) > 0 && len(list) == len(can) {
				all++
			}
		}
	})
	// A melt that is clear can be spoilt by all that may be put to it.
	if nothing < 10000 || some < 5000 || all < 500 {
		t.Error(nothing, some, all)
	}
}

// P9.5 and P9.14: the melts that no way clears.
func TestHopeless(t *testing.T) {
	none, some := 0, 0
	samples(1500, 8, func(a agents, pass int, _ *rand.Rand) {
		list := without(t, a, pass)
		if want := hopeless(a, pass); !slices.Equal(list, want) {
			t.Fatalf("%v: Hopeless(%d) = %v, want %v", a, pass, list, want)
		}
		for melt := range allMelts {
			clear := slices.ContainsFunc(reach(t, a, melt), func(m int) bool { return isClear(m, pass) })
			if slices.Contains(list, melt) == clear {
				t.Fatalf("%v: Hopeless(%d) = %v, Reach(%d) = %v", a, pass, list, melt, reach(t, a, melt))
			}
		}
		if len(list) == 0 {
			none++
		} else {
			some++
		}
	})
	if none < 100 || some < 500 {
		t.Error(none, some)
	}
	for i, x := range []struct {
		a    agents
		pass int
		want ints
	}{
		{nil, 63, nil}, {nil, 62, numbers(64, func(m int) bool { return m%2 == 1 })}, {nil, 31, numbers(64, func(m int) bool { return m >= 32 })}, {nil, 0, numbers(64, func(m int) bool { return m > 0 })}, {agents{of(0, 0, 63, 0, 9)}, 0, nil}, {agents{of(0, 0, 63, 1, 9)}, 0, numbers(64, func(m int) bool { return m > 0 })}, {agents{of(63, 0, 63, 0, 9)}, 0, numbers(63, func(m int) bool { return m > 0 })}, {agents{of(0, 32, 31, 0, 9)}, 0, numbers(64, func(m int) bool { return m >= 32 })}, {counter(4), 0, numbers(64, func(m int) bool { return m >= 16 })},
	} {
		if l := without(t, x.a, x.pass); !slices.Equal(l, x.want) {
			t.Error(i, l)
		}
	}
}

// P9.5 and P9.15: the melt whose shortest way has the most agents.
func TestFarthest(t *testing.T) {
	ties, count := 0, map[int]int{}
	samples(4000, 9, func(a agents, pass int, _ *rand.Rand) {
		melt, puts, e := fining.Farthest(a, pass)
		if m, n := farthest(a, pass); e != api.OK || melt != m || puts != n {
			t.Fatalf("%v: Farthest(%d) = %d %d %d, want %d %d", a, pass, melt, puts, e, m, n)
		}
		count[min(puts, 5)]++
		as := 0
		for m := range allMelts {
			way, e := fining.Shortest(a, m, pass)
			if len(way) > puts || m < melt && e == api.OK && len(way) == puts || m == melt && len(way) != puts {
				t.Fatalf("%v: Farthest(%d) = %d %d, Shortest(%d) = %v %d", a, pass, melt, puts, m, way, e)
			}
			if len(way) == puts && e == api.OK {
				as++
			}
		}
		if as > 1 {
			ties++
		}
	})
	if ties < 500 || count[0] < 100 || count[1] < 100 || count[3] < 100 || count[5] < 50 {
		t.Error(ties, count)
	}
	for i, x := range []struct {
		a                agents
		pass, melt, puts int
	}{
		{nil, 0, 0, 0}, {nil, 63, 0, 0}, {counter(4), 0, 15, 15}, {counter(4), 1, 15, 14}, {counter(4), 15, 0, 0}, {counter(4), 63, 0, 0}, {counter(3), 0, 7, 7}, {agents{of(0, 0, 63, 0, 1)}, 0, 1, 1}, {agents{of(0, 0, 63, 0, 1)}, 5, 2, 1},
		// The cost does not matter, and a melt that cannot be cleared is none of them.
		{agents{of(1, 0, 1, 0, 9), of(2, 0, 2, 4, 1), of(4, 0, 4, 0, 1)}, 56, 3, 3}, {agents{of(1, 2, 1, 0, 1)}, 60, 1, 1},
	} {
		if m, n, e := fining.Farthest(x.a, x.pass); e != api.OK || m != x.melt || n != x.puts {
			t.Error(i, m, n, e)
		}
	}
}

// P9.6 and P9.16: the fewest agents that are needed.
func TestFewest(t *testing.T) {
	fewer, choice, count := 0, 0, map[int]int{}
	samples(3000, 10, func(a agents, pass int, _ *rand.Rand) {
		set := fine(t)(fining.Fewest(a, pass))
		if want := fewest(a, pass); !slices.Equal(set, want) {
			t.Fatalf("%v: Fewest(%d) = %v, want %v", a, pass, set, want)
		}
		lost, as := without(t, a, pass), 0
		for _, s := range sets(a) {
			same := slices.Equal(without(t, some(a, s), pass), lost)
			if d := before(s, set); d < 0 && same || d == 0 && !same {
				t.Fatalf("%v: Fewest(%d) = %v, but %v", a, pass, set, s)
			}
			if same && len(s) == len(set) {
				as++
			}
		}
		if as > 1 {
			choice++
		}
		if len(set) < len(a) {
			fewer++
		}
		count[len(set)]++
	})
	if fewer < 200 || choice < 50 || count[0] < 50 || count[1] < 50 || count[2] < 50 || count[3] < 20 || count[4] < 5 {
		t.Error(fewer, choice, count)
	}
	takes := func(faults ...int) (a agents) {
		for _, f := range faults {
			a = append(a, of(0, 0, f, 0, 1))
		}
		return a
	}
	for i, x := range []struct {
		a    agents
		pass int
		want ints
	}{
		{nil, 0, nil}, {takes(1, 2, 3), 0, ints{2}}, {takes(1, 2, 3), 60, ints{2}}, {takes(1, 2, 3), 61, ints{1}}, {takes(1, 2, 3), 62, ints{0}}, {takes(1, 2, 3), 63, nil}, {takes(3, 6, 5, 4), 0, ints{0, 1}}, {takes(1, 6, 2, 5), 0, ints{0, 1}}, {takes(1, 2, 5, 6), 0, ints{0, 3}}, {takes(1, 2, 6, 3), 0, ints{0, 2}}, {takes(1, 2, 4, 8), 0, ints{0, 1, 2, 3}}, {takes(1, 1, 2, 2), 0, ints{0, 2}}, {takes(32), 0, ints{0}},
		// A set with a fault more to clear does not come before one with fewer agents.
		{takes(7, 1, 2, 4), 0, ints{0}}, {takes(1, 2, 4, 7), 0, ints{3}}, {counter(4), 48, ints{0, 1, 2, 3}},
	} {
		if l := fine(t)(fining.Fewest(x.a, x.pass)); !slices.Equal(l, x.want) {
			t.Error(i, l)
		}
	}
}

// near returns a melt that differs from another one by few faults.
func near(dice *rand.Rand, melt int) int {
	return melt ^ 1<<dice.IntN(6) ^ pick(dice, 0, 1, 2, 4)
}

// P9.7 and P9.17: the way that clears a melt whichever of several it is.
func TestBoth(t *testing.T) {
	nothing, length, longer := map[int]int{}, map[int]int{}, 0
	samples(15000, 11, func(a agents, pass int, dice *rand.Rand) {
		melts := ints{dice.IntN(allMelts)}
		for range dice.IntN(api.MaxMelts) {
			melts = append(melts, pick(dice, near(dice, melts[0]), near(dice, melts[0]), melts[0], dice.IntN(allMelts)))
		}
		way, e := fining.Both(a, melts, pass)
		want, due := both(a, melts, pass)
		if e != due || !slices.Equal(way, want) {
			t.Fatalf("%v: Both(%v, %d) = %v %d, want %v %d", a, melts, pass, way, e, want, due)
		}
		if e != api.OK {
			nothing[len(melts)]++
		} else if len(melts) > 1 {
			length[len(way)]++
		}
		for _, melt := range melts {
			short, f := fining.Shortest(a, melt, pass)
			if e == api.OK && (f != api.OK || len(short) > len(way)) {
				t.Fatalf("%v: Both(%v, %d) = %v, Shortest(%d) = %v %d", a, melts, pass, way, melt, short, f)
			}
			if len(melts) == 1 && f == api.OK && len(short) <= api.MaxSteps && !slices.Equal(short, way) {
				t.Fatalf("%v: Both(%v, %d) = %v %d, Shortest %v", a, melts, pass, way, e, short)
			}
			if e == api.OK && len(short) < len(way) {
				longer++
			}
		}
	})
	if nothing[1] < 500 || nothing[2] < 500 || nothing[3] < 500 || length[0] < 100 || length[1] < 100 || length[2] < 100 || length[3] < 30 || length[4] < 5 || longer < 200 {
		t.Error(nothing, length, longer)
	}
	never := api.ErrNothing
	stir := of(0, 0, 0, 0, 1) // leaves all as it is
	for i, x := range []struct {
		a     agents
		melts ints
		pass  int
		want  ints
		e     api.Errno
	}{
		{nil, ints{0, 0, 0}, 0, nil, api.OK}, {nil, ints{0, 1}, 0, nil, never}, {nil, ints{0, 1, 2}, 3, nil, api.OK},
		// As many steps as there may be, and one more.
		{counter(4), ints{5}, 0, ints{0, 2, 0, 1, 0}, api.OK}, {counter(4), ints{6}, 0, nil, never}, {counter(4), ints{6}, 1, ints{1, 0, 2, 0, 1}, api.OK}, {counter(4), ints{5, 21, 53}, 48, ints{0, 2, 0, 1, 0}, api.OK}, {counter(4), ints{6, 22, 54}, 48, nil, never},
		// Each of the melts is cleared, wherever it stands, and all of them at once; one that is clear before may not stay so.
		{counter(2), ints{1, 2}, 0, nil, never}, {counter(2), ints{1, 1}, 0, ints{0}, api.OK}, {exampleS(), ints{1, 3, 8}, 8, nil, never}, {exampleS(), ints{1, 3, 11}, 8, ints{0, 1}, api.OK}, {exampleS(), ints{11, 3, 1}, 8, ints{0, 1}, api.OK}, {exampleS(), ints{3, 11, 1}, 0, nil, never},
		{agents{of(0, 0, 1, 2, 1), of(2, 0, 2, 0, 1)}, ints{0, 1}, 0, ints{0, 1}, api.OK}, {agents{of(0, 0, 1, 2, 1), of(2, 0, 2, 0, 1)}, ints{0, 2, 1}, 0, ints{0, 1}, api.OK}, {agents{of(0, 0, 1, 2, 1), of(2, 0, 2, 0, 1)}, ints{0, 2, 0}, 0, ints{0, 1}, api.OK}, {agents{of(0, 0, 1, 2, 1), of(2, 0, 2, 0, 1)}, ints{0, 0, 0}, 0, nil, api.OK},
		// What may be put to two of three is not put.
		{agents{of(0, 8, 7, 0, 1), of(0, 0, 15, 0, 1)}, ints{1, 2, 12}, 0, ints{1}, api.OK}, {agents{of(0, 8, 7, 0, 1), of(0, 0, 15, 0, 1)}, ints{12, 2, 1}, 0, ints{1}, api.OK}, {agents{of(0, 8, 7, 0, 1), of(0, 0, 15, 0, 1)}, ints{1, 12, 2}, 0, ints{1}, api.OK}, {agents{of(0, 8, 7, 0, 1), of(0, 0, 15, 0, 1)}, ints{1, 2, 4}, 0, ints{0}, api.OK},
		{agents{stir, of(0, 0, 1, 0, 1), of(0, 0, 2, 0, 1)}, ints{1, 2}, 0, ints{1, 2}, api.OK}, {agents{stir, of(0, 0, 2, 0, 1), of(0, 0, 1, 0, 1)}, ints{1, 2}, 0, ints{1, 2}, api.OK},
	} {
		if l, e := fining.Both(x.a, x.melts, x.pass); e != x.e || !slices.Equal(l, x.want) {
			t.Error(i, l, e)
		}
	}
}

// P9.7 and P9.18: the way that tells two melts apart.
func TestTells(t *testing.T) {
	nothing, length := 0, map[int]int{}
	samples(6000, 12, func(a agents, _ int, dice *rand.Rand) {
		x := dice.IntN(allMelts)
		y := pick(dice, near(dice, x), near(dice, x), x, dice.IntN(allMelts))
		way, e := fining.Tells(a, x, y)
		want, due := tells(a, x, y)
		if e != due || !slices.Equal(way, want) {
			t.Fatalf("%v: Tells(%d, %d) = %v %d, want %v %d", a, x, y, way, e, want, due)
		}
		if l, f := fining.Tells(a, y, x); f != e || !slices.Equal(l, way) {
			t.Fatalf("%v: Tells(%d, %d) = %v %d, the other way round %v %d", a, x, y, way, e, l, f)
		}
		if x == y && e != api.ErrNothing {
			t.Fatalf("%v: Tells(%d, %d) = %v %d", a, x, y, way, e)
		}
		if e != api.OK {
			nothing++
			return
		}
		length[len(way)]++
		last := len(way) - 1
		_, fromX := fining.Put(a, x, way)
		_, fromY := fining.Put(a, y, way)
		_, beforeX := fining.Put(a, x, way[:last])
		_, beforeY := fining.Put(a, y, way[:last])
		if fromX+fromY != api.ErrBarred || beforeX != api.OK || beforeY != api.OK {
			t.Fatalf("%v: Tells(%d, %d) = %v: %d %d, without the last one %d %d", a, x, y, way, fromX, fromY, beforeX, beforeY)
		}
	})
	if nothing < 1000 || length[1] < 1000 || length[2] < 100 || length[3] < 5 {
		t.Error(nothing, length)
	}
	// An agent that looks at the fault 8 when a counter is through.
	slow := append(counter(3), of(8, 7, 0, 0, 1))
	never := api.ErrNothing
	for i, x := range []struct {
		a    agents
		x, y int
		want ints
		e    api.Errno
	}{
		{nil, 0, 1, nil, never}, {agents{of(0, 0, 0, 0, 1)}, 0, 63, nil, never}, {agents{of(1, 0, 0, 0, 1)}, 0, 1, ints{0}, api.OK}, {agents{of(0, 1, 0, 0, 1)}, 0, 1, ints{0}, api.OK}, {agents{of(1, 0, 0, 0, 1)}, 2, 4, nil, never}, {agents{of(3, 0, 0, 0, 1)}, 1, 2, nil, never}, {agents{of(3, 0, 0, 0, 1)}, 1, 3, ints{0}, api.OK}, {agents{of(3, 0, 0, 0, 1), of(2, 0, 0, 0, 1)}, 1, 2, ints{1}, api.OK},
		// As many agents as there may be, and one more.
		{slow, 4, 12, ints{2, 0, 1, 0, 3}, api.OK}, {slow, 5, 13, nil, never}, {slow, 3, 11, ints{0, 1, 0, 3}, api.OK}, {slow, 0, 8, ints{3}, api.OK},
		// Melts that become the same cannot be told apart any more.
		{agents{of(0, 0, 1, 0, 1), of(2, 0, 0, 0, 1)}, 2, 3, nil, never}, {agents{of(0, 0, 1, 0, 1), of(1, 0, 0, 0, 1)}, 2, 3, ints{1}, api.OK}, {agents{of(0, 0, 1, 0, 1), of(2, 0, 2, 4, 1), of(6, 1, 0, 0, 1)}, 3, 7, ints{0, 2}, api.OK},
	} {
		if l, e := fining.Tells(x.a, x.x, x.y); e != x.e || !slices.Equal(l, x.want) {
			t.Error(i, l, e)
		}
	}
}

// P9.19: with an agent more, or with a fault more let pass.
func TestMore(t *testing.T) {
	cheaper, hope := 0, 0
	samples(1500, 13, func(a agents, pass int, dice *rand.Rand) {
		more, free := a, pass
		if len(a) < api.MaxAgents && dice.IntN(2) == 0 {
			// The others have other numbers then, too.
			more = slices.Insert(slices.Clone(a), dice.IntN(len(a)+1), randomAgent(dice, api.MaxMelt))
		} else {
			free |= 1 << dice.IntN(6)
		}
		before, now := without(t, a, pass), without(t, more, free)
		if slices.ContainsFunc(now, func(melt int) bool { return !slices.Contains(before, melt) }) {
			t.Fatalf("%v: Hopeless(%d) = %v, of %v and %d %v", a, pass, before, more, free, now)
		}
		if len(now) < len(before) {
			hope++
		}
		for melt := range allMelts {
			_, cost, e := fining.Cheapest(a, melt, pass)
			_, less, f := fining.Cheapest(more, melt, free)
			if e == api.OK && (f != api.OK || less > cost) {
				t.Fatalf("%v: Cheapest(%d, %d) costs %d, of %v and %d %d %d", a, melt, pass, cost, more, free, less, f)
			}
			if e == api.OK && less < cost {
				cheaper++
			}
		}
	})
	if cheaper < 2000 || hope < 300 {
		t.Error(cheaper, hope)
	}
}

// P9.20: faults have other numbers.
func TestOtherFaults(t *testing.T) {
	told := 0
	samples(1500, 14, func(a agents, pass int, dice *rand.Rand) {
		other := dice.Perm(6)
		now := func(sum int) (is int) {
			for i, n := range other {
				if in(sum, 1<<i) {
					is += 1 << n
				}
			}
			return is
		}
		c := but(a, func(a agents) {
			for n, x := range a {
				a[n] = of(now(x.Needs), now(x.Not), now(x.Takes), now(x.Leaves), x.Cost)
			}
		})
		for range 4 {
			melt := dice.IntN(allMelts)
			x := asked{melt, pass, melt, near(dice, melt), nil, ints{melt, near(dice, melt)}}
			y := asked{now(x.melt), now(x.pass), now(x.a), now(x.b), nil, ints{now(x.melts[0]), now(x.melts[1])}}
			got, want := answers(c, y), answers(a, x)
			for i, name := range []string{"May", "Put", "Reach", "Idle", "Shortest", "Cheapest", "Needed", "Spoils", "Hopeless", "Farthest", "Fewest", "Both", "Tells"} {
				switch name {
				case "Reach", "Hopeless":
					same := want[i].results[0].(ints)
					var list ints
					for _, m := range same {
						list = append(list, now(m))
					}
					slices.Sort(list)
					want[i].results[0] = list
				case "Farthest":
					// The first of several melts can be another one.
					got[i].results[0], want[i].results[0] = nil, nil
				case "Tells":
					if want[i].e == api.OK {
						told++
					}
				}
				if got[i].name != name || !sameAnswer(got[i], want[i]) {
					t.Fatalf("%v: %s of %+v, with the faults %v: %v, want %v", a, name, x, other, got[i], want[i])
				}
			}
		}
	})
	if told < 1000 {
		t.Error(told)
	}
}

// P9.21: agents have other numbers.
func TestRenumbered(t *testing.T) {
	others := 0
	samples(1500, 15, func(a agents, pass int, dice *rand.Rand) {
		old := dice.Perm(len(a))
		c := some(a, old)
		if list, want := without(t, c, pass), without(t, a, pass); !slices.Equal(list, want) {
			t.Fatalf("%v: Hopeless(%d) = %v, renumbered %v: %v", a, pass, want, old, list)
		}
		m, puts, _ := fining.Farthest(a, pass)
		if melt, n, e := fining.Farthest(c, pass); e != api.OK || n != puts || melt != m {
			t.Fatalf("%v: Farthest(%d) = %d %d, renumbered %v: %d %d %d", a, pass, m, puts, old, melt, n, e)
		}
		if set, want := fine(t)(fining.Fewest(c, pass)), fine(t)(fining.Fewest(a, pass)); len(set) != len(want) {
			t.Fatalf("%v: Fewest(%d) = %v, renumbered %v: %v", a, pass, want, old, set)
		}
		for range 4 {
			melt := dice.IntN(allMelts)
			x := asked{melt, pass, melt, near(dice, melt), nil, ints{melt, near(dice, melt)}}
			got, want := answers(c, x), answers(a, x)
			for i := range got {
				// All lists of agents have as many, and all else is the same.
				list, is := got[i].results[0].(ints)
				before, _ := want[i].results[0].(ints)
				if is && got[i].name != "Reach" && got[i].name != "Hopeless" {
					got[i].results[0], want[i].results[0] = len(list), len(before)
					if got[i].name == "Shortest" && !slices.Equal(list, before) {
						others++
					}
				}
				// How many agents the cheapest way has does not depend on their numbers, either.
				if !sameAnswer(got[i], want[i]) {
					t.Fatalf("%v: %+v: %v, renumbered %v: %v", a, x, want[i], old, got[i])
				}
			}
		}
	})
	if others < 200 {
		t.Error(others)
	}
}

// All that the limits let be: the longest ways, and the greatest costs.
func TestLimits(t *testing.T) {
	dear := but(counter(4), func(a agents) {
		for n := range a {
			a[n].Cost = api.MaxCost
		}
	})
	for melt := range 16 {
		way, e := fining.Shortest(dear, melt|48, 48)
		cheap, cost, f := fining.Cheapest(dear, melt|48, 48)
		if e != api.OK || f != api.OK || len(way) != melt || cost != melt*api.MaxCost || !slices.Equal(way, cheap) {
			t.Error(melt, way, e, cheap, cost, f)
		}
		list, e := fining.Put(dear, melt|48, way)
		if want := numbers(melt, func(int) bool { return true }); e != api.OK || len(list) != len(want) {
			t.Error(melt, list, e)
		}
		for i, m := range list {
			if m != melt-1-i|48 {
				t.Error(melt, list)
			}
		}
	}
	// All that agents can do, for each melt, and with all that can be let pass.
	all := agents{of(63, 0, 63, 31, 9), of(31, 32, 31, 15, 9), of(15, 48, 15, 7, 9), of(7, 56, 7, 0, 9)}
	for pass := range allMelts {
		w := waysOf(all, pass)
		for melt := range allMelts {
			way, cost, e := fining.Cheapest(all, melt, pass)
			if want, least, due := w.cheapest(all, melt); e != due || cost != least || !slices.Equal(way, want) {
				t.Error(melt, pass, way, cost, e)
			}
		}
		if l := without(t, all, pass); !slices.Equal(l, hopeless(all, pass)) {
			t.Error(pass, l)
		}
	}
}

// P1, R3, R5 and R7: whatever the arguments are.
func TestAnyArguments(t *testing.T) {
	dice := rand.New(rand.NewPCG(16, 9))
	odd := func() int {
		switch dice.IntN(24) {
		case 0:
			return math.MaxInt
		case 1:
			return math.MinInt
		case 2:
			return -1
		case 3:
			return 64
		}
		return dice.IntN(allMelts) & dice.IntN(allMelts)
	}
	list := func(most int) (list ints) {
		for range dice.IntN(most + 1) {
			list = append(list, odd())
		}
		return list
	}
	right := 0
	for range 20000 {
		a, _ := random(dice)
		for range dice.IntN(3) {
			a = append(a, of(odd(), odd(), odd(), odd(), dice.IntN(11)))
		}
		errs, clean := failures(answers(a, asked{odd(), odd(), odd(), odd(), list(22), list(4)}))
		e := fining.Check(a)
		for name, f := range errs {
			if !clean || e != api.OK && f != e {
				t.Fatalf("%v: %s: %d, Check %d, clean %t", a, name, f, e, clean)
			}
		}
		if e == api.OK {
			right++
		}
	}
	if right < 5000 || right > 15000 {
		t.Error(right)
	}
}

// R2, R4 and R6: no call changes an argument, nor memory behind it, and all calls of the same say the same, side by side too.
func TestNothingKept(t *testing.T) {
	samples(500, 17, func(a agents, pass int, dice *rand.Rand) {
		// There is room behind the lists, in which something stands.
		behind := func(list ints) ints { return append(slices.Clone(list), 7)[:len(list)] }
		a = append(slices.Clone(a), of(7, 7, 7, 7, 7))[:len(a)]
		melt := dice.IntN(allMelts)
		x := asked{melt, pass, melt, near(dice, melt), nil, ints{melt, near(dice, melt)}}
		for range min(dice.IntN(4), 3*len(a)) {
			x.way = append(x.way, dice.IntN(len(a)))
		}
		x.way, x.melts = behind(x.way), behind(x.melts)
		whole := func() (agents, ints) {
			return slices.Clone(a[:len(a)+1]), slices.Concat(x.way[:len(x.way)+1], x.melts[:len(x.melts)+1])
		}
		before, lists := whole()
		want := answers(a, x)
		var calls sync.WaitGroup
		for range 4 {
			calls.Go(func() {
				if got := answers(a, x); !slices.EqualFunc(got, want, sameAnswer) {
					t.Errorf("%v: %v, then %v", a, want, got)
				}
			})
		}
		calls.Wait()
		if after, now := whole(); !slices.Equal(before, after) || !slices.Equal(lists, now) {
			t.Fatalf("%v became %v, %v became %v", before, after, lists, now)
		}
	})
	// Nil and empty lists mean the same.
	if got, want := answers(agents{}, asked{way: ints{}, melts: ints{}}), answers(nil, asked{}); !slices.EqualFunc(got, want, sameAnswer) {
		t.Error(got, want)
	}
	if got, want := answers(exampleS(), asked{melt: 7, way: ints{}, melts: ints{}}), answers(exampleS(), asked{melt: 7}); !slices.EqualFunc(got, want, sameAnswer) {
		t.Error(got, want)
	}
}
