package syrup_test

import (
	"math"
	"math/rand/v2"
	"reflect"
	"slices"
	"sync"
	"testing"

	"muscovado/api"
	"muscovado/syrup"
	"muscovado/thread"
)

// asked are the arguments of all functions beside the pans.
type asked struct {
	quality int
	way     []int
	lots    lots
	rooms   []int
	lot     int
}

// answer is what a function returns: its results in a list, and its error.
type answer struct {
	name    string
	results []any
	e       api.Errno
}

// answers returns what all functions but Check say.
func answers(p pans, a asked) []answer {
	var list []answer
	add := func(name string, e api.Errno, results ...any) {
		list = append(list, answer{name, results, e})
	}
	l, e := syrup.Takes(p, a.quality)
	add("Takes", e, l)
	l, e = syrup.Boil(p, a.quality, a.way)
	add("Boil", e, l)
	l, e = syrup.Ever(p)
	add("Ever", e, l)
	l, e = syrup.Ring(p, a.quality)
	add("Ring", e, l)
	n, e := syrup.Longest(p, a.quality)
	add("Longest", e, n)
	l, e = syrup.Shortest(p, a.quality)
	add("Shortest", e, l)
	l, e = syrup.Ends(p, a.quality)
	add("Ends", e, l)
	n, e = syrup.Count(p, a.quality)
	add("Count", e, n)
	l, e = syrup.Forced(p, a.quality)
	add("Forced", e, l)
	l, e = syrup.Close(p)
	add("Close", e, l)
	l, n, e = syrup.Share(p, a.lots, a.rooms)
	add("Share", e, l, n)
	n, e = syrup.Verdict(p, a.lots, a.rooms, a.lot)
	add("Verdict", e, n)
	n, e = syrup.Need(p, a.lots)
	add("Need", e, n)
	return list
}

// zero returns whether a result is a zero value; an empty list is one, too.
func zero(x any) bool {
	v := reflect.ValueOf(x)
	return v.IsZero() || v.Kind() == reflect.Slice && v.Len() == 0
}

// failures returns the errors by the names of the functions, and whether all other results are zero values wherever there is one.
func failures(p pans, a asked) (errs map[string]api.Errno, clean bool) {
	errs, clean = map[string]api.Errno{}, true
	for _, x := range answers(p, a) {
		errs[x.name] = x.e
		for _, r := range x.results {
			clean = clean && (x.e == api.OK || zero(r))
		}
	}
	return errs, clean
}

// P3.1, and R1 and R3: the errors of pans, and their order.
func TestCheck(t *testing.T) {
	for i, x := range []struct {
		p    pans
		want api.Errno
	}{
		{nil, api.OK}, {exampleS(), api.OK}, {exampleT(), api.OK}, {make(pans, 4), api.OK}, {make(pans, 5), api.ErrExcess},
		{pans{pan(0, 12, 6), pan(12, 12, -6)}, api.OK}, {pans{pan(3, 3, 0)}, api.OK},
		{pans{pan(-1, 3, 0)}, api.ErrValue}, {pans{pan(13, 13, 0)}, api.ErrValue}, {pans{pan(0, 13, 0)}, api.ErrValue}, {pans{pan(0, -1, 0)}, api.ErrValue},
		{pans{pan(13, 2, 9)}, api.ErrValue}, {pans{pan(2, -1, 9)}, api.ErrValue}, {pans{pan(3, 2, 0)}, api.ErrSequence}, {pans{pan(3, 2, 9)}, api.ErrSequence},
		{pans{pan(2, 3, 7)}, api.ErrValue}, {pans{pan(2, 3, -7)}, api.ErrValue}, {pans{pan(2, 3, math.MinInt)}, api.ErrValue}, {pans{pan(2, 3, math.MaxInt)}, api.ErrValue},
		{pans{pan(2, 3, 7), pan(3, 2, 0)}, api.ErrValue}, {pans{pan(3, 2, 0), pan(-1, 0, 0)}, api.ErrSequence}, {pans{pan(1, 2, 0), pan(3, 2, 0)}, api.ErrSequence},
		{pans{{}, {}, {}, pan(0, 13, 0)}, api.ErrValue}, {pans{{}, {}, {}, pan(1, 0, 0)}, api.ErrSequence}, {append(make(pans, 4), pan(3, 2, 9)), api.ErrExcess},
	} {
		if e := syrup.Check(x.p); e != x.want {
			t.Errorf("%d: Check = %d, want %d", i, e, x.want)
		}
		if x.want == api.OK {
			continue
		}
		// Check's error comes before that of any other argument, and alone.
		for _, a := range []asked{{}, {quality: 13, way: make(ints, 41), lots: make(lots, 5), rooms: make(ints, 9), lot: -1}} {
			errs, clean := failures(x.p, a)
			for name, e := range errs {
				if e != x.want || !clean {
					t.Errorf("%d: %s: %d, clean %t", i, name, e, clean)
				}
			}
		}
	}
}

// The errors of the other arguments, and their order.
func TestArguments(t *testing.T) {
	good := asked{quality: 12, way: ints{0, 0, 1}, lots: exampleL(), rooms: ints{6, 6, 2}, lot: 2}
	all := func(e api.Errno, names ...string) map[string]api.Errno {
		errs := map[string]api.Errno{}
		for _, name := range names {
			errs[name] = e
		}
		return errs
	}
	qualities := all(api.ErrValue, "Takes", "Boil", "Ring", "Longest", "Shortest", "Ends", "Count", "Forced")
	ofLots := func(e api.Errno) map[string]api.Errno { return all(e, "Share", "Verdict", "Need") }
	ofRooms := func(e api.Errno) map[string]api.Errno { return all(e, "Share", "Verdict") }
	missing := all(api.ErrMissing, "Verdict")
	for i, x := range []struct {
		change func(a *asked)
		want   map[string]api.Errno
	}{
		{func(a *asked) {}, nil},
		{func(a *asked) { a.quality = 13 }, qualities},
		{func(a *asked) { a.quality = -1 }, qualities},
		{func(a *asked) { a.quality, a.way = 13, make(ints, 41) }, qualities},
		{func(a *asked) { a.way = make(ints, 41) }, all(api.ErrExcess, "Boil")},
		{func(a *asked) { a.way = append(make(ints, 40), 9) }, all(api.ErrExcess, "Boil")},
		{func(a *asked) { a.way = ints{3} }, all(api.ErrMissing, "Boil")},
		{func(a *asked) { a.way = ints{1, 3} }, all(api.ErrBarred, "Boil")},
		{func(a *asked) { a.way = ints{0, -1, 2} }, all(api.ErrMissing, "Boil")},
		{func(a *asked) { a.lots = make(lots, 5) }, ofLots(api.ErrExcess)},
		{func(a *asked) { a.lots, a.rooms = make(lots, 5), nil }, ofLots(api.ErrExcess)},
		{func(a *asked) { a.lots[2] = lot(13, 1) }, ofLots(api.ErrValue)},
		{func(a *asked) { a.lots[2] = lot(-1, 1) }, ofLots(api.ErrValue)},
		{func(a *asked) { a.lots[0] = lot(0, 0) }, ofLots(api.ErrValue)},
		{func(a *asked) { a.lots[0] = lot(12, 10) }, ofLots(api.ErrValue)},
		{func(a *asked) { a.lots[0], a.rooms, a.lot = lot(9, -1), nil, 9 }, ofLots(api.ErrValue)},
		{func(a *asked) { a.lots[0] = lot(12, 9) }, nil},
		{func(a *asked) { a.rooms = ints{99, 6} }, ofRooms(api.ErrShortage)},
		{func(a *asked) { a.rooms, a.lot = nil, 9 }, ofRooms(api.ErrShortage)},
		{func(a *asked) { a.rooms = ints{99, 6, 2, 0} }, ofRooms(api.ErrExcess)},
		{func(a *asked) { a.rooms = ints{0, 20, 21} }, ofRooms(api.ErrValue)},
		{func(a *asked) { a.rooms, a.lot = ints{0, -1, 20}, 9 }, ofRooms(api.ErrValue)},
		{func(a *asked) { a.rooms = ints{0, 20, 20} }, nil},
		{func(a *asked) { a.lot = 3 }, missing},
		{func(a *asked) { a.lot = -1 }, missing},
		{func(a *asked) { a.lots, a.lot = nil, 0 }, missing},
	} {
		a := good
		a.lots = slices.Clone(good.lots)
		x.change(&a)
		got, clean := failures(exampleS(), a)
		for name, e := range got {
			want := x.want[name]
			if want == api.OK && (name == "Longest" || name == "Count") {
				want = api.ErrConflict // from 12 a syrup can go round for ever
			}
			if want == api.OK && name == "Ring" {
				want = api.ErrNothing
			}
			if e != want || !clean {
				t.Errorf("%d: %s: %d, want %d, clean %t", i, name, e, want, clean)
			}
		}
	}
}

// The table of the chapter.
func TestExamples(t *testing.T) {
	s, l := exampleS(), exampleL()
	told := exampleT()
	list := func(name string, got []int, e api.Errno) func(want ...int) {
		return func(want ...int) {
			if e != api.OK || !slices.Equal(got, want) {
				t.Errorf("%s: %v %d, want %v", name, got, e, want)
			}
		}
	}
	number := func(name string, got int, e api.Errno) func(want int) {
		return func(want int) {
			list(name, ints{got}, e)(want)
		}
	}
	none := func(name string, want api.Errno, got any, e api.Errno) {
		if e != want || !zero(got) {
			t.Errorf("%s: %v %d, want %d", name, got, e, want)
		}
	}
	call := func(name string, f func(pans, int) ([]int, api.Errno), p pans, quality int, want ...int) {
		got, e := f(p, quality)
		list(name, got, e)(want...)
	}
	call("Takes", syrup.Takes, s, 9, 0, 1)
	call("Takes", syrup.Takes, s, 5, 1, 2)
	call("Takes", syrup.Takes, s, 1)
	got, e := syrup.Takes(s, 13)
	none("Takes(S; 13)", api.ErrValue, got, e)
	got, e = syrup.Boil(s, 12, ints{0, 0, 1})
	list("Boil(S; 12; 0 0 1)", got, e)(9, 6, 3)
	got, e = syrup.Boil(s, 12, ints{1})
	none("Boil(S; 12; 1)", api.ErrBarred, got, e)
	got, e = syrup.Boil(s, 12, ints{3})
	none("Boil(S; 12; 3)", api.ErrMissing, got, e)
	got, e = syrup.Ever(s)
	list("Ever(S)", got, e)(2, 3, 4, 5, 6, 7, 8, 9, 10, 11, 12)
	got, e = syrup.Ever(told)
	list("Ever(T)", got, e)()
	call("Ring", syrup.Ring, s, 5, 1, 2, 2, 1, 2)
	got, e = syrup.Ring(s, 9)
	none("Ring(S; 9)", api.ErrNothing, got, e)
	n, e := syrup.Longest(told, 12)
	number("Longest(T; 12)", n, e)(3)
	n, e = syrup.Longest(s, 12)
	none("Longest(S; 12)", api.ErrConflict, n, e)
	n, e = syrup.Longest(s, 1)
	number("Longest(S; 1)", n, e)(0)
	call("Shortest", syrup.Shortest, s, 4, 1)
	call("Shortest", syrup.Shortest, s, 12, 0, 0, 1, 2, 1, 2, 1)
	call("Shortest", syrup.Shortest, s, 1)
	call("Ends", syrup.Ends, s, 4, 1)
	call("Ends", syrup.Ends, told, 4, 1)
	call("Ends", syrup.Ends, told, 9, 3)
	n, e = syrup.Count(told, 12)
	number("Count(T; 12)", n, e)(2)
	n, e = syrup.Count(told, 1)
	number("Count(T; 1)", n, e)(1)
	n, e = syrup.Count(s, 12)
	none("Count(S; 12)", api.ErrConflict, n, e)
	call("Forced", syrup.Forced, s, 12, 0, 1, 2)
	call("Forced", syrup.Forced, told, 9, 1)
	call("Forced", syrup.Forced, told, 1)
	got, e = syrup.Close(s)
	list("Close(S)", got, e)(1)
	got, e = syrup.Close(told)
	list("Close(T)", got, e)()
	got, n, e = syrup.Share(s, l, ints{6, 6, 2})
	list("Share(S; L; 6 6 2)", append(got, n), e)(0, 1, -1, 9)
	got, n, e = syrup.Share(told, l, ints{6, 6})
	list("Share(T; L; 6 6)", append(got, n), e)(0, 1, -1, 9)
	n, e = syrup.Verdict(s, l, ints{6, 6, 2}, 2)
	number("Verdict(S; L; 6 6 2; 2)", n, e)(api.No)
	n, e = syrup.Verdict(s, l, ints{6, 6, 2}, 0)
	number("Verdict(S; L; 6 6 2; 0)", n, e)(api.Yes)
	n, e = syrup.Verdict(s, l, ints{6, 6, 2}, 3)
	none("Verdict(S; L; 6 6 2; 3)", api.ErrMissing, n, e)
	n, e = syrup.Need(s, l)
	number("Need(S; L)", n, e)(5)
	n, e = syrup.Need(told, l)
	number("Need(T; L)", n, e)(7)
}

// randomWay returns a list of pans that is a way, except that sometimes one of them is another one.
func randomWay(r *rand.Rand, p pans, quality int) []int {
	var way []int
	for range r.IntN(10) {
		list := takers(p, end(p, quality, way))
		if len(list) == 0 {
			break
		}
		way = append(way, list[r.IntN(len(list))])
	}
	if len(way) > 0 && r.IntN(3) == 0 {
		way[r.IntN(len(way))] = r.IntN(len(p))
	}
	return way
}

// P3.1 and P3.8.
func TestTakesAndBoil(t *testing.T) {
	found := map[api.Errno]int{}
	samples(1500, 1, func(p pans, r *rand.Rand) {
		for q := range qualities {
			if l, e := syrup.Takes(p, q); e != api.OK || !slices.Equal(l, takers(p, q)) {
				t.Fatalf("%v: Takes(%d) = %v %d", p, q, l, e)
			}
			way := randomWay(r, p, q)
			want, right := boiled(p, q, way)
			l, e := syrup.Boil(p, q, way)
			if !slices.Equal(l, want) || right != (e == api.OK) || !right && e != api.ErrBarred {
				t.Fatalf("%v: Boil(%d, %v) = %v %d, want %v", p, q, way, l, e, want)
			}
			found[e]++
			if !right {
				continue
			}
			at := q
			for i, w := range way {
				if list, _ := syrup.Takes(p, at); !slices.Contains(list, w) {
					t.Fatalf("%v: Boil(%d, %v): the pan at %d does not take %d", p, q, way, i, at)
				}
				first, e := syrup.Boil(p, q, way[:i+1])
				at = first[i]
				second, f := syrup.Boil(p, at, way[i+1:])
				if e != api.OK || f != api.OK || !slices.Equal(slices.Concat(first, second), l) {
					t.Fatalf("%v: Boil(%d, %v) = %v, in parts %v and %v", p, q, way, l, first, second)
				}
			}
		}
	})
	if found[api.OK] < 1000 || found[api.ErrBarred] < 1000 {
		t.Error(found)
	}
	// What is below 0, and what is above MaxQuality; as many pans as a way may have.
	for i, x := range []struct {
		p         pans
		quality   int
		way, want []int
		e         api.Errno
	}{
		{pans{pan(0, 12, -6)}, 10, ints{0, 0, 0}, ints{4, 0, 0}, api.OK},
		{pans{pan(0, 12, 6)}, 5, ints{0, 0, 0}, ints{11, 12, 12}, api.OK},
		{pans{pan(0, 12, -1)}, 12, make(ints, 40), slices.Concat(ints{11, 10, 9, 8, 7, 6, 5, 4, 3, 2, 1}, make(ints, 29)), api.OK},
		{pans{pan(0, 12, 0)}, 12, make(ints, 41), nil, api.ErrExcess},
		{pans{pan(4, 6, 3)}, 4, ints{0, 0}, nil, api.ErrBarred}, {pans{pan(4, 6, 3)}, 3, ints{0}, nil, api.ErrBarred}, {pans{pan(4, 6, 3)}, 7, ints{0}, nil, api.ErrBarred},
		{pans{pan(4, 6, 1)}, 4, ints{0, 0, 1}, nil, api.ErrMissing}, {pans{pan(4, 6, 1)}, 4, ints{0, 0, 0, 0, 9}, nil, api.ErrBarred},
		{pans{pan(4, 6, 1)}, 4, ints{0, math.MinInt}, nil, api.ErrMissing}, {nil, 4, ints{0}, nil, api.ErrMissing}, {nil, 4, nil, nil, api.OK},
	} {
		if l, e := syrup.Boil(x.p, x.quality, x.way); e != x.e || !slices.Equal(l, x.want) {
			t.Error(i, l, e)
		}
	}
}

// P3.2, P3.9 and P3.10.
func TestEverAndRing(t *testing.T) {
	round, lengths := 0, map[int]int{}
	samples(2000, 2, func(p pans, _ *rand.Rand) {
		all := tables(p)
		ever, e := syrup.Ever(p)
		if e != api.OK || !slices.Equal(ever, everRound(all)) {
			t.Fatalf("%v: Ever = %v %d, want %v", p, ever, e, everRound(all))
		}
		rings := map[int]bool{}
		for q := range qualities {
			want, some := firstWay(p, all, q, 1, func(to int) bool { return to == q })
			ring, e := syrup.Ring(p, q)
			if some != (e == api.OK) || !some && e != api.ErrNothing || !slices.Equal(ring, want) {
				t.Fatalf("%v: Ring(%d) = %v %d, want %v", p, q, ring, e, want)
			}
			rings[q] = some
			lengths[len(ring)]++
			if some && end(p, q, ring) != q {
				t.Fatalf("%v: Ring(%d) = %v is none", p, q, ring)
			}
		}
		for q := range qualities {
			reached := false
			for n := range all {
				for to, ways := range all[n][q] {
					reached = reached || ways > 0 && rings[to]
				}
			}
			if reached != slices.Contains(ever, q) {
				t.Fatalf("%v: Ever = %v, but from %d a ring is reached: %t", p, ever, q, reached)
			}
			if reached {
				round++
			}
		}
	})
	if round < 2000 || lengths[0] < 2000 || lengths[1] < 500 || lengths[2] < 200 || lengths[3] < 100 || lengths[4] < 50 {
		t.Error(round, lengths)
	}
	for i, x := range []struct {
		p       pans
		quality int
		want    []int
		ever    []int
	}{
		{nil, 0, nil, nil},
		{pans{pan(0, 12, 0)}, 12, ints{0}, ints{0, 1, 2, 3, 4, 5, 6, 7, 8, 9, 10, 11, 12}},
		{pans{pan(12, 12, 6)}, 12, ints{0}, ints{12}},                                      // it stays at MaxQuality
		{pans{pan(0, 2, -6)}, 0, ints{0}, ints{0, 1, 2}},                                   // and at 0
		{pans{pan(7, 7, 0), pan(7, 7, 0)}, 7, ints{0}, ints{7}},                            // the first of two
		{pans{pan(5, 5, 2), pan(7, 7, -2), pan(5, 5, 0)}, 5, ints{2}, ints{5, 7}},          // the shortest one is not the first one
		{pans{pan(5, 5, 2), pan(7, 7, -2), pan(5, 5, 0)}, 7, ints{1, 0}, ints{5, 7}},       // without what goes round on its way
		{pans{pan(5, 5, 2), pan(5, 5, 1), pan(6, 7, -1)}, 5, ints{1, 2}, ints{5, 6, 7}},    // by 6 and back
		{pans{pan(0, 11, 1), pan(12, 12, -6)}, 6, ints{0, 0, 0, 0, 0, 0, 1}, everyQuality}, // and from 0 without coming back there
		{pans{pan(0, 11, 1), pan(12, 12, -6)}, 0, nil, everyQuality},                       // no ring, but one is reached
		{pans{pan(0, 11, 1), pan(6, 6, -6), pan(12, 12, -6)}, 0, ints{0, 0, 0, 0, 0, 0, 1}, everyQuality},
		{pans{pan(0, 5, 1), pan(6, 11, 1), pan(7, 12, -6), pan(1, 6, -6)}, 12, ints{2, 1, 1, 1, 1, 1, 1}, everyQuality},
	} {
		ring, e := syrup.Ring(x.p, x.quality)
		ever, _ := syrup.Ever(x.p)
		if (e == api.OK) != (len(x.want) > 0) || !slices.Equal(ring, x.want) || !slices.Equal(ever, x.ever) {
			t.Error(i, ring, e, ever)
		}
	}
}

var everyQuality = ints{0, 1, 2, 3, 4, 5, 6, 7, 8, 9, 10, 11, 12}

// P3.3, P3.4 and P3.11 to P3.14.
func TestWays(t *testing.T) {
	found := map[string]int{}
	samples(2000, 3, func(p pans, _ *rand.Rand) {
		all := tables(p)
		closed := make([][qualities + 1]table, len(p))
		for i := range p {
			closed[i] = tables(p, i)
		}
		for q := range qualities {
			ends, count := treacleEnds(p, all, q)
			longest, e := 0, api.OK
			for n := range all {
				if all[n][q] != [qualities]int{} {
					longest = n
				}
			}
			if canGoRound(all, q) {
				longest, count, e = 0, 0, api.ErrConflict
				found["conflict"]++
			}
			var forced []int
			for i := range p {
				if avoiding, _ := treacleEnds(p, closed[i], q); len(avoiding) == 0 {
					forced = append(forced, i)
				}
			}
			shortest, some := firstWay(p, all, q, 0, func(to int) bool { return isTreacle(p, to) })
			f := api.OK
			if !some {
				forced, f = nil, api.ErrNothing
				found["nothing"]++
			}
			if len(forced) > 0 {
				found["forced"]++
			}
			if longest > 3 && count > 3 {
				found["many"]++
			}
			sameWays(t, p, q, longest, count, e, shortest, forced, f, ends)
		}
	})
	if found["conflict"] < 2000 || found["nothing"] < 500 || found["forced"] < 2000 || found["many"] < 100 {
		t.Error(found)
	}
}

// sameWays holds what is said of the ways from a quality against what has to be said.
func sameWays(t *testing.T, p pans, q, longest, count int, e api.Errno, shortest, forced []int, f api.Errno, ends []int) {
	t.Helper()
	if n, got := syrup.Longest(p, q); n != longest || got != e {
		t.Fatalf("%v: Longest(%d) = %d %d, want %d %d", p, q, n, got, longest, e)
	}
	if n, got := syrup.Count(p, q); n != count || got != e {
		t.Fatalf("%v: Count(%d) = %d %d, want %d %d", p, q, n, got, count, e)
	}
	if l, got := syrup.Shortest(p, q); !slices.Equal(l, shortest) || got != f {
		t.Fatalf("%v: Shortest(%d) = %v %d, want %v %d", p, q, l, got, shortest, f)
	}
	if l, got := syrup.Forced(p, q); !slices.Equal(l, forced) || got != f {
		t.Fatalf("%v: Forced(%d) = %v %d, want %v %d", p, q, l, got, forced, f)
	}
	if l, got := syrup.Ends(p, q); !slices.Equal(l, ends) || got != api.OK {
		t.Fatalf("%v: Ends(%d) = %v %d, want %v", p, q, l, got, ends)
	}
}

// P3.2 to P3.4, and P3.9 to P3.14: all ways are gone through, where there are not too many. No way that avoids a pan, and none that is the first one, is longer than there are qualities.
func TestAllWays(t *testing.T) {
	looked, round := 0, 0
	samples(1500, 4, func(p pans, _ *rand.Rand) {
		for q := range qualities {
			all, few := walked(p, q, qualities+1)
			if !few {
				continue
			}
			looked++
			longest, e, f := len(all[len(all)-1]), api.OK, api.ErrNothing
			var ring, shortest, ends []int
			forced, count := lists(len(p))[len(lists(len(p)))-1], 0
			for _, way := range all {
				to := end(p, q, way)
				if to == q && len(ring) == 0 {
					ring = way
				}
				if !isTreacle(p, to) {
					continue
				}
				if count == 0 {
					shortest, f = way, api.OK
				}
				count++
				ends = append(ends, to)
				forced = slices.DeleteFunc(forced, func(i int) bool { return !slices.Contains(way, i) })
			}
			slices.Sort(ends)
			ends = slices.Compact(ends)
			if f != api.OK {
				forced = nil
			}
			ever, _ := syrup.Ever(p)
			if (longest > qualities) != slices.Contains(ever, q) {
				t.Fatalf("%v: Ever = %v, but a way from %d has %d pans", p, ever, q, longest)
			}
			if longest > qualities {
				longest, count, e = 0, 0, api.ErrConflict
				round++
			}
			sameWays(t, p, q, longest, count, e, shortest, forced, f, ends)
			if l, _ := syrup.Ring(p, q); !slices.Equal(l, ring) {
				t.Fatalf("%v: Ring(%d) = %v, want %v", p, q, l, ring)
			}
		}
	})
	if looked < 10000 || round < 1000 {
		t.Error(looked, round)
	}
}

// P3.3 and P3.4 where there are as many ways, and as long ones, as there can be, and none to treacle.
func TestFarWays(t *testing.T) {
	down := slices.Repeat(pans{pan(1, 12, -1)}, 4)
	sameWays(t, down, 12, 12, 1<<24, api.OK, make(ints, 12), nil, api.OK, ints{0})
	sameWays(t, down[:1], 12, 12, 1, api.OK, make(ints, 12), ints{0}, api.OK, ints{0})
	sameWays(t, down, 0, 0, 1, api.OK, nil, nil, api.OK, ints{0})
	up := pans{pan(0, 11, 1), pan(0, 11, 2), pan(12, 12, 0)}
	sameWays(t, up, 0, 0, 0, api.ErrConflict, nil, nil, api.ErrNothing, nil)
	sameWays(t, up[:2], 0, 12, 377, api.OK, ints{1, 1, 1, 1, 1, 1}, nil, api.OK, ints{12})
	sameWays(t, nil, 5, 0, 1, api.OK, nil, nil, api.OK, ints{5})
	// What goes round can leave for treacle; what must not be closed is no treacle without the pan that takes it.
	sameWays(t, pans{pan(3, 5, 1), pan(6, 6, -3), pan(6, 6, 1)}, 3, 0, 0, api.ErrConflict, ints{0, 0, 0, 2}, ints{0, 2}, api.OK, ints{7})
	sameWays(t, pans{pan(3, 3, 1), pan(4, 4, 1), pan(3, 3, 2)}, 3, 2, 2, api.OK, ints{2}, nil, api.OK, ints{5})
}

// P3.5 and P3.15.
func TestClose(t *testing.T) {
	found := map[int]int{}
	samples(2000, 5, func(p pans, _ *rand.Rand) {
		closed, e := syrup.Close(p)
		sets := lists(len(p))
		first := slices.IndexFunc(sets, func(set []int) bool { return len(everRound(tables(p, set...))) == 0 })
		if e != api.OK || !slices.Equal(closed, sets[first]) {
			t.Fatalf("%v: Close = %v %d, want %v", p, closed, e, sets[first])
		}
		found[len(closed)]++
		for _, set := range sets[:first+1] {
			var left pans
			for i := range p {
				if !slices.Contains(set, i) {
					left = append(left, p[i])
				}
			}
			ever, _ := syrup.Ever(left)
			if (len(ever) == 0) != slices.Equal(set, closed) {
				t.Fatalf("%v: Close = %v, but without %v Ever = %v", p, closed, set, ever)
			}
		}
	})
	if found[0] < 200 || found[1] < 200 || found[2] < 100 || found[3] < 20 {
		t.Error(found)
	}
	for i, x := range []struct {
		p    pans
		want []int
	}{
		{make(pans, 4), ints{0, 1, 2, 3}},
		{pans{pan(5, 5, 1), pan(6, 6, -1)}, ints{0}},                                 // one of both is enough: the first one
		{pans{pan(5, 5, 1), pan(6, 6, -1), pan(6, 6, 0)}, ints{0, 2}},                // of the sets that are as short
		{pans{pan(5, 5, 1), pan(2, 2, 1), pan(3, 3, -1), pan(6, 6, -1)}, ints{0, 1}}, // two rings
		{pans{pan(5, 5, 1), pan(6, 6, 1), pan(6, 6, 2), pan(7, 8, -3)}, ints{0}},     // all of them by 5
		{pans{pan(7, 7, -1), pan(8, 8, -2), pan(6, 6, 1), pan(6, 6, 2)}, ints{0, 1}}, // 2 and 3 are as good
		{pans{pan(7, 7, -1), pan(8, 8, -2), pan(6, 6, 2), pan(0, 3, 1)}, ints{1}},    // a later one alone comes before two
		{pans{pan(0, 12, 6), pan(0, 12, -6), pan(0, 11, 1)}, ints{0, 1}},             // at the bounds each one alone goes round
		{pans{pan(0, 11, 6), pan(1, 12, -6), pan(0, 11, 1)}, ints{1}},
	} {
		if l, e := syrup.Close(x.p); e != api.OK || !slices.Equal(l, x.want) {
			t.Error(i, l, e)
		}
	}
}

// P3.16.
func TestOneMore(t *testing.T) {
	samples(1500, 6, func(p pans, _ *rand.Rand) {
		if len(p) == 0 {
			return
		}
		for i := range p {
			fewer, _ := syrup.Ever(slices.Delete(slices.Clone(p), i, i+1))
			all, e := syrup.Ever(p)
			for _, q := range fewer {
				if e != api.OK || !slices.Contains(all, q) {
					t.Fatalf("%v: Ever = %v %d, without the pan %d %v", p, all, e, i, fewer)
				}
			}
		}
	})
}

// P3.17.
func TestUpsideDown(t *testing.T) {
	turned := func(list []int) []int {
		var other []int
		for _, q := range list {
			other = append(other, api.MaxQuality-q)
		}
		return other
	}
	samples(1000, 7, func(p pans, r *rand.Rand) {
		var down pans
		for _, x := range p {
			down = append(down, pan(api.MaxQuality-x.Hi, api.MaxQuality-x.Lo, -x.Shift))
		}
		same := func(name string, a, b []int, e, f api.Errno, sort bool) {
			a = turned(a)
			if sort {
				slices.Sort(a)
			}
			if e != f || !slices.Equal(a, b) {
				t.Fatalf("%v: %s: %v %d, upside down %v %d", p, name, a, e, b, f)
			}
		}
		a, e := syrup.Ever(p)
		b, f := syrup.Ever(down)
		same("Ever", a, b, e, f, true)
		for q := range qualities {
			a, e := syrup.Ends(p, q)
			b, f := syrup.Ends(down, api.MaxQuality-q)
			same("Ends", a, b, e, f, true)
			way := randomWay(r, p, q)
			a, e = syrup.Boil(p, q, way)
			b, f = syrup.Boil(down, api.MaxQuality-q, way)
			same("Boil", a, b, e, f, false)
		}
	})
}

// P3.6, P3.18 and P3.19.
func TestShareAndVerdict(t *testing.T) {
	found := map[int]int{}
	samples(6000, 8, func(p pans, r *rand.Rand) {
		if r.IntN(2) == 0 {
			p = widePans(r)
		}
		l, rooms := randomLots(r), randomRooms(r, p)
		good, most := bestShares(p, l, rooms)
		share, pounds, e := syrup.Share(p, l, rooms)
		if e != api.OK || pounds != most || !slices.Equal(share, good[0]) {
			t.Fatalf("%v, %v, %v: Share = %v %d %d, want %v %d", p, l, rooms, share, pounds, e, good[0], most)
		}
		for k := range l {
			n := 0
			for _, s := range good {
				if s[k] >= 0 {
					n++
				}
			}
			want := api.Open
			switch n {
			case 0:
				want = api.No
			case len(good):
				want = api.Yes
			}
			found[want]++
			if v, e := syrup.Verdict(p, l, rooms, k); e != api.OK || v != want {
				t.Fatalf("%v, %v, %v: Verdict(%d) = %d %d, want %d", p, l, rooms, k, v, e, want)
			}
		}
	})
	if found[api.Yes] < 500 || found[api.No] < 500 || found[api.Open] < 200 {
		t.Error(found)
	}
	wide, heavy := most()
	for i, x := range []struct {
		p      pans
		l      lots
		rooms  []int
		share  []int
		pounds int
	}{
		{wide, heavy, ints{20, 20, 20, 20}, ints{0, 0, 1, 1}, 36},
		{wide, heavy, ints{9, 9, 9, 9}, ints{0, 1, 2, 3}, 36},
		{wide, heavy, ints{8, 9, 17, 18}, ints{1, 2, 3, 3}, 36},
		{wide, heavy, ints{8, 8, 8, 9}, ints{-1, -1, -1, 3}, 9},
		{wide, lots{lot(0, 5), lot(0, 6), lot(0, 5)}, ints{0, 10, 0, 0}, ints{1, -1, 1}, 10}, // two lighter ones before a heavier one
		{wide, lots{lot(0, 6), lot(0, 5)}, ints{6, 5, 0, 0}, ints{0, 1}, 11},
		{wide, nil, ints{0, 0, 0, 0}, nil, 0},
		{nil, heavy, nil, ints{-1, -1, -1, -1}, 0},
		{pans{pan(0, 3, 0), pan(2, 5, 0)}, lots{lot(3, 4), lot(1, 4), lot(5, 4), lot(6, 1)}, ints{4, 8}, ints{1, 0, 1, -1}, 12},
	} {
		if l, n, e := syrup.Share(x.p, x.l, x.rooms); e != api.OK || n != x.pounds || !slices.Equal(l, x.share) {
			t.Error(i, l, n, e)
		}
	}
}

// P3.7 and P3.20.
func TestNeed(t *testing.T) {
	found := map[bool]int{}
	samples(1500, 9, func(p pans, r *rand.Rand) {
		if r.IntN(2) == 0 {
			p = widePans(r)
		}
		l := randomLots(r)
		n, e := syrup.Need(p, l)
		if e != api.OK || !served(p, l, n) || n > 0 && served(p, l, n-1) {
			t.Fatalf("%v, %v: Need = %d %d", p, l, n, e)
		}
		found[n > 0]++
		rooms := randomRooms(r, p)
		_, pounds, _ := syrup.Share(p, l, rooms)
		for i := range p {
			more := slices.Clone(rooms)
			more[i] += r.IntN(api.MaxPanRoom - rooms[i] + 1)
			if _, m, e := syrup.Share(p, l, more); e != api.OK || m < pounds {
				t.Fatalf("%v, %v: %d pounds with %v, %d with %v", p, l, pounds, rooms, m, more)
			}
		}
		if n <= api.MaxPanRoom {
			all := 0
			for _, x := range l {
				if !isTreacle(p, x.Quality) {
					all += x.Pounds
				}
			}
			if _, m, _ := syrup.Share(p, l, slices.Repeat(ints{n}, len(p))); m != all {
				t.Fatalf("%v, %v: Need = %d, which leaves %d of %d", p, l, n, m, all)
			}
		}
	})
	if found[false] < 100 || found[true] < 500 {
		t.Error(found)
	}
	wide, heavy := most()
	for i, x := range []struct {
		p    pans
		l    lots
		want int
	}{{wide, heavy, 9}, {wide[:3], heavy, 18}, {wide[:1], heavy, 36}, {nil, heavy, 0}, {wide, nil, 0}, {pans{pan(1, 12, 0)}, heavy, 0}, {wide[:2], lots{lot(0, 5), lot(1, 4), lot(2, 3), lot(3, 2)}, 7}} {
		if n, e := syrup.Need(x.p, x.l); e != api.OK || n != x.want {
			t.Error(i, n, e)
		}
	}
}

// P3.21.
func TestRenumbered(t *testing.T) {
	samples(1000, 10, func(p pans, r *rand.Rand) {
		old := r.Perm(len(p))
		l, rooms := randomLots(r), randomRooms(r, p)
		var other pans
		var others []int
		for _, i := range old {
			other, others = append(other, p[i]), append(others, rooms[i])
		}
		for q := range qualities {
			was, is := answers(p, asked{quality: q, lots: l, rooms: rooms}), answers(other, asked{quality: q, lots: l, rooms: others})
			for k, x := range was {
				y := is[k]
				switch x.name {
				case "Takes", "Forced":
					var same []int
					for _, i := range x.results[0].([]int) {
						same = append(same, slices.Index(old, i))
					}
					slices.Sort(same)
					x.results = []any{same}
				case "Ring", "Shortest", "Close":
					// Which one of several is the first one depends on the numbers.
					x.results, y.results = []any{len(x.results[0].([]int))}, []any{len(y.results[0].([]int))}
				case "Share":
					x.results, y.results = x.results[1:], y.results[1:]
				}
				if x.e != y.e || !slices.EqualFunc(x.results, y.results, reflect.DeepEqual) {
					t.Fatalf("%v, %v: %s(%d): %v %d, renumbered %v: %v %d", p, l, x.name, q, x.results, x.e, old, y.results, y.e)
				}
			}
		}
	})
}

// T2: a pan that becomes thicker goes through the numbers that a syrup has that goes through pans, each of which adds what a tick adds.
func TestCourse(t *testing.T) {
	r := rand.New(rand.NewPCG(11, 2))
	looked := 0
	for range 4000 {
		rate, start := 1+r.IntN(api.MaxBoilRate), r.IntN(qualities)
		var heats, way []int
		var spans []api.Span
		var list pans
		sum, fits := start, true
		for range 1 + r.IntN(api.MaxTicks) {
			heat := r.IntN(api.MaxHeat + 1)
			adds := rate * heat
			heats, spans = append(heats, heat), append(spans, api.Span{Lo: heat, Hi: heat})
			sum += adds
			if fits = fits && adds <= api.MaxShift; !fits {
				break
			}
			at := slices.IndexFunc(list, func(p api.Pan) bool { return p.Shift == adds })
			if at < 0 {
				at, list = len(list), append(list, pan(0, api.MaxQuality, adds))
			}
			way = append(way, at)
		}
		if !fits || sum > api.MaxQuality || len(list) > api.MaxPans {
			continue
		}
		looked++
		b := api.Boil{Starts: []api.Span{{Lo: start, Hi: start}}, Rates: ints{rate}, Marks: ints{10, 20, 30}, Heats: spans}
		course, e := thread.Course(b, ints{start}, heats)
		outs, f := syrup.Boil(list, start, way)
		if thick := slices.Concat(course...); e != api.OK || f != api.OK || !slices.Equal(thick, append(ints{start}, outs...)) {
			t.Fatalf("%+v, %v: %v %d, %v %d", b, list, thick, e, outs, f)
		}
	}
	if looked < 500 {
		t.Error(looked)
	}
}

// P1, R3, R5 and R7: whatever the arguments are.
func TestAnyArguments(t *testing.T) {
	r := rand.New(rand.NewPCG(12, 3))
	odd := func() int {
		switch r.IntN(9) {
		case 0:
			return math.MaxInt
		case 1:
			return math.MinInt
		case 2:
			return -1
		}
		return r.IntN(5)
	}
	oddly := func() (list []int) {
		for range r.IntN(5) {
			list = append(list, odd())
		}
		return list
	}
	for range 5000 {
		var p pans
		for range r.IntN(6) {
			p = append(p, pan(odd(), odd(), odd()))
		}
		if r.IntN(3) == 0 {
			p = exampleS()
		}
		a := asked{odd(), oddly(), nil, oddly(), odd()}
		for range r.IntN(6) {
			a.lots = append(a.lots, lot(odd(), odd()))
		}
		errs, clean := failures(p, a)
		e := syrup.Check(p)
		for name, f := range errs {
			if !clean || e != api.OK && f != e {
				t.Fatalf("%v, %+v: %s: %d, Check %d, clean %t", p, a, name, f, e, clean)
			}
		}
	}
}

// R2, R4 and R6: no call changes an argument, nor memory behind it, and all calls of the same say the same, side by side too.
func TestNothingKept(t *testing.T) {
	samples(60, 13, func(p pans, r *rand.Rand) {
		// There is room behind the lists, in which something stands.
		p = append(slices.Clone(p), pan(7, 7, 7))[:len(p)]
		a := asked{quality: r.IntN(qualities), lots: append(randomLots(r), lot(7, 7))}
		a.lots = a.lots[:len(a.lots)-1]
		a.rooms = append(randomRooms(r, p), 77)[:len(p)]
		a.way = append(randomWay(r, p, a.quality), 77)
		a.way = a.way[:len(a.way)-1]
		all := func() []any {
			return []any{p[:len(p)+1], a.lots[:len(a.lots)+1], a.rooms[:len(p)+1], a.way[:len(a.way)+1]}
		}
		before := []any{slices.Clone(p[:len(p)+1]), slices.Clone(a.lots[:len(a.lots)+1]), slices.Clone(a.rooms[:len(p)+1]), slices.Clone(a.way[:len(a.way)+1])}
		want := answers(p, a)
		var calls sync.WaitGroup
		for range 4 {
			calls.Go(func() {
				if got := answers(p, a); !reflect.DeepEqual(got, want) {
					t.Errorf("%v, %+v: %v, then %v", p, a, want, got)
				}
			})
		}
		calls.Wait()
		if after := all(); !reflect.DeepEqual(before, after) {
			t.Fatalf("%v became %v", before, after)
		}
	})
	// Nil and empty lists mean the same.
	none, empty := answers(nil, asked{}), answers(pans{}, asked{way: ints{}, lots: lots{}, rooms: ints{}})
	for i, x := range none {
		if y := empty[i]; x.e != y.e || !slices.EqualFunc(x.results, y.results, func(a, b any) bool { return zero(a) && zero(b) || reflect.DeepEqual(a, b) }) {
			t.Error(x, y)
		}
	}
}
