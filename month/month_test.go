package month_test

import (
	"math"
	"math/rand/v2"
	"reflect"
	"slices"
	"sync"
	"testing"

	"muscovado/api"
	"muscovado/fining"
	"muscovado/floor"
	"muscovado/month"
	"muscovado/syrup"
	"muscovado/weigh"
)

// answer is what a function returns: its results in a list, and its error.
type answer struct {
	name    string
	results []any
	e       api.Errno
}

// answers returns what all functions but Check say.
func answers(m api.Month, melt int) []answer {
	var list []answer
	add := func(name string, e api.Errno, results ...any) {
		list = append(list, answer{name, results, e})
	}
	l, e := month.Way(m, melt)
	add("Way", e, l)
	n, e := month.Ready(m, melt)
	add("Ready", e, n)
	l, e = month.Spoilt(m)
	add("Spoilt", e, l)
	p, l, e := month.Plant(m)
	add("Plant", e, p, l)
	b, n, e := month.Plan(m)
	add("Plan", e, b, n)
	n, e = month.Late(m)
	add("Late", e, n)
	l, n, e = month.Share(m)
	add("Share", e, l, n)
	l, e = month.Rounds(m)
	add("Rounds", e, l)
	n, e = month.Cost(m)
	add("Cost", e, n)
	l, e = month.Agents(m)
	add("Agents", e, l)
	n, e = month.Later(m, melt)
	add("Later", e, n)
	w, e := month.Worth(m, melt)
	add("Worth", e, w)
	return list
}

// answerOf returns what one of the functions says.
func answerOf(name string, m api.Month, melt int) answer {
	list := answers(m, melt)
	return list[slices.IndexFunc(list, func(x answer) bool { return x.name == name })]
}

// zero returns whether a result is a zero value; an empty list is one, too.
func zero(x any) bool {
	if p, is := x.(api.Plant); is {
		return len(p.Floors) == 0 && len(p.Strikes) == 0
	}
	v := reflect.ValueOf(x)
	return v.IsZero() || v.Kind() == reflect.Slice && v.Len() == 0
}

// sameResult returns whether two results are the same; nil and empty lists are.
func sameResult(a, b any) bool {
	if x, is := a.(api.Plant); is {
		y := b.(api.Plant)
		return slices.Equal(x.Floors, y.Floors) && slices.Equal(x.Strikes, y.Strikes)
	}
	return reflect.DeepEqual(a, b) || zero(a) && zero(b)
}

func sameAnswer(a, b answer) bool {
	return a.name == b.name && a.e == b.e && slices.EqualFunc(a.results, b.results, sameResult)
}

// failures returns the errors by the names of the functions, and whether all other results are zero values wherever there is one.
func failures(list []answer) (errs map[string]api.Errno, clean bool) {
	errs, clean = map[string]api.Errno{}, true
	for _, x := range list {
		errs[x.name] = x.e
		for _, r := range x.results {
			clean = clean && (x.e == api.OK || zero(r))
		}
	}
	return errs, clean
}

// fine returns the first result of a function that has no error, and no other result.
func fine[T any](t *testing.T, m api.Month) func(T, api.Errno) T {
	t.Helper()
	return func(x T, e api.Errno) T {
		t.Helper()
		if e != api.OK {
			t.Fatalf("%+v: %d", m, e)
		}
		return x
	}
}

// These return what the functions say that have no error if the month is valid.

func planOf(t *testing.T, m api.Month) (berths, int) {
	t.Helper()
	b, n, e := month.Plan(m)
	if e != api.OK {
		t.Fatalf("%+v: Plan: %d", m, e)
	}
	return b, n
}

func plantOf(t *testing.T, m api.Month) (api.Plant, ints) {
	t.Helper()
	p, l, e := month.Plant(m)
	if e != api.OK {
		t.Fatalf("%+v: Plant: %d", m, e)
	}
	return p, l
}

func shareOf(t *testing.T, m api.Month) (ints, int) {
	t.Helper()
	l, n, e := month.Share(m)
	if e != api.OK {
		t.Fatalf("%+v: Share: %d", m, e)
	}
	return l, n
}

func cones(t *testing.T, m api.Month) int {
	t.Helper()
	_, n := planOf(t, m)
	return n
}

func spoilt(t *testing.T, m api.Month) ints {
	t.Helper()
	return fine[ints](t, m)(month.Spoilt(m))
}

// ready returns the day on which a melt is ready, and whether it is not spoilt.
func ready(t *testing.T, m api.Month, melt int) (int, bool) {
	t.Helper()
	day, e := month.Ready(m, melt)
	if e != api.OK && e != api.ErrNothing {
		t.Fatalf("%+v: Ready(%d): %d", m, melt, e)
	}
	return day, e == api.OK
}

// way returns that of a melt, none if it is spoilt.
func way(t *testing.T, m api.Month, melt int) ints {
	t.Helper()
	l, e := month.Way(m, melt)
	if e != api.OK && e != api.ErrNothing {
		t.Fatalf("%+v: Way(%d): %d", m, melt, e)
	}
	return l
}

// set returns all melts that have a floor.
func set(b berths) ints {
	return numbers(len(b), func(n int) bool { return b[n] != away() })
}

// conesOf returns the cones of some melts.
func conesOf(m api.Month, list ints) (sum int) {
	for _, n := range list {
		sum += m.Melts[n].Cones
	}
	return sum
}

// P11.1, and R1 and R3: the errors of a month, and their order.
func TestCheck(t *testing.T) {
	ok, value, excess, shortage, sequence := api.OK, api.ErrValue, api.ErrExcess, api.ErrShortage, api.ErrSequence
	with := func(change func(m *api.Month)) api.Month { return but(exampleS(), change) }
	// The melt 2 is another one, behind which there is one that is wrong in another way.
	third := func(x api.Melt, next ints) api.Month {
		return with(func(m *api.Month) { m.Melts[2], m.Melts[3].Kinds = x, next })
	}
	good, kinds := melt(ints{1, 3}, 1, 4, 1, 4), func(list ...int) api.Melt { return melt(list, 1, 4, 1, 4) }
	clash := agent(1, 1, 0, 0, 1)
	for i, x := range []struct {
		m    api.Month
		want api.Errno
	}{
		{exampleS(), ok}, {exampleT(), ok}, {exampleW(), ok}, {bare(1), ok}, {api.Month{Floors: floors{floorOf(1, 1, 1, 0)}}, ok}, {api.Month{}, shortage},
		// Agents are asked by layer 9, before what is let pass.
		{with(func(m *api.Month) { m.Agents, m.Pass = make(agents, 5), 64 }), excess}, {with(func(m *api.Month) { m.Agents[3], m.Pass = clash, 64 }), api.ErrConflict}, {with(func(m *api.Month) { m.Agents[0].Cost, m.Pans = 0, make(pans, 5) }), value}, {with(func(m *api.Month) { m.Agents = nil }), ok},
		// What is let pass comes before the pans.
		{with(func(m *api.Month) { m.Pass, m.Pans = 64, make(pans, 5) }), value}, {with(func(m *api.Month) { m.Pass, m.Pans = -1, make(pans, 5) }), value}, {with(func(m *api.Month) { m.Pass = math.MinInt }), value}, {with(func(m *api.Month) { m.Pass = math.MaxInt }), value}, {with(func(m *api.Month) { m.Pass = 63 }), ok}, {with(func(m *api.Month) { m.Pass = 1 }), ok},
		// Pans come before the rooms.
		{with(func(m *api.Month) { m.Pans, m.Rooms = make(pans, 5), nil }), excess}, {with(func(m *api.Month) { m.Pans[2], m.Rooms = pan(5, 4, 0), nil }), sequence}, {with(func(m *api.Month) { m.Pans[0].Shift, m.Rooms = 7, nil }), value}, {with(func(m *api.Month) { m.Pans, m.Rooms = nil, nil }), ok},
		// Rooms come before the floors: first how many there are.
		{with(func(m *api.Month) { m.Rooms, m.Floors = ints{21, 0}, make(floors, 3) }), shortage}, {with(func(m *api.Month) { m.Rooms, m.Floors = ints{21, 0, 0, 0}, nil }), excess}, {with(func(m *api.Month) { m.Rooms, m.Floors = nil, make(floors, 3) }), shortage}, {with(func(m *api.Month) { m.Pans, m.Floors = nil, nil }), excess},
		{with(func(m *api.Month) { m.Rooms[2], m.Floors = 21, nil }), value}, {with(func(m *api.Month) { m.Rooms[0], m.Floors = -1, nil }), value}, {with(func(m *api.Month) { m.Rooms[1] = math.MaxInt }), value}, {with(func(m *api.Month) { m.Rooms = ints{0, 20, 0} }), ok},
		// Floors come before the melts.
		{with(func(m *api.Month) { m.Floors, m.Melts = nil, make(melts, 5) }), shortage}, {with(func(m *api.Month) { m.Floors = make(floors, 3) }), excess}, {with(func(m *api.Month) { m.Floors[1].Drip.Hi, m.Melts = 2, make(melts, 5) }), sequence}, {with(func(m *api.Month) { m.Floors[0].Places, m.Melts = 10, make(melts, 5) }), value}, {with(func(m *api.Month) { m.Floors = m.Floors[:1] }), ok},
		// How many melts there are comes before what they are.
		{with(func(m *api.Month) { m.Melts = make(melts, 5) }), excess}, {with(func(m *api.Month) { m.Melts = make(melts, 4) }), shortage}, {with(func(m *api.Month) { m.Melts = nil }), ok}, {with(func(m *api.Month) { m.Melts = append(m.Melts, good) }), excess},
		// Of one melt first how many kinds it has, then these, then the rest; then the next melt.
		{third(kinds(), ints{64}), shortage}, {third(kinds(0, 1, 2, 3), ints{64}), excess}, {third(kinds(64, 64, 64, 64), nil), excess}, {third(melt(nil, -1, 0, -1, -1), ints{64}), shortage}, {third(melt(make(ints, 4), 8, 7, 4, 13), nil), excess},
		{third(kinds(64), nil), value}, {third(kinds(-1), nil), value}, {third(kinds(math.MinInt), nil), value}, {third(kinds(math.MaxInt), nil), value}, {third(kinds(0, 64), nil), value}, {third(kinds(0, 1, 64), nil), value}, {third(kinds(1, -1), nil), value},
		{third(kinds(3, 1), nil), sequence}, {third(kinds(3, 3), nil), sequence}, {third(kinds(1, 3, 2), nil), sequence}, {third(kinds(1, 1, 2), nil), sequence}, {third(kinds(3, 1, 64), nil), sequence}, {third(kinds(64, 1), nil), value}, {third(kinds(0, 0), nil), sequence}, {third(melt(ints{3, 1}, 8, 4, 1, 4), nil), sequence},
		{third(kinds(0), ints{6}), ok}, {third(kinds(63), ints{6}), ok}, {third(kinds(0, 1, 63), ints{6}), ok}, {third(kinds(0, 1, 63), nil), shortage}, {third(kinds(0, 1, 63), ints{64}), value}, {third(kinds(0, 1, 63), ints{1, 0}), sequence},
		{third(melt(ints{1}, -1, 4, 1, 4), nil), value}, {third(melt(ints{1}, 8, 4, 1, 4), nil), value}, {third(melt(ints{1}, math.MaxInt, 4, 1, 4), nil), value}, {third(melt(ints{1}, math.MinInt, 4, 1, 4), nil), value}, {third(melt(ints{1}, 7, 4, 1, 4), ints{6}), ok}, {third(melt(ints{1}, 0, 4, 1, 4), ints{6}), ok},
		{third(melt(ints{1}, 1, 0, 1, 4), nil), value}, {third(melt(ints{1}, 1, 7, 1, 4), nil), value}, {third(melt(ints{1}, 1, -1, 1, 4), nil), value}, {third(melt(ints{1}, 1, math.MaxInt, 1, 4), nil), value}, {third(melt(ints{1}, 1, 6, 1, 4), ints{6}), ok}, {third(melt(ints{1}, 1, 1, 1, 4), ints{6}), ok},
		{third(melt(ints{1}, 1, 4, -1, 4), nil), value}, {third(melt(ints{1}, 1, 4, 4, 4), nil), value}, {third(melt(ints{1}, 1, 4, math.MaxInt, 4), nil), value}, {third(melt(ints{1}, 1, 4, 3, 4), ints{6}), ok}, {third(melt(ints{1}, 1, 4, 0, 4), ints{6}), ok},
		{third(melt(ints{1}, 1, 4, 1, -1), nil), value}, {third(melt(ints{1}, 1, 4, 1, 13), nil), value}, {third(melt(ints{1}, 1, 4, 1, math.MinInt), nil), value}, {third(melt(ints{1}, 1, 4, 1, 12), ints{6}), ok}, {third(melt(ints{1}, 1, 4, 1, 0), ints{6}), ok},
		// A melt need not come on a later day than the one before it.
		{with(func(m *api.Month) { slices.Reverse(m.Melts) }), ok},
	} {
		if e := month.Check(x.m); e != x.want {
			t.Errorf("%d: Check = %d, want %d", i, e, x.want)
		}
		if x.want == ok {
			continue
		}
		// Check's error comes before that of the melt, and alone.
		for _, melt := range []int{0, -1, 9} {
			errs, clean := failures(answers(x.m, melt))
			for name, e := range errs {
				if e != x.want || !clean {
					t.Errorf("%d: %s: %d, want %d, clean %t", i, name, e, x.want, clean)
				}
			}
		}
	}
}

// P11.1, and R3: a melt that is none, and one that is spoilt.
func TestArguments(t *testing.T) {
	ofMelt := []string{"Way", "Ready", "Later", "Worth"}
	look := func(m api.Month, melt int, missing bool, nothing ...string) {
		t.Helper()
		list := answers(m, melt)
		_, clean := failures(list)
		for _, x := range list {
			want := api.OK
			if missing && slices.Contains(ofMelt, x.name) {
				want = api.ErrMissing
			} else if slices.Contains(nothing, x.name) {
				want = api.ErrNothing
			}
			if x.e != want || !clean {
				t.Errorf("%s(%d): %d, want %d, clean %t", x.name, melt, x.e, want, clean)
			}
		}
	}
	for _, n := range []int{-1, 4, 5, math.MaxInt, math.MinInt} {
		look(exampleS(), n, true)
		look(exampleT(), n, true)
	}
	for _, n := range []int{-1, 0, 1, math.MaxInt, math.MinInt} {
		look(bare(2), n, true)
	}
	for n := range 4 {
		look(exampleS(), n, false)
	}
	look(exampleT(), 1, false, "Way", "Ready")
	look(exampleT(), 2, false)
	look(withoutMelt(exampleS(), 0), 3, true)
}

// The table of the chapter.
func TestExamples(t *testing.T) {
	s, u, w := exampleS(), exampleT(), exampleW()
	for i, x := range []struct {
		m    api.Month
		want api.Errno
	}{
		{s, api.OK},
		{but(s, func(m *api.Month) { m.Pass = 64 }), api.ErrValue},
		{but(s, func(m *api.Month) { m.Rooms = m.Rooms[:2] }), api.ErrShortage},
		{but(s, func(m *api.Month) { m.Floors = nil }), api.ErrShortage},
		{withKinds(s, 2, 3, 1), api.ErrSequence},
		{withDay(s, 0, 8), api.ErrValue},
	} {
		if e := month.Check(x.m); e != x.want {
			t.Error(i, e)
		}
	}
	none := ints(nil)
	plantT := api.Plant{Floors: s.Floors, Strikes: []api.Strike{{Day: 0, Cones: 3}, {Day: 3, Cones: 4, Wait: 1}, {Day: 6, Cones: 2}}}
	for i, x := range []struct {
		name string
		m    api.Month
		melt int
		e    api.Errno
		want []any
	}{
		{"Way", s, 0, api.OK, []any{none}},
		{"Way", s, 1, api.OK, []any{ints{1}}},
		{"Way", s, 2, api.OK, []any{ints{0, 1}}},
		{"Way", s, 3, api.OK, []any{ints{3}}},
		{"Way", u, 1, api.ErrNothing, []any{none}},
		{"Ready", s, 0, api.OK, []any{0}},
		{"Ready", s, 1, api.OK, []any{1}},
		{"Ready", s, 2, api.OK, []any{3}},
		{"Ready", s, 3, api.OK, []any{6}},
		{"Ready", s, 4, api.ErrMissing, []any{0}},
		{"Spoilt", s, 0, api.OK, []any{none}},
		{"Spoilt", u, 0, api.OK, []any{ints{1}}},
		{"Plant", u, 0, api.OK, []any{plantT, ints{0, 2, 3}}},
		{"Plan", s, 0, api.OK, []any{berths{on(0, 0), on(1, 1), on(0, 3), on(0, 6)}, 11}},
		{"Plan", u, 0, api.OK, []any{berths{on(0, 0), away(), on(0, 3), on(0, 6)}, 9}},
		{"Late", s, 0, api.OK, []any{-1}},
		{"Late", w, 0, api.OK, []any{2}},
		{"Share", s, 0, api.OK, []any{ints{0, 0, 1, -1}, 9}},
		{"Share", u, 0, api.OK, []any{ints{0, -1, 1, -1}, 7}},
		{"Rounds", s, 0, api.OK, []any{ints{0, 1, 2}}},
		{"Rounds", u, 0, api.OK, []any{ints{0, 2}}},
		{"Cost", s, 0, api.OK, []any{10}},
		{"Cost", u, 0, api.OK, []any{8}},
		{"Agents", s, 0, api.OK, []any{ints{0, 1, 3}}},
		{"Later", s, 0, api.OK, []any{1}},
		{"Later", s, 3, api.OK, []any{1}},
		{"Worth", s, 2, api.OK, []any{api.Span{Lo: 0, Hi: 0}}},
		{"Worth", u, 1, api.OK, []any{api.Span{Lo: 2, Hi: 2}}},
	} {
		if got := answerOf(x.name, x.m, x.melt); !sameAnswer(got, answer{x.name, x.want, x.e}) {
			t.Errorf("%d: %s = %v %d, want %v %d", i, x.name, got.results, got.e, x.want, x.e)
		}
	}
}

// P11.1: the way of each melt, when it is ready, and what is spoilt.
func TestWay(t *testing.T) {
	several, lost, length := 0, 0, map[int]int{}
	samples(2500, 1, func(m api.Month, _ *rand.Rand) {
		o := outcomeOf(m)
		for n, x := range m.Melts {
			e := api.OK
			if o.ready[n] == -1 {
				e = api.ErrNothing
				lost++
			} else {
				length[len(o.ways[n])]++
			}
			if l, got := month.Way(m, n); got != e || !slices.Equal(l, o.ways[n]) {
				t.Fatalf("%+v: Way(%d) = %v %d, want %v %d", m, n, l, got, o.ways[n], e)
			}
			if day, got := month.Ready(m, n); got != e || day != max(o.ready[n], 0) {
				t.Fatalf("%+v: Ready(%d) = %d %d, want %d %d", m, n, day, got, o.ready[n], e)
			}
			if len(x.Kinds) > 1 && len(o.ways[n]) > 0 {
				several++
			}
		}
		if l := spoilt(t, m); !slices.Equal(l, o.spoilt) {
			t.Fatalf("%+v: Spoilt = %v, want %v", m, l, o.spoilt)
		}
	})
	if several < 300 || lost < 500 || length[0] < 500 || length[1] < 500 || length[3] < 100 || length[5] < 20 {
		t.Error(several, lost, length)
	}
	// A way has at most MaxSteps agents, and its last one is put on the day before the melt is ready. What is let pass need not be cleared.
	at := func(pass, day int, kinds ...int) api.Month {
		return but(bare(6, melt(kinds, day, 1, 0, 0)), func(m *api.Month) { m.Pass = pass })
	}
	for i, x := range []struct {
		m     api.Month
		way   ints
		ready int
		e     api.Errno
	}{
		{at(0, 0, 0), nil, 0, api.OK}, {at(0, 7, 0), nil, 7, api.OK}, {at(0, 7, 4), ints{2, 0, 1, 0}, 11, api.OK}, {at(0, 7, 5), ints{0, 2, 0, 1, 0}, 12, api.OK}, {at(0, 7, 6), nil, 0, api.ErrNothing}, {at(0, 0, 7), nil, 0, api.ErrNothing},
		{at(1, 0, 6), ints{1, 0, 2, 0, 1}, 5, api.OK}, {at(7, 3, 6), nil, 3, api.OK}, {at(2, 3, 6), ints{1, 0, 2, 0}, 7, api.OK}, {at(8, 0, 8), nil, 0, api.OK}, {at(0, 0, 8), nil, 0, api.ErrNothing}, {at(8, 2, 9), ints{0}, 3, api.OK},
		{at(0, 0, 1, 2), nil, 0, api.ErrNothing}, {at(0, 2, 1, 3), nil, 0, api.ErrNothing}, {at(2, 2, 1, 3), ints{0}, 3, api.OK}, {at(3, 2, 1, 2, 3), nil, 2, api.OK}, {at(6, 2, 1, 3, 5), ints{0}, 3, api.OK}, {at(6, 2, 1, 3, 4), nil, 0, api.ErrNothing}, {at(3, 1, 4, 6), nil, 0, api.ErrNothing}, {at(3, 1, 4), ints{2}, 2, api.OK},
	} {
		l, e := month.Way(x.m, 0)
		day, f := month.Ready(x.m, 0)
		if e != x.e || f != x.e || !slices.Equal(l, x.way) || day != x.ready || len(spoilt(t, x.m)) > 0 != (e != api.OK) {
			t.Error(i, l, e, day, f)
		}
	}
}

// P11.2: the plant, the plan, and the melt that is late.
func TestPlan(t *testing.T) {
	late, unset, moved := 0, 0, 0
	samples(2500, 2, func(m api.Month, _ *rand.Rand) {
		o := outcomeOf(m)
		p, l := plantOf(t, m)
		if !slices.Equal(p.Floors, m.Floors) || !slices.Equal(p.Strikes, o.strikes) || !slices.Equal(l, o.order) {
			t.Fatalf("%+v: Plant = %+v %v, want %v %v", m, p, l, o.strikes, o.order)
		}
		if !slices.IsSorted(l) {
			moved++
		}
		b, n := planOf(t, m)
		if !slices.Equal(b, o.berths) || n != o.loaves {
			t.Fatalf("%+v: Plan = %v %d, want %v %d", m, b, n, o.berths, o.loaves)
		}
		if len(o.set) < len(o.strikes) {
			unset++
		}
		if n := fine[int](t, m)(month.Late(m)); n != o.late {
			t.Fatalf("%+v: Late = %d, want %d", m, n, o.late)
		}
		if o.late >= 0 {
			late++
		}
	})
	if late < 500 || unset < 500 || moved < 500 {
		t.Error(late, unset, moved)
	}
	// Strikes with the same day are in the order of their melts, however these became ready.
	same := bare(4, melt(ints{0}, 3, 1, 0, 0), melt(ints{1}, 2, 2, 1, 0), melt(ints{8}, 0, 6, 0, 0), melt(ints{2}, 1, 3, 2, 0))
	back := only(same, ints{3, 2, 1, 0})
	for i, x := range []struct {
		m       api.Month
		strikes rows
		melts   ints
		berths  berths
		late    int
	}{
		{same, rows{{3, 1, 0}, {3, 2, 1}, {3, 3, 2}}, ints{0, 1, 3}, berths{on(0, 3), on(0, 3), away(), on(0, 5)}, -1},
		{back, rows{{3, 3, 2}, {3, 2, 1}, {3, 1, 0}}, ints{0, 2, 3}, berths{on(0, 5), away(), on(0, 3), on(0, 3)}, -1},
		{withDay(same, 0, 4), rows{{3, 2, 1}, {3, 3, 2}, {4, 1, 0}}, ints{1, 3, 0}, berths{on(0, 4), on(0, 3), away(), on(0, 5)}, -1},
		{but(same, func(m *api.Month) { m.Floors[0].Places = 3 }), rows{{3, 1, 0}, {3, 2, 1}, {3, 3, 2}}, ints{0, 1, 3}, berths{on(0, 3), on(0, 3), away(), on(0, 5)}, -1},
		{but(same, func(m *api.Month) { m.Floors[0].Places = 2 }), rows{{3, 1, 0}, {3, 2, 1}, {3, 3, 2}}, ints{0, 1, 3}, berths{away(), on(0, 3), away(), away()}, 1},
		{but(same, func(m *api.Month) { m.Floors[0].Places, m.Melts[0].Cones = 2, 3 }), rows{{3, 3, 0}, {3, 2, 1}, {3, 3, 2}}, ints{0, 1, 3}, berths{away(), on(0, 3), away(), away()}, 0},
		{bare(1, melt(ints{8}, 0, 1, 0, 0)), nil, nil, berths{away()}, -1}, {bare(1), nil, nil, nil, -1},
		// All that is set at 12, the last day of a strike.
		{bare(6, melt(ints{5}, 7, 6, 3, 0)), rows{{12, 6, 3}}, ints{0}, berths{on(0, 12)}, -1},
	} {
		p, l := plantOf(t, x.m)
		var strikes rows
		for _, s := range p.Strikes {
			strikes = append(strikes, ints{s.Day, s.Cones, s.Wait})
		}
		b, n := planOf(t, x.m)
		late := fine[int](t, x.m)(month.Late(x.m))
		if !slices.EqualFunc(strikes, x.strikes, slices.Equal[ints]) || !slices.Equal(l, x.melts) || !slices.Equal(b, x.berths) || n != conesOf(x.m, set(b)) || late != x.late {
			t.Error(i, strikes, l, b, n, late)
		}
	}
}

// P11.3: where the syrups go, and which of them can go round for ever.
func TestShare(t *testing.T) {
	shared, unset, round, still := 0, 0, 0, 0
	samples(2500, 3, func(m api.Month, _ *rand.Rand) {
		o := outcomeOf(m)
		l, n := shareOf(t, m)
		if want, most := share(m, o.set); n != most || !slices.Equal(l, want) {
			t.Fatalf("%+v: Share = %v %d, want %v %d", m, l, n, want, most)
		}
		if n > 0 {
			shared++
		}
		is := func(n int) bool { return slices.Contains(o.set, n) && rounds(m.Pans, m.Melts[n].Quality) }
		list := fine[ints](t, m)(month.Rounds(m))
		if want := numbers(len(m.Melts), is); !slices.Equal(list, want) {
			t.Fatalf("%+v: Rounds = %v, want %v", m, list, want)
		}
		round += len(list)
		for n, x := range m.Melts {
			if !slices.Contains(o.set, n) && rounds(m.Pans, x.Quality) {
				unset++
			}
			if slices.Contains(o.set, n) && !rounds(m.Pans, x.Quality) && slices.ContainsFunc(m.Pans, func(p api.Pan) bool { return p.Lo <= x.Quality && x.Quality <= p.Hi }) {
				still++
			}
		}
	})
	if shared < 500 || unset < 200 || round < 500 || still < 200 {
		t.Error(shared, unset, round, still)
	}
	// The lots are in the order of the melts' numbers, not in that of the strikes; a melt that is not set takes no room.
	one := func(room int, list ...api.Melt) api.Month {
		return but(bare(9, list...), func(m *api.Month) { m.Pans, m.Rooms = pans{pan(3, 3, 0), pan(3, 4, 1)}, ints{room, 0} })
	}
	for i, x := range []struct {
		m      api.Month
		pans   ints
		pounds int
		rounds ints
	}{
		{one(2, melt(ints{2}, 0, 2, 0, 3), melt(ints{0}, 0, 2, 0, 3)), ints{-1, 0}, 2, ints{0, 1}},
		{one(2, melt(ints{8}, 0, 2, 0, 3), melt(ints{0}, 0, 2, 0, 3)), ints{-1, 0}, 2, ints{1}},
		{one(3, melt(ints{2}, 0, 2, 0, 3), melt(ints{0}, 0, 3, 0, 3), melt(ints{0}, 0, 1, 0, 3)), ints{-1, 0, -1}, 3, ints{0, 1, 2}},
		{one(3, melt(ints{2}, 0, 2, 0, 3), melt(ints{8}, 0, 3, 0, 3), melt(ints{0}, 0, 1, 0, 3)), ints{0, -1, 0}, 3, ints{0, 2}},
		{one(20, melt(ints{0}, 0, 2, 0, 4), melt(ints{0}, 0, 3, 0, 5), melt(ints{0}, 0, 1, 0, 3)), ints{-1, -1, 0}, 1, ints{2}},
		{one(20), nil, 0, nil},
		{bare(9, melt(ints{0}, 0, 2, 0, 4)), ints{-1}, 0, nil},
	} {
		l, n := shareOf(t, x.m)
		if r := fine[ints](t, x.m)(month.Rounds(x.m)); !slices.Equal(l, x.pans) || n != x.pounds || !slices.Equal(r, x.rounds) {
			t.Error(i, l, n, r)
		}
	}
}

// P11.4 and P11.12: what clearing costs, in all, and for each melt.
func TestCost(t *testing.T) {
	twice, unset, dearer := 0, 0, 0
	samples(2500, 4, func(m api.Month, _ *rand.Rand) {
		o := outcomeOf(m)
		cost := fine[int](t, m)(month.Cost(m))
		if cost != o.cost {
			t.Fatalf("%+v: Cost = %d, want %d", m, cost, o.cost)
		}
		least := 0
		for n, x := range m.Melts {
			l, most := way(t, m, n), 0
			for _, kind := range x.Kinds {
				_, c, e := fining.Cheapest(m.Agents, kind, m.Pass)
				if e != api.OK && o.ready[n] >= 0 {
					t.Fatalf("%+v: the way %v clears %d, but Cheapest: %d", m, l, kind, e)
				}
				most = max(most, c)
			}
			sum := 0
			for _, a := range l {
				sum += m.Agents[a].Cost
			}
			if o.ready[n] >= 0 && sum < most {
				t.Fatalf("%+v: the way %v costs %d, Cheapest %d", m, l, sum, most)
			}
			sorted := slices.Sorted(slices.Values(l))
			switch {
			case !slices.Contains(o.set, n):
				unset += sum
			case len(slices.Compact(sorted)) < len(l):
				twice++
				fallthrough
			default:
				least += most
			}
		}
		if cost < least {
			t.Fatalf("%+v: Cost = %d, but all cheapest ways together %d", m, cost, least)
		}
		if cost > least {
			dearer++
		}
	})
	if twice < 50 || unset < 300 || dearer < 150 {
		t.Error(twice, unset, dearer)
	}
	// An agent that is there twice costs twice, and so does one that two melts need.
	two := bare(9, melt(ints{3}, 0, 1, 0, 0), melt(ints{3}, 0, 1, 0, 0), melt(ints{8}, 0, 1, 0, 0))
	two.Agents[0].Cost, two.Agents[1].Cost = 4, 9
	if n := fine[int](t, two)(month.Cost(two)); n != 2*(4+9+4) {
		t.Error(n)
	}
	two.Floors[0].Places = 1
	if n := fine[int](t, two)(month.Cost(two)); n != 4+9+4 {
		t.Error(n)
	}
}

// P11.4 and P11.13: the agents without which there are fewer loaves.
func TestAgents(t *testing.T) {
	fewer, more, idle, same := 0, 0, 0, 0
	samples(2500, 5, func(m api.Month, _ *rand.Rand) {
		l := fine[ints](t, m)(month.Agents(m))
		if want := missed(m); !slices.Equal(l, want) {
			t.Fatalf("%+v: Agents = %v, want %v", m, l, want)
		}
		now := cones(t, m)
		for a := range m.Agents {
			without := cones(t, withoutAgent(m, a))
			is := slices.Contains(l, a)
			if is != (without < now) {
				t.Fatalf("%+v: Agents = %v, but %d and without %d %d loaves", m, l, now, a, without)
			}
			used := false
			for n := range m.Melts {
				used = used || slices.Contains(way(t, m, n), a)
			}
			switch {
			case is && !used:
				t.Fatalf("%+v: Agents = %v, but no way has %d", m, l, a)
			case is:
				fewer++
			case without > now:
				more++
			case used:
				same++
			default:
				idle++
			}
		}
	})
	if fewer < 500 || more < 3 || same < 200 || idle < 500 {
		t.Error(fewer, more, same, idle)
	}
	// An agent without which there are more loaves, as the first melt is ready a day later then.
	hasty := bare(2, melt(ints{3}, 0, 2, 0, 0), melt(ints{0}, 0, 2, 0, 0))
	hasty.Agents = agents{agent(3, 0, 3, 0, 1), agent(1, 0, 1, 0, 1), agent(2, 0, 2, 0, 1)}
	// An agent that only makes it sooner; one instead of which there is another; and without melts.
	sooner := bare(9, melt(ints{3}, 7, 1, 0, 0))
	sooner.Agents = agents{agent(3, 0, 3, 0, 1), agent(1, 0, 1, 0, 1), agent(2, 0, 2, 0, 1), agent(2, 0, 2, 0, 9)}
	for i, x := range []struct {
		m    api.Month
		want ints
	}{{hasty, nil}, {withoutAgent(hasty, 0), ints{0, 1}}, {sooner, nil}, {withoutAgent(sooner, 0), ints{0}}, {withoutAgent(withoutAgent(sooner, 0), 2), ints{0, 1}}, {withKinds(sooner, 0, 1), ints{1}}, {bare(9), nil}, {api.Month{Floors: sooner.Floors, Melts: melts{melt(ints{0}, 0, 1, 0, 0)}}, nil}} {
		if l := fine[ints](t, x.m)(month.Agents(x.m)); !slices.Equal(l, x.want) {
			t.Error(i, l)
		}
	}
}

// P11.5 and P11.14: how much later a melt may come.
func TestLater(t *testing.T) {
	less, again, better, whole := 0, 0, 0, 0
	samples(900, 6, func(m api.Month, _ *rand.Rand) {
		now := cones(t, m)
		for n, x := range m.Melts {
			most := fine[int](t, m)(month.Later(m, n))
			if want := later(m, n); most != want {
				t.Fatalf("%+v: Later(%d) = %d, want %d", m, n, most, want)
			}
			for more := range most + 1 {
				l := cones(t, withDay(m, n, x.Day+more))
				if l < now {
					t.Fatalf("%+v: Later(%d) = %d, but by %d later %d loaves, and %d now", m, n, most, more, l, now)
				}
				if l > now {
					better++
				}
			}
			if x.Day+most == api.MaxMeltDay {
				whole++
				continue
			}
			if l := cones(t, withDay(m, n, x.Day+most+1)); l >= now {
				t.Fatalf("%+v: Later(%d) = %d, but one day later %d loaves, and %d now", m, n, most, l, now)
			}
			less++
			// Later still there may be as many again, which does not matter.
			if l := cones(t, withDay(m, n, api.MaxMeltDay)); l >= now {
				again++
			}
		}
	})
	if less < 100 || again < 20 || better < 30 || whole < 500 {
		t.Error(less, again, better, whole)
	}
	// A floor for two cones: the first melt must come at once, or when the second one is off it again.
	two := bare(2, melt(ints{0}, 0, 2, 0, 0), melt(ints{0}, 2, 2, 0, 0))
	for i, x := range []struct {
		m    api.Month
		melt int
		want int
	}{
		{two, 0, 0}, {two, 1, 5}, {withDay(two, 0, 4), 0, 3}, {withDay(two, 0, 7), 0, 0}, {withDay(two, 0, 1), 0, 6}, {withDay(two, 1, 3), 0, 1}, {withDay(two, 1, 7), 1, 0}, {withKinds(two, 0, 8), 0, 7}, {withKinds(withDay(two, 0, 3), 0, 8), 0, 4},
		{but(two, func(m *api.Month) { m.Melts[0].Wait = 2 }), 0, 0}, {but(two, func(m *api.Month) { m.Melts[0].Wait = 3 }), 0, 7}, {but(two, func(m *api.Month) { m.Melts[1].Wait = 1 }), 0, 1}, {but(two, func(m *api.Month) { m.Melts[1].Wait = 2 }), 0, 2}, {but(two, func(m *api.Month) { m.Melts[1].Wait = 3 }), 0, 7},
		{withKinds(two, 0, 2), 0, 7}, {withKinds(withDay(two, 1, 5), 0, 1), 0, 2}, {withKinds(withDay(two, 1, 5), 0, 2), 0, 1}, {withKinds(withDay(two, 0, 5), 0, 5), 0, 2},
	} {
		if n := fine[int](t, x.m)(month.Later(x.m, x.melt)); n != x.want {
			t.Error(i, n)
		}
	}
}

// P11.6 and P11.15: what it is worth to know what a melt is.
func TestWorth(t *testing.T) {
	worse, better, apart, known, shorter := 0, 0, 0, 0, 0
	samples(2500, 7, func(m api.Month, _ *rand.Rand) {
		now := cones(t, m)
		for n, x := range m.Melts {
			w := fine[api.Span](t, m)(month.Worth(m, n))
			list := gains(m, n)
			if want := (api.Span{Lo: slices.Min(list), Hi: slices.Max(list)}); w != want {
				t.Fatalf("%+v: Worth(%d) = %v, want %v", m, n, w, want)
			}
			day, is := ready(t, m, n)
			for i, kind := range x.Kinds {
				alone := withKinds(m, n, kind)
				if gain := cones(t, alone) - now; gain != list[i] || gain < w.Lo || gain > w.Hi {
					t.Fatalf("%+v: Worth(%d) = %v, but %d is worth %d", m, n, w, kind, gain)
				}
				sooner, can := ready(t, alone, n)
				if is && (!can || sooner > day || len(way(t, alone, n)) > len(way(t, m, n))) {
					t.Fatalf("%+v: the melt %d is ready on %d; as %d alone on %d, %t", m, n, day, kind, sooner, can)
				}
				if is && sooner < day {
					shorter++
				}
			}
			switch {
			case len(x.Kinds) == 1:
				known++
				if w != (api.Span{}) {
					t.Fatalf("%+v: Worth(%d) = %v with one kind", m, n, w)
				}
			case w.Lo < w.Hi:
				apart++
			}
			if w.Lo < 0 {
				worse++
			}
			if w.Hi > 0 {
				better++
			}
		}
	})
	if worse < 20 || better < 200 || apart < 200 || known < 1000 || shorter < 50 {
		t.Error(worse, better, apart, known, shorter)
	}
	// The agent 2 clears the melt at once if it is of one kind, the two others clear it whichever it is.
	doubt := bare(2, melt(ints{1, 3}, 0, 2, 0, 0), melt(ints{0}, 0, 2, 0, 0))
	doubt.Agents = agents{agent(1, 0, 1, 2, 1), agent(2, 0, 2, 0, 1), agent(1, 2, 1, 0, 1)}
	for i, x := range []struct {
		m    api.Month
		want api.Span
	}{
		{doubt, api.Span{Lo: -2, Hi: 0}}, {withDay(doubt, 1, 2), api.Span{Lo: 0, Hi: 0}}, {withDay(doubt, 1, 3), api.Span{Lo: 0, Hi: 2}}, {withDay(doubt, 1, 4), api.Span{}}, {withKinds(doubt, 0, 3), api.Span{}}, {withKinds(doubt, 0, 8), api.Span{}}, {withKinds(doubt, 0, 8, 16), api.Span{}},
		{withKinds(withDay(doubt, 1, 2), 0, 1, 8), api.Span{Lo: 0, Hi: 0}}, {withKinds(withDay(doubt, 1, 4), 0, 1, 8), api.Span{Lo: 0, Hi: 2}}, {withKinds(withDay(doubt, 1, 4), 0, 1, 2, 3), api.Span{Lo: 2, Hi: 2}},
	} {
		if w := fine[api.Span](t, x.m)(month.Worth(x.m, 0)); w != x.want {
			t.Error(i, w)
		}
	}
}

// P11.7: a way clears each of the kinds; what is spoilt is cleared by no way for all of them together.
func TestCleared(t *testing.T) {
	cleared, together, alone := 0, 0, 0
	samples(3000, 8, func(m api.Month, _ *rand.Rand) {
		lost := spoilt(t, m)
		for n, x := range m.Melts {
			l := way(t, m, n)
			if slices.Contains(lost, n) {
				if l, some := wayOf(m, x.Kinds); some {
					t.Fatalf("%+v: %d is spoilt, but %v clears it", m, n, l)
				}
				if canEach(m, x.Kinds) {
					together++
				} else {
					alone++
				}
				continue
			}
			for _, kind := range x.Kinds {
				after, e := fining.Put(m.Agents, kind, l)
				if e != api.OK || slices.Concat(ints{kind}, after)[len(l)]&^m.Pass != 0 {
					t.Fatalf("%+v: Way(%d) = %v, which makes %v of %d, %d", m, n, l, after, kind, e)
				}
				cleared++
			}
		}
	})
	if cleared < 1500 || together < 200 || alone < 300 {
		t.Error(cleared, together, alone)
	}
}

// P11.8: the plan is right in every heat, and no right plan has more loaves.
func TestRight(t *testing.T) {
	looked, tried := 0, 0
	samples(1200, 9, func(m api.Month, _ *rand.Rand) {
		p, order := plantOf(t, m)
		b, loaves := planOf(t, m)
		var plan berths
		choices := []berths{}
		for strike, n := range order {
			plan = append(plan, b[n])
			day, is := ready(t, m, n)
			if !is || b[n] != away() && (b[n].Day < day || b[n].Day > day+m.Melts[n].Wait) {
				t.Fatalf("%+v: Plan = %v, but %d is ready on %d", m, b, n, day)
			}
			list := berths{away()}
			for floor := range m.Floors {
				for wait := range p.Strikes[strike].Wait + 1 {
					list = append(list, on(floor, day+wait))
				}
			}
			choices = append(choices, list)
		}
		for _, n := range spoilt(t, m) {
			if b[n] != away() {
				t.Fatalf("%+v: Plan = %v, but %d is spoilt", m, b, n)
			}
		}
		if loaves != conesOf(m, set(b)) {
			t.Fatalf("%+v: Plan = %v %d", m, b, loaves)
		}
		everyHeat(t, m, b)
		for _, other := range product(choices) {
			sum := 0
			for strike, at := range other {
				if at != away() {
					sum += p.Strikes[strike].Cones
				}
			}
			if sum <= loaves && !slices.Equal(other, plan) {
				continue
			}
			tried++
			floor, day, e := floor.Wrong(p, other)
			if e != api.OK || (day < 0) != slices.Equal(other, plan) {
				t.Fatalf("%+v: Plan = %v %d, and %v is wrong on %d %d, %d", m, plan, loaves, other, floor, day, e)
			}
		}
		looked += len(set(b))
	})
	if looked < 250 || tried < 2000 {
		t.Error(looked, tried)
	}
}

// product returns all lists that have one of each of some lists.
func product[T any](choices [][]T) [][]T {
	all := [][]T{nil}
	for _, list := range choices {
		var longer [][]T
		for _, before := range all {
			for _, x := range list {
				longer = append(longer, slices.Concat(before, []T{x}))
			}
		}
		all = longer
	}
	return all
}

// everyHeat carries a plan out in every heat, and looks whether some floor has more cones than places, or is empty for too long.
func everyHeat(t *testing.T, m api.Month, b berths) {
	t.Helper()
	var drips []ints
	for _, at := range b {
		days := ints{0}
		if at != away() {
			drip := m.Floors[at.Floor].Drip
			days = numbers(drip.Hi+1, func(n int) bool { return n >= drip.Lo })
		}
		drips = append(drips, days)
	}
	for _, heat := range product(drips) {
		for floor, f := range m.Floors {
			var stand [api.LastDay + 1]int
			first, last := len(stand), -1
			for n, at := range b {
				if at.Floor != floor {
					continue
				}
				first, last = min(first, at.Day), max(last, at.Day)
				for day := range heat[n] {
					stand[at.Day+day] += m.Melts[n].Cones
				}
			}
			empty := 0
			for day, n := range stand {
				empty++
				if n > 0 {
					empty = 0
				}
				if n > f.Places || first < day && day < last && empty > f.Cool {
					t.Fatalf("%+v: Plan = %v: in the heat %v the floor %d is wrong on %d", m, b, heat, floor, day)
				}
				if day <= first {
					empty = 0
				}
			}
		}
	}
}

// P11.9: the melts before the late one can all be set, with it not.
func TestLate(t *testing.T) {
	none, some, later := 0, 0, 0
	samples(3000, 10, func(m api.Month, _ *rand.Rand) {
		_, order := plantOf(t, m)
		late := fine[int](t, m)(month.Late(m))
		before := slices.Index(order, late)
		if before == -1 {
			before = len(order)
			none++
		}
		if (late == -1) != (before == len(order)) {
			t.Fatalf("%+v: Late = %d, of the melts %v", m, late, order)
		}
		for n := range before + 1 {
			can := cones(t, only(m, order[:n])) == conesOf(m, order[:n])
			if !can {
				t.Fatalf("%+v: Late = %d of %v, but %v cannot be set", m, late, order, order[:n])
			}
		}
		if before == len(order) {
			return
		}
		some++
		with := order[:before+1]
		if n := cones(t, only(m, with)); n == conesOf(m, with) {
			t.Fatalf("%+v: Late = %d of %v, but %v can be set", m, late, order, with)
		}
		if before > 1 {
			later++
		}
	})
	if none < 300 || some < 200 || later < 100 {
		t.Error(none, some, later)
	}
}

// P11.10: each syrup goes to a pan that takes it and has room; no share has more pounds.
func TestShared(t *testing.T) {
	back, full := 0, 0
	samples(3000, 11, func(m api.Month, _ *rand.Rand) {
		l, pounds := shareOf(t, m)
		b, _ := planOf(t, m)
		if len(l) != len(m.Melts) {
			t.Fatalf("%+v: Share = %v", m, l)
		}
		loads, sum := make(ints, len(m.Pans)), 0
		for n, pan := range l {
			if pan == -1 {
				continue
			}
			takes, e := syrup.Takes(m.Pans, m.Melts[n].Quality)
			if e != api.OK || !slices.Contains(takes, pan) || b[n] == away() {
				t.Fatalf("%+v: Share = %v, but %d is taken by %v, %d", m, l, n, takes, e)
			}
			loads[pan] += m.Melts[n].Cones
			sum += m.Melts[n].Cones
			back++
		}
		for pan, load := range loads {
			if load > m.Rooms[pan] {
				t.Fatalf("%+v: Share = %v: too much for %d", m, l, pan)
			}
		}
		if sum != pounds {
			t.Fatalf("%+v: Share = %v %d", m, l, pounds)
		}
		for _, other := range shares(m, set(b)) {
			if n := poundsOf(m, set(b), other); n > pounds {
				t.Fatalf("%+v: Share = %v %d, but %v has %d", m, l, pounds, other, n)
			} else if n < pounds {
				full++
			}
		}
	})
	if back < 500 || full < 800 {
		t.Error(back, full)
	}
}

// P11.11: without the pans of syrup.Close nothing goes round for ever.
func TestRounds(t *testing.T) {
	before := 0
	samples(3000, 12, func(m api.Month, _ *rand.Rand) {
		before += len(fine[ints](t, m)(month.Rounds(m)))
		closed := fine[ints](t, m)(syrup.Close(m.Pans))
		open := but(m, func(m *api.Month) {
			for _, pan := range slices.Backward(closed) {
				m.Pans, m.Rooms = slices.Delete(m.Pans, pan, pan+1), slices.Delete(m.Rooms, pan, pan+1)
			}
		})
		if l := fine[ints](t, open)(month.Rounds(open)); len(l) > 0 {
			t.Fatalf("%+v: Rounds = %v without the pans %v", m, l, closed)
		}
	})
	if before < 300 {
		t.Error(before)
	}
}

// P11.16: without a spoilt melt all is as it was.
func TestSpoilt(t *testing.T) {
	looked := 0
	samples(1200, 13, func(m api.Month, _ *rand.Rand) {
		for _, lost := range spoilt(t, m) {
			looked++
			rest := numbers(len(m.Melts), func(n int) bool { return n != lost })
			// The number that a melt had, and -1, which is none.
			was := func(n int) int { return slices.Concat(rest, ints{-1})[(n+len(rest)+1)%(len(rest)+1)] }
			all := func(l ints) (list ints) {
				for _, n := range l {
					list = append(list, was(n))
				}
				return list
			}
			of := func(l ints) (list ints) {
				for _, n := range rest {
					list = append(list, l[n])
				}
				return list
			}
			n := only(m, rest)
			same := func(what string, is bool) {
				t.Helper()
				if !is {
					t.Fatalf("%+v: without %d, %s is another one", m, lost, what)
				}
			}
			p, order := plantOf(t, m)
			q, then := plantOf(t, n)
			same("Plant", sameResult(p, q) && slices.Equal(order, all(then)))
			b, loaves := planOf(t, m)
			c, cones := planOf(t, n)
			same("Plan", loaves == cones && slices.Equal(slices.Concat(b[:lost], b[lost+1:]), c))
			l, pounds := shareOf(t, m)
			k, weight := shareOf(t, n)
			same("Share", pounds == weight && slices.Equal(of(l), k))
			same("Late", fine[int](t, m)(month.Late(m)) == was(fine[int](t, n)(month.Late(n))))
			same("Spoilt", slices.Equal(slices.DeleteFunc(spoilt(t, m), func(n int) bool { return n == lost }), all(spoilt(t, n))))
			same("Rounds", slices.Equal(fine[ints](t, m)(month.Rounds(m)), all(fine[ints](t, n)(month.Rounds(n)))))
			same("Cost", fine[int](t, m)(month.Cost(m)) == fine[int](t, n)(month.Cost(n)))
			same("Agents", slices.Equal(fine[ints](t, m)(month.Agents(m)), fine[ints](t, n)(month.Agents(n))))
			for now, before := range rest {
				same("Way", slices.Equal(way(t, m, before), way(t, n, now)))
				same("Later", fine[int](t, m)(month.Later(m, before)) == fine[int](t, n)(month.Later(n, now)))
				same("Worth", fine[api.Span](t, m)(month.Worth(m, before)) == fine[api.Span](t, n)(month.Worth(n, now)))
				day, is := ready(t, m, before)
				then, can := ready(t, n, now)
				same("Ready", day == then && is == can)
			}
		}
	})
	if looked < 400 {
		t.Error(looked)
	}
}

// P11.17: with more faults let pass, no more melts are spoilt, and none is ready later; with one melt less there are not more loaves.
func TestMore(t *testing.T) {
	saved, sooner, fewer, same := 0, 0, 0, 0
	samples(3000, 14, func(m api.Month, dice *rand.Rand) {
		lost := spoilt(t, m)
		pass := but(m, func(m *api.Month) { m.Pass |= 1 << dice.IntN(6) })
		for n := range m.Melts {
			day, is := ready(t, m, n)
			now, can := ready(t, pass, n)
			if is && (!can || now > day) || can == slices.Contains(spoilt(t, pass), n) || is == slices.Contains(lost, n) {
				t.Fatalf("%+v: the melt %d is ready on %d, %t; with %d let pass on %d, %t", m, n, day, is, pass.Pass, now, can)
			}
			if is && now < day {
				sooner++
			}
			if can && !is {
				saved++
			}
		}
		loaves := cones(t, m)
		for n := range m.Melts {
			less := cones(t, withoutMelt(m, n))
			switch {
			case less > loaves:
				t.Fatalf("%+v: %d loaves, and %d without the melt %d", m, loaves, less, n)
			case less == loaves:
				same++
			default:
				fewer++
			}
		}
	})
	if saved < 30 || sooner < 30 || fewer < 500 || same < 300 {
		t.Error(saved, sooner, fewer, same)
	}
}

// P11.18: if melts have other numbers, each is ready as it was, the loaves are as many, and so is what is spoilt.
func TestRenumbered(t *testing.T) {
	looked, lost := 0, 0
	samples(3000, 15, func(m api.Month, dice *rand.Rand) {
		// The number that each melt had.
		was := dice.Perm(len(m.Melts))
		other := only(m, was)
		for n, before := range was {
			day, is := ready(t, m, before)
			then, can := ready(t, other, n)
			if day != then || is != can || !slices.Equal(way(t, m, before), way(t, other, n)) {
				t.Fatalf("%+v: the melt %d is ready on %d, %t, as %d on %d, %t", m, before, day, is, n, then, can)
			}
		}
		if a, b := cones(t, m), cones(t, other); a != b {
			t.Fatalf("%+v: %d loaves, as %v %d", m, a, was, b)
		}
		now := spoilt(t, other)
		for i, n := range now {
			now[i] = was[n]
		}
		slices.Sort(now)
		if l := spoilt(t, m); !slices.Equal(l, now) {
			t.Fatalf("%+v: Spoilt = %v, as %v %v", m, l, was, now)
		}
		lost += len(now)
		if !slices.IsSorted(was) {
			looked++
		}
	})
	if looked < 800 || lost < 300 {
		t.Error(looked, lost)
	}
}

// T7: what a month sets on its floors is what these weigh, and what stands; nothing of it is lost. All that is set was cleared (9), stands on its floor (5), is weighed there (1), and its syrup goes back or is treacle (3).
func TestNothingLost(t *testing.T) {
	full, split := 0, 0
	samples(3000, 16, func(m api.Month, _ *rand.Rand) {
		b, loaves := planOf(t, m)
		p, order := plantOf(t, m)
		// What is set fills the floors, and a floor fills a place for each melt that is set on it, where it is weighed.
		w := api.Works{Vessels: []api.Vessel{{From: -1, Room: api.MaxRoom}}}
		on := ints{}
		for strike, n := range order {
			if b[n] == away() {
				continue
			}
			for _, kind := range m.Melts[n].Kinds {
				if after, is := follow(m, kind, way(t, m, n)); !is || !has(m.Pass, after) {
					t.Fatalf("%+v: %d is set, but not cleared", m, n)
				}
			}
			alone := slices.Repeat(berths{away()}, len(order))
			alone[strike] = b[n]
			stands, e := floor.Stands(p, alone, b[n].Floor, b[n].Day)
			if e != api.OK || stands != (api.Span{Lo: m.Melts[n].Cones, Hi: m.Melts[n].Cones}) {
				t.Fatalf("%+v: Plan = %v: %d stands as %v, %d", m, b, n, stands, e)
			}
			w.Readings = append(w.Readings, api.Reading{Vessel: len(w.Vessels), Shown: stands.Lo})
			w.Vessels = append(w.Vessels, api.Vessel{From: 0, Room: api.MaxRoom})
			on = append(on, b[n].Floor)
		}
		if len(on) == 0 {
			// A source that fills nothing would weigh anything.
			if loaves != 0 {
				t.Fatalf("%+v: %d loaves, of nothing that is set", m, loaves)
			}
			return
		}
		exact := api.Span{Lo: loaves, Hi: loaves}
		weight, e := weigh.Weight(w, 0)
		stands, f := weigh.Stands(w)
		lost, g := weigh.Lost(w)
		if e != api.OK || f != api.OK || g != api.OK || weight != exact || stands != exact || lost != (api.Span{}) {
			t.Fatalf("%+v: %d loaves, but the floors weigh %v, %d, on them stands %v, %d, and %v is lost, %d", m, loaves, weight, e, stands, f, lost, g)
		}
		for more := -1; more <= 1; more++ {
			other := w
			other.Readings = append(slices.Clone(w.Readings), api.Reading{Shown: loaves + more})
			if can, e := weigh.Can(other); e != api.OK || can != (more == 0) {
				t.Fatalf("%+v: %d loaves, and %d more: %t, %d", m, loaves, more, can, e)
			}
		}
		l, pounds := shareOf(t, m)
		treacle := conesOf(m, numbers(len(l), func(n int) bool { return b[n] != away() && l[n] == -1 }))
		if pounds+treacle != loaves {
			t.Fatalf("%+v: %d pounds go back, %d do not, of %d", m, pounds, treacle, loaves)
		}
		full++
		if slices.Contains(on, 0) && slices.Contains(on, 1) {
			split++
		}
	})
	if full < 800 || split < 50 {
		t.Error(full, split)
	}
}

// Months as large as the limits let them be, against the reference.
func TestLimits(t *testing.T) {
	wide := floorOf(api.MaxPlaces, 1, api.MaxDrip, api.MaxCool)
	of := func(list ...api.Melt) api.Month {
		return api.Month{Agents: counter(4), Pass: 48, Floors: floors{wide, wide}, Melts: list, Pans: slices.Repeat(pans{pan(0, 12, 6)}, 4), Rooms: ints{20, 20, 20, 20}}
	}
	large := melt(ints{5, 21, 37}, 7, 6, 3, 12)
	for i, m := range []api.Month{
		of(large, large, large, large), of(large, melt(ints{5}, 7, 6, 3, 0), melt(ints{4}, 7, 6, 3, 6), melt(ints{63}, 7, 6, 3, 12)),
		but(of(large, large, large, large), func(m *api.Month) { m.Floors[0].Places, m.Floors[1].Places, m.Pass = 6, 5, 49 }),
		but(of(melt(ints{0, 16, 48}, 0, 6, 3, 3), large, large, melt(ints{15}, 0, 6, 3, 1)), func(m *api.Month) { m.Floors, m.Rooms[0] = m.Floors[:1], 0 }),
		but(of(large, large, large, large), func(m *api.Month) { m.Pass = api.MaxMelt }),
	} {
		o := outcomeOf(m)
		b, n := planOf(t, m)
		if !slices.Equal(b, o.berths) || n != o.loaves || fine[int](t, m)(month.Cost(m)) != o.cost || fine[int](t, m)(month.Late(m)) != o.late {
			t.Error(i, b, n)
		}
		l, n := shareOf(t, m)
		if want, pounds := share(m, o.set); !slices.Equal(l, want) || n != pounds {
			t.Error(i, l, n)
		}
		if l := fine[ints](t, m)(month.Agents(m)); !slices.Equal(l, missed(m)) {
			t.Error(i, l)
		}
		for melt := range m.Melts {
			if n := fine[int](t, m)(month.Later(m, melt)); n != later(m, melt) {
				t.Error(i, melt, n)
			}
			list := gains(m, melt)
			if w := fine[api.Span](t, m)(month.Worth(m, melt)); w != (api.Span{Lo: slices.Min(list), Hi: slices.Max(list)}) {
				t.Error(i, melt, w)
			}
		}
	}
}

// P1, R3, R5 and R7: whatever the arguments are.
func TestAnyArguments(t *testing.T) {
	dice := rand.New(rand.NewPCG(17, 11))
	odd := func() int {
		switch dice.IntN(24) {
		case 0:
			return math.MaxInt
		case 1:
			return math.MinInt
		case 2:
			return -1
		}
		return dice.IntN(6)
	}
	right, wrong := 0, map[api.Errno]int{}
	for range 3000 {
		m := copied(randomMonth(dice, dice.IntN(4), 1))
		switch dice.IntN(9) {
		case 0:
			m.Agents = append(m.Agents, agent(odd(), odd(), odd(), odd(), odd()))
		case 1:
			m.Pass = odd()
		case 2:
			m.Pans = append(m.Pans, pan(odd(), odd(), odd()))
			m.Rooms = append(m.Rooms, odd())
		case 3:
			m.Rooms = append(m.Rooms, odd())[dice.IntN(2):]
		case 4:
			m.Floors = append(m.Floors, floorOf(odd(), odd(), odd(), odd()))[dice.IntN(2):]
		case 5:
			m.Melts = append(m.Melts, melt(ints{odd(), odd(), odd(), odd()}[dice.IntN(5):], odd(), odd(), odd(), odd()))
		}
		n := odd()
		errs, clean := failures(answers(m, n))
		e := month.Check(m)
		for name, f := range errs {
			due, ofWay := e, name == "Way" || name == "Ready"
			switch {
			case e != api.OK:
			case (n < 0 || n >= len(m.Melts)) && (ofWay || name == "Later" || name == "Worth"):
				due = api.ErrMissing
			case ofWay && slices.Contains(spoilt(t, m), n):
				due = api.ErrNothing
			}
			if !clean || f != due {
				t.Fatalf("%+v, %d: %s: %d, want %d, clean %t", m, n, name, f, due, clean)
			}
		}
		if e == api.OK {
			right++
		}
		wrong[e]++
	}
	if right < 1200 || wrong[api.ErrValue] < 200 || wrong[api.ErrShortage] < 30 || wrong[api.ErrExcess] < 100 || wrong[api.ErrSequence] < 50 {
		t.Error(right, wrong)
	}
}

// R2, R4 and R6: no call changes an argument, nor memory behind it, and all calls of the same say the same, side by side too.
func TestNothingKept(t *testing.T) {
	samples(300, 18, func(m api.Month, dice *rand.Rand) {
		// There is room behind the lists, in which something stands.
		m.Agents = append(slices.Clone(m.Agents), agent(7, 7, 7, 7, 7))[:len(m.Agents)]
		m.Pans = append(slices.Clone(m.Pans), pan(7, 7, 7))[:len(m.Pans)]
		m.Rooms = append(slices.Clone(m.Rooms), 7)[:len(m.Rooms)]
		m.Floors = append(slices.Clone(m.Floors), floorOf(7, 7, 7, 7))[:len(m.Floors)]
		m.Melts = append(slices.Clone(m.Melts), melt(ints{7}, 7, 7, 7, 7))[:len(m.Melts)]
		for i, x := range m.Melts {
			m.Melts[i].Kinds = append(slices.Clone(x.Kinds), 7)[:len(x.Kinds)]
		}
		whole := func() api.Month {
			c := m
			c.Agents, c.Pans, c.Rooms, c.Floors, c.Melts = m.Agents[:len(m.Agents)+1], m.Pans[:len(m.Pans)+1], m.Rooms[:len(m.Rooms)+1], m.Floors[:len(m.Floors)+1], slices.Clone(m.Melts[:len(m.Melts)+1])
			for i, x := range m.Melts {
				c.Melts[i].Kinds = x.Kinds[:len(x.Kinds)+1]
			}
			return copied(c)
		}
		before := whole()
		n := dice.IntN(api.MaxMonthMelts)
		want := answers(m, n)
		var calls sync.WaitGroup
		for range 4 {
			calls.Go(func() {
				if got := answers(m, n); !slices.EqualFunc(got, want, sameAnswer) {
					t.Errorf("%+v: %v, then %v", m, want, got)
				}
			})
		}
		calls.Wait()
		if after := whole(); !reflect.DeepEqual(before, after) {
			t.Fatalf("%+v became %+v", before, after)
		}
	})
	// What the functions return is new memory.
	m := exampleS()
	p, _ := plantOf(t, m)
	p.Floors[0], p.Strikes[0] = floorOf(9, 9, 9, 9), api.Strike{}
	l := way(t, m, 2)
	l[0] = 9
	if !reflect.DeepEqual(m, exampleS()) || !slices.Equal(way(t, m, 2), ints{0, 1}) {
		t.Error(m)
	}
	// Nil and empty lists mean the same.
	none, empty := bare(1), api.Month{Agents: counter(3), Pans: pans{}, Rooms: ints{}, Floors: bare(1).Floors, Melts: melts{}}
	if got, want := answers(empty, 0), answers(none, 0); !slices.EqualFunc(got, want, sameAnswer) {
		t.Error(got, want)
	}
	none.Agents, empty.Agents = nil, agents{}
	if got, want := answers(empty, 0), answers(none, 0); !slices.EqualFunc(got, want, sameAnswer) {
		t.Error(got, want)
	}
	if month.Check(api.Month{Floors: floors{}}) != api.ErrShortage || month.Check(withKinds(exampleS(), 0)) != api.ErrShortage || month.Check(withKinds(exampleS(), 0, ints{}...)) != api.ErrShortage {
		t.Error("no floors, or no kinds")
	}
}
