package stove_test

import (
	"math"
	"math/rand/v2"
	"reflect"
	"slices"
	"sync"
	"testing"

	"muscovado/api"
	"muscovado/floor"
	"muscovado/loaf"
	"muscovado/stove"
	"muscovado/weigh"
)

// asked are the arguments of all functions beside the stove.
type asked struct {
	heats     ints
	cone, day int
	at        api.Stand
	plan      stands
	more      api.Cone
}

// answer is what a function returns: its results in a list, and its error.
type answer struct {
	name    string
	results []any
	e       api.Errno
}

// answers returns what all functions but Check say.
func answers(s api.Stove, a asked) []answer {
	var list []answer
	add := func(name string, e api.Errno, results ...any) {
		list = append(list, answer{name, results, e})
	}
	f, n, e := stove.Fate(s, a.heats, a.cone, a.at)
	add("Fate", e, f, n)
	add("Right", stove.Right(s, a.heats, a.plan))
	q, e := stove.Places(s, a.heats, a.plan, a.day)
	add("Places", e, q)
	p, n, e := stove.Most(s, a.heats)
	add("Most", e, p, n)
	p, e = stove.All(s, a.heats)
	add("All", e, p)
	p, n, e = stove.Soonest(s, a.heats)
	add("Soonest", e, p, n)
	l, e := stove.Lost(s, a.heats)
	add("Lost", e, l)
	l, e = stove.Crowd(s, a.heats)
	add("Crowd", e, l)
	n, e = stove.Verdict(s, a.heats, a.cone)
	add("Verdict", e, n)
	l, n, e = stove.Fire(s)
	add("Fire", e, l, n)
	n, e = stove.Days(s)
	add("Days", e, n)
	n, e = stove.Spare(s, a.heats, a.day)
	add("Spare", e, n)
	x, e := stove.Add(s, a.more)
	add("Add", e, x)
	return list
}

// answerOf returns what one of the functions says.
func answerOf(name string, s api.Stove, a asked) answer {
	list := answers(s, a)
	return list[slices.IndexFunc(list, func(x answer) bool { return x.name == name })]
}

// zero returns whether a result is a zero value; an empty list is one, too.
func zero(x any) bool {
	v := reflect.ValueOf(x)
	return v.IsZero() || v.Kind() == reflect.Slice && v.Len() == 0
}

// sameResult returns whether two results are the same; nil and empty lists are.
func sameResult(a, b any) bool {
	switch x := a.(type) {
	case api.Stove:
		return sameStove(x, b.(api.Stove))
	case [][]int:
		return slices.EqualFunc(x, b.([][]int), slices.Equal[ints])
	}
	return reflect.DeepEqual(a, b) || zero(a) && zero(b)
}

func sameStove(a, b api.Stove) bool {
	lists := slices.Equal(a.Shelves, b.Shelves) && slices.Equal(a.Cones, b.Cones)
	return lists && a.Days == b.Days && a.Now == b.Now && a.Rise == b.Rise && a.Top == b.Top
}

func sameAnswer(a, b answer) bool {
	return a.e == b.e && slices.EqualFunc(a.results, b.results, sameResult)
}

// failures returns the errors by the names of the functions, and whether all other results are zero values wherever there is one.
func failures(list []answer) (errs map[string]api.Errno, clean bool) {
	errs, clean = map[string]api.Errno{}, true
	for _, x := range list {
		errs[x.name] = x.e
		for _, r := range x.results {
			clean = clean && (x.e == api.OK || zero(r))
		}
	}
	return errs, clean
}

// These return what the functions say that have no error if all arguments are valid.

func mostOf(t *testing.T, s api.Stove, heats ints) (stands, int) {
	t.Helper()
	p, n, e := stove.Most(s, heats)
	if e != api.OK {
		t.Fatalf("%+v, %v: Most: %d", s, heats, e)
	}
	return p, n
}

func fateOf(t *testing.T, s api.Stove, heats ints, number int, at api.Stand) (fate, day int) {
	t.Helper()
	fate, day, e := stove.Fate(s, heats, number, at)
	if e != api.OK {
		t.Fatalf("%+v, %v: Fate(%d, %v): %d", s, heats, number, at, e)
	}
	return fate, day
}

func verdictOf(t *testing.T, s api.Stove, heats ints, number int) int {
	t.Helper()
	v, e := stove.Verdict(s, heats, number)
	if e != api.OK {
		t.Fatalf("%+v, %v: Verdict(%d): %d", s, heats, number, e)
	}
	return v
}

// dries returns whether All says that all cones of a stove can be dried.
func dries(t *testing.T, s api.Stove, heats ints) bool {
	t.Helper()
	_, e := stove.All(s, heats)
	if e != api.OK && e != api.ErrNothing {
		t.Fatalf("%+v, %v: All: %d", s, heats, e)
	}
	return e == api.OK
}

// burns returns whether Fire says that there are heats with which all cones can be dried.
func burns(t *testing.T, s api.Stove) bool {
	t.Helper()
	_, _, e := stove.Fire(s)
	if e != api.OK && e != api.ErrNothing {
		t.Fatalf("%+v: Fire: %d", s, e)
	}
	return e == api.OK
}

// P10.1, and R1 and R3: the errors of a stove, and their order.
func TestCheck(t *testing.T) {
	ok, value, excess, shortage := api.OK, api.ErrValue, api.ErrExcess, api.ErrShortage
	with := func(change func(s *api.Stove)) api.Stove { return but(exampleS(), change) }
	// Shelves, with cones that are too many behind them, and with ones that may be.
	of := func(l ...api.Shelf) api.Stove {
		return with(func(s *api.Stove) { s.Shelves, s.Cones = l, make(cones, 4) })
	}
	fine := func(l ...api.Shelf) api.Stove { return with(func(s *api.Stove) { s.Shelves = l }) }
	// A second cone, with days that may not be.
	second := func(c api.Cone) api.Stove {
		return with(func(s *api.Stove) { s.Cones[1], s.Days = c, 0 })
	}
	good := shelf(3, 2)
	for i, x := range []struct {
		s    api.Stove
		want api.Errno
	}{
		{exampleS(), ok}, {api.Stove{}, shortage}, {of(), shortage}, {of(good, good, good, good), excess}, {of(make(shelves, 9)...), excess},
		{fine(good), ok}, {fine(shelf(0, 1), good, good), ok}, {fine(shelf(3, 1), shelf(0, 2)), ok},
		{of(shelf(-1, 1)), value}, {of(shelf(4, 1)), value}, {of(good, shelf(math.MaxInt, 1)), value}, {of(good, good, shelf(math.MinInt, 1)), value},
		{of(shelf(0, 0)), value}, {of(shelf(0, 3)), value}, {of(good, shelf(0, -1)), value}, {of(good, shelf(0, math.MaxInt)), value}, {of(good, good, shelf(0, math.MinInt)), value}, {of(good, good, good), excess},
		{with(func(s *api.Stove) { s.Cones = nil }), ok}, {with(func(s *api.Stove) { s.Cones = cones{hard(1), hard(20), hard(1)} }), ok}, {with(func(s *api.Stove) { s.Cones, s.Days = slices.Repeat(cones{hard(1)}, 4), 0 }), excess}, {with(func(s *api.Stove) { s.Cones = make(cones, 4) }), excess}, {with(func(s *api.Stove) { s.Cones = make(cones, 3) }), value},
		{withCones(exampleS(), cone(1, 0, 0, 0)), ok}, {withCones(exampleS(), cone(20, 9, 9, 9)), ok}, {withCones(exampleS(), cone(5, 9, 0, 0)), ok},
		{second(cone(0, 1, 1, 1)), value}, {second(cone(21, 1, 1, 1)), value}, {second(cone(-1, 1, 1, 1)), value}, {second(cone(math.MaxInt, 1, 1, 1)), value}, {second(cone(math.MinInt, 1, 1, 1)), value},
		{withCones(exampleS(), hard(1), cone(0, 1, 1, 1)), value}, {withCones(exampleS(), hard(1), cone(21, 1, 1, 1)), value}, {withCones(exampleS(), cone(21, 1, 1, 1), hard(1)), value},
		{withCones(exampleS(), hard(1), cone(1, -1, 1, 1)), value}, {withCones(exampleS(), hard(1), cone(1, 10, 1, 1)), value}, {withCones(exampleS(), cone(1, math.MaxInt, 1, 1)), value},
		{withCones(exampleS(), hard(1), cone(1, 1, -1, 1)), value}, {withCones(exampleS(), hard(1), cone(1, 1, 10, 1)), value}, {withCones(exampleS(), cone(1, 1, math.MinInt, 1)), value},
		{withCones(exampleS(), hard(1), cone(1, 1, 1, -1)), value}, {withCones(exampleS(), hard(1), cone(1, 1, 1, 10)), value}, {withCones(exampleS(), cone(1, 1, 1, math.MaxInt)), value},
		{with(func(s *api.Stove) { s.Days = 0 }), value}, {with(func(s *api.Stove) { s.Days = 1 }), ok}, {with(func(s *api.Stove) { s.Days = 4 }), ok}, {with(func(s *api.Stove) { s.Days = 5 }), value}, {with(func(s *api.Stove) { s.Days = -1 }), value}, {with(func(s *api.Stove) { s.Days = math.MaxInt }), value},
		{with(func(s *api.Stove) { s.Now = -1 }), value}, {with(func(s *api.Stove) { s.Now = 5 }), ok}, {with(func(s *api.Stove) { s.Now = 6 }), value}, {with(func(s *api.Stove) { s.Now = math.MinInt }), value}, {with(func(s *api.Stove) { s.Now = math.MaxInt }), value},
		{with(func(s *api.Stove) { s.Top = -1 }), value}, {with(func(s *api.Stove) { s.Top = 0 }), ok}, {with(func(s *api.Stove) { s.Top = 5 }), ok}, {with(func(s *api.Stove) { s.Top = 6 }), value}, {with(func(s *api.Stove) { s.Top = math.MaxInt }), value},
		{with(func(s *api.Stove) { s.Rise = -1 }), value}, {with(func(s *api.Stove) { s.Rise = 0 }), ok}, {with(func(s *api.Stove) { s.Rise = 3 }), ok}, {with(func(s *api.Stove) { s.Rise = 4 }), value}, {with(func(s *api.Stove) { s.Rise = math.MaxInt }), value},
		// A stove that is hotter than it may be on a day.
		{with(func(s *api.Stove) { s.Now, s.Top = 5, 0 }), ok},
	} {
		if e := stove.Check(x.s); e != x.want {
			t.Errorf("%d: Check = %d, want %d", i, e, x.want)
		}
		if x.want == ok {
			continue
		}
		// Check's error comes before that of any other argument, and alone.
		for _, a := range []asked{{}, {heats: make(ints, 9), cone: -1, day: -1, at: on(9, 9), plan: plan(9, 9, 9, 9, 9, 9, 9, 9)}, {heats: ints{-1}, cone: 9, day: 9, plan: plan(-1, 1), more: hard(1)}} {
			errs, clean := failures(answers(x.s, a))
			for name, e := range errs {
				if e != x.want || !clean {
					t.Errorf("%d: %s: %d, clean %t", i, name, e, clean)
				}
			}
		}
	}
}

// The errors of the heats, and their order, in all functions that are given them.
func TestHeats(t *testing.T) {
	ok, value, excess, shortage, barred := api.OK, api.ErrValue, api.ErrExcess, api.ErrShortage, api.ErrBarred
	at := func(now, rise, top int) api.Stove {
		return but(exampleS(), func(s *api.Stove) { s.Now, s.Rise, s.Top = now, rise, top })
	}
	s := exampleS() // from 0 on, by 2 at most, up to 3
	for i, x := range []struct {
		s     api.Stove
		heats ints
		want  api.Errno
	}{
		{s, exampleH(), ok}, {s, exampleN(), ok}, {s, ints{2, 3, 3}, ok}, {s, ints{2, 0, 2}, ok}, {s, ints{0, 1, 3}, ok}, {s, ints{0, 2, 3}, ok},
		{s, nil, shortage}, {s, ints{}, shortage}, {s, ints{1, 2}, shortage}, {s, ints{-1, 9}, shortage}, {s, ints{1, 2, 3, 3}, excess}, {s, ints{-1, 9, 9, 9, 9}, excess},
		{s, ints{-1, 0, 0}, value}, {s, ints{4, 0, 0}, value}, {s, ints{2, 4, 0}, value}, {s, ints{2, 3, 4}, value}, {s, ints{0, 0, -1}, value}, {s, ints{math.MinInt, 0, 0}, value}, {s, ints{math.MaxInt, 0, 0}, value}, {s, ints{0, 0, math.MaxInt}, value},
		{s, ints{3, 3, 3}, barred}, {s, ints{0, 3, 3}, barred}, {s, ints{2, 0, 3}, barred}, {s, ints{0, 0, 3}, barred}, {s, ints{3, 9, 9}, barred}, {s, ints{3, -1, 0}, barred}, {s, ints{1, -1, 3}, value}, {s, ints{0, 4, 9}, value}, {s, ints{0, 3, 4}, barred},
		{at(5, 0, 5), ints{5, 5, 5}, ok}, {at(5, 0, 5), ints{5, 4, 4}, ok}, {at(5, 0, 5), ints{5, 4, 5}, barred}, {at(4, 0, 5), ints{5, 4, 4}, barred}, {at(4, 1, 5), ints{5, 0, 1}, ok}, {at(4, 1, 5), ints{5, 0, 2}, barred}, {at(0, 3, 5), ints{3, 5, 5}, ok}, {at(0, 3, 5), ints{4, 5, 5}, barred}, {at(2, 3, 5), ints{5, 5, 5}, ok},
		// A stove that is hotter than it may be falls at once.
		{at(5, 0, 2), ints{2, 2, 2}, ok}, {at(5, 3, 2), ints{3, 2, 2}, value}, {at(5, 0, 0), exampleN(), ok}, {at(5, 3, 0), ints{1, 0, 0}, value},
	} {
		// The error of the heats comes before that of any other argument.
		for _, a := range []asked{{plan: stands{out(), out()}}, {cone: 2, day: 3, at: on(2, 3), plan: plan(9, 9)}, {cone: -1, day: -1, at: out(), plan: plan(-1, 1, -1, 0, 0, 0)}} {
			a.heats = x.heats
			errs, clean := failures(answers(x.s, a))
			for _, name := range []string{"Fate", "Right", "Places", "Most", "All", "Soonest", "Lost", "Crowd", "Verdict", "Spare"} {
				if e := errs[name]; x.want != ok && (e != x.want || !clean) {
					t.Errorf("%d: %s: %d, want %d, clean %t", i, name, e, x.want, clean)
				}
			}
		}
		if _, e := stove.Lost(x.s, x.heats); e != x.want || badHeats(x.s, x.heats) != x.want {
			t.Errorf("%d: Lost: %d, want %d", i, e, x.want)
		}
	}
}

// The errors of all other arguments, and their order.
func TestArguments(t *testing.T) {
	s, missing := exampleS(), api.ErrMissing
	good := asked{heats: exampleH(), plan: plan(0, 0, 1, 0), more: hard(1)}
	with := func(change func(a *asked)) asked {
		a := good
		change(&a)
		return a
	}
	for i, x := range []struct {
		a    asked
		want map[string]api.Errno // those that are not OK
	}{
		{good, nil}, {with(func(a *asked) { a.cone, a.day, a.at = 1, 2, on(1, 2) }), nil},
		{with(func(a *asked) { a.cone = 2 }), map[string]api.Errno{"Fate": missing, "Verdict": missing}},
		{with(func(a *asked) { a.cone = -1 }), map[string]api.Errno{"Fate": missing, "Verdict": missing}},
		{with(func(a *asked) { a.cone = math.MaxInt }), map[string]api.Errno{"Fate": missing, "Verdict": missing}},
		{with(func(a *asked) { a.cone = math.MinInt }), map[string]api.Errno{"Fate": missing, "Verdict": missing}},
		{with(func(a *asked) { a.at = on(2, 0) }), map[string]api.Errno{"Fate": missing}},
		{with(func(a *asked) { a.at = out() }), map[string]api.Errno{"Fate": missing}},
		{with(func(a *asked) { a.at = on(0, 3) }), map[string]api.Errno{"Fate": missing}},
		{with(func(a *asked) { a.at = on(0, -1) }), map[string]api.Errno{"Fate": missing}},
		{with(func(a *asked) { a.at = on(math.MinInt, math.MaxInt) }), map[string]api.Errno{"Fate": missing}},
		{with(func(a *asked) { a.at = on(math.MaxInt, math.MinInt) }), map[string]api.Errno{"Fate": missing}},
		{with(func(a *asked) { a.day = 3 }), map[string]api.Errno{"Places": missing, "Spare": missing}},
		{with(func(a *asked) { a.day = -1 }), map[string]api.Errno{"Places": missing, "Spare": missing}},
		{with(func(a *asked) { a.day = math.MaxInt }), map[string]api.Errno{"Places": missing, "Spare": missing}},
		{with(func(a *asked) { a.day = math.MinInt }), map[string]api.Errno{"Places": missing, "Spare": missing}},
		// The error of the plan comes before that of the day.
		{with(func(a *asked) { a.day, a.plan = 3, plan(0, 0) }), map[string]api.Errno{"Right": api.ErrShortage, "Places": api.ErrShortage, "Spare": missing}},
		{with(func(a *asked) { a.day, a.plan = -1, plan(0, 0, 0, 1) }), map[string]api.Errno{"Right": api.ErrExcess, "Places": api.ErrExcess, "Spare": missing}},
		{with(func(a *asked) { a.day, a.plan = 3, plan(0, 0, 1, 2) }), map[string]api.Errno{"Right": api.ErrBarred, "Places": api.ErrBarred, "Spare": missing}},
		// Heats and stands do not matter for Add.
		{with(func(a *asked) { a.more = cone(0, 1, 1, 1) }), map[string]api.Errno{"Add": api.ErrValue}},
		{with(func(a *asked) { a.more = cone(21, 1, 1, 1) }), map[string]api.Errno{"Add": api.ErrValue}},
		{with(func(a *asked) { a.more = cone(1, 10, 1, 1) }), map[string]api.Errno{"Add": api.ErrValue}},
		{with(func(a *asked) { a.more = cone(1, 1, -1, 1) }), map[string]api.Errno{"Add": api.ErrValue}},
		{with(func(a *asked) { a.more = cone(1, 1, 1, math.MinInt) }), map[string]api.Errno{"Add": api.ErrValue}},
	} {
		got, clean := failures(answers(s, x.a))
		for name, e := range got {
			if name == "Crowd" && e == api.ErrNothing {
				e = api.OK
			}
			if e != x.want[name] || !clean {
				t.Errorf("%d: %s: %d, want %d, clean %t", i, name, e, x.want[name], clean)
			}
		}
	}
	full := withCones(s, hard(1), hard(1), hard(1))
	for i, c := range []api.Cone{hard(1), cone(0, -1, 10, 99), cone(20, 0, 0, 0), {}} {
		if x, e := stove.Add(full, c); e != api.ErrExcess || !zero(x) {
			t.Error(i, x, e)
		}
	}
	// Without cones there is no number of one.
	if _, e := stove.Verdict(withCones(s), exampleH(), 0); e != missing {
		t.Error(e)
	}
	if _, _, e := stove.Fate(withCones(s), exampleH(), 0, on(0, 0)); e != missing {
		t.Error(e)
	}
}

// The table of the chapter.
func TestExamples(t *testing.T) {
	s, h, n := exampleS(), exampleH(), exampleN()
	for i, x := range []struct {
		change func(s *api.Stove)
		want   api.Errno
	}{
		{func(s *api.Stove) {}, api.OK},
		{func(s *api.Stove) { s.Shelves = nil }, api.ErrShortage},
		{func(s *api.Stove) { s.Shelves[0].Room = 0 }, api.ErrValue},
		{func(s *api.Stove) { s.Cones[0].Wet = 21 }, api.ErrValue},
		{func(s *api.Stove) { s.Days = 5 }, api.ErrValue},
	} {
		if e := stove.Check(but(s, x.change)); e != x.want {
			t.Error(i, e)
		}
	}
	var nobody stands
	set := func(heats ints, shelf, day int) asked { return asked{heats: heats, at: on(shelf, day)} }
	of := func(day int, numbers ...int) asked { return asked{heats: h, day: day, plan: plan(numbers...)} }
	with := asked{heats: h}
	for i, x := range []struct {
		name string
		a    asked
		e    api.Errno
		want []any
	}{
		{"Fate", set(h, 0, 0), api.OK, []any{api.Dry, 2}},
		{"Fate", set(h, 1, 0), api.OK, []any{api.Dry, 1}},
		{"Fate", set(h, 1, 1), api.OK, []any{api.Cracked, 1}},
		{"Fate", set(h, 0, 1), api.OK, []any{api.Wet, 2}},
		{"Fate", set(ints{1, 2}, 0, 0), api.ErrShortage, []any{0, 0}},
		{"Fate", set(ints{3, 3, 3}, 0, 0), api.ErrBarred, []any{0, 0}},
		{"Fate", set(ints{1, 4, 3}, 0, 0), api.ErrValue, []any{0, 0}},
		{"Fate", set(h, 2, 0), api.ErrMissing, []any{0, 0}},
		{"Right", of(0, 0, 0, 1, 0), api.OK, nil},
		{"Right", of(0, 0, 0, 0, 1), api.ErrExcess, nil},
		{"Right", of(0, 1, 1, 1, 0), api.ErrBarred, nil},
		{"Right", of(0, 0, 1, -1, 0), api.ErrConflict, nil},
		{"Right", of(0, -1, 1, -1, 0), api.ErrValue, nil},
		{"Places", of(0, 0, 0, 1, 0), api.OK, []any{[][]int{{0}, {1}}}},
		{"Places", of(2, 0, 0, 1, 0), api.OK, []any{[][]int{{0}, nil}}},
		{"Most", with, api.OK, []any{plan(0, 0, 1, 0), 2}},
		{"Most", asked{heats: n}, api.OK, []any{plan(-1, 0, 1, 0), 1}},
		{"All", with, api.OK, []any{plan(0, 0, 1, 0)}},
		{"All", asked{heats: n}, api.ErrNothing, []any{nobody}},
		{"Soonest", with, api.OK, []any{plan(0, 0, 1, 0), 2}},
		{"Lost", asked{heats: n}, api.OK, []any{ints(nil)}},
		{"Crowd", asked{heats: n}, api.OK, []any{ints{0, 1}}},
		{"Crowd", with, api.ErrNothing, []any{ints(nil)}},
		{"Verdict", asked{heats: n}, api.OK, []any{api.Open}},
		{"Verdict", with, api.OK, []any{api.Yes}},
		{"Fire", with, api.OK, []any{ints{1, 1, 2}, 4}},
		{"Days", with, api.OK, []any{3}},
		{"Spare", asked{heats: h, day: 2}, api.OK, []any{3}},
		{"Spare", with, api.OK, []any{2}},
		{"Spare", asked{heats: n}, api.ErrNothing, []any{0}},
		{"Add", asked{more: cone(20, 0, 0, 0)}, api.ErrConflict, []any{api.Stove{}}},
		{"Add", asked{more: cone(0, 0, 0, 0)}, api.ErrValue, []any{api.Stove{}}},
	} {
		if got := answerOf(x.name, s, x.a); !sameAnswer(got, answer{x.name, x.want, x.e}) {
			t.Errorf("%d: %s: %v %d, want %v %d", i, x.name, got.results, got.e, x.want, x.e)
		}
	}
}

// P10.1 and P10.9: what becomes of a cone, and that it had enough when it is dry, and less before.
func TestFate(t *testing.T) {
	count := map[int]int{}
	samples(3000, 1, func(s api.Stove, heats ints, _ *rand.Rand) {
		for number, c := range s.Cones {
			for _, at := range allStands(s)[1:] {
				fate, day := fateOf(t, s, heats, number, at)
				if want, due := become(s, heats, number, at); fate != want || day != due {
					t.Fatalf("%+v, %v: Fate(%d, %v) = %d %d, want %d %d", s, heats, number, at, fate, day, want, due)
				}
				count[fate]++
				hot := onShelf(s, heats, at.Shelf)
				if fate == api.Dry && (sum(hot[at.Day:day+1]) < c.Wet || sum(hot[at.Day:day]) >= c.Wet) {
					t.Fatalf("%+v, %v: Fate(%d, %v): dry on the day %d", s, heats, number, at, day)
				}
				for on := at.Day; on <= day; on++ {
					if crack := tooHot(c, hot, at.Day, on); crack != (fate == api.Cracked && on == day) {
						t.Fatalf("%+v, %v: Fate(%d, %v) = %d %d, but on the day %d: %t", s, heats, number, at, fate, day, on, crack)
					}
				}
				// As if it were alone.
				if other, on := fateOf(t, only(s, ints{number}), heats, 0, at); other != fate || on != day {
					t.Fatalf("%+v, %v: Fate(%d, %v) = %d %d, alone %d %d", s, heats, number, at, fate, day, other, on)
				}
			}
		}
	})
	if count[api.Dry] < 5000 || count[api.Cracked] < 5000 || count[api.Wet] < 3000 {
		t.Error(count)
	}
	of := func(lift, top int, c api.Cone) api.Stove {
		return api.Stove{Shelves: shelves{shelf(lift, 1)}, Cones: cones{c}, Days: 4, Now: top, Rise: 3, Top: top}
	}
	for i, x := range []struct {
		lift      int
		c         api.Cone
		heats     ints
		put       int
		fate, day int
	}{
		// The first day: only Cold and Most matter, not how hot the shelf was before.
		{0, cone(3, 3, 0, 9), ints{0, 3, 3, 3}, 1, api.Dry, 1}, {0, cone(3, 2, 0, 9), ints{0, 3, 3, 3}, 1, api.Cracked, 1}, {0, cone(3, 9, 0, 3), ints{0, 3, 3, 3}, 1, api.Dry, 1}, {0, cone(3, 9, 9, 2), ints{0, 3, 3, 3}, 1, api.Cracked, 1}, {2, cone(3, 4, 9, 9), ints{3, 3, 3, 3}, 0, api.Cracked, 0}, {2, cone(3, 5, 9, 9), ints{3, 3, 3, 3}, 0, api.Dry, 0},
		// Later days: only Jump and Most matter.
		{0, cone(5, 2, 1, 9), ints{2, 3, 3, 3}, 0, api.Dry, 1}, {0, cone(5, 2, 0, 9), ints{2, 3, 3, 3}, 0, api.Cracked, 1}, {0, cone(9, 1, 1, 3), ints{1, 2, 3, 3}, 0, api.Dry, 3}, {0, cone(9, 1, 1, 2), ints{1, 2, 3, 3}, 0, api.Cracked, 2}, {1, cone(9, 2, 1, 4), ints{1, 2, 3, 3}, 0, api.Dry, 2}, {1, cone(10, 2, 1, 3), ints{1, 2, 3, 3}, 0, api.Cracked, 2},
		// A fall is no jump, however far; the rise after it counts from there.
		{0, cone(9, 3, 0, 9), ints{3, 0, 0, 0}, 0, api.Wet, 3}, {0, cone(9, 3, 2, 9), ints{3, 0, 3, 3}, 0, api.Cracked, 2}, {0, cone(9, 3, 3, 9), ints{3, 0, 3, 3}, 0, api.Dry, 3}, {0, cone(3, 3, 0, 3), ints{3, 3, 0, 3}, 2, api.Cracked, 3},
		// On the day on which it would be dry it can crack, but not after it was taken out.
		{0, cone(3, 1, 1, 9), ints{1, 3, 3, 3}, 0, api.Cracked, 1}, {0, cone(1, 1, 0, 1), ints{1, 3, 3, 3}, 0, api.Dry, 0}, {0, cone(3, 1, 1, 2), ints{1, 2, 3, 3}, 0, api.Dry, 1}, {0, cone(4, 1, 1, 2), ints{1, 2, 3, 3}, 0, api.Cracked, 2},
		// Enough just on the last day, and one too little.
		{0, cone(6, 9, 9, 9), ints{0, 1, 2, 3}, 0, api.Dry, 3}, {0, cone(7, 9, 9, 9), ints{0, 1, 2, 3}, 0, api.Wet, 3}, {0, cone(3, 9, 9, 9), ints{0, 1, 2, 3}, 3, api.Dry, 3}, {0, cone(4, 9, 9, 9), ints{0, 1, 2, 3}, 3, api.Wet, 3}, {0, cone(1, 0, 0, 0), ints{0, 0, 0, 0}, 0, api.Wet, 3}, {1, cone(1, 1, 0, 1), ints{0, 0, 0, 0}, 3, api.Dry, 3}, {3, cone(20, 9, 9, 9), ints{2, 2, 2, 2}, 0, api.Dry, 3}, {0, cone(1, 0, 1, 1), ints{0, 0, 0, 1}, 0, api.Dry, 3},
	} {
		if fate, day := fateOf(t, of(x.lift, 3, x.c), x.heats, 0, on(0, x.put)); fate != x.fate || day != x.day {
			t.Error(i, fate, day)
		}
	}
}

// randomPlan returns a plan that is often right, and otherwise wrong in any way.
func randomPlan(dice *rand.Rand, s api.Stove, heats ints) (p stands) {
	for number := range s.Cones {
		good := slices.DeleteFunc(allStands(s), func(at api.Stand) bool { return badStand(s, heats, number, at) != api.OK })
		p = append(p, good[dice.IntN(len(good))])
	}
	if len(p) == 0 || dice.IntN(2) == 0 {
		return p
	}
	all := allStands(s)
	switch number := dice.IntN(len(p)); dice.IntN(8) {
	case 0:
		return p[1:]
	case 1:
		return append(p, all[dice.IntN(len(all))])
	case 2:
		p[number] = on(within(dice, -2, len(s.Shelves)), within(dice, -1, s.Days))
	default:
		p[number] = all[dice.IntN(len(all))]
	}
	return p
}

// P10.2 and P10.10: whether a plan is right, and who is where: each cone from its first day to that of Fate.
func TestRightPlaces(t *testing.T) {
	count := map[api.Errno]int{}
	samples(3000, 2, func(s api.Stove, heats ints, dice *rand.Rand) {
		for range 6 {
			p := randomPlan(dice, s, heats)
			e := stove.Right(s, heats, p)
			if want := wrong(s, heats, p); e != want {
				t.Fatalf("%+v, %v: Right(%v) = %d, want %d", s, heats, p, e, want)
			}
			count[e]++
			stood := make([]int, len(p))
			for day := range s.Days {
				lists, f := stove.Places(s, heats, p, day)
				if f != e || e != api.OK && len(lists) > 0 {
					t.Fatalf("%+v, %v: Places(%v, %d) = %v %d, Right %d", s, heats, p, day, lists, f, e)
				}
				if e != api.OK {
					continue
				}
				if want := places(s, heats, p, day); !slices.EqualFunc(lists, want, slices.Equal[ints]) {
					t.Fatalf("%+v, %v: Places(%v, %d) = %v, want %v", s, heats, p, day, lists, want)
				}
				for shelf, list := range lists {
					if len(list) > s.Shelves[shelf].Room || !slices.IsSorted(list) {
						t.Fatalf("%+v, %v: Places(%v, %d) = %v", s, heats, p, day, lists)
					}
					for _, number := range list {
						fate, last := fateOf(t, s, heats, number, p[number])
						if p[number].Shelf != shelf || fate != api.Dry || day < p[number].Day || day > last {
							t.Fatalf("%+v, %v: Places(%v, %d) = %v, Fate(%d) = %d %d", s, heats, p, day, lists, number, fate, last)
						}
						stood[number]++
					}
				}
			}
			for number, at := range p {
				if e != api.OK {
					break
				}
				due := 0
				if at != out() {
					_, last := fateOf(t, s, heats, number, at)
					due = last - at.Day + 1
				}
				if stood[number] != due {
					t.Fatalf("%+v, %v: Places of %v: the cone %d is there on %d days, not %d", s, heats, p, number, stood[number], due)
				}
			}
		}
	})
	for _, e := range []api.Errno{api.ErrValue, api.ErrMissing, api.ErrShortage} {
		if count[e] < 50 {
			t.Error(e, count)
		}
	}
	if count[api.OK] < 5000 || count[api.ErrBarred] < 500 || count[api.ErrConflict] < 300 || count[api.ErrExcess] < 500 {
		t.Error(count)
	}
	ok, value, missing, excess, shortage, conflict, barred := api.OK, api.ErrValue, api.ErrMissing, api.ErrExcess, api.ErrShortage, api.ErrConflict, api.ErrBarred
	for i, x := range []struct {
		plan stands
		want api.Errno
	}{
		{nil, shortage}, {plan(9, 9), shortage}, {plan(-1, 1, 9, 9, 0, 0), excess}, {plan(0, 0, 0, 0), excess}, {plan(1, 0, 1, 0), excess}, {plan(1, 0, 1, 1), excess}, {plan(1, 0, 0, 0), ok}, {plan(1, 0, 0, 1), ok}, {plan(-1, 0, -1, 0), ok},
		{plan(-1, 1, -1, 0), value}, {plan(-1, -1, -1, 0), value}, {plan(-1, 0, -1, 3), value}, {plan(-1, math.MaxInt, 9, 9), value}, {plan(-1, math.MinInt, 0, 0), value}, {plan(-1, 9, 0, 2), value},
		{plan(-2, 0, -1, 1), missing}, {plan(2, 0, -1, 1), missing}, {plan(math.MaxInt, 0, 0, 0), missing}, {plan(math.MinInt, 0, 0, 0), missing}, {plan(0, -1, 0, 0), missing}, {plan(0, 3, -1, 1), missing}, {plan(0, math.MaxInt, 0, 0), missing}, {plan(1, math.MinInt, 0, 0), missing}, {plan(-2, 1, 0, 0), missing},
		// All that is said of one cone comes before the next one, and all cones before the room.
		{plan(1, 1, -1, 1), barred}, {plan(1, 1, 9, 9), barred}, {plan(0, 1, 9, 9), conflict}, {plan(0, 1, 1, 2), conflict}, {plan(1, 2, 0, 2), barred}, {plan(0, 0, 0, 2), conflict}, {plan(1, 0, 1, 2), barred}, {plan(0, 0, 0, 3), missing}, {plan(0, 0, -1, 1), value},
	} {
		if e := stove.Right(exampleS(), exampleH(), x.plan); e != x.want {
			t.Error(i, e)
		}
	}
	// A cone goes in on the day after another one is dry, and as many stand on a shelf as it has room for.
	two := plain(ints{2, 1}, 4, 2, hard(4), hard(2), hard(3))
	for i, x := range []struct {
		plan stands
		want api.Errno
		on   [][][]int // by days
	}{
		{plan(1, 0, 1, 2, -1, 0), ok, [][][]int{{nil, {0}}, {nil, {0}}, {nil, {1}}, {nil, nil}}}, {plan(1, 0, 1, 1, -1, 0), excess, nil}, {plan(1, 1, 1, 0, 1, 2), excess, nil}, {plan(-1, 0, 1, 0, 1, 1), ok, [][][]int{{nil, {1}}, {nil, {2}}, {nil, {2}}, {nil, nil}}},
		{plan(0, 0, 0, 1, 0, 2), ok, [][][]int{{{0}, nil}, {{0, 1}, nil}, {{2}, nil}, {{2}, nil}}}, {plan(0, 1, 0, 1, 0, 2), ok, [][][]int{{nil, nil}, {{0, 1}, nil}, {{0, 2}, nil}, {{2}, nil}}}, {plan(0, 0, 0, 1, 0, 1), excess, nil}, {plan(0, 0, 0, 1, 1, 1), ok, [][][]int{{{0}, nil}, {{0, 1}, {2}}, {nil, {2}}, {nil, nil}}},
		{plan(0, 0, 0, 0, 0, 0), excess, nil}, {plan(0, 0, 1, 0, 0, 0), ok, [][][]int{{{0, 2}, {1}}, {{0, 2}, nil}, {nil, nil}, {nil, nil}}}, {plan(-1, 0, -1, 0, -1, 0), ok, [][][]int{{nil, nil}, {nil, nil}, {nil, nil}, {nil, nil}}},
	} {
		if e := stove.Right(two, ints{2, 2, 2, 2}, x.plan); e != x.want {
			t.Error(i, e)
		}
		for day, want := range x.on {
			l, e := stove.Places(two, ints{2, 2, 2, 2}, x.plan, day)
			if e != api.OK || !slices.EqualFunc(l, want, slices.Equal[ints]) {
				t.Error(i, day, l, e)
			}
		}
	}
	if l, e := stove.Places(withCones(exampleS()), exampleN(), nil, 2); e != ok || len(l) != 2 || len(l[0])+len(l[1]) > 0 {
		t.Error(l, e)
	}
}

// comparePlans compares plans in lexicographic order.
func comparePlans(a, b stands) int {
	return slices.CompareFunc(a, b, func(x, y api.Stand) int {
		if x.Shelf != y.Shelf {
			return x.Shelf - y.Shelf
		}
		return x.Day - y.Day
	})
}

// P10.3 and P10.11: no right plan has more cones, or as many and comes before.
func TestMost(t *testing.T) {
	count, some := map[int]int{}, 0
	samples(3000, 3, func(s api.Stove, heats ints, dice *rand.Rand) {
		p, n := mostOf(t, s, heats)
		all := plans(s, heats)
		best := most(all)
		if n != len(put(best[0])) || !slices.Equal(p, best[0]) {
			t.Fatalf("%+v, %v: Most = %v %d, want %v", s, heats, p, n, best[0])
		}
		count[n]++
		if n < len(p) && n > 0 {
			some++
		}
		if e := stove.Right(s, heats, p); e != api.OK || len(put(p)) != n {
			t.Fatalf("%+v, %v: Most = %v %d: %d", s, heats, p, n, e)
		}
		for range 10 {
			other := all[dice.IntN(len(all))]
			if e := stove.Right(s, heats, other); e != api.OK || len(put(other)) > n || len(put(other)) == n && comparePlans(other, p) < 0 {
				t.Fatalf("%+v, %v: Most = %v %d, but %v: %d", s, heats, p, n, other, e)
			}
		}
	})
	if count[0] < 300 || count[1] < 300 || count[2] < 200 || count[3] < 100 || some < 300 {
		t.Error(count, some)
	}
	for i, x := range []struct {
		s     api.Stove
		heats ints
		plan  stands
		cones int
	}{
		// Of plans with as many, first the one in which an earlier cone is not put in, or stands on an earlier shelf, or sooner.
		{plain(ints{1}, 1, 2, hard(1), hard(1), hard(1)), ints{2}, plan(-1, 0, -1, 0, 0, 0), 1}, {plain(ints{2}, 1, 2, hard(1), hard(1), hard(1)), ints{2}, plan(-1, 0, 0, 0, 0, 0), 2}, {plain(ints{1, 1}, 1, 2, hard(1), hard(1), hard(1)), ints{2}, plan(-1, 0, 0, 0, 1, 0), 2}, {plain(ints{1, 1, 1}, 1, 2, hard(1), hard(1), hard(1)), ints{2}, plan(0, 0, 1, 0, 2, 0), 3}, {plain(ints{1, 2}, 1, 2, hard(1), hard(1), hard(1)), ints{2}, plan(0, 0, 1, 0, 1, 0), 3}, {plain(ints{1}, 3, 2, hard(1), hard(1), hard(1)), ints{2, 2, 2}, plan(0, 0, 0, 1, 0, 2), 3}, {plain(ints{1}, 2, 2, hard(1), hard(1), hard(1)), ints{2, 2}, plan(-1, 0, 0, 0, 0, 1), 2},
		// More cones are better than the first one; an earlier one gives way to a later one, on its shelf or on its day.
		{plain(ints{1}, 2, 2, hard(4), hard(2), hard(2)), ints{2, 2}, plan(-1, 0, 0, 0, 0, 1), 2}, {plain(ints{1}, 3, 2, hard(2), hard(4)), ints{2, 2, 2}, plan(0, 0, 0, 1), 2}, {plain(ints{1}, 3, 2, hard(4), hard(2)), ints{2, 2, 2}, plan(0, 0, 0, 2), 2}, {plain(ints{1}, 3, 3, hard(5), hard(3)), ints{1, 2, 3}, plan(-1, 0, 0, 0), 1}, {plain(ints{1}, 3, 3, hard(5), hard(1)), ints{1, 2, 3}, plan(0, 1, 0, 0), 2},
		{plain(ints{1}, 4, 5), ints{5, 5, 5, 5}, nil, 0}, {plain(ints{2}, 4, 0, hard(1), hard(1)), ints{0, 0, 0, 0}, plan(-1, 0, -1, 0), 0},
	} {
		s := but(x.s, func(s *api.Stove) { s.Rise = 3 })
		if p, n := mostOf(t, s, x.heats); n != x.cones || !slices.Equal(p, x.plan) {
			t.Error(i, p, n)
		}
	}
}

// P10.4 and P10.12: all cones are put in just if Most does it, and no plan is done sooner.
func TestAllSoonest(t *testing.T) {
	nothing, later, other := 0, 0, 0
	samples(4000, 4, func(s api.Stove, heats ints, _ *rand.Rand) {
		p, e := stove.All(s, heats)
		q, day, f := stove.Soonest(s, heats)
		all := whole(plans(s, heats))
		full, n := mostOf(t, s, heats)
		if (e == api.OK) != (n == len(s.Cones)) || e != f || e == api.OK && !slices.Equal(p, full) {
			t.Fatalf("%+v, %v: All = %v %d, Soonest %d, Most %v %d", s, heats, p, e, f, full, n)
		}
		if len(all) == 0 {
			if e != api.ErrNothing || len(p)+len(q)+day != 0 {
				t.Fatalf("%+v, %v: All = %v %d, Soonest = %v %d", s, heats, p, e, q, day)
			}
			nothing++
			return
		}
		best := all[0]
		for _, x := range all {
			if ready(s, heats, x) < ready(s, heats, best) {
				best = x
			}
		}
		if !slices.Equal(p, all[0]) || !slices.Equal(q, best) || day != ready(s, heats, best) {
			t.Fatalf("%+v, %v: All = %v, Soonest = %v %d, want %v %v", s, heats, p, q, day, all[0], best)
		}
		if a, b := stove.Right(s, heats, p), stove.Right(s, heats, q); a != api.OK || b != api.OK {
			t.Fatalf("%+v, %v: All = %v: %d, Soonest = %v: %d", s, heats, p, a, q, b)
		}
		last := -1
		for number, at := range q {
			_, n := fateOf(t, s, heats, number, at)
			last = max(last, n)
		}
		if last != day {
			t.Fatalf("%+v, %v: Soonest = %v %d, but the last cone is dry on %d", s, heats, q, day, last)
		}
		if ready(s, heats, p) > day {
			later++
		}
		if !slices.Equal(p, q) {
			other++
		}
	})
	if nothing < 1000 || later < 50 || other < later {
		t.Error(nothing, later, other)
	}
	for i, x := range []struct {
		s         api.Stove
		heats     ints
		all, plan stands
		day       int
	}{
		{withCones(exampleS()), exampleN(), nil, nil, -1}, {plain(ints{1}, 1, 3, hard(3)), ints{3}, plan(0, 0), plan(0, 0), 0}, {plain(ints{2}, 4, 2, hard(2), hard(2)), ints{2, 2, 2, 2}, plan(0, 0, 0, 0), plan(0, 0, 0, 0), 0},
		// The second shelf is hotter, but comes later.
		{but(plain(ints{1, 1}, 4, 2, hard(4)), func(s *api.Stove) { s.Shelves[1].Lift = 2 }), ints{2, 2, 2, 2}, plan(0, 0), plan(1, 0), 0}, {but(plain(ints{1, 1}, 4, 2, hard(4), hard(4)), func(s *api.Stove) { s.Shelves[1].Lift = 2 }), ints{2, 2, 2, 2}, plan(0, 0, 0, 2), plan(0, 0, 1, 0), 1}, {but(plain(ints{1, 1}, 4, 2, hard(6), hard(4)), func(s *api.Stove) { s.Shelves[1].Lift = 2 }), ints{2, 2, 2, 2}, plan(0, 0, 1, 0), plan(1, 0, 0, 0), 1},
		// The one that is dry last decides, not the first one, and not all of them together.
		{plain(ints{1, 1}, 4, 2, hard(2), hard(6)), ints{2, 2, 2, 2}, plan(0, 0, 0, 1), plan(0, 0, 1, 0), 2}, {plain(ints{1}, 3, 2, hard(2), hard(4)), ints{2, 2, 2}, plan(0, 0, 0, 1), plan(0, 0, 0, 1), 2},
	} {
		p, e := stove.All(x.s, x.heats)
		q, day, f := stove.Soonest(x.s, x.heats)
		if e != api.OK || f != api.OK || day != x.day || !slices.Equal(p, x.all) || !slices.Equal(q, x.plan) {
			t.Error(i, p, q, day, e, f)
		}
	}
}

// P10.5 and P10.13: a cone is lost just if it is dried at no stand, even if it is alone.
func TestLost(t *testing.T) {
	count := map[int]int{}
	samples(3000, 5, func(s api.Stove, heats ints, _ *rand.Rand) {
		lost, e := stove.Lost(s, heats)
		want := numbers(len(s.Cones), func(number int) bool {
			for _, at := range allStands(s)[1:] {
				if fate, _ := fateOf(t, s, heats, number, at); fate == api.Dry {
					return false
				}
			}
			return true
		})
		if e != api.OK || !slices.Equal(lost, want) {
			t.Fatalf("%+v, %v: Lost = %v %d, want %v", s, heats, lost, e, want)
		}
		for number := range s.Cones {
			if alone := canAll(only(s, ints{number}), heats); alone == slices.Contains(lost, number) {
				t.Fatalf("%+v, %v: Lost = %v, but %d alone: %t", s, heats, lost, number, alone)
			}
		}
		count[len(lost)]++
	})
	if count[0] < 500 || count[1] < 300 || count[2] < 200 || count[3] < 100 {
		t.Error(count)
	}
	// Cones that have no room beside each other are not lost.
	if l, e := stove.Lost(plain(ints{1}, 1, 2, hard(2), hard(3), hard(2)), ints{2}); e != api.OK || !slices.Equal(l, ints{1}) {
		t.Error(l, e)
	}
}

// P10.5 and P10.14: the cones of Crowd cannot all be dried, but those of no list that comes before.
func TestCrowd(t *testing.T) {
	count, later := map[int]int{}, 0
	samples(4000, 6, func(s api.Stove, heats ints, _ *rand.Rand) {
		list, e := stove.Crowd(s, heats)
		want, due := crowd(s, heats)
		if e != due || !slices.Equal(list, want) {
			t.Fatalf("%+v, %v: Crowd = %v %d, want %v %d", s, heats, list, e, want, due)
		}
		count[len(list)]++
		if (e == api.ErrNothing) != dries(t, s, heats) {
			t.Fatalf("%+v, %v: Crowd = %v %d", s, heats, list, e)
		}
		if e != api.OK {
			return
		}
		if dries(t, only(s, list), heats) {
			t.Fatalf("%+v, %v: Crowd = %v can all be dried", s, heats, list)
		}
		for i, number := range list {
			if !dries(t, only(s, slices.Delete(slices.Clone(list), i, i+1)), heats) {
				t.Fatalf("%+v, %v: Crowd = %v, but without %d they cannot be dried, either", s, heats, list, number)
			}
		}
		if list[0] > 0 {
			later++
		}
	})
	if count[0] < 1000 || count[1] < 1000 || count[2] < 50 || count[3] < 20 || later < 200 {
		t.Error(count, later)
	}
	for i, x := range []struct {
		s    api.Stove
		days int
		want ints
	}{
		{plain(ints{1}, 1, 2, hard(1), hard(1), hard(1)), 1, ints{0, 1}}, {plain(ints{2}, 1, 2, hard(1), hard(1), hard(1)), 1, ints{0, 1, 2}}, {plain(ints{2, 1}, 1, 2, hard(1), hard(1), hard(1)), 1, nil}, {plain(ints{1}, 2, 2, hard(1), hard(3), hard(1)), 2, ints{0, 1}}, {plain(ints{1}, 2, 2, hard(1), hard(1), hard(3)), 2, ints{0, 2}}, {plain(ints{1}, 3, 2, hard(1), hard(4), hard(4)), 3, ints{1, 2}},
		// One alone comes before two, wherever it is.
		{plain(ints{1}, 1, 2, hard(1), hard(1), hard(3)), 1, ints{2}}, {plain(ints{1}, 1, 2, hard(3), hard(1), hard(3)), 1, ints{0}}, {plain(ints{1}, 2, 2), 2, nil},
	} {
		list, e := stove.Crowd(x.s, slices.Repeat(ints{2}, x.days))
		if (e == api.ErrNothing) != (x.want == nil) || e != api.OK && e != api.ErrNothing || !slices.Equal(list, x.want) {
			t.Error(i, list, e)
		}
	}
}

// P10.6 and P10.15, and P0: whether a cone is put in in all right plans with the most cones, in none, or in some.
func TestVerdict(t *testing.T) {
	count := map[int]int{}
	samples(3000, 7, func(s api.Stove, heats ints, _ *rand.Rand) {
		best := most(plans(s, heats))
		for number := range s.Cones {
			v := verdictOf(t, s, heats, number)
			if want := verdict(best, number); v != want {
				t.Fatalf("%+v, %v: Verdict(%d) = %d, want %d", s, heats, number, v, want)
			}
			count[v]++
			in := slices.Contains(put(best[0]), number)
			if v == api.Yes && !in || v == api.No && in {
				t.Fatalf("%+v, %v: Verdict(%d) = %d, Most %v", s, heats, number, v, best[0])
			}
		}
	})
	if count[api.Yes] < 1500 || count[api.No] < 1500 || count[api.Open] < 200 {
		t.Error(count)
	}
	for i, x := range []struct {
		s    api.Stove
		days int
		want ints
	}{
		{plain(ints{1}, 1, 2, hard(2)), 1, ints{api.Yes}}, {plain(ints{1}, 1, 2, hard(3)), 1, ints{api.No}}, {plain(ints{1}, 1, 2, hard(2), hard(2)), 1, ints{api.Open, api.Open}}, {plain(ints{1}, 3, 2, hard(2), hard(4), hard(4)), 3, ints{api.Yes, api.Open, api.Open}},
		// A cone that could be dried is in no plan with the most cones, as it takes the room of two.
		{plain(ints{1}, 2, 2, hard(3), hard(2), hard(2)), 2, ints{api.No, api.Yes, api.Yes}}, {plain(ints{1}, 1, 2, hard(3), hard(3)), 1, ints{api.No, api.No}},
	} {
		for number, want := range x.want {
			if v := verdictOf(t, x.s, slices.Repeat(ints{2}, x.days), number); v != want {
				t.Error(i, number, v)
			}
		}
	}
}

// P10.7 and P10.16: with the heats of Fire all can be dried; no valid heats with a lesser sum, or with the same and before them, do it.
func TestFire(t *testing.T) {
	nothing, fuels, choice := 0, map[int]int{}, 0
	cooler(1200, 8, func(s api.Stove, _ *rand.Rand) {
		heats, fuel, e := stove.Fire(s)
		want, least, due := fire(s)
		if e != due || fuel != least || !slices.Equal(heats, want) {
			t.Fatalf("%+v: Fire = %v %d %d, want %v %d %d", s, heats, fuel, e, want, least, due)
		}
		if e != api.OK {
			nothing++
		} else {
			fuels[min(fuel, 5)]++
		}
		as := 0
		for _, other := range allHeats(s) {
			before := e != api.OK || sum(other) < fuel || sum(other) == fuel && slices.Compare(other, heats) < 0
			same := e == api.OK && slices.Equal(other, heats)
			if !before && !same && sum(other) != fuel {
				continue
			}
			can := dries(t, s, other)
			if before && can || same && !can {
				t.Fatalf("%+v: Fire = %v %d, but %v: %t", s, heats, fuel, other, can)
			}
			if can {
				as++
			}
		}
		if as > 1 {
			choice++
		}
	})
	if nothing < 100 || fuels[0] < 50 || fuels[1] < 20 || fuels[3] < 20 || fuels[5] < 50 || choice < 100 {
		t.Error(nothing, fuels, choice)
	}
	of := func(days, now, rise, top int, list ...api.Cone) api.Stove {
		return api.Stove{Shelves: shelves{shelf(0, 1)}, Cones: list, Days: days, Now: now, Rise: rise, Top: top}
	}
	for i, x := range []struct {
		s     api.Stove
		heats ints
		fuel  int
	}{
		{of(4, 0, 3, 5), ints{0, 0, 0, 0}, 0}, {of(4, 5, 3, 0), ints{0, 0, 0, 0}, 0}, {of(4, 0, 3, 5, hard(1)), ints{0, 0, 0, 1}, 1}, {of(4, 0, 1, 5, hard(10)), ints{1, 2, 3, 4}, 10}, {of(4, 0, 1, 5, hard(11)), nil, 0}, {of(4, 1, 1, 5, hard(11)), ints{2, 2, 3, 4}, 11}, {of(4, 5, 0, 5, hard(20)), ints{5, 5, 5, 5}, 20}, {of(4, 4, 0, 5, hard(17)), nil, 0}, {of(4, 2, 3, 5, hard(20)), ints{5, 5, 5, 5}, 20}, {of(1, 2, 3, 5, hard(5)), ints{5}, 5}, {of(1, 1, 3, 5, hard(5)), nil, 0},
		// A cone that does not bear much has to have more days, with as much fuel; of as much, the first heats.
		{of(3, 5, 3, 5, cone(4, 2, 0, 9)), ints{0, 2, 2}, 4}, {of(3, 5, 3, 5, cone(4, 1, 1, 9)), ints{1, 1, 2}, 4}, {of(3, 5, 3, 5, cone(4, 1, 0, 9)), nil, 0}, {of(3, 5, 3, 5, cone(4, 9, 9, 1)), nil, 0}, {of(3, 0, 2, 5, cone(5, 9, 9, 2)), ints{1, 2, 2}, 5},
		// Two cones one after the other take the fuel of both, and so does one with the other's rest.
		{of(4, 5, 3, 5, hard(2), hard(2)), ints{0, 0, 2, 2}, 4}, {of(3, 5, 3, 5, hard(3), hard(1)), ints{0, 1, 3}, 4}, {of(2, 0, 2, 5, hard(2), hard(4)), ints{2, 4}, 6}, {of(2, 0, 2, 5, hard(3), hard(3)), nil, 0},
	} {
		due := api.OK
		if x.heats == nil {
			due = api.ErrNothing
		}
		if heats, fuel, e := stove.Fire(x.s); e != due || fuel != x.fuel || !slices.Equal(heats, x.heats) {
			t.Errorf("%d: %v %d %d", i, heats, fuel, e)
		}
	}
}

// P10.7 and P10.17: with as many days all can be dried, with one less they cannot.
func TestDays(t *testing.T) {
	count, fewer, nothing := map[int]int{}, 0, 0
	cooler(1000, 9, func(s api.Stove, _ *rand.Rand) {
		n, e := stove.Days(s)
		if want, due := days(s); n != want || e != due {
			t.Fatalf("%+v: Days = %d %d, want %d %d", s, n, e, want, due)
		}
		if (e == api.OK) != burns(t, s) {
			t.Fatalf("%+v: Days = %d %d", s, n, e)
		}
		if e != api.OK {
			nothing++
			return
		}
		count[n]++
		if n < s.Days {
			fewer++
		}
		if !burns(t, but(s, func(s *api.Stove) { s.Days = n })) || n > 1 && burns(t, but(s, func(s *api.Stove) { s.Days = n - 1 })) {
			t.Fatalf("%+v: Days = %d", s, n)
		}
	})
	if count[1] < 200 || count[2] < 80 || count[3] < 30 || count[4] < 5 || fewer < 200 || nothing < 200 {
		t.Error(count, fewer, nothing)
	}
	for i, x := range []struct {
		wet, days, want int
		e               api.Errno
	}{
		{2, 4, 1, api.OK}, {3, 4, 2, api.OK}, {5, 4, 3, api.OK}, {8, 4, 4, api.OK}, {9, 4, 0, api.ErrNothing}, {6, 3, 3, api.OK}, {7, 3, 0, api.ErrNothing}, {2, 1, 1, api.OK}, {3, 1, 0, api.ErrNothing},
	} {
		if n, e := stove.Days(plain(ints{1}, x.days, 2, hard(x.wet))); n != x.want || e != x.e {
			t.Error(i, n, e)
		}
	}
	if n, e := stove.Days(plain(ints{1}, 4, 0)); n != 1 || e != api.OK {
		t.Error(n, e)
	}
}

// P10.8 and P10.18: with the heat of Spare all can be dried; with a greater one they cannot, or the heats are not valid.
func TestSpare(t *testing.T) {
	nothing, more, less, next := 0, 0, 0, 0
	samples(3000, 10, func(s api.Stove, heats ints, _ *rand.Rand) {
		for day := range s.Days {
			n, e := stove.Spare(s, heats, day)
			if want, due := spare(s, heats, day); n != want || e != due {
				t.Fatalf("%+v, %v: Spare(%d) = %d %d, want %d %d", s, heats, day, n, e, want, due)
			}
			least := 0
			if e == api.OK {
				least = n + 1
				if !dries(t, s, withHeat(heats, day, n)) {
					t.Fatalf("%+v, %v: Spare(%d) = %d", s, heats, day, n)
				}
			}
			for heat := least; heat <= api.MaxTop+1; heat++ {
				if _, e := stove.All(s, withHeat(heats, day, heat)); e == api.OK {
					t.Fatalf("%+v, %v: Spare(%d) = %d %d, but %d does it", s, heats, day, n, e, heat)
				}
			}
			switch {
			case e != api.OK:
				nothing++
			case n > heats[day]:
				more++
			case n < heats[day]:
				less++
			}
			if e == api.ErrNothing && dries(t, s, heats) {
				t.Fatalf("%+v, %v: Spare(%d) = %d %d", s, heats, day, n, e)
			}
			// A lesser heat would do, if the next day did not rise too far then.
			if e == api.ErrNothing && day < s.Days-1 && heats[day+1] > 0 && canAll(s, withHeat(heats, day, 0)) {
				next++
			}
		}
	})
	if nothing < 1000 || more < 500 || less < 50 || next < 5 {
		t.Error(nothing, more, less, next)
	}
	of := func(now, rise, top int, list ...api.Cone) api.Stove {
		return api.Stove{Shelves: shelves{shelf(1, 1)}, Cones: list, Days: 3, Now: now, Rise: rise, Top: top}
	}
	for i, x := range []struct {
		s     api.Stove
		heats ints
		day   int
		want  int
		e     api.Errno
	}{
		// Without cones only the stove decides.
		{of(1, 2, 5), ints{0, 0, 0}, 0, 3, api.OK}, {of(4, 2, 5), ints{0, 0, 0}, 0, 5, api.OK}, {of(1, 2, 2), ints{0, 0, 0}, 0, 2, api.OK}, {of(5, 0, 3), ints{3, 1, 1}, 1, 3, api.OK}, {of(5, 0, 3), ints{1, 1, 1}, 2, 1, api.OK}, {of(5, 0, 0), ints{0, 0, 0}, 1, 0, api.OK},
		// A cone that is dry before does not mind; one that stands there does.
		{of(0, 3, 5, cone(1, 1, 0, 1)), ints{0, 0, 0}, 2, 3, api.OK}, {of(5, 3, 5, cone(3, 1, 0, 1)), ints{0, 0, 0}, 2, 0, api.OK}, {of(5, 3, 5, cone(4, 2, 1, 2)), ints{0, 0, 1}, 1, 1, api.OK}, {of(5, 3, 5, cone(4, 9, 0, 9)), ints{0, 0, 0}, 2, 3, api.OK},
		// With less than now, or with what makes up for other days.
		{of(5, 3, 5, cone(2, 2, 1, 2)), ints{5, 5, 5}, 1, 0, api.ErrNothing}, {of(5, 2, 5, cone(2, 2, 1, 2)), ints{5, 3, 3}, 1, 1, api.OK}, {of(5, 3, 5, cone(2, 2, 1, 2)), ints{5, 5, 5}, 2, 1, api.OK}, {of(5, 3, 5, hard(8)), ints{0, 0, 0}, 0, 5, api.OK}, {of(5, 3, 5, hard(9)), ints{0, 0, 0}, 0, 0, api.ErrNothing},
	} {
		if n, e := stove.Spare(x.s, x.heats, x.day); n != x.want || e != x.e {
			t.Error(i, n, e)
		}
	}
}

// P10.8 and P10.20: Add refuses just what takes all heats away; what it returns has the cone as the last one.
func TestAdd(t *testing.T) {
	count, hopeless := map[api.Errno]int{}, 0
	cooler(2500, 11, func(s api.Stove, dice *rand.Rand) {
		c := randomCone(dice)
		if dice.IntN(10) == 0 {
			c = cone(dice.IntN(23)-1, dice.IntN(12)-1, dice.IntN(12)-1, dice.IntN(12)-1)
		}
		more := withCones(s, slices.Concat(s.Cones, cones{c})...)
		want := api.OK
		switch {
		case len(s.Cones) == api.MaxDamp:
			want = api.ErrExcess
		case stove.Check(more) != api.OK:
			want = api.ErrValue
		case burns(t, s) && !burns(t, more):
			want = api.ErrConflict
		case !burns(t, s):
			hopeless++
		}
		got, e := stove.Add(s, c)
		if e != want || e != api.OK && !zero(got) || e == api.OK && !sameStove(got, more) {
			t.Fatalf("%+v: Add(%v) = %+v %d, want %d", s, c, got, e, want)
		}
		count[e]++
	})
	if count[api.OK] < 500 || count[api.ErrConflict] < 100 || count[api.ErrExcess] < 300 || count[api.ErrValue] < 30 || hopeless < 100 {
		t.Error(count, hopeless)
	}
	one := plain(ints{1}, 1, 2)
	for i, x := range []struct {
		s    api.Stove
		c    api.Cone
		want api.Errno
	}{
		{one, hard(2), api.OK}, {one, hard(3), api.ErrConflict}, {withCones(one, hard(3)), hard(20), api.OK}, {withCones(one, hard(2)), hard(1), api.ErrConflict}, {withCones(one, hard(3), hard(3)), hard(1), api.OK}, {withCones(one, hard(2), hard(2)), hard(1), api.OK},
		{withCones(one, hard(2), hard(2)), cone(1, 9, 9, 10), api.ErrValue}, {withCones(one, hard(2), hard(2), hard(2)), cone(0, 0, 0, 0), api.ErrExcess},
	} {
		if _, e := stove.Add(x.s, x.c); e != x.want {
			t.Error(i, e)
		}
	}
}

// P10.19: more Room, a cone that bears more, or one that is less wet, never makes Most put in fewer.
func TestHardier(t *testing.T) {
	more := map[int]int{}
	samples(6000, 12, func(s api.Stove, heats ints, dice *rand.Rand) {
		which := dice.IntN(5)
		easier := but(s, func(s *api.Stove) {
			if which == 0 || len(s.Cones) == 0 {
				s.Shelves[dice.IntN(len(s.Shelves))].Room = api.MaxShelfRoom
				which = 0
				return
			}
			c := &s.Cones[dice.IntN(len(s.Cones))]
			switch which {
			case 1:
				c.Wet = within(dice, 1, c.Wet)
			case 2:
				c.Cold = within(dice, c.Cold, api.MaxLimit)
			case 3:
				c.Jump = within(dice, c.Jump, api.MaxLimit)
			default:
				c.Most = within(dice, c.Most, api.MaxLimit)
			}
		})
		p, n := mostOf(t, s, heats)
		q, m := mostOf(t, easier, heats)
		if m < n {
			t.Fatalf("%+v, %v: Most = %v, of %+v %v", s, heats, p, easier, q)
		}
		if m > n {
			more[which]++
		}
	})
	for which := range 5 {
		if more[which] < 10 {
			t.Error(more)
		}
	}
}

// P10.21: if shelves have other numbers, Most puts in as many, and Fire takes as much fuel.
func TestRenumbered(t *testing.T) {
	other, burnt := 0, 0
	cooler(1500, 13, func(s api.Stove, dice *rand.Rand) {
		old := dice.Perm(len(s.Shelves))
		c := but(s, func(c *api.Stove) {
			for shelf, n := range old {
				c.Shelves[shelf] = s.Shelves[n]
			}
		})
		heats := randomHeats(dice, s)
		p, n := mostOf(t, s, heats)
		q, m := mostOf(t, c, heats)
		if n != m {
			t.Fatalf("%+v, %v: Most = %v, with the shelves %v: %v", s, heats, p, old, q)
		}
		if !slices.Equal(p, q) {
			other++
		}
		fires, fuel, e := stove.Fire(s)
		l, k, f := stove.Fire(c)
		if e != f || fuel != k || !slices.Equal(fires, l) {
			t.Fatalf("%+v: Fire = %v %d %d, with the shelves %v: %v %d %d", s, fires, fuel, e, old, l, k, f)
		}
		if e == api.OK && fuel > 0 {
			burnt++
		}
		// Where a stand is under its new number, the same becomes of a cone there.
		for number := range s.Cones {
			for shelf, n := range old {
				day := dice.IntN(s.Days)
				fate, end := fateOf(t, s, heats, number, on(n, day))
				if now, last := fateOf(t, c, heats, number, on(shelf, day)); now != fate || last != end {
					t.Fatalf("%+v, %v: Fate(%d) = %d %d, with the shelves %v: %d %d", s, heats, number, fate, end, old, now, last)
				}
			}
		}
	})
	if other < 50 || burnt < 200 {
		t.Error(other, burnt)
	}
}

// dried calls look with cones that are dry: the days on which they stand, and the heats of their shelf.
func dried(n int, seed uint64, look func(s api.Stove, c api.Cone, heats ints, dice *rand.Rand)) {
	samples(n, seed, func(s api.Stove, heats ints, dice *rand.Rand) {
		if dice.IntN(2) == 0 {
			s.Top = min(s.Top, api.MaxLoafRate)
			s.Now = s.Top
			heats = slices.Repeat(ints{dice.IntN(s.Top + 1)}, s.Days)
		}
		for number, c := range s.Cones {
			for _, at := range allStands(s)[1:] {
				fate, last, e := stove.Fate(s, heats, number, at)
				if e == api.OK && fate == api.Dry {
					look(s, c, onShelf(s, heats, at.Shelf)[at.Day:last+1], dice)
				}
			}
		}
	})
}

// T6: a cone that dries in a heat that stays the same loses at least what it was wet, and less than a day's heat more; so does a loaf with this heat for its rate. What it loses is lost in a vessel, too.
func TestSlow(t *testing.T) {
	looked, just, longer := 0, 0, 0
	dried(3000, 14, func(s api.Stove, c api.Cone, heats ints, dice *rand.Rand) {
		rate := heats[0]
		if rate > api.MaxLoafRate || slices.ContainsFunc(heats, func(heat int) bool { return heat != rate }) {
			return
		}
		whole := within(dice, len(heats)*rate, api.MaxLoaf)
		lost := sum(heats)
		b := api.Batch{
			Works:  api.Works{Vessels: []api.Vessel{{From: -1, Room: api.MaxRoom}}},
			Stoves: []api.Span{{Lo: rate, Hi: rate}},
			Loaves: []api.Loaf{{Days: len(heats), Cart: -1, Found: whole - lost}},
		}
		out, e := loaf.Out(b, 0)
		if out.Lo != out.Hi || e != api.OK {
			t.Fatalf("%+v: Out = %v %d", b, out, e)
		}
		w := api.Works{
			Vessels:  []api.Vessel{{From: -1, Room: api.MaxRoom, Loss: api.Span{Lo: 0, Hi: api.MaxLoss}}, {From: 0, Room: api.MaxRoom}},
			Readings: []api.Reading{{Vessel: 0, Shown: out.Lo}, {Vessel: 1, Shown: whole - lost}},
		}
		loss, f := weigh.Loss(w, 0)
		if f != api.OK || loss.Lo != loss.Hi || loss.Lo < c.Wet || loss.Lo >= c.Wet+rate {
			t.Fatalf("%+v, %v: %+v lost %v %d, by the rate %d", s, heats, c, loss, f, rate)
		}
		looked++
		if loss.Lo == c.Wet {
			just++
		}
		if len(heats) > 1 {
			longer++
		}
	})
	if looked < 1000 || just < 300 || just > looked-300 || longer < 300 {
		t.Error(looked, just, longer)
	}
}

// T12: if a cone is dry, and loses by a rate that is known, what is found of its loaf says just what came out of it.
func TestDriedLoaf(t *testing.T) {
	looked, unknown := 0, 0
	dried(2000, 15, func(s api.Stove, c api.Cone, heats ints, dice *rand.Rand) {
		rate, paper := dice.IntN(api.MaxLoafRate+1), dice.IntN(api.MaxPaper+1)
		whole := within(dice, len(heats)*rate, api.MaxLoaf)
		found := whole - len(heats)*rate + paper
		b := api.Batch{
			Works:  api.Works{Vessels: []api.Vessel{{From: -1, Room: api.MaxRoom}}},
			Stoves: []api.Span{{Lo: rate, Hi: rate}},
			Paper:  paper,
			Loaves: []api.Loaf{{Promise: dice.IntN(api.MaxLoaf + 1), Days: len(heats), Cart: -1, Found: found}},
		}
		out, e := loaf.Out(b, 0)
		if want := (api.Span{Lo: whole, Hi: whole}); e != api.OK || out != want {
			t.Fatalf("%+v: Out = %v %d, want %v", b, out, e, want)
		}
		looked++
		b.Stoves[0] = api.Span{Lo: 0, Hi: api.MaxLoafRate}
		if out, e := loaf.Out(b, 0); e == api.OK && out.Lo < out.Hi && out.Lo <= whole && whole <= out.Hi {
			unknown++
		}
	})
	if looked < 3000 || unknown < 2000 {
		t.Error(looked, unknown)
	}
}

// T13: if the cones of a strike go to the stove when they are off their floor in every heat, no cone is on a floor and in the stove on one day. The stove's first day is the one on which the first strike is off.
func TestCooled(t *testing.T) {
	looked, both, touching := 0, 0, 0
	samples(1500, 16, func(s api.Stove, heats ints, dice *rand.Rand) {
		if len(s.Cones) == 0 {
			return
		}
		// The first cone of the stove is of the strike 0, all others are of the strike 1.
		of := func(number int) int { return min(number, 1) }
		p := api.Plant{Floors: []api.Floor{{Places: api.MaxPlaces, Drip: api.Span{Lo: 1 + dice.IntN(2), Hi: 2 + dice.IntN(2)}, Cool: api.MaxCool}}}
		day := dice.IntN(4)
		p.Strikes = []api.Strike{{Day: day, Cones: 1, Wait: dice.IntN(3)}, {Day: day + dice.IntN(2), Cones: 2}}
		set, loaves, e := floor.Best(p)
		if e != api.OK || loaves != 3 {
			t.Fatalf("%+v: Best = %v %d %d", p, set, loaves, e)
		}
		var off [2]int
		for strike := range off {
			days, e := floor.Ready(p, set, strike)
			if e != api.OK {
				t.Fatalf("%+v: Ready(%v, %d): %d", p, set, strike, e)
			}
			off[strike] = days.Hi
		}
		first := min(off[0], off[1])
		for _, l := range plans(s, heats) {
			soon := slices.ContainsFunc(put(l), func(number int) bool { return l[number].Day+first < off[of(number)] })
			if soon || len(put(l)) == 0 {
				continue
			}
			looked++
			for day := range s.Days {
				lists, e := stove.Places(s, heats, l, day)
				if e != api.OK {
					t.Fatalf("%+v, %v: Places(%v): %d", s, heats, l, e)
				}
				for _, number := range slices.Concat(lists...) {
					strike := of(number)
					// Only the strike of this cone, so that all that stands is of it.
					alone := slices.Repeat([]api.Berth{{Floor: -1}}, 2)
					alone[strike] = set[strike]
					stand, e := floor.Stands(p, alone, 0, first+day)
					if e != api.OK || stand.Hi > 0 {
						t.Fatalf("%+v, %v: %v: the cone %d is in the stove on the day %d, and on its floor: %v %d", p, set, l, number, first+day, stand, e)
					}
					before, e := floor.Stands(p, alone, 0, first+day-1)
					if e == api.OK && before.Hi > 0 {
						touching++
					}
				}
			}
			if len(put(l)) > 1 {
				both++
			}
		}
	})
	if looked < 3000 || both < 500 || touching < 500 {
		t.Error(looked, both, touching)
	}
}

// All that the limits let be, against the reference.
func TestLimits(t *testing.T) {
	of := func(list ...api.Cone) api.Stove {
		return api.Stove{Shelves: shelves{shelf(0, 1), shelf(3, 2), shelf(1, 2)}, Cones: list, Days: 4, Now: 5, Rise: 3, Top: 5}
	}
	for i, s := range []api.Stove{
		of(hard(20), hard(20), hard(20)), of(hard(1), hard(1), hard(1)), of(cone(20, 8, 0, 8), cone(20, 5, 0, 5), cone(20, 9, 1, 9)), of(cone(20, 1, 1, 9), hard(1), cone(9, 4, 1, 5)),
		but(of(hard(20), hard(20), hard(20)), func(s *api.Stove) { s.Now, s.Rise = 0, 1 }), but(of(hard(9), hard(9), hard(9)), func(s *api.Stove) { s.Shelves = shelves{shelf(0, 1)} }),
	} {
		heats, fuel, e := stove.Fire(s)
		want, least, due := fire(s)
		if e != due || fuel != least || !slices.Equal(heats, want) {
			t.Error(i, heats, fuel, e, want, least, due)
		}
		n, e := stove.Days(s)
		if want, due := days(s); n != want || e != due {
			t.Error(i, n, e, want, due)
		}
		for _, heats := range []ints{{0, 0, 0, 0}, {1, 2, 3, 4}, {5, 5, 5, 5}, {0, 1, 0, 1}} {
			if badHeats(s, heats) != api.OK {
				continue
			}
			all := plans(s, heats)
			best := most(all)
			if p, n := mostOf(t, s, heats); n != len(put(best[0])) || !slices.Equal(p, best[0]) {
				t.Error(i, heats, p, n)
			}
			for number := range s.Cones {
				if v := verdictOf(t, s, heats, number); v != verdict(best, number) {
					t.Error(i, heats, number, v)
				}
			}
			list, e := stove.Crowd(s, heats)
			if want, due := crowd(s, heats); e != due || !slices.Equal(list, want) {
				t.Error(i, heats, list, e)
			}
			for day := range s.Days {
				n, e := stove.Spare(s, heats, day)
				if want, due := spare(s, heats, day); n != want || e != due {
					t.Error(i, heats, day, n, e)
				}
			}
		}
	}
}

// P1, R3, R5 and R7: whatever the arguments are.
func TestAnyArguments(t *testing.T) {
	dice := rand.New(rand.NewPCG(17, 10))
	odd := func() int {
		switch dice.IntN(24) {
		case 0:
			return math.MaxInt
		case 1:
			return math.MinInt
		case 2:
			return -1
		}
		return dice.IntN(5)
	}
	right, heated := 0, 0
	for range 20000 {
		s := randomStove(dice)
		heats := randomHeats(dice, s)
		switch dice.IntN(6) {
		case 0:
			s.Shelves = append(s.Shelves, shelf(odd(), odd()))
		case 1:
			s.Cones = append(s.Cones, cone(odd(), odd(), odd(), odd()))
		case 2:
			s.Days, s.Now, s.Rise, s.Top = odd(), odd(), odd(), odd()
		}
		a := asked{heats, odd(), odd(), on(odd(), odd()), randomPlan(dice, exampleS(), exampleH()), cone(odd(), odd(), odd(), odd())}
		if dice.IntN(3) == 0 {
			a.heats = append(a.heats[:dice.IntN(len(heats))], odd())
		}
		if dice.IntN(2) == 0 {
			a.plan = append(a.plan, on(odd(), odd()))
		}
		errs, clean := failures(answers(s, a))
		e := stove.Check(s)
		for name, f := range errs {
			if !clean || e != api.OK && f != e {
				t.Fatalf("%+v, %+v: %s: %d, Check %d, clean %t", s, a, name, f, e, clean)
			}
		}
		if e != api.OK {
			continue
		}
		right++
		if bad := badHeats(s, a.heats); errs["Lost"] != bad || errs["Most"] != bad {
			t.Fatalf("%+v, %+v: Lost %d, Most %d, want %d", s, a, errs["Lost"], errs["Most"], bad)
		} else if bad == api.OK {
			heated++
		}
	}
	if right < 8000 || heated < 5000 || heated > right-1000 {
		t.Error(right, heated)
	}
}

// R2, R4 and R6: no call changes an argument, nor memory behind it, and all calls of the same say the same, side by side too.
func TestNothingKept(t *testing.T) {
	samples(400, 18, func(s api.Stove, heats ints, dice *rand.Rand) {
		// There is room behind the lists, in which something stands.
		s.Shelves = append(slices.Clone(s.Shelves), shelf(7, 7))[:len(s.Shelves)]
		s.Cones = append(slices.Clone(s.Cones), cone(7, 7, 7, 7))[:len(s.Cones)]
		a := asked{cone: dice.IntN(api.MaxDamp), day: dice.IntN(s.Days), at: on(0, dice.IntN(s.Days)), more: randomCone(dice)}
		a.heats = append(slices.Clone(heats), 7)[:len(heats)]
		p := randomPlan(dice, s, heats)
		a.plan = append(slices.Clone(p), on(7, 7))[:len(p)]
		whole := func() (api.Stove, ints, stands) {
			c := s
			c.Shelves, c.Cones = s.Shelves[:len(s.Shelves)+1], s.Cones[:len(s.Cones)+1]
			return copied(c), slices.Clone(a.heats[:len(a.heats)+1]), slices.Clone(a.plan[:len(a.plan)+1])
		}
		before, hot, list := whole()
		want := answers(s, a)
		var calls sync.WaitGroup
		for range 4 {
			calls.Go(func() {
				if got := answers(s, a); !slices.EqualFunc(got, want, sameAnswer) {
					t.Errorf("%+v: %v, then %v", s, want, got)
				}
			})
		}
		calls.Wait()
		if after, now, then := whole(); !reflect.DeepEqual(before, after) || !slices.Equal(hot, now) || !slices.Equal(list, then) {
			t.Fatalf("%+v became %+v, %v became %v, %v became %v", before, after, hot, now, list, then)
		}
	})
	// What Add returns is new memory.
	s := exampleS()
	more, e := stove.Add(s, cone(1, 9, 9, 9))
	if e != api.OK {
		t.Fatal(e)
	}
	more.Shelves[0], more.Cones[0] = shelf(3, 2), hard(20)
	if !sameStove(s, exampleS()) {
		t.Error(s)
	}
	// Nil and empty lists mean the same.
	none, empty := withCones(exampleS()), withCones(exampleS(), cones{}...)
	if got, want := answers(empty, asked{heats: exampleH(), plan: stands{}}), answers(none, asked{heats: exampleH()}); !slices.EqualFunc(got, want, sameAnswer) {
		t.Error(got, want)
	}
	if stove.Check(api.Stove{Shelves: shelves{}, Days: 1}) != api.ErrShortage {
		t.Error("a stove without shelves")
	}
	if stove.Right(exampleS(), exampleH(), stands{}) != api.ErrShortage || stove.Right(exampleS(), ints{}, nil) != api.ErrShortage {
		t.Error("a plan without stands, or no heats")
	}
}
