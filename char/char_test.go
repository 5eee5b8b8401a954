package char_test

import (
	"math"
	"math/rand/v2"
	"reflect"
	"slices"
	"sync"
	"testing"

	"muscovado/api"
	"muscovado/char"
)

// asked are the arguments of all functions beside the char.
type asked struct {
	plan        rows
	filter, day int
	offers      filters
}

// answer is what a function returns: its results in a list, and its error.
type answer struct {
	name    string
	results []any
	e       api.Errno
}

// answers returns what all functions but Check say.
func answers(c api.Char, a asked) []answer {
	var list []answer
	add := func(name string, e api.Errno, results ...any) {
		list = append(list, answer{name, results, e})
	}
	add("CheckPlan", char.CheckPlan(c, a.plan))
	l, n, e := char.Course(c, a.plan)
	add("Course", e, l, n)
	l, n, e = char.Fewest(c)
	add("Fewest", e, l, n)
	n, e = char.Fails(c)
	add("Fails", e, n)
	n, e = char.Most(c, a.day)
	add("Most", e, n)
	n, e = char.Spare(c, a.day)
	add("Spare", e, n)
	n, e = char.Left(c)
	add("Left", e, n)
	f, e := char.Needed(c)
	add("Needed", e, f)
	n, e = char.Kiln(c)
	add("Kiln", e, n)
	k, n, e := char.Buy(c, a.offers)
	add("Buy", e, k, n)
	l, n, e = char.Again(c)
	add("Again", e, l, n)
	n, e = char.Verdict(c, a.filter, a.day)
	add("Verdict", e, n)
	return list
}

// zero returns whether a result is a zero value; an empty list is one, too.
func zero(x any) bool {
	v := reflect.ValueOf(x)
	return v.IsZero() || v.Kind() == reflect.Slice && v.Len() == 0
}

// failures returns the errors by the names of the functions, and whether all other results are zero values wherever there is one.
func failures(c api.Char, a asked) (errs map[string]api.Errno, clean bool) {
	errs, clean = map[string]api.Errno{}, true
	for _, x := range answers(c, a) {
		errs[x.name] = x.e
		for _, r := range x.results {
			clean = clean && (x.e == api.OK || zero(r))
		}
	}
	return errs, clean
}

func same(a, b rows) bool {
	return slices.EqualFunc(a, b, slices.Equal[ints])
}

// P4.1, and R1 and R3: the errors of char, and their order.
func TestCheck(t *testing.T) {
	s := exampleS()
	full := api.Char{Filters: filters{worn(4, 4, 4), filter(4, 0, 0), filter(1, 1, 1)}, Kiln: 3, Days: ints{12, 12, 12, 12}}
	of := func(f ...api.Filter) api.Char { return but(s, func(c *api.Char) { c.Filters = f }) }
	good, bad := filter(3, 1, 3), filter(3, 4, 3)
	for i, x := range []struct {
		c    api.Char
		want api.Errno
	}{
		{s, api.OK}, {exampleU(), api.OK}, {exampleT(), api.OK}, {full, api.OK}, {of(filter(1, 0, 0)), api.OK}, {withDays(s, 0), api.OK}, {withKiln(s, 3), api.OK},
		{api.Char{}, api.ErrShortage}, {of(), api.ErrShortage}, {api.Char{Kiln: 9, Days: ints{99}}, api.ErrShortage},
		{of(good, good, good, good), api.ErrExcess}, {of(bad, good, good, good), api.ErrExcess}, {withKiln(of(bad, bad, bad, bad), -1), api.ErrExcess},
		{of(filter(0, 0, 0)), api.ErrValue}, {of(filter(5, 1, 1)), api.ErrValue}, {of(filter(-1, 0, 0)), api.ErrValue}, {of(filter(math.MaxInt, 0, 0)), api.ErrValue}, {of(filter(math.MinInt, 0, 0)), api.ErrValue},
		{of(filter(2, 3, 0)), api.ErrValue}, {of(filter(2, -1, 0)), api.ErrValue}, {of(filter(2, 2, 2)), api.OK}, {of(filter(2, 0, 3)), api.ErrValue}, {of(filter(2, 0, -1)), api.ErrValue},
		{of(good, bad), api.ErrValue}, {of(good, good, bad), api.ErrValue}, {but(of(good, bad), func(c *api.Char) { c.Days = nil }), api.ErrValue},
		{withKiln(s, 4), api.ErrValue}, {withKiln(s, -1), api.ErrValue}, {withDays(withKiln(s, 4)), api.ErrValue},
		{withDays(s), api.ErrShortage}, {withDays(s, 0, 0, 0, 0, 0), api.ErrExcess}, {withDays(s, 13, 0, 0, 0, 0), api.ErrExcess},
		{withDays(s, 13), api.ErrValue}, {withDays(s, 0, -1), api.ErrValue}, {withDays(s, 0, 0, 0, math.MaxInt), api.ErrValue}, {withDays(s, 0, 0, 0, 12), api.OK},
	} {
		if e := char.Check(x.c); e != x.want {
			t.Errorf("%d: Check = %d, want %d", i, e, x.want)
		}
		if x.want == api.OK {
			continue
		}
		// Check's error comes before that of any other argument, and alone.
		for _, a := range []asked{{}, {plan: make(rows, 9), filter: -1, day: 9, offers: filters{bad, bad, bad, bad}}} {
			errs, clean := failures(x.c, a)
			for name, e := range errs {
				if e != x.want || !clean {
					t.Errorf("%d: %s: %d, clean %t", i, name, e, clean)
				}
			}
		}
	}
}

// The errors of the other arguments, and their order.
func TestArguments(t *testing.T) {
	s := exampleS()
	three := withFilter(s, filter(1, 1, 1))
	good, bad := filter(1, 0, 1), filter(1, 2, 1)
	ofPlan := func(e api.Errno) map[string]api.Errno {
		return map[string]api.Errno{"CheckPlan": e, "Course": e}
	}
	ofDay := map[string]api.Errno{"Most": api.ErrMissing, "Spare": api.ErrMissing, "Verdict": api.ErrMissing}
	ofFilter := map[string]api.Errno{"Verdict": api.ErrMissing}
	ofOffers := func(e api.Errno) map[string]api.Errno { return map[string]api.Errno{"Buy": e} }
	for i, x := range []struct {
		c    api.Char
		a    asked
		want map[string]api.Errno
	}{
		{s, asked{}, nil},
		{s, asked{day: 2, filter: 1}, nil},
		{s, asked{day: 3}, ofDay}, // the last morning is no day
		{s, asked{day: -1, filter: 9}, ofDay},
		{s, asked{filter: 2}, ofFilter},
		{s, asked{filter: -1}, ofFilter},
		{three, asked{}, ofOffers(api.ErrBarred)},
		{three, asked{offers: filters{bad, bad, bad, bad}}, ofOffers(api.ErrBarred)},
		{s, asked{offers: filters{good, good, good, good}}, ofOffers(api.ErrExcess)},
		{s, asked{offers: filters{bad, good, good, good}}, ofOffers(api.ErrExcess)},
		{s, asked{offers: filters{good, bad}}, ofOffers(api.ErrValue)},
		{s, asked{offers: filters{bad}}, ofOffers(api.ErrValue)},
		{s, asked{offers: filters{good, filter(0, 0, 0)}}, ofOffers(api.ErrValue)},
		{s, asked{offers: filters{filter(4, 0, -1), good}}, ofOffers(api.ErrValue)},
		{s, asked{offers: filters{good, good, filter(5, 0, 0)}}, ofOffers(api.ErrValue)},
		{s, asked{plan: rows{}}, ofPlan(api.ErrShortage)},
		{s, asked{plan: rows{{0, 2, 9}, {3, 0}}}, ofPlan(api.ErrShortage)},
		{s, asked{plan: rows{{9}, nil, nil, nil}}, ofPlan(api.ErrExcess)},
		{s, asked{plan: rows{nil, {0, 2, 0}, nil}}, ofPlan(api.ErrShortage)},
		{s, asked{plan: rows{{0, 2}, {3, 0}, {9}}}, ofPlan(api.ErrShortage)},
		{s, asked{plan: rows{{0, 9, 2}, {3}, {0, 0}}}, ofPlan(api.ErrExcess)},
		{s, asked{plan: rows{{0, 4}, {3}, {0, 0}}}, ofPlan(api.ErrSort)},
		{s, asked{plan: rows{{-1, 0}, {3, 0}, {0, 0}}}, ofPlan(api.ErrSort)},
		{s, asked{plan: rows{{0, math.MaxInt}, {3, 0}, {0, 0}}}, ofPlan(api.ErrSort)},
		{s, asked{plan: rows{{math.MinInt, 0}, {3, 0}, {0, 0}}}, ofPlan(api.ErrSort)},
		{s, asked{plan: rows{{0, 2}, {3, 0}, {0, 4}}}, ofPlan(api.ErrSort)},
		{s, asked{plan: rows{{0, 2}, {0, 2}, {4, 4}}}, ofPlan(api.ErrBarred)},
		{s, asked{plan: rows{{1, 0}, {4, 4}, nil}}, ofPlan(api.ErrConflict)},
		{s, asked{plan: rows{{3, 3}, {4, 4}, nil}}, ofPlan(api.ErrExcess)},
		{exampleU(), asked{plan: rows{{0, 2}, {3, 2}, {0, 0}}}, ofPlan(api.ErrBarred)}, // before the kiln, and before the sugar
		{exampleU(), asked{plan: rows{{0, 2}, {3, 1}, {0, 0}}}, ofPlan(api.ErrExcess)}, // before the sugar
		{exampleU(), asked{plan: rows{{0, 2}, {1, 1}, {0, 0}}}, ofPlan(api.ErrConflict)},
	} {
		got, clean := failures(x.c, x.a)
		if !clean {
			t.Error(i, "not clean")
		}
		for name, want := range x.want {
			if got[name] != want {
				t.Errorf("%d: %s: %d, want %d", i, name, got[name], want)
			}
		}
		for name, e := range got {
			if e == api.ErrMissing && x.want[name] != e {
				t.Errorf("%d: %s: %d", i, name, e)
			}
		}
	}
}

// The table of the chapter.
func TestExamples(t *testing.T) {
	s, u, two := exampleS(), exampleU(), exampleT()
	got := func(c api.Char, a asked, name string) answer {
		list := answers(c, a)
		return list[slices.IndexFunc(list, func(x answer) bool { return x.name == name })]
	}
	for i, x := range []struct {
		c    api.Char
		a    asked
		want answer
	}{
		{s, asked{plan: exampleP()}, answer{"CheckPlan", nil, api.OK}},
		{s, asked{plan: rows{{0, 2}, {3, 0}}}, answer{"CheckPlan", nil, api.ErrShortage}},
		{s, asked{plan: rows{{0, 2}, {0, 2}, {0, 0}}}, answer{"CheckPlan", nil, api.ErrBarred}},
		{s, asked{plan: rows{{3, 3}, {0, 0}, {0, 0}}}, answer{"CheckPlan", nil, api.ErrExcess}},
		{s, asked{plan: rows{{0, 0}, {0, 0}, {0, 0}}}, answer{"CheckPlan", nil, api.ErrConflict}},
		{s, asked{plan: rows{{0, 4}, {0, 0}, {0, 0}}}, answer{"CheckPlan", nil, api.ErrSort}},
		{s, asked{plan: exampleP()}, answer{"Course", []any{rows{{3, 1}, {0, 2}, {3, 0}, {0, 0}}, 1}, api.OK}},
		{s, asked{}, answer{"Fewest", []any{exampleP(), 1}, api.OK}},
		{two, asked{}, answer{"Fewest", []any{rows{{0, 0}, {0, 0}}, 0}, api.OK}},
		{u, asked{}, answer{"Fewest", nil, api.ErrNothing}},
		{u, asked{}, answer{"Fails", []any{2}, api.OK}},
		{s, asked{}, answer{"Fails", nil, api.ErrNothing}},
		{s, asked{day: 0}, answer{"Most", []any{4}, api.OK}},
		{s, asked{day: 1}, answer{"Most", []any{2}, api.OK}},
		{s, asked{day: 2}, answer{"Most", []any{3}, api.OK}},
		{u, asked{day: 2}, answer{"Most", []any{1}, api.OK}},
		{s, asked{day: 0}, answer{"Spare", []any{3}, api.OK}},
		{s, asked{day: 1}, answer{"Spare", []any{2}, api.OK}},
		{s, asked{day: 2}, answer{"Spare", []any{3}, api.OK}},
		{u, asked{day: 2}, answer{"Spare", []any{1}, api.OK}},
		{s, asked{}, answer{"Left", []any{2}, api.OK}},
		{two, asked{}, answer{"Left", []any{3}, api.OK}},
		{s, asked{}, answer{"Needed", []any{ints{0, 1}}, api.OK}},
		{two, asked{}, answer{"Needed", []any{ints{0, 1}}, api.OK}},
		{u, asked{}, answer{"Needed", nil, api.ErrNothing}},
		{s, asked{}, answer{"Kiln", []any{1}, api.OK}},
		{u, asked{}, answer{"Kiln", []any{1}, api.OK}},
		{two, asked{}, answer{"Kiln", []any{0}, api.OK}},
		{u, asked{offers: filters{filter(2, 0, 2)}}, answer{"Buy", []any{0, 0}, api.OK}},
		{u, asked{offers: filters{filter(1, 0, 1)}}, answer{"Buy", nil, api.ErrNothing}},
		{two, asked{}, answer{"Again", []any{rows{{0, 3}, {3, 0}}, 2}, api.OK}},
		{s, asked{}, answer{"Again", nil, api.ErrNothing}},
		{s, asked{filter: 0, day: 1}, answer{"Verdict", []any{api.Yes}, api.OK}},
		{s, asked{filter: 1, day: 0}, answer{"Verdict", []any{api.No}, api.OK}},
		{u, asked{filter: 0, day: 1}, answer{"Verdict", nil, api.ErrNothing}},
	} {
		a := got(x.c, x.a, x.want.name)
		if a.e != x.want.e || a.e == api.OK && !slices.EqualFunc(a.results, x.want.results, reflect.DeepEqual) {
			t.Errorf("%d: %v, want %v", i, a, x.want)
		}
	}
}

// P4.1 and P4.9.
func TestCourse(t *testing.T) {
	found := map[api.Errno]int{}
	look := func(c api.Char, r *rand.Rand) {
		plan := randomPlan(r, c)
		mornings, fires, _, want := followed(c, plan)
		got, n, e := char.Course(c, plan)
		if f := char.CheckPlan(c, plan); e != want || f != want || n != fires || len(got) != len(mornings) {
			t.Fatalf("%v: %v: Course = %v %d %d, CheckPlan = %d, want %v %d %d", c, plan, got, n, e, f, mornings, fires, want)
		}
		found[e]++
		for day, strengths := range got {
			if !slices.Equal(strengths, strengthsOf(mornings[day])) {
				t.Fatalf("%v: %v: Course = %v, want %v", c, plan, got, mornings)
			}
		}
		for day, jobs := range plan {
			if e != api.OK {
				break
			}
			lost := 0
			for i, f := range c.Filters {
				before, after := got[day][i], got[day+1][i]
				if after < 0 || after > f.Power || jobs[i] == api.Rest && after != before || jobs[i] == api.Burn && after != f.Power {
					t.Fatalf("%v: %v: %v", c, plan, got)
				}
				if jobs[i] == api.Run || jobs[i] == api.Rest {
					lost += before - after
				}
			}
			if lost != c.Days[day] {
				t.Fatalf("%v: %v: on the day %d filters lose %d: %v", c, plan, day, lost, got)
			}
		}
	}
	samples(6000, 1, look)
	largeSamples(2000, 1, look)
	for _, e := range []api.Errno{api.OK, api.ErrShortage, api.ErrExcess, api.ErrSort, api.ErrConflict, api.ErrBarred} {
		if found[e] < 100 {
			t.Error(found)
		}
	}
	for i, x := range []struct {
		c     api.Char
		plan  rows
		want  rows
		fires int
		e     api.Errno
	}{
		// In the order of their numbers, each as much as it can; who runs without sugar loses nothing.
		{api.Char{Filters: filters{filter(4, 0, 2), filter(4, 0, 4), filter(4, 0, 3)}, Days: ints{5, 0}}, rows{{0, 0, 0}, {0, 0, 0}}, rows{{2, 4, 3}, {0, 1, 3}, {0, 1, 3}}, 0, api.OK},
		{api.Char{Filters: filters{filter(4, 0, 2), filter(4, 0, 4), filter(4, 0, 3)}, Days: ints{5}}, rows{{0, 1, 0}}, rows{{2, 4, 3}, {0, 4, 0}}, 0, api.OK},
		{api.Char{Filters: filters{filter(4, 0, 2), filter(4, 0, 4), filter(4, 0, 3)}, Days: ints{6}}, rows{{0, 1, 0}}, nil, 0, api.ErrConflict},
		// What is washed or burned on a day clears nothing on it.
		{api.Char{Filters: filters{filter(4, 2, 4)}, Kiln: 1, Days: ints{1}}, rows{{2}}, nil, 0, api.ErrConflict},
		{api.Char{Filters: filters{filter(4, 2, 4)}, Kiln: 1, Days: ints{1}}, rows{{3}}, nil, 0, api.ErrConflict},
		// A washing gives no more than Power, and counts even if it gives nothing.
		{api.Char{Filters: filters{filter(4, 3, 2)}, Days: ints{0, 0}}, rows{{2}, {1}}, rows{{2}, {4}, {4}}, 0, api.OK},
		{api.Char{Filters: filters{filter(4, 0, 4)}, Days: ints{0, 0}}, rows{{2}, {2}}, nil, 0, api.ErrBarred},
		// Washed, from the first day on, until it is burned; on the day after that it can be washed again.
		{api.Char{Filters: filters{worn(4, 1, 1)}, Days: ints{0}}, rows{{2}}, nil, 0, api.ErrBarred},
		{api.Char{Filters: filters{worn(4, 1, 1)}, Days: ints{0, 0, 0}}, rows{{1}, {0}, {2}}, nil, 0, api.ErrBarred},
		{api.Char{Filters: filters{worn(4, 1, 1)}, Kiln: 1, Days: ints{0, 2, 0, 0}}, rows{{3}, {0}, {2}, {2}}, nil, 0, api.ErrBarred},
		{api.Char{Filters: filters{worn(4, 1, 1)}, Kiln: 1, Days: ints{0, 2, 0, 0}}, rows{{3}, {0}, {2}, {3}}, rows{{1}, {4}, {2}, {3}, {4}}, 2, api.OK},
		// As many as the kiln can burn make one fire.
		{api.Char{Filters: filters{filter(4, 1, 1), filter(3, 1, 3), filter(2, 0, 0)}, Kiln: 3, Days: ints{0, 0}}, rows{{3, 3, 3}, {1, 1, 1}}, rows{{1, 3, 0}, {4, 3, 2}, {4, 3, 2}}, 1, api.OK},
		{api.Char{Filters: filters{filter(4, 1, 1), filter(3, 1, 3), filter(2, 0, 0)}, Kiln: 2, Days: ints{0, 0}}, rows{{3, 3, 3}, {1, 1, 1}}, nil, 0, api.ErrExcess},
		{api.Char{Filters: filters{filter(4, 1, 1), filter(3, 1, 3), filter(2, 0, 0)}, Kiln: 2, Days: ints{0, 0}}, rows{{3, 1, 3}, {2, 3, 2}}, rows{{1, 3, 0}, {4, 3, 2}, {4, 3, 2}}, 2, api.OK},
	} {
		if got, n, e := char.Course(x.c, x.plan); e != x.e || n != x.fires || !same(got, x.want) {
			t.Error(i, got, n, e)
		}
	}
}

// sameFewest holds the plan of Fewest, or of Again, against the best one of all.
func sameFewest(t *testing.T, name string, c api.Char, find func(api.Char) (rows, int, api.Errno), all []history) {
	t.Helper()
	want, some := fewest(all)
	plan, fires, e := find(c)
	if some != (e == api.OK) || !some && e != api.ErrNothing || fires != want.fires || !same(plan, want.plan) {
		t.Fatalf("%v: %s = %v %d %d, want %v %d", c, name, plan, fires, e, want.plan, want.fires)
	}
}

// P4.2, P4.7, P4.10 and P4.18.
func TestFewestAndAgain(t *testing.T) {
	fires, againFires, washings, none, more := map[int]int{}, map[int]int{}, map[int]int{}, 0, 0
	look := func(c api.Char, _ *rand.Rand) {
		mornings, few := walked(c)
		if !few {
			return
		}
		all := mornings[len(c.Days)]
		sameFewest(t, "Fewest", c, char.Fewest, all)
		sameFewest(t, "Again", c, char.Again, repeated(c, all))
		least, some := fewest(all)
		again, repeats := fewest(repeated(c, all))
		switch {
		case !some:
			none++
			return
		case repeats:
			againFires[again.fires]++
			if !same(again.plan, least.plan) {
				more++
			}
		}
		fires[least.fires]++
		washings[least.washings]++
	}
	samples(2500, 2, look)
	largeSamples(40, 2, look)
	if none < 100 || more < 100 || fires[0] < 300 || fires[1] < 100 || fires[2] < 10 || againFires[1] < 50 || againFires[2] < 10 || washings[0] < 300 || washings[1] < 50 || washings[2] < 5 {
		t.Error(none, more, fires, againFires, washings)
	}
	for i, x := range []struct {
		c     api.Char
		plan  rows
		fires int
	}{
		// One fire of two filters is less than two of one each, and than one fire with a washing.
		{api.Char{Filters: filters{filter(2, 1, 0), filter(2, 1, 0)}, Kiln: 2, Days: ints{0, 0, 4}}, rows{{0, 0}, {3, 3}, {0, 0}}, 1},
		{api.Char{Filters: filters{filter(2, 1, 0), filter(2, 1, 0)}, Kiln: 1, Days: ints{0, 0, 4}}, rows{{0, 3}, {3, 0}, {0, 0}}, 2},
		{api.Char{Filters: filters{filter(2, 1, 0), filter(2, 1, 0)}, Kiln: 2, Days: ints{0, 0, 3}}, rows{{0, 0}, {3, 3}, {0, 0}}, 1},
		// Washings are less than a fire, however many they are.
		{api.Char{Filters: filters{filter(2, 1, 0), filter(2, 1, 0)}, Kiln: 2, Days: ints{0, 0, 2}}, rows{{0, 0}, {2, 2}, {0, 0}}, 0},
		{api.Char{Filters: filters{filter(2, 1, 0), filter(2, 2, 0)}, Kiln: 2, Days: ints{0, 0, 2}}, rows{{0, 0}, {0, 2}, {0, 0}}, 0},
		// Each filter that is washed counts, although these are washed on one day, and would come before.
		{api.Char{Filters: filters{filter(2, 2, 0), filter(2, 1, 0), filter(2, 1, 0)}, Days: ints{0, 2}}, rows{{2, 0, 0}, {0, 0, 0}}, 0},
		// Who runs on a day without sugar is as good as who rests, and comes before.
		{api.Char{Filters: filters{filter(1, 0, 1)}, Days: ints{0, 0, 1, 0}}, rows{{0}, {0}, {0}, {0}}, 0},
		{api.Char{Filters: filters{filter(4, 0, 4), filter(4, 4, 1)}, Days: ints{3, 4}}, rows{{0, 2}, {0, 0}}, 0},
	} {
		if plan, n, e := char.Fewest(x.c); e != api.OK || n != x.fires || !same(plan, x.plan) {
			t.Error(i, plan, n, e)
		}
	}
	// What is repeated: as strong as at first, and not washed unless it was; a burned filter is not washed.
	for i, x := range []struct {
		c     api.Char
		plan  rows
		fires int
		e     api.Errno
	}{
		{api.Char{Filters: filters{filter(2, 1, 1)}, Kiln: 1, Days: ints{1, 0}}, rows{{0}, {3}}, 1, api.OK},
		{api.Char{Filters: filters{filter(2, 1, 1)}, Days: ints{1, 0}}, nil, 0, api.ErrNothing}, // washed it is as strong, but washed
		{api.Char{Filters: filters{worn(2, 1, 1)}, Days: ints{1, 0}}, nil, 0, api.ErrNothing},
		{api.Char{Filters: filters{worn(2, 1, 1)}, Kiln: 1, Days: ints{1, 0, 0}}, rows{{0}, {0}, {3}}, 1, api.OK},
		{api.Char{Filters: filters{worn(2, 1, 0)}, Kiln: 1, Days: ints{0, 2}}, rows{{3}, {0}}, 1, api.OK},                   // none the less strong than 0
		{api.Char{Filters: filters{worn(2, 1, 1)}, Kiln: 1, Days: ints{0, 1, 0}}, rows{{0}, {0}, {3}}, 1, api.OK},           // not the first fire that there can be
		{api.Char{Filters: filters{worn(4, 2, 1)}, Kiln: 1, Days: ints{0, 3, 1, 0}}, rows{{3}, {0}, {0}, {2}}, 1, api.OK},   // washed again, as it was at first
		{api.Char{Filters: filters{filter(4, 2, 1)}, Kiln: 1, Days: ints{0, 3, 1, 0}}, rows{{3}, {0}, {0}, {3}}, 2, api.OK}, // not so
	} {
		if plan, n, e := char.Again(x.c); e != x.e || n != x.fires || !same(plan, x.plan) {
			t.Error(i, plan, n, e)
		}
	}
}

// P4.3, P4.11, P4.4, P4.12, P4.5 and P4.14.
func TestFailsMostAndLeft(t *testing.T) {
	fails, lefts, more := map[int]int{}, map[int]int{}, 0
	look := func(c api.Char, _ *rand.Rand) {
		mornings, few := walked(c)
		if !few {
			return
		}
		want := -1
		for day := range c.Days {
			if want < 0 && len(mornings[day+1]) == 0 {
				want = day
			}
		}
		day, e := char.Fails(c)
		fails[want]++
		if want < 0 && e != api.ErrNothing || want >= 0 && (e != api.OK || day != want) {
			t.Fatalf("%v: Fails = %d %d, want %d", c, day, e, want)
		}
		for day := range c.Days {
			all := mornings[day]
			n, e := char.Most(c, day)
			if len(all) == 0 && e != api.ErrNothing || len(all) > 0 && (e != api.OK || n != greatest(all)) {
				t.Fatalf("%v: Most(%d) = %d %d, want %d", c, day, n, e, greatest(all))
			}
		}
		all := mornings[len(c.Days)]
		n, e := char.Left(c)
		if len(all) == 0 && e != api.ErrNothing || len(all) > 0 && (e != api.OK || n != greatest(all)) {
			t.Fatalf("%v: Left = %d %d, want %d", c, n, e, greatest(all))
		}
		if least, some := fewest(all); some {
			lefts[n]++
			if n > sum(strengthsOf(least.last)) {
				more++
			}
		}
	}
	samples(2000, 3, look)
	largeSamples(40, 3, look)
	theorems := func(c api.Char, _ *rand.Rand) {
		day, e := char.Fails(c)
		if e == api.OK {
			_, _, f := char.Fewest(withDays(c, c.Days[:day+1]...))
			if f != api.ErrNothing {
				t.Fatalf("%v: Fails = %d, up to it Fewest %d", c, day, f)
			}
		} else {
			day = len(c.Days)
		}
		for to := 1; to <= day; to++ {
			if _, _, f := char.Fewest(withDays(c, c.Days[:to]...)); f != api.OK {
				t.Fatalf("%v: Fails = %d %d, before it Fewest %d", c, day, e, f)
			}
		}
		for day := range c.Days {
			if n, e := char.Most(c, day); e == api.OK {
				canJust(t, c, n, day)
			}
		}
		if n, e := char.Left(c); e == api.OK {
			powers := 0
			for _, f := range c.Filters {
				powers += f.Power
			}
			if n > powers {
				t.Fatalf("%v: Left = %d", c, n)
			}
			if len(c.Days) < api.MaxCharDays {
				canJust(t, c, n, len(c.Days))
			}
		}
	}
	samples(500, 4, theorems)
	largeSamples(50, 4, theorems)
	if fails[-1] < 500 || fails[0] < 50 || fails[1] < 100 || fails[2] < 50 || fails[3] < 5 || len(lefts) < 8 || more < 200 {
		t.Error(fails, lefts, more)
	}
	// After as many days as there may be, and the most that can be left.
	full := api.Char{Filters: filters{filter(4, 4, 0), filter(4, 4, 0), filter(4, 4, 0)}, Days: ints{0, 0, 0, 12}}
	for day, want := range []int{0, 12, 12, 12} {
		if n, e := char.Most(full, day); e != api.OK || n != want {
			t.Error(day, n, e)
		}
	}
	if n, e := char.Left(full); e != api.OK || n != 0 {
		t.Error(n, e)
	}
	// Nothing is said of days that cannot be come to, whatever the sugar of the day itself is.
	short := api.Char{Filters: filters{filter(2, 0, 2)}, Days: ints{1, 2, 0}}
	for day, want := range []api.Errno{api.OK, api.OK, api.ErrNothing} {
		if _, e := char.Most(short, day); e != want {
			t.Error(day, e)
		}
	}
}

// canJust looks whether this sugar, and no more, can be cleared on a day behind the days before it.
func canJust(t *testing.T, c api.Char, sugar, day int) {
	t.Helper()
	days := slices.Clone(c.Days[:day])
	if _, _, e := char.Fewest(withDays(c, append(days, sugar)...)); e != api.OK {
		t.Fatalf("%v: %d cannot be cleared on the day %d: %d", c, sugar, day, e)
	}
	if sugar == api.MaxSugar {
		return
	}
	if _, _, e := char.Fewest(withDays(c, append(days, sugar+1)...)); e != api.ErrNothing {
		t.Fatalf("%v: %d can be cleared on the day %d: %d", c, sugar+1, day, e)
	}
}

// P4.4, P4.13, P4.5, P4.15, P4.6 and P4.16.
func TestSpareNeededAndKiln(t *testing.T) {
	spares, neededs, kilns := map[int]int{}, map[int]int{}, map[int]int{}
	samples(900, 5, func(c api.Char, _ *rand.Rand) {
		for day := range c.Days {
			want := api.MaxSugar
			for want >= 0 && !exists(withSugar(c, day, want)) {
				want--
			}
			spares[want]++
			n, e := char.Spare(c, day)
			if want < 0 && e != api.ErrNothing || want >= 0 && (e != api.OK || n != want) {
				t.Fatalf("%v: Spare(%d) = %d %d, want %d", c, day, n, e, want)
			}
		}
		can := exists(c)
		var want ints
		for i := range c.Filters {
			if can && !exists(withoutFilter(c, i)) {
				want = append(want, i)
			}
		}
		needed, e := char.Needed(c)
		if can != (e == api.OK) || !can && e != api.ErrNothing || !slices.Equal(needed, want) {
			t.Fatalf("%v: Needed = %v %d, want %v", c, needed, e, want)
		}
		if can {
			neededs[len(want)]++
		}
		least := 0
		for least <= api.MaxKiln && !exists(withKiln(c, least)) {
			least++
		}
		kilns[least]++
		n, e := char.Kiln(c)
		if least > api.MaxKiln && e != api.ErrNothing || least <= api.MaxKiln && (e != api.OK || n != least) {
			t.Fatalf("%v: Kiln = %d %d, want %d", c, n, e, least)
		}
	})
	if spares[-1] < 100 || spares[0] < 100 || spares[1] < 100 || spares[4] < 100 || spares[8] < 10 || neededs[0] < 100 || neededs[1] < 100 || neededs[2] < 50 || neededs[3] < 5 || kilns[0] < 300 || kilns[1] < 50 || kilns[4] < 100 {
		t.Error(spares, neededs, kilns)
	}
	largeSamples(60, 5, spareNeededAndKiln(t))
	samples(300, 6, spareNeededAndKiln(t))
	for i, x := range []struct {
		c    api.Char
		want ints
		kiln int
	}{
		{api.Char{Filters: filters{filter(2, 0, 0)}, Days: ints{0, 0}}, nil, 0}, // without the only one, too, nothing can be cleared
		{api.Char{Filters: filters{filter(2, 0, 1)}, Days: ints{0, 1}}, ints{0}, 0},
		{api.Char{Filters: filters{filter(2, 0, 1), filter(2, 0, 1)}, Days: ints{0, 1}}, nil, 0},
		{api.Char{Filters: filters{filter(2, 0, 1), filter(2, 0, 2)}, Days: ints{0, 2}}, ints{1}, 0},
		{api.Char{Filters: filters{filter(4, 0, 4), filter(1, 0, 1), filter(4, 0, 4)}, Days: ints{5, 3}}, ints{0, 2}, 0},
		{api.Char{Filters: filters{filter(4, 0, 4), filter(4, 0, 4), filter(4, 0, 4)}, Kiln: 3, Days: ints{12, 0, 12}}, ints{0, 1, 2}, 3},
		{api.Char{Filters: filters{filter(4, 0, 4), filter(4, 0, 4), filter(4, 0, 4)}, Kiln: 3, Days: ints{12, 0, 0, 12}}, ints{0, 1, 2}, 2},
	} {
		needed, e := char.Needed(x.c)
		kiln, f := char.Kiln(x.c)
		if e != api.OK || f != api.OK || !slices.Equal(needed, x.want) || kiln != x.kiln {
			t.Error(i, needed, e, kiln, f)
		}
	}
	// The greatest sugar that may be asked for, and a day that cannot be cleared with none.
	full := api.Char{Filters: filters{filter(4, 0, 4), filter(4, 0, 4), filter(4, 0, 4)}, Days: ints{0, 3}}
	if n, e := char.Spare(full, 0); e != api.OK || n != 9 {
		t.Error(n, e)
	}
	if n, e := char.Spare(full, 1); e != api.OK || n != api.MaxSugar {
		t.Error(n, e)
	}
	if n, e := char.Spare(withDays(full, 0, 5, 8), 0); e != api.ErrNothing || n != 0 {
		t.Error(n, e)
	}
}

// spareNeededAndKiln returns what looks at the theorems of these.
func spareNeededAndKiln(t *testing.T) func(c api.Char, r *rand.Rand) {
	can := func(c api.Char) bool {
		_, _, e := char.Fewest(c)
		return e == api.OK
	}
	return func(c api.Char, _ *rand.Rand) {
		for day := range c.Days {
			n, e := char.Spare(c, day)
			if e != api.OK {
				n = -1
			}
			if n >= 0 && !can(withSugar(c, day, n)) || n < api.MaxSugar && can(withSugar(c, day, n+1)) {
				t.Fatalf("%v: Spare(%d) = %d %d", c, day, n, e)
			}
		}
		needed, e := char.Needed(c)
		if can(c) != (e == api.OK) {
			t.Fatalf("%v: Needed = %v %d", c, needed, e)
		}
		for i := range c.Filters {
			if e == api.OK && len(c.Filters) > 1 && can(withoutFilter(c, i)) == slices.Contains(needed, i) {
				t.Fatalf("%v: Needed = %v", c, needed)
			}
		}
		least, e := char.Kiln(c)
		if e != api.OK {
			least = api.MaxKiln + 1
		}
		before := math.MaxInt
		for kiln := range api.MaxKiln + 1 {
			_, fires, f := char.Fewest(withKiln(c, kiln))
			if (f == api.OK) != (kiln >= least) || f == api.OK && fires > before {
				t.Fatalf("%v: Kiln = %d %d; with %d: %d %d, before that %d", c, least, e, kiln, fires, f, before)
			}
			if f == api.OK {
				before = fires
			}
		}
	}
}

// firesOf returns the fires of Fewest; as many as can be, and more, if there is no valid plan.
func firesOf(c api.Char) int {
	_, fires, e := char.Fewest(c)
	if e != api.OK {
		return math.MaxInt
	}
	return fires
}

// P4.6 and P4.17.
func TestBuy(t *testing.T) {
	found, none := map[int]int{}, 0
	look := func(c api.Char, r *rand.Rand) {
		c.Filters = c.Filters[:min(len(c.Filters), 2)]
		var offers filters
		for range r.IntN(api.MaxOffers + 1) {
			offers = append(offers, randomFilter(r))
		}
		want, least := -1, math.MaxInt
		for i, f := range offers {
			if n := leastFires(withFilter(c, f)); n < least {
				want, least = i, n
			}
		}
		offer, fires, e := char.Buy(c, offers)
		found[want]++
		if want < 0 {
			if e != api.ErrNothing {
				t.Fatalf("%v, %v: Buy = %d %d %d", c, offers, offer, fires, e)
			}
			none++
			return
		}
		if e != api.OK || offer != want || fires != least {
			t.Fatalf("%v, %v: Buy = %d %d %d, want %d %d", c, offers, offer, fires, e, want, least)
		}
		for i, f := range offers {
			if n := firesOf(withFilter(c, f)); n < fires || i == offer && n != fires || i < offer && n == fires {
				t.Fatalf("%v, %v: Buy = %d %d, with %d: %d", c, offers, offer, fires, i, n)
			}
		}
		if firesOf(c) < fires {
			t.Fatalf("%v, %v: Buy = %d %d, with none %d", c, offers, offer, fires, firesOf(c))
		}
	}
	samples(800, 7, look)
	if found[0] < 100 || found[1] < 30 || found[2] < 5 || none < 100 {
		t.Error(found, none)
	}
	base := api.Char{Filters: filters{filter(2, 0, 2)}, Kiln: 1, Days: ints{2, 0, 2}}
	for i, x := range []struct {
		offers       filters
		offer, fires int
		e            api.Errno
	}{
		{nil, 0, 0, api.ErrNothing}, // although there is a plan without an offer
		{filters{filter(1, 0, 0)}, 0, 1, api.OK},
		{filters{filter(1, 0, 0), filter(2, 0, 1)}, 0, 1, api.OK},
		{filters{filter(1, 0, 0), filter(2, 0, 2)}, 1, 0, api.OK},
		{filters{filter(1, 0, 0), filter(2, 1, 1), filter(2, 0, 2)}, 1, 0, api.OK},
		{filters{filter(1, 0, 0), worn(2, 1, 1), filter(2, 0, 2)}, 2, 0, api.OK},
	} {
		if offer, fires, e := char.Buy(base, x.offers); offer != x.offer || fires != x.fires || e != x.e {
			t.Error(i, offer, fires, e)
		}
	}
}

// P4.8 and P4.19.
func TestVerdict(t *testing.T) {
	found := map[int]int{}
	look := func(c api.Char, _ *rand.Rand) {
		mornings, few := walked(c)
		if !few {
			return
		}
		all := mornings[len(c.Days)]
		for i := range c.Filters {
			for day := range c.Days {
				v, e := char.Verdict(c, i, day)
				if len(all) == 0 {
					if e != api.ErrNothing {
						t.Fatalf("%v: Verdict(%d, %d) = %d %d", c, i, day, v, e)
					}
					continue
				}
				if want := verdict(all, i, day); e != api.OK || v != want {
					t.Fatalf("%v: Verdict(%d, %d) = %d %d, want %d", c, i, day, v, e, want)
				}
				found[v]++
			}
		}
	}
	samples(2500, 8, look)
	largeSamples(40, 8, look)
	if found[api.Yes] < 50 || found[api.No] < 500 || found[api.Open] < 50 {
		t.Error(found)
	}
	for i, x := range []struct {
		c           api.Char
		filter, day int
		want        int
	}{
		{api.Char{Filters: filters{filter(2, 0, 0)}, Kiln: 1, Days: ints{0, 2}}, 0, 0, api.Yes},
		{api.Char{Filters: filters{filter(2, 0, 0)}, Kiln: 1, Days: ints{0, 2}}, 0, 1, api.No},
		{api.Char{Filters: filters{filter(2, 0, 0)}, Kiln: 1, Days: ints{0, 0, 2}}, 0, 1, api.Open},
		{api.Char{Filters: filters{filter(2, 2, 0)}, Kiln: 1, Days: ints{0, 2}}, 0, 0, api.No}, // it can be washed as well
		// However many washings they have: with the fire of the other one this one need not burn, but can.
		{api.Char{Filters: filters{filter(2, 1, 1), filter(4, 0, 0)}, Kiln: 2, Days: ints{0, 6}}, 0, 0, api.Open},
		{api.Char{Filters: filters{filter(2, 1, 1), filter(4, 0, 0)}, Kiln: 1, Days: ints{0, 6}}, 0, 0, api.No},
		{api.Char{Filters: filters{filter(2, 0, 1), filter(4, 0, 0)}, Kiln: 2, Days: ints{0, 6}}, 0, 0, api.Yes},
		{api.Char{Filters: filters{filter(2, 0, 1), filter(4, 0, 0)}, Kiln: 2, Days: ints{0, 5}}, 0, 0, api.Open},
	} {
		if v, e := char.Verdict(x.c, x.filter, x.day); e != api.OK || v != x.want {
			t.Error(i, v, e)
		}
	}
}

// P4.20 and P4.21.
func TestBetter(t *testing.T) {
	fewer, never := map[string]int{}, 0
	look := func(c api.Char, r *rand.Rand) {
		fires := firesOf(c)
		if fires == math.MaxInt {
			never++
		}
		i, day := r.IntN(len(c.Filters)), r.IntN(len(c.Days))
		for name, change := range map[string]func(f *api.Filter){
			"now":  func(f *api.Filter) { f.Now += r.IntN(f.Power - f.Now + 1) },
			"wash": func(f *api.Filter) { f.Washed = false },
			"gain": func(f *api.Filter) { f.Gain += r.IntN(f.Power - f.Gain + 1) },
			"all":  func(f *api.Filter) { *f = filter(f.Power, f.Power, f.Power) },
		} {
			other := but(c, func(c *api.Char) { change(&c.Filters[i]) })
			n := firesOf(other)
			if n > fires {
				t.Fatalf("%v: %d, %s %v: %d", c, fires, name, other, n)
			}
			if n < fires {
				fewer[name]++
			}
		}
		other := withSugar(c, day, r.IntN(c.Days[day]+1))
		n := firesOf(other)
		if n > fires {
			t.Fatalf("%v: %d, less %v: %d", c, fires, other, n)
		}
		if n < fires {
			fewer["less"]++
		}
	}
	samples(2000, 9, look)
	largeSamples(100, 9, look)
	for _, name := range []string{"now", "wash", "gain", "all", "less"} {
		if fewer[name] < 10 || never < 100 {
			t.Error(name, fewer, never)
		}
	}
}

// P1, R3, R5 and R7: whatever the arguments are.
func TestAnyArguments(t *testing.T) {
	r := rand.New(rand.NewPCG(10, 6))
	odd := func() int {
		switch r.IntN(9) {
		case 0:
			return math.MaxInt
		case 1:
			return math.MinInt
		case 2:
			return -1
		}
		return r.IntN(5)
	}
	oddly := func(most int) (list ints) {
		for range r.IntN(most + 1) {
			list = append(list, odd())
		}
		return list
	}
	oddFilters := func() (list filters) {
		for range r.IntN(5) {
			list = append(list, api.Filter{Power: odd(), Gain: odd(), Now: odd(), Washed: r.IntN(2) == 0})
		}
		return list
	}
	for range 6000 {
		c := api.Char{Filters: oddFilters(), Kiln: odd(), Days: oddly(5)}
		if r.IntN(3) == 0 {
			c = randomChar(r, 1+r.IntN(2), 1+r.IntN(3))
		}
		a := asked{filter: odd(), day: odd(), offers: oddFilters()}
		for range r.IntN(5) {
			a.plan = append(a.plan, oddly(3))
		}
		errs, clean := failures(c, a)
		e := char.Check(c)
		for name, f := range errs {
			if !clean || e != api.OK && f != e {
				t.Fatalf("%v, %+v: %s: %d, Check %d, clean %t", c, a, name, f, e, clean)
			}
		}
	}
}

// R2, R4 and R6: no call changes an argument, nor memory behind it, and all calls of the same say the same, side by side too.
func TestNothingKept(t *testing.T) {
	look := func(c api.Char, r *rand.Rand) {
		// There is room behind the lists, in which something stands.
		behind := filter(77, 77, 77)
		c.Filters = append(slices.Clone(c.Filters), behind)[:len(c.Filters)]
		c.Days = append(slices.Clone(c.Days), 77)[:len(c.Days)]
		plan := randomPlan(r, c)
		a := asked{plan: append(plan, ints{77})[:len(plan)], offers: append(filters{randomFilter(r), randomFilter(r)}, behind)[:2]}
		all := func() []any {
			return []any{
				slices.Clone(c.Filters[:len(c.Filters)+1]), slices.Clone(c.Days[:len(c.Days)+1]),
				slices.Concat(a.plan[:len(plan)+1]...), slices.Clone(a.offers[:3]),
			}
		}
		before, want := all(), answers(c, a)
		var calls sync.WaitGroup
		for range 4 {
			calls.Go(func() {
				if got := answers(c, a); !reflect.DeepEqual(got, want) {
					t.Errorf("%v, %+v: %v, then %v", c, a, want, got)
				}
			})
		}
		calls.Wait()
		// Whoever writes into a result changes neither the arguments nor other lists of it.
		for _, x := range answers(c, a) {
			for _, result := range x.results {
				list, _ := result.(rows)
				for i := range list {
					whole := list[i][:cap(list[i])]
					for k := range whole {
						whole[k] = -9 - i
					}
				}
				for i := range list {
					if slices.ContainsFunc(list[i], func(n int) bool { return n != -9-i }) {
						t.Fatalf("%v, %+v: %s: lists share memory", c, a, x.name)
					}
				}
			}
		}
		if after := all(); !reflect.DeepEqual(before, after) {
			t.Fatalf("%v became %v", before, after)
		}
		if again := answers(c, a); !reflect.DeepEqual(again, want) {
			t.Fatalf("%v, %+v: %v, then %v", c, a, want, again)
		}
	}
	samples(150, 11, look)
	largeSamples(10, 11, look)
	// Nil and empty lists mean the same.
	for _, c := range []api.Char{exampleS(), {}} {
		none, empty := answers(c, asked{}), answers(c, asked{plan: rows{}, offers: filters{}})
		if !reflect.DeepEqual(none, empty) {
			t.Error(none, empty)
		}
	}
	if e := char.Check(api.Char{Filters: filters{}, Days: ints{}}); e != api.ErrShortage {
		t.Error(e)
	}
}
