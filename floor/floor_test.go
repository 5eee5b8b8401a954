package floor_test

import (
	"math"
	"math/rand/v2"
	"reflect"
	"slices"
	"sync"
	"testing"

	"muscovado/api"
	"muscovado/floor"
	"muscovado/thread"
)

// asked are the arguments of all functions beside the plant.
type asked struct {
	plan               berths
	floor, day, strike int
}

// answer is what a function returns: its results in a list, and its error.
type answer struct {
	name    string
	results []any
	e       api.Errno
}

// answers returns what all functions but Check say.
func answers(p api.Plant, a asked) []answer {
	var list []answer
	add := func(name string, e api.Errno, results ...any) {
		list = append(list, answer{name, results, e})
	}
	add("CheckPlan", floor.CheckPlan(p, a.plan))
	s, e := floor.Stands(p, a.plan, a.floor, a.day)
	add("Stands", e, s)
	n, e := floor.Empty(p, a.plan, a.floor, a.day)
	add("Empty", e, n)
	n, day, e := floor.Wrong(p, a.plan)
	add("Wrong", e, n, day)
	s, e = floor.Ready(p, a.plan, a.strike)
	add("Ready", e, s)
	l, e := floor.Doubt(p, a.plan)
	add("Doubt", e, l)
	return append(list, plantAnswers(p, a)...)
}

// plantAnswers returns what the functions say that are not asked about a plan.
func plantAnswers(p api.Plant, a asked) []answer {
	var list []answer
	add := func(name string, e api.Errno, results ...any) {
		list = append(list, answer{name, results, e})
	}
	b, n, e := floor.Best(p)
	add("Best", e, b, n)
	n, e = floor.Count(p)
	add("Count", e, n)
	n, e = floor.Late(p)
	add("Late", e, n)
	n, e = floor.Verdict(p, a.strike)
	add("Verdict", e, n)
	n, e = floor.Patience(p)
	add("Patience", e, n)
	n, e = floor.Need(p, a.floor)
	add("Need", e, n)
	n, e = floor.Slower(p, a.floor)
	add("Slower", e, n)
	return list
}

// zero returns whether a result is a zero value; an empty list is one, too.
func zero(x any) bool {
	v := reflect.ValueOf(x)
	return v.IsZero() || v.Kind() == reflect.Slice && v.Len() == 0
}

// failures returns the errors by the names of the functions, and whether all other results are zero values wherever there is one.
func failures(list []answer) (errs map[string]api.Errno, clean bool) {
	errs, clean = map[string]api.Errno{}, true
	for _, x := range list {
		errs[x.name] = x.e
		for _, r := range x.results {
			clean = clean && (x.e == api.OK || zero(r))
		}
	}
	return errs, clean
}

// P5.1, and R1 and R3: the errors of a plant, and their order.
func TestCheck(t *testing.T) {
	good, bad := floorOf(9, 1, 6, 9), floorOf(0, 1, 1, 0)
	of := func(f ...api.Floor) api.Plant { return api.Plant{Floors: f} }
	with := func(s ...api.Strike) api.Plant { return plantOf(good, s...) }
	easy := strike(0, 1, 0)
	for i, x := range []struct {
		p    api.Plant
		want api.Errno
	}{
		{exampleS(), api.OK}, {exampleT(), api.OK}, {exampleW(), api.OK}, {of(good), api.OK}, {of(floorOf(1, 6, 6, 0), good), api.OK},
		{api.Plant{}, api.ErrShortage}, {api.Plant{Strikes: make(strikes, 9)}, api.ErrShortage},
		{of(good, good, good), api.ErrExcess}, {of(bad, good, good), api.ErrExcess},
		{of(bad), api.ErrValue}, {of(floorOf(10, 1, 1, 0)), api.ErrValue}, {of(floorOf(math.MinInt, 1, 1, 0)), api.ErrValue}, {of(floorOf(math.MaxInt, 1, 1, 0)), api.ErrValue}, {of(good, bad), api.ErrValue},
		{of(floorOf(1, 0, 1, 0)), api.ErrValue}, {of(floorOf(1, 7, 7, 0)), api.ErrValue}, {of(floorOf(1, 7, 6, 0)), api.ErrValue}, {of(floorOf(1, 1, 0, 0)), api.ErrValue}, {of(floorOf(1, 1, 7, 0)), api.ErrValue},
		{of(floorOf(1, 3, 2, 0)), api.ErrSequence}, {of(floorOf(0, 3, 2, 0)), api.ErrValue}, {of(floorOf(1, 3, 2, 10)), api.ErrSequence},
		{of(floorOf(1, 3, 3, 10)), api.ErrValue}, {of(floorOf(1, 3, 3, -1)), api.ErrValue},
		{of(floorOf(1, 3, 2, 0), bad), api.ErrSequence}, {of(bad, floorOf(1, 3, 2, 0)), api.ErrValue},
		{with(easy, easy, easy, easy), api.OK}, {with(easy, easy, easy, easy, easy), api.ErrExcess}, {with(make(strikes, 5)...), api.ErrExcess},
		{but(with(make(strikes, 5)...), func(p *api.Plant) { p.Floors[0].Drip.Lo, p.Floors[0].Drip.Hi = 2, 1 }), api.ErrSequence},
		{with(strike(12, 6, 3)), api.OK}, {with(strike(13, 1, 0)), api.ErrValue}, {with(strike(-1, 1, 0)), api.ErrValue}, {with(strike(math.MaxInt, 1, 0)), api.ErrValue},
		{with(strike(0, 0, 0)), api.ErrValue}, {with(strike(0, 7, 0)), api.ErrValue}, {with(strike(0, 1, -1)), api.ErrValue}, {with(strike(0, 1, 4)), api.ErrValue}, {with(easy, strike(0, math.MinInt, 0)), api.ErrValue},
		{with(strike(3, 1, 3), strike(3, 1, 0)), api.OK}, {with(strike(3, 1, 0), strike(2, 1, 3)), api.ErrSequence}, {with(strike(3, 1, 0), strike(2, 1, 4)), api.ErrValue},
		{with(strike(3, 1, 0), strike(4, 1, 0), strike(3, 1, 0)), api.ErrSequence}, {with(strike(3, 1, 0), strike(2, 1, 0), strike(3, 9, 0)), api.ErrSequence},
	} {
		if e := floor.Check(x.p); e != x.want {
			t.Errorf("%d: Check = %d, want %d", i, e, x.want)
		}
		if x.want == api.OK {
			continue
		}
		// Check's error comes before that of any other argument, and alone.
		for _, a := range []asked{{}, {berths{on(9, 9), on(-1, 3)}, -1, -1, 9}, {make(berths, 9), 9, 99, -1}} {
			errs, clean := failures(answers(x.p, a))
			for name, e := range errs {
				if e != x.want || !clean {
					t.Errorf("%d: %s: %d, clean %t", i, name, e, clean)
				}
			}
		}
	}
}

// P5.1: the errors of a plan and of the other arguments, and their order.
func TestArguments(t *testing.T) {
	plan := func(i int, b api.Berth) berths {
		l := exampleP()
		l[i] = b
		return l
	}
	ofPlan := []string{"CheckPlan", "Stands", "Empty", "Wrong", "Ready", "Doubt"}
	ofDay := []string{"Stands", "Empty"}
	ofFloor := []string{"Stands", "Empty", "Need", "Slower"}
	ofStrike := []string{"Ready", "Verdict"}
	for i, x := range []struct {
		a     asked
		names []string
		want  api.Errno
	}{
		{asked{plan: exampleP()}, nil, api.OK},
		{asked{plan: exampleP(), floor: 1, day: api.LastDay, strike: 3}, nil, api.OK},
		{asked{}, ofPlan, api.ErrShortage},
		{asked{plan: exampleP()[:3], floor: 0, day: 99, strike: 0}, ofPlan, api.ErrShortage},
		{asked{plan: berths{on(9, 9), on(9, 9), on(9, 9)}}, ofPlan, api.ErrShortage},
		{asked{plan: append(exampleP(), on(9, 0))}, ofPlan, api.ErrExcess},
		{asked{plan: make(berths, 5), day: -1}, ofPlan, api.ErrExcess},
		{asked{plan: plan(0, on(2, 0))}, ofPlan, api.ErrMissing},
		{asked{plan: plan(0, on(2, 9))}, ofPlan, api.ErrMissing},
		{asked{plan: plan(0, on(-2, 0))}, ofPlan, api.ErrMissing},
		{asked{plan: plan(3, on(math.MaxInt, math.MinInt))}, ofPlan, api.ErrMissing},
		{asked{plan: plan(3, on(-1, 6))}, ofPlan, api.ErrSort},
		{asked{plan: plan(3, on(-1, -1))}, ofPlan, api.ErrSort},
		{asked{plan: plan(3, away())}, nil, api.OK},
		{asked{plan: plan(1, on(1, 2))}, nil, api.OK},
		{asked{plan: plan(1, on(1, 3))}, ofPlan, api.ErrBarred},
		{asked{plan: plan(1, on(1, 0))}, ofPlan, api.ErrBarred},
		{asked{plan: plan(1, on(0, math.MaxInt))}, ofPlan, api.ErrBarred},
		{asked{plan: berths{on(0, 0), on(0, 0), on(2, 3), on(-1, 3)}}, ofPlan, api.ErrBarred},
		{asked{plan: berths{on(0, 0), on(-1, 1), on(2, 3), on(0, 0)}}, ofPlan, api.ErrSort},
		{asked{plan: exampleP(), floor: 2}, ofFloor, api.ErrMissing},
		{asked{plan: exampleP(), floor: -1, day: 99}, ofFloor, api.ErrMissing}, // before the day
		{asked{plan: exampleP(), strike: 4}, ofStrike, api.ErrMissing},
		{asked{plan: exampleP(), strike: -1}, ofStrike, api.ErrMissing},
		{asked{plan: exampleP(), day: api.LastDay + 1}, ofDay, api.ErrValue},
		{asked{plan: exampleP(), day: -1}, ofDay, api.ErrValue},
		{asked{plan: exampleP(), day: math.MaxInt}, ofDay, api.ErrValue},
	} {
		errs, clean := failures(answers(exampleS(), x.a))
		if !clean {
			t.Error(i, "not clean")
		}
		for name, e := range errs {
			want := api.OK
			if slices.Contains(x.names, name) {
				want = x.want
			}
			if e != want {
				t.Errorf("%d: %s: %d, want %d", i, name, e, want)
			}
		}
	}
	// The plan's error comes before those of other arguments.
	for _, name := range ofPlan {
		errs, _ := failures(answers(exampleS(), asked{plan(1, on(1, 3)), 9, 99, 9}))
		if errs[name] != api.ErrBarred {
			t.Error(name, errs[name])
		}
	}
	// A plant without strikes has no strike to ask about, and a plan without berths.
	errs, clean := failures(answers(plantOf(floorOf(1, 1, 1, 0)), asked{}))
	for name, e := range errs {
		if want := slices.Contains(ofStrike, name); want != (e == api.ErrMissing) || !want && e != api.OK || !clean {
			t.Error(name, e)
		}
	}
}

// The table of the chapter.
func TestExamples(t *testing.T) {
	s, two, w, p := exampleS(), exampleT(), exampleW(), exampleP()
	value := func(n ...int) []any {
		var list []any
		for _, x := range n {
			list = append(list, x)
		}
		return list
	}
	span := func(lo, hi int) []any { return []any{api.Span{Lo: lo, Hi: hi}} }
	first := berths{on(0, 0), away(), away(), away()}
	for i, x := range []struct {
		p    api.Plant
		a    asked
		want answer
	}{
		{s, asked{plan: p}, answer{"CheckPlan", nil, api.OK}},
		{s, asked{plan: p[:3]}, answer{"CheckPlan", nil, api.ErrShortage}},
		{s, asked{plan: berths{on(2, 0), p[1], p[2], p[3]}}, answer{"CheckPlan", nil, api.ErrMissing}},
		{s, asked{plan: berths{p[0], p[1], on(-1, 3), p[3]}}, answer{"CheckPlan", nil, api.ErrSort}},
		{s, asked{plan: berths{p[0], on(1, 3), p[2], p[3]}}, answer{"CheckPlan", nil, api.ErrBarred}},
		{s, asked{plan: p, floor: 0, day: 2}, answer{"Stands", span(0, 3), api.OK}},
		{s, asked{plan: p, floor: 1, day: 1}, answer{"Stands", span(2, 2), api.OK}},
		{s, asked{plan: p, floor: 1, day: 4}, answer{"Stands", span(0, 2), api.OK}},
		{s, asked{plan: p, floor: 2, day: 0}, answer{"Stands", span(0, 0), api.ErrMissing}},
		{s, asked{plan: p, floor: 0, day: 22}, answer{"Stands", span(0, 0), api.ErrValue}},
		{s, asked{plan: p, floor: 0, day: 2}, answer{"Empty", value(api.Open), api.OK}},
		{s, asked{plan: p, floor: 0, day: 7}, answer{"Empty", value(api.No), api.OK}},
		{s, asked{plan: p, floor: 0, day: 9}, answer{"Empty", value(api.Yes), api.OK}},
		{s, asked{plan: p}, answer{"Wrong", value(-1, -1), api.OK}},
		{s, asked{plan: berths{on(1, 0), on(0, 1), on(0, 3), away()}}, answer{"Wrong", value(0, 3), api.OK}},
		{s, asked{plan: berths{on(0, 0), away(), on(0, 4), away()}}, answer{"Wrong", value(0, 3), api.OK}},
		{s, asked{plan: p, strike: 1}, answer{"Ready", span(4, 6), api.OK}},
		{s, asked{plan: first, strike: 1}, answer{"Ready", span(0, 0), api.ErrSort}},
		{s, asked{plan: p}, answer{"Doubt", []any{rows{{0, 2}, {0, 5}, {0, 8}, {1, 4}, {1, 5}}}, api.OK}},
		{s, asked{}, answer{"Best", []any{p, 11}, api.OK}},
		{two, asked{}, answer{"Best", []any{berths{on(0, 0), away(), on(0, 3), on(1, 4)}, 9}, api.OK}},
		{s, asked{}, answer{"Count", value(3), api.OK}},
		{two, asked{}, answer{"Count", value(4), api.OK}},
		{s, asked{}, answer{"Late", value(-1), api.OK}},
		{two, asked{}, answer{"Late", value(3), api.OK}},
		{w, asked{}, answer{"Late", value(2), api.OK}},
		{two, asked{strike: 0}, answer{"Verdict", value(api.Yes), api.OK}},
		{two, asked{strike: 1}, answer{"Verdict", value(api.Open), api.OK}},
		{two, asked{strike: 3}, answer{"Verdict", value(api.Open), api.OK}},
		{s, asked{}, answer{"Patience", value(0), api.OK}},
		{two, asked{}, answer{"Patience", value(1), api.OK}},
		{w, asked{}, answer{"Patience", value(0), api.ErrNothing}},
		{s, asked{floor: 0}, answer{"Need", value(4), api.OK}},
		{s, asked{floor: 1}, answer{"Need", value(2), api.OK}},
		{two, asked{floor: 1}, answer{"Need", value(4), api.OK}},
		{s, asked{floor: 0}, answer{"Slower", value(0), api.OK}},
		{s, asked{floor: 1}, answer{"Slower", value(1), api.OK}},
	} {
		list := answers(x.p, x.a)
		got := list[slices.IndexFunc(list, func(a answer) bool { return a.name == x.want.name })]
		if !reflect.DeepEqual(got, x.want) {
			t.Errorf("%d: %v, want %v", i, got, x.want)
		}
	}
	noFloors := but(s, func(p *api.Plant) { p.Floors = nil })
	later := but(s, func(p *api.Plant) { p.Strikes[2].Day = 7 })
	for i, x := range []struct {
		p    api.Plant
		want api.Errno
	}{{s, api.OK}, {noFloors, api.ErrShortage}, {withPlaces(s, 0, 0), api.ErrValue}, {withDrip(s, 0, 3, 2), api.ErrSequence}, {later, api.ErrSequence}} {
		if e := floor.Check(x.p); e != x.want {
			t.Error(i, e)
		}
	}
}

// P5.1, P5.3 and P5.9: what all heats say.
func TestStands(t *testing.T) {
	empties, doubts := map[int]int{}, 0
	samples(3000, 1, func(p api.Plant, r *rand.Rand) {
		plan := randomPlan(r, p)
		var all []carried
		for _, heat := range heats(p, plan) {
			all = append(all, carry(p, plan, heat))
		}
		var doubt rows
		for f := range p.Floors {
			for day := range lastDay {
				span, empty := api.Span{Lo: math.MaxInt}, 0
				for _, c := range all {
					span = api.Span{Lo: min(span.Lo, c[f][day]), Hi: max(span.Hi, c[f][day])}
					if c[f][day] == 0 {
						empty++
					}
				}
				if span.Lo < span.Hi {
					doubt = append(doubt, ints{f, day})
				}
				if day > api.LastDay {
					continue
				}
				s, e := floor.Stands(p, plan, f, day)
				v, g := floor.Empty(p, plan, f, day)
				if want := verdictOf(empty, len(all)); e != api.OK || g != api.OK || s != span || v != want {
					t.Fatalf("%v, %v: Stands(%d, %d) = %v %d, Empty %d %d, want %v, %d", p, plan, f, day, s, e, v, g, span, want)
				}
				empties[v]++
			}
		}
		l, e := floor.Doubt(p, plan)
		if e != api.OK || !slices.EqualFunc(l, doubt, slices.Equal) {
			t.Fatalf("%v, %v: Doubt = %v %d, want %v", p, plan, l, e, doubt)
		}
		doubts += len(l)
	})
	if empties[api.Yes] < 1000 || empties[api.No] < 1000 || empties[api.Open] < 1000 || doubts < 1000 {
		t.Error(empties, doubts)
	}
	// Up to the last day on which cones can stand, and on the one after it.
	full := plantOf(floorOf(9, 1, 6, 0), strike(12, 6, 3))
	for day := range api.LastDay + 1 {
		want := api.Span{}
		switch {
		case day == 15:
			want = api.Span{Lo: 6, Hi: 6}
		case day > 15 && day < 21:
			want = api.Span{Hi: 6}
		}
		if s, e := floor.Stands(full, berths{on(0, 15)}, 0, day); e != api.OK || s != want {
			t.Error(day, s, e)
		}
	}
	// Some of the cones on a floor stay in all heats, others in some.
	both := plantOf(floorOf(1, 2, 3, 0), strike(0, 3, 0), strike(1, 4, 0))
	for day, want := range []api.Span{{Lo: 3, Hi: 3}, {Lo: 7, Hi: 7}, {Lo: 4, Hi: 7}, {Lo: 0, Hi: 4}, {}} {
		if s, e := floor.Stands(both, berths{on(0, 0), on(0, 1)}, 0, day); e != api.OK || s != want {
			t.Error(day, s, e)
		}
	}
	// Doubts go floor by floor, and day by day.
	two := api.Plant{Floors: floors{floorOf(9, 1, 2, 0), floorOf(9, 1, 3, 0)}, Strikes: strikes{strike(0, 1, 0), strike(0, 1, 0), strike(5, 1, 0)}}
	if l, e := floor.Doubt(two, berths{on(1, 0), on(0, 0), on(0, 5)}); e != api.OK || !slices.EqualFunc(l, rows{{0, 1}, {0, 6}, {1, 1}, {1, 2}}, slices.Equal) {
		t.Error(l, e)
	}
}

// P5.3 and P5.9: when cones do not stand any more.
func TestReady(t *testing.T) {
	away := 0
	samples(1500, 2, func(p api.Plant, r *rand.Rand) {
		plan := randomPlan(r, p)
		for i, b := range plan {
			s, e := floor.Ready(p, plan, i)
			if !isSet(b) {
				away++
				if e != api.ErrSort {
					t.Fatalf("%v, %v: Ready(%d) = %v %d", p, plan, i, s, e)
				}
				continue
			}
			want := api.Span{Lo: math.MaxInt}
			for _, heat := range heats(p, plan) {
				day := b.Day + 1
				for day < b.Day+heat[i] {
					day++
				}
				want = api.Span{Lo: min(want.Lo, day), Hi: max(want.Hi, day)}
			}
			if e != api.OK || s != want {
				t.Fatalf("%v, %v: Ready(%d) = %v %d, want %v", p, plan, i, s, e, want)
			}
		}
	})
	if away < 100 {
		t.Error(away)
	}
	full := plantOf(floorOf(9, 1, 6, 0), strike(12, 6, 3))
	if s, e := floor.Ready(full, berths{on(0, 15)}, 0); e != api.OK || s != (api.Span{Lo: 16, Hi: 21}) {
		t.Error(s, e)
	}
}

// P5.2 and P5.8.
func TestWrong(t *testing.T) {
	found, sides := map[bool]int{}, map[int]int{}
	samples(4000, 3, func(p api.Plant, r *rand.Rand) {
		plan := randomPlan(r, p)
		wantFloor, wantDay := wrong(p, plan)
		f, day, e := floor.Wrong(p, plan)
		if e != api.OK || f != wantFloor || day != wantDay {
			t.Fatalf("%v, %v: Wrong = %d, %d %d, want %d, %d", p, plan, f, day, e, wantFloor, wantDay)
		}
		if sides[f]++; f >= 0 {
			s, e := floor.Stands(p, plan, f, day)
			found[e == api.OK && s.Hi > p.Floors[f].Places]++
		}
	})
	// In whatever heat, nothing shows before.
	largeSamples(4000, 3, func(p api.Plant, r *rand.Rand) {
		plan := randomPlan(r, p)
		f, day, e := floor.Wrong(p, plan)
		for range 10 {
			g, on := shows(p, plan, carry(p, plan, randomHeat(r, p, plan)))
			if e != api.OK || g >= 0 && (f < 0 || on < day || on == day && g < f) {
				t.Fatalf("%v, %v: Wrong = %d, %d %d, but %d, %d", p, plan, f, day, e, g, on)
			}
		}
	})
	if found[true] < 500 || found[false] < 150 || sides[-1] < 500 || sides[0] < 500 || sides[1] < 100 {
		t.Error(found, sides)
	}
	one := func(cool int, s ...api.Strike) api.Plant { return plantOf(floorOf(2, 1, 2, cool), s...) }
	two := api.Plant{Floors: floors{floorOf(2, 1, 2, 1), floorOf(2, 1, 2, 0)}, Strikes: strikes{strike(0, 3, 0), strike(0, 3, 0), strike(3, 1, 0), strike(3, 1, 0)}}
	for i, x := range []struct {
		p          api.Plant
		plan       berths
		floor, day int
	}{
		{one(0, strike(0, 2, 0)), berths{on(0, 0)}, -1, -1}, // just the places
		{one(0, strike(0, 3, 0)), berths{on(0, 0)}, 0, 0},
		{one(0, strike(0, 3, 0)), berths{away()}, -1, -1},
		{one(0, strike(0, 2, 0), strike(1, 1, 1)), berths{on(0, 0), on(0, 1)}, 0, 1}, // in some heat alone
		{one(1, strike(0, 2, 0), strike(1, 1, 1)), berths{on(0, 0), on(0, 2)}, -1, -1},
		{one(0, strike(0, 2, 0), strike(1, 1, 1)), berths{on(0, 0), on(0, 2)}, 0, 1}, // too cold, in some heat
		{one(2, strike(0, 1, 0), strike(4, 1, 0)), berths{on(0, 0), on(0, 4)}, 0, 3}, // the first day that is too much
		{one(3, strike(0, 1, 0), strike(4, 1, 0)), berths{on(0, 0), on(0, 4)}, -1, -1},
		{one(0, strike(5, 1, 0)), berths{on(0, 5)}, -1, -1}, // not before the first one, nor behind the last one
		{one(9, strike(0, 1, 0), strike(11, 1, 0)), berths{on(0, 0), on(0, 11)}, 0, 10},
		{one(9, strike(0, 1, 0), strike(10, 1, 0)), berths{on(0, 0), on(0, 10)}, -1, -1},
		{one(1, strike(0, 1, 0), strike(5, 1, 0), strike(7, 1, 0)), berths{on(0, 0), on(0, 5), on(0, 7)}, 0, 2},
		{one(1, strike(0, 1, 0), strike(2, 1, 0), strike(4, 1, 0)), berths{on(0, 0), on(0, 2), on(0, 4)}, -1, -1}, // days that are not in a row
		{one(0, strike(0, 1, 3), strike(0, 1, 1), strike(0, 1, 2)), berths{on(0, 2), on(0, 0), on(0, 1)}, -1, -1}, // set in another order
		{one(0, strike(0, 1, 2), strike(0, 1, 0)), berths{on(0, 2), on(0, 0)}, 0, 1},
		{two, berths{on(0, 0), on(1, 0), away(), away()}, 0, 0}, // of floors the first one
		{two, berths{away(), on(1, 0), away(), away()}, 1, 0},
		{two, berths{on(0, 0), away(), on(0, 3), away()}, 0, 0},
		{but(two, func(p *api.Plant) { p.Strikes[0].Cones, p.Strikes[1].Cones = 1, 1 }), berths{on(0, 0), on(1, 0), on(0, 3), on(1, 3)}, 1, 1}, // the first day is on the second floor
		{but(two, func(p *api.Plant) { p.Strikes[0].Cones, p.Strikes[1].Cones = 1, 1 }), berths{on(0, 0), on(1, 0), on(0, 3), away()}, 0, 2},
		{two, berths{away(), away(), away(), away()}, -1, -1},
	} {
		if f, day, e := floor.Wrong(x.p, x.plan); e != api.OK || f != x.floor || day != x.day {
			t.Error(i, f, day, e)
		}
	}
}

// P5.4, P5.5, P5.10, P5.11 and P5.12.
func TestBest(t *testing.T) {
	lates, verdicts, several, fewer := map[int]int{}, map[int]int{}, 0, 0
	look := func(p api.Plant, _ *rand.Rand) {
		plans := rightPlans(p)
		best, loaves := bestPlans(p, plans)
		plan, n, e := floor.Best(p)
		if e != api.OK || n != loaves || !slices.Equal(plan, best[0]) {
			t.Fatalf("%v: Best = %v %d %d, want %v %d", p, plan, n, e, best[0], loaves)
		}
		if n, e := floor.Count(p); e != api.OK || n != len(best) {
			t.Fatalf("%v: Count = %d %d, want %d", p, n, e, len(best))
		}
		n, e = floor.Late(p)
		if want := late(plans); e != api.OK || n != want {
			t.Fatalf("%v: Late = %d %d, want %d", p, n, e, want)
		}
		lates[n]++
		for i := range p.Strikes {
			set := 0
			for _, plan := range best {
				if isSet(plan[i]) {
					set++
				}
			}
			v, e := floor.Verdict(p, i)
			if want := verdictOf(set, len(best)); e != api.OK || v != want {
				t.Fatalf("%v: Verdict(%d) = %d %d, want %d", p, i, v, e, want)
			}
			verdicts[v]++
		}
		if len(best) > 1 {
			several++
		}
		if slices.ContainsFunc(plan, func(b api.Berth) bool { return !isSet(b) }) {
			fewer++
		}
	}
	samples(2500, 4, look)
	if lates[-1] < 500 || lates[0] < 100 || lates[1] < 200 || lates[2] < 100 || lates[3] < 20 || verdicts[api.Yes] < 500 || verdicts[api.No] < 100 || verdicts[api.Open] < 300 || several < 500 || fewer < 500 {
		t.Error(lates, verdicts, several, fewer)
	}
	// As many strikes, and as long waits, as there may be.
	large := rand.New(rand.NewPCG(4, 7))
	for range 5 {
		look(randomPlant(large, api.MaxFloors, api.MaxStrikes, api.MaxWait, 1), large)
	}
	one := func(cool int, s ...api.Strike) api.Plant { return plantOf(floorOf(2, 1, 2, cool), s...) }
	wide := api.Plant{Floors: slices.Repeat(floors{floorOf(9, 1, 1, 9)}, 2), Strikes: slices.Repeat(strikes{strike(0, 2, 3)}, 4)}
	for i, x := range []struct {
		p             api.Plant
		best          berths
		loaves, count int
		late          int
		verdicts      ints
	}{
		{one(0), nil, 0, 1, -1, nil}, // the only plan has no berths
		{one(0, strike(0, 3, 0)), berths{away()}, 0, 1, 0, ints{api.No}},
		{one(0, strike(0, 2, 3)), berths{on(0, 0)}, 2, 4, -1, ints{api.Yes}},                                    // of days the first one
		{one(0, strike(0, 2, 0), strike(0, 2, 0)), berths{away(), on(0, 0)}, 2, 2, 1, ints{api.Open, api.Open}}, // one that is not set comes first
		{one(0, strike(0, 1, 0), strike(0, 2, 0)), berths{away(), on(0, 0)}, 2, 1, 1, ints{api.No, api.Yes}},    // the most loaves, not the most strikes
		{one(9, strike(0, 2, 0), strike(0, 1, 0), strike(1, 1, 0)), berths{away(), on(0, 0), on(0, 1)}, 2, 2, 1, ints{api.Open, api.Open, api.Open}},
		{one(0, strike(0, 1, 0), strike(1, 1, 0), strike(2, 1, 0)), berths{on(0, 0), on(0, 1), on(0, 2)}, 3, 1, -1, ints{api.Yes, api.Yes, api.Yes}},
		{one(0, strike(0, 1, 0), strike(2, 1, 0)), berths{away(), on(0, 2)}, 1, 2, 1, ints{api.Open, api.Open}},
		// The third strike keeps the floor warm until there is room for the second one, which is late without it.
		{plantOf(floorOf(3, 1, 2, 0), strike(0, 2, 0), strike(1, 2, 1), strike(1, 1, 0)), berths{on(0, 0), on(0, 2), on(0, 1)}, 5, 1, 1, ints{api.Yes, api.Yes, api.Yes}},
		{wide, berths{on(0, 0), on(0, 0), on(0, 0), on(0, 0)}, 8, 4096, -1, ints{api.Yes, api.Yes, api.Yes, api.Yes}},
	} {
		plan, n, e := floor.Best(x.p)
		count, f := floor.Count(x.p)
		late, g := floor.Late(x.p)
		if e != api.OK || f != api.OK || g != api.OK || !slices.Equal(plan, x.best) || n != x.loaves || count != x.count || late != x.late {
			t.Error(i, plan, n, count, late, e, f, g)
		}
		for s, want := range x.verdicts {
			if v, e := floor.Verdict(x.p, s); e != api.OK || v != want {
				t.Error(i, s, v, e)
			}
		}
	}
}

// loavesAt returns the loaves of the best plans.
func loavesAt(t *testing.T, p api.Plant) int {
	t.Helper()
	_, n, e := floor.Best(p)
	if e != api.OK {
		t.Fatalf("%v: Best = %d", p, e)
	}
	return n
}

// allCones returns the loaves of a plan in which all strikes are set.
func allCones(p api.Plant) int {
	sum := 0
	for _, s := range p.Strikes {
		sum += s.Cones
	}
	return sum
}

// leastOf returns the first number from lo to hi of which something is so, or an error.
func leastOf(lo, hi int, so func(n int) bool) (int, api.Errno) {
	for n := lo; n <= hi; n++ {
		if so(n) {
			return n, api.OK
		}
	}
	return 0, api.ErrNothing
}

// P5.6, P5.15 and P5.16: what would help.
func TestPatienceAndNeed(t *testing.T) {
	patiences, needs := map[int]int{}, map[int]int{}
	samples(2000, 5, func(p api.Plant, _ *rand.Rand) {
		want, due := leastOf(0, api.MaxMore, func(n int) bool { return allCanBeSet(withWait(p, n)) })
		n, e := floor.Patience(p)
		if n != want || e != due {
			t.Fatalf("%v: Patience = %d %d, want %d %d", p, n, e, want, due)
		}
		if e == api.ErrNothing {
			n = -1
		}
		patiences[n]++
		for f := range p.Floors {
			want, due := leastOf(1, api.MaxPlaces, func(n int) bool { return allCanBeSet(withPlaces(p, f, n)) })
			n, e := floor.Need(p, f)
			if n != want || e != due {
				t.Fatalf("%v: Need(%d) = %d %d, want %d %d", p, f, n, e, want, due)
			}
			needs[n]++
		}
	})
	if patiences[-1] < 200 || patiences[0] < 500 || patiences[1] < 60 || patiences[2] < 30 || len(needs) != api.MaxPlaces+1 || needs[0] < 80 || needs[1] < 200 || needs[api.MaxPlaces] < 5 {
		t.Error(patiences, needs)
	}
	// What is said can be done, as the loaves say, and with less it cannot.
	done, longest := 0, 0
	largeSamples(250, 5, func(p api.Plant, r *rand.Rand) {
		for i := range p.Strikes {
			p.Strikes[i].Wait = min(p.Strikes[i].Wait, 2)
		}
		n, e := floor.Patience(p)
		for more := range 2 {
			if can := loavesAt(t, withWait(p, more)) == allCones(p); (e == api.OK && n <= more) != can {
				t.Fatalf("%v: Patience = %d %d, but %t with %d", p, n, e, can, more)
			}
		}
		longest = max(longest, n)
		f := r.IntN(len(p.Floors))
		n, e = floor.Need(p, f)
		for places := 1; places <= api.MaxPlaces; places++ {
			if can := loavesAt(t, withPlaces(p, f, places)) == allCones(p); (e == api.OK && n <= places) != can {
				t.Fatalf("%v: Need(%d) = %d %d, but %t with %d", p, f, n, e, can, places)
			}
		}
		if e == api.OK {
			done++
		}
	})
	if done < 100 || longest < 1 {
		t.Error(done, longest)
	}
	never := api.ErrNothing
	close := floorOf(2, 2, 2, 9)
	for i, x := range []struct {
		p           api.Plant
		patience    int
		e           api.Errno
		floor, need int
		f           api.Errno
	}{
		{plantOf(close), 0, api.OK, 0, 1, api.OK},                                                       // nothing has to be set
		{plantOf(close, strike(0, 2, 3), strike(0, 2, 3)), 0, api.OK, 0, 2, api.OK},                     // one of them waits
		{plantOf(close, strike(0, 2, 1), strike(0, 2, 1)), 1, api.OK, 0, 4, api.OK},                     // they would have to wait longer
		{plantOf(close, strike(0, 2, 0), strike(0, 2, 0)), 2, api.OK, 0, 4, api.OK},                     // as long as may be asked
		{plantOf(floorOf(2, 3, 3, 9), strike(0, 2, 0), strike(0, 2, 0)), 0, never, 0, 4, api.OK},        // longer than may be asked
		{plantOf(close, strike(0, 2, 3), strike(0, 2, 3), strike(0, 2, 3)), 1, api.OK, 0, 4, api.OK},    // above MaxWait
		{plantOf(close, strike(12, 2, 3), strike(12, 2, 3), strike(12, 2, 3)), 1, api.OK, 0, 4, api.OK}, // on the last days
		{plantOf(floorOf(2, 6, 6, 9), strike(12, 2, 3), strike(12, 2, 3)), 0, never, 0, 4, api.OK},
		{plantOf(floorOf(1, 1, 1, 0), strike(0, 5, 0), strike(0, 5, 0)), 0, never, 0, 0, never},  // more than the most places
		{plantOf(floorOf(1, 1, 1, 0), strike(0, 5, 0), strike(0, 4, 0)), 0, never, 0, 9, api.OK}, // the most places
		{plantOf(floorOf(9, 1, 1, 0), strike(0, 1, 0), strike(2, 1, 0)), 1, api.OK, 0, 0, never}, // too cold, which places do not change
		{plantOf(floorOf(9, 1, 1, 0), strike(0, 1, 0), strike(3, 1, 0)), 2, api.OK, 0, 0, never}, // the first one waits
		{exampleW(), 0, never, 0, 6, api.OK},
	} {
		n, e := floor.Patience(x.p)
		m, f := floor.Need(x.p, x.floor)
		if n != x.patience || e != x.e || m != x.need || f != x.f {
			t.Error(i, n, e, m, f)
		}
	}
}

// P5.7 and P5.17.
func TestSlower(t *testing.T) {
	found := map[int]int{}
	check := func(p api.Plant, f int, loaves func(p api.Plant) int) {
		d, now, want := p.Floors[f].Drip, loaves(p), 0
		for more := range api.MaxDrip - d.Hi + 1 {
			if loaves(withDrip(p, f, d.Lo, d.Hi+more)) == now {
				want = more
			}
		}
		n, e := floor.Slower(p, f)
		if n != want || e != api.OK {
			t.Fatalf("%v: Slower(%d) = %d %d, want %d", p, f, n, e, want)
		}
		found[n]++
	}
	samples(500, 6, func(p api.Plant, r *rand.Rand) {
		check(p, r.IntN(len(p.Floors)), func(p api.Plant) int {
			_, n := bestPlans(p, rightPlans(p))
			return n
		})
	})
	largeSamples(200, 6, func(p api.Plant, r *rand.Rand) {
		f := r.IntN(len(p.Floors))
		check(p, f, func(p api.Plant) int { return loavesAt(t, p) })
		// With more than that the loaves are fewer.
		n, _ := floor.Slower(p, f)
		d := p.Floors[f].Drip
		for more := n + 1; d.Hi+more <= api.MaxDrip; more++ {
			if loavesAt(t, withDrip(p, f, d.Lo, d.Hi+more)) >= loavesAt(t, p) {
				t.Fatalf("%v: Slower(%d) = %d, but as many with %d", p, f, n, more)
			}
		}
	})
	if found[0] < 50 || found[1] < 30 || found[2] < 20 || found[5] < 20 {
		t.Error(found)
	}
	for i, x := range []struct {
		p    api.Plant
		want int
	}{
		{plantOf(floorOf(1, 1, 1, 0)), 5}, // nothing stands on it
		{plantOf(floorOf(1, 6, 6, 0), strike(0, 1, 0)), 0},
		{plantOf(floorOf(1, 3, 6, 0), strike(0, 1, 0)), 0},
		{plantOf(floorOf(1, 1, 3, 9), strike(0, 1, 0), strike(4, 1, 0)), 1},
		{plantOf(floorOf(1, 1, 3, 9), strike(0, 1, 0), strike(4, 1, 1)), 2}, // the second one waits
		{plantOf(floorOf(1, 1, 3, 0), strike(0, 2, 0)), 3},                  // nothing can be set now, either
	} {
		if n, e := floor.Slower(x.p, 0); n != x.want || e != api.OK {
			t.Error(i, n, e)
		}
	}
}

// P5.13, P5.14 and P5.18: what is better, and what is worse.
func TestBetter(t *testing.T) {
	found := map[string]int{}
	largeSamples(400, 7, func(p api.Plant, r *rand.Rand) {
		loaves, f, i := loavesAt(t, p), r.IntN(len(p.Floors)), r.IntN(len(p.Strikes))
		better := map[string]api.Plant{
			"place": withPlaces(p, f, p.Floors[f].Places+1),
			"cool":  but(p, func(p *api.Plant) { p.Floors[f].Cool++ }),
			"wait":  but(p, func(p *api.Plant) { p.Strikes[i].Wait++ }),
			"least": withDrip(p, f, p.Floors[f].Drip.Lo+1, p.Floors[f].Drip.Hi),
			"most":  withDrip(p, f, p.Floors[f].Drip.Lo, p.Floors[f].Drip.Hi-1),
		}
		for name, b := range better {
			if floor.Check(b) != api.OK {
				continue
			}
			n := loavesAt(t, b)
			if n < loaves {
				t.Fatalf("%v: %d, but %d with another %s: %v", p, loaves, n, name, b)
			}
			if n > loaves {
				found[name]++
			}
		}
		if n := loavesAt(t, withoutStrike(p, i)); n > loaves {
			t.Fatalf("%v: %d, but %d without the strike %d", p, loaves, n, i)
		} else if n < loaves {
			found["without"]++
		}
		late, _ := floor.Late(p)
		last := len(p.Strikes) - 1
		before, e := floor.Late(withoutStrike(p, last))
		if e != api.OK || before != -1 && before != late || before == -1 && late != -1 && late != last {
			t.Fatalf("%v: Late %d, without the last one %d", p, late, before)
		}
	})
	for _, name := range []string{"place", "cool", "wait", "least", "most", "without"} {
		if found[name] < 10 {
			t.Error(name, found)
		}
	}
}

// dayLater returns a plan all of whose strikes are set a day later.
func dayLater(plan berths) berths {
	plan = slices.Clone(plan)
	for i, b := range plan {
		if isSet(b) {
			plan[i].Day++
		}
	}
	return plan
}

// P5.19: if all strikes are a day later, everything is.
func TestDayLater(t *testing.T) {
	found := 0
	look := func(p api.Plant, r *rand.Rand) {
		if slices.ContainsFunc(p.Strikes, func(s api.Strike) bool { return s.Day == api.MaxStrikeDay }) {
			return
		}
		found++
		later := but(p, func(p *api.Plant) {
			for i := range p.Strikes {
				p.Strikes[i].Day++
			}
		})
		a := asked{randomPlan(r, p), r.IntN(len(p.Floors)), r.IntN(api.LastDay), r.IntN(len(p.Strikes) + 1)}
		b := asked{dayLater(a.plan), a.floor, a.day + 1, a.strike}
		was, is := answers(p, a), answers(later, b)
		for i, x := range was {
			want := x.results
			switch {
			case x.e != api.OK:
			case x.name == "Wrong" && x.results[1] != -1:
				want = []any{x.results[0], x.results[1].(int) + 1}
			case x.name == "Ready":
				s := x.results[0].(api.Span)
				want = []any{api.Span{Lo: s.Lo + 1, Hi: s.Hi + 1}}
			case x.name == "Doubt":
				var list rows
				for _, at := range x.results[0].(rows) {
					list = append(list, ints{at[0], at[1] + 1})
				}
				want = []any{list}
			case x.name == "Best":
				want = []any{dayLater(x.results[0].(berths)), x.results[1]}
			}
			if is[i].e != x.e || !reflect.DeepEqual(is[i].results, want) {
				t.Fatalf("%v, %v: %v, a day later %v", p, a, x, is[i])
			}
		}
		// On the first day nothing stands then.
		for f := range p.Floors {
			if s, e := floor.Stands(later, b.plan, f, 0); e != api.OK || s != (api.Span{}) {
				t.Fatalf("%v: %v %d", later, s, e)
			}
		}
	}
	samples(600, 8, look)
	largeSamples(40, 8, look)
	if found < 300 {
		t.Error(found)
	}
}

// P5.20: if floors have other numbers, all that does not name them is the same.
func TestRenumbered(t *testing.T) {
	largeSamples(60, 9, func(p api.Plant, r *rand.Rand) {
		other := but(p, func(p *api.Plant) { slices.Reverse(p.Floors) })
		a := asked{floor: r.IntN(2), strike: r.IntN(len(p.Strikes))}
		was, is := plantAnswers(p, a), plantAnswers(other, asked{floor: 1 - a.floor, strike: a.strike})
		was[0].results, is[0].results = was[0].results[1:], is[0].results[1:] // the loaves, not the plan
		if !reflect.DeepEqual(was, is) {
			t.Fatalf("%v, %v: %v, renumbered %v", p, a, was, is)
		}
		plan := randomPlan(r, p)
		swapped := slices.Clone(plan)
		for i, b := range plan {
			if isSet(b) {
				swapped[i].Floor = 1 - b.Floor
			}
		}
		_, day, e := floor.Wrong(p, plan)
		_, on, g := floor.Wrong(other, swapped)
		if e != api.OK || g != api.OK || day != on {
			t.Fatalf("%v, %v: %d %d, renumbered %d %d", p, plan, day, e, on, g)
		}
	})
}

// randomBoil returns a boil in which threads are often long in all truths.
func randomBoil(r *rand.Rand) api.Boil {
	b := api.Boil{Marks: ints{6, 12, 14 + r.IntN(12)}}
	for range 1 + r.IntN(api.MaxBoilPans) {
		lo := 4 + r.IntN(8)
		b.Starts = append(b.Starts, api.Span{Lo: lo, Hi: lo + r.IntN(2)})
		b.Rates = append(b.Rates, 1+r.IntN(2))
	}
	for range 3 + r.IntN(api.MaxTicks-2) {
		lo := 1 + r.IntN(2)
		b.Heats = append(b.Heats, api.Span{Lo: lo, Hi: lo + r.IntN(2)})
	}
	return b
}

// T3: pans that wait no longer than their thread is surely long are set on a floor at a time at which it is; with room for all, none is late in any heat.
func TestLadled(t *testing.T) {
	r := rand.New(rand.NewPCG(10, 5))
	set, waited, crowded := 0, 0, 0
	for range 2000 {
		b := randomBoil(r)
		// The pan of each strike, in the order of its first time.
		type ladle struct{ pan, day, wait int }
		var ladles []ladle
		for pan := range b.Starts {
			times, e := thread.Strike(b, pan)
			if e == api.ErrNothing {
				continue
			}
			if e != api.OK {
				t.Fatalf("%v: Strike(%d) = %d", b, pan, e)
			}
			// The times at which the thread is surely long follow each other, so that a pan can wait for all of them.
			ladles = append(ladles, ladle{pan, times[0], min(len(times)-1, api.MaxWait)})
		}
		slices.SortFunc(ladles, func(a, b ladle) int { return a.day - b.day })
		p := randomPlant(r, 1+r.IntN(2), 0, 0, 3)
		for _, l := range ladles {
			p.Strikes = append(p.Strikes, strike(l.day, 1+r.IntN(3), l.wait))
		}
		plan, _, e := floor.Best(p)
		if e != api.OK {
			t.Fatalf("%v: Best = %d", p, e)
		}
		for i, l := range ladles {
			if !isSet(plan[i]) {
				crowded++
				continue
			}
			set++
			if plan[i].Day > l.day {
				waited++
			}
			if v, e := thread.Verdict(b, l.pan, plan[i].Day, api.Long); v != api.Yes || e != api.OK {
				t.Fatalf("%v, %v: %v: the thread of the pan %d is long: %d %d", b, p, plan, l.pan, v, e)
			}
		}
		roomy := but(p, func(p *api.Plant) {
			for f := range p.Floors {
				p.Floors[f].Places, p.Floors[f].Cool = api.MaxPlaces, api.MaxCool
			}
		})
		if n, e := floor.Late(roomy); n != -1 || e != api.OK {
			t.Fatalf("%v: Late = %d %d", roomy, n, e)
		}
	}
	if set < 500 || waited < 20 || crowded < 50 {
		t.Error(set, waited, crowded)
	}
}

// P1 and R5: any arguments have an answer.
func TestAnyArguments(t *testing.T) {
	r := rand.New(rand.NewPCG(11, 5))
	odd := func() int {
		switch r.IntN(9) {
		case 0:
			return math.MaxInt
		case 1:
			return math.MinInt
		case 2:
			return -1
		}
		return r.IntN(5)
	}
	for range 6000 {
		var p api.Plant
		for range r.IntN(4) {
			p.Floors = append(p.Floors, floorOf(odd(), odd(), odd(), odd()))
		}
		for range r.IntN(6) {
			p.Strikes = append(p.Strikes, strike(odd(), odd(), odd()))
		}
		if r.IntN(3) == 0 {
			p = randomPlant(r, 1+r.IntN(2), r.IntN(3), 2, 3)
		}
		a := asked{floor: odd(), day: odd(), strike: odd()}
		for range r.IntN(5) {
			a.plan = append(a.plan, on(odd(), odd()))
		}
		errs, clean := failures(answers(p, a))
		e := floor.Check(p)
		for name, f := range errs {
			if !clean || e != api.OK && f != e {
				t.Fatalf("%v, %+v: %s: %d, Check %d, clean %t", p, a, name, f, e, clean)
			}
		}
	}
}

// R2, R4 and R6: no call changes an argument, nor memory behind it, and all calls of the same say the same, side by side too.
func TestNothingKept(t *testing.T) {
	look := func(p api.Plant, r *rand.Rand) {
		// There is room behind the lists, in which something stands.
		p.Floors = append(slices.Clone(p.Floors), floorOf(77, 77, 77, 77))[:len(p.Floors)]
		p.Strikes = append(slices.Clone(p.Strikes), strike(77, 77, 77))[:len(p.Strikes)]
		plan := randomPlan(r, p)
		a := asked{append(plan, on(77, 77))[:len(plan)], r.IntN(len(p.Floors)), r.IntN(12), r.IntN(len(plan) + 1)}
		all := func() []any {
			return []any{slices.Clone(p.Floors[:len(p.Floors)+1]), slices.Clone(p.Strikes[:len(p.Strikes)+1]), slices.Clone(a.plan[:len(plan)+1])}
		}
		before, want := all(), answers(p, a)
		var calls sync.WaitGroup
		for range 4 {
			calls.Go(func() {
				if got := answers(p, a); !reflect.DeepEqual(got, want) {
					t.Errorf("%v, %+v: %v, then %v", p, a, want, got)
				}
			})
		}
		calls.Wait()
		// Whoever writes into a result changes neither the arguments nor other lists of it.
		for _, x := range answers(p, a) {
			for _, result := range x.results {
				if b, is := result.(berths); is {
					for i := range b[:cap(b)] {
						b[:cap(b)][i] = on(-9, -9)
					}
				}
				list, _ := result.(rows)
				for i := range list {
					whole := list[i][:cap(list[i])]
					for k := range whole {
						whole[k] = -9 - i
					}
				}
				for i := range list {
					if slices.ContainsFunc(list[i], func(n int) bool { return n != -9-i }) {
						t.Fatalf("%v, %+v: %s: lists share memory", p, a, x.name)
					}
				}
			}
		}
		if after := all(); !reflect.DeepEqual(before, after) {
			t.Fatalf("%v became %v", before, after)
		}
		if again := answers(p, a); !reflect.DeepEqual(again, want) {
			t.Fatalf("%v, %+v: %v, then %v", p, a, want, again)
		}
	}
	samples(200, 12, look)
	largeSamples(10, 12, look)
	// Nil and empty lists mean the same.
	for _, p := range []api.Plant{exampleS(), {}, plantOf(floorOf(1, 1, 1, 0)), {Floors: floors{floorOf(1, 1, 1, 0)}, Strikes: strikes{}}} {
		none, empty := answers(p, asked{}), answers(p, asked{plan: berths{}})
		if !reflect.DeepEqual(none, empty) {
			t.Error(none, empty)
		}
	}
	if e := floor.Check(api.Plant{Floors: floors{}, Strikes: strikes{}}); e != api.ErrShortage {
		t.Error(e)
	}
}
