package glass_test

import (
	"maps"
	"math"
	"math/rand/v2"
	"reflect"
	"slices"
	"sync"
	"testing"

	"muscovado/api"
	"muscovado/char"
	"muscovado/glass"
)

// asked are the arguments of all functions beside the row.
type asked struct {
	sample, other, class, glass, second, year int
	sight                                     api.Sight
}

// answer is what a function returns: its results in a list, and its error.
type answer struct {
	name    string
	results []any
	e       api.Errno
}

// answers returns what all functions but Check say.
func answers(r api.Row, a asked) []answer {
	var list []answer
	add := func(name string, e api.Errno, results ...any) {
		list = append(list, answer{name, results, e})
	}
	n, e := glass.Count(r)
	add("Count", e, n)
	l, e := glass.Wrong(r)
	add("Wrong", e, l)
	s, e := glass.Colour(r, a.sample)
	add("Colour", e, s)
	l, e = glass.Fades(r, a.glass)
	add("Fades", e, l)
	s, e = glass.Glass(r, a.glass, a.year)
	add("Glass", e, s)
	l, e = glass.Classes(r, a.sample)
	add("Classes", e, l)
	n, e = glass.Verdict(r, a.sample, a.class)
	add("Verdict", e, n)
	s, e = glass.Duty(r, a.sample)
	add("Duty", e, s)
	n, e = glass.Darker(r, a.glass, a.second, a.year)
	add("Darker", e, n)
	n, e = glass.Alike(r, a.sample, a.other)
	add("Alike", e, n)
	l, e = glass.Keep(r, a.sample, a.year)
	add("Keep", e, l)
	n, left, e := glass.Next(r, a.sample, a.year)
	add("Next", e, n, left)
	more, e := glass.Add(r, a.sight)
	add("Add", e, more)
	return list
}

// zero returns whether a result is a zero value; an empty list is one, too.
func zero(x any) bool {
	switch x := x.(type) {
	case []int:
		return len(x) == 0
	case api.Row:
		return sameRow(x, api.Row{})
	}
	return reflect.ValueOf(x).IsZero()
}

// sameResult returns whether two results are the same; nil and empty lists are.
func sameResult(a, b any) bool {
	return reflect.DeepEqual(a, b) || zero(a) && zero(b)
}

func sameRow(a, b api.Row) bool {
	return slices.Equal(a.Glasses, b.Glasses) && slices.Equal(a.Steps, b.Steps) && slices.Equal(a.Duties, b.Duties) && slices.Equal(a.Samples, b.Samples) && slices.Equal(a.Sights, b.Sights)
}

// failures returns the errors by the names of the functions, and whether all other results are zero values wherever there is one.
func failures(list []answer) (errs map[string]api.Errno, clean bool) {
	errs, clean = map[string]api.Errno{}, true
	for _, x := range list {
		errs[x.name] = x.e
		for _, r := range x.results {
			clean = clean && (x.e == api.OK || zero(r))
		}
	}
	return errs, clean
}

// P6.1, and R1 and R3: the errors of a row, and their order.
func TestCheck(t *testing.T) {
	with := func(change func(r *api.Row)) api.Row { return but(exampleG(), change) }
	of := func(g ...api.Glass) api.Row {
		return with(func(r *api.Row) { r.Glasses, r.Sights = g, nil })
	}
	steps := func(list ...int) api.Row { return with(func(r *api.Row) { r.Steps = list }) }
	duties := func(list ...int) api.Row { return with(func(r *api.Row) { r.Duties = list }) }
	colours := func(s ...api.Span) api.Row { return with(func(r *api.Row) { r.Samples, r.Sights = s, nil }) }
	seen := func(list ...api.Sight) api.Row { return with(func(r *api.Row) { r.Sights = list }) }
	good, bad := pane(60, 40, 3, 3), pane(-1, 0, 0, 0)
	for i, x := range []struct {
		r    api.Row
		want api.Errno
	}{
		{exampleG(), api.OK}, {exampleH(), api.OK}, {exampleW(), api.OK}, {clearRow(0, 40, 40), api.OK}, {full(2, 40, 40, 40, 40), api.OK}, {full(3, 40), api.ErrExcess}, {full(0, 40), api.ErrShortage},
		{api.Row{}, api.ErrShortage}, {of(), api.ErrShortage}, {of(good), api.OK}, {of(good, good, good, good), api.OK}, {of(good, good, good, good, good), api.ErrExcess}, {of(bad, bad, bad, bad, bad), api.ErrExcess},
		{of(bad), api.ErrValue}, {of(pane(61, 0, 0, 0)), api.ErrValue}, {of(pane(math.MaxInt, 0, 0, 0)), api.ErrValue}, {of(pane(61, 0, 2, 1)), api.ErrValue}, {of(good, bad), api.ErrValue},
		{of(pane(0, -1, 0, 0)), api.ErrValue}, {of(pane(0, 41, 0, 0)), api.ErrValue}, {of(pane(0, 41, 2, 1)), api.ErrValue}, {of(pane(0, math.MinInt, 0, 0)), api.ErrValue},
		{of(pane(0, 0, -1, 0)), api.ErrValue}, {of(pane(0, 0, 0, 4)), api.ErrValue}, {of(pane(0, 0, 4, 4)), api.ErrValue}, {of(pane(0, 0, 4, 3)), api.ErrValue}, {of(pane(0, 0, 0, -1)), api.ErrValue},
		{of(pane(0, 0, 3, 2)), api.ErrSequence}, {of(pane(0, 0, 1, 0)), api.ErrSequence}, {of(pane(0, 0, 3, 2), bad), api.ErrSequence}, {of(bad, pane(0, 0, 3, 2)), api.ErrValue}, {of(good, pane(0, 0, 3, 2)), api.ErrSequence},
		{with(func(r *api.Row) { r.Glasses[2].Fade, r.Steps = span(2, 1), nil }), api.ErrSequence}, {with(func(r *api.Row) { r.Glasses[2].Made, r.Steps = 61, nil }), api.ErrValue},
		{steps(), api.ErrShortage}, {steps(1, 40), api.OK}, {steps(1, 2, 3, 4), api.ErrExcess}, {steps(0, 0, 0, 0), api.ErrExcess}, {with(func(r *api.Row) { r.Steps, r.Duties = nil, nil }), api.ErrShortage},
		{steps(0, 1), api.ErrValue}, {steps(-1, 1), api.ErrValue}, {steps(1, 41), api.ErrValue}, {steps(math.MaxInt, 1), api.ErrValue}, {steps(1, math.MinInt), api.ErrValue}, {steps(10, 0), api.ErrValue},
		{steps(10, 10), api.ErrSequence}, {steps(10, 9), api.ErrSequence}, {steps(10, 9, 41), api.ErrSequence}, {steps(10, 41, 9), api.ErrValue}, {steps(9, 10, 10), api.ErrSequence},
		{steps(10), api.ErrConflict}, {steps(10, 18, 20), api.ErrConflict}, {duties(), api.ErrConflict}, {duties(3, 5), api.ErrConflict}, {duties(3, 5, 8, 9), api.ErrConflict}, {duties(3, 100), api.ErrConflict}, {duties(-1, -1, -1, -1), api.ErrConflict},
		{with(func(r *api.Row) { r.Steps, r.Duties = ints{10}, ints{9, 3} }), api.OK}, {with(func(r *api.Row) { r.Steps, r.Duties = ints{1, 2, 40}, ints{9, 3, 3, 0} }), api.OK}, {steps(10, 10, 20), api.ErrSequence},
		{duties(0, 99, 0), api.OK}, {duties(-1, 5, 8), api.ErrValue}, {duties(3, 5, 100), api.ErrValue}, {duties(3, math.MinInt, 8), api.ErrValue}, {duties(math.MaxInt, 5, 8), api.ErrValue},
		{with(func(r *api.Row) { r.Duties[1], r.Samples = 100, nil }), api.ErrValue}, {with(func(r *api.Row) { r.Duties, r.Samples = nil, nil }), api.ErrConflict},
		{colours(), api.ErrShortage}, {colours(span(0, 40), span(40, 40)), api.OK}, {colours(span(0, 0)), api.OK}, {colours(span(0, 0), span(0, 0), span(0, 0)), api.ErrExcess}, {colours(span(9, 0), span(9, 0), span(9, 0)), api.ErrExcess},
		{colours(span(-1, 0)), api.ErrValue}, {colours(span(0, 41)), api.ErrValue}, {colours(span(41, 0)), api.ErrValue}, {colours(span(0, -1)), api.ErrValue}, {colours(span(math.MinInt, math.MaxInt)), api.ErrValue},
		{colours(span(9, 8)), api.ErrSequence}, {colours(span(9, 8), span(0, 41)), api.ErrSequence}, {colours(span(0, 41), span(9, 8)), api.ErrValue}, {colours(span(0, 0), span(9, 8)), api.ErrSequence},
		{with(func(r *api.Row) { r.Samples, r.Sights = nil, make(sights, 9) }), api.ErrShortage}, {with(func(r *api.Row) { r.Samples[1], r.Sights = span(9, 8), make(sights, 9) }), api.ErrSequence},
		{seen(), api.OK}, {seen(make(sights, 8)...), api.OK}, {seen(make(sights, 9)...), api.ErrExcess}, {seen(slices.Repeat(sights{sight(9, 9, 99, 9)}, 9)...), api.ErrExcess},
		{seen(sight(1, 2, 60, 2)), api.OK}, {seen(sight(2, 0, 0, 0)), api.ErrMissing}, {seen(sight(-1, 0, 99, 9)), api.ErrMissing}, {seen(sight(0, 3, 99, 9)), api.ErrMissing}, {seen(sight(0, -1, 0, 0)), api.ErrMissing}, {seen(sight(math.MaxInt, math.MinInt, 0, 0)), api.ErrMissing},
		{seen(sight(0, 0, -1, 0)), api.ErrValue}, {seen(sight(0, 0, 61, 9)), api.ErrValue}, {seen(sight(0, 2, -1, 9)), api.ErrValue}, {seen(sight(0, 2, math.MinInt, 0)), api.ErrValue},
		{seen(sight(0, 2, 5, 0)), api.OK}, {seen(sight(0, 2, 4, 0)), api.ErrBarred}, {seen(sight(0, 2, 0, 9)), api.ErrBarred},
		{seen(sight(0, 0, 0, 3)), api.ErrSort}, {seen(sight(0, 0, 0, -1)), api.ErrSort}, {seen(sight(0, 0, 0, math.MaxInt)), api.ErrSort},
		{seen(sight(0, 0, 0, 3), sight(9, 9, 99, 9)), api.ErrSort}, {seen(sight(0, 0, 0, 0), sight(0, 2, 4, 0), sight(0, 0, 61, 0)), api.ErrBarred}, {seen(sight(0, 0, 61, 0), sight(0, 9, 0, 0)), api.ErrValue},
	} {
		if e := glass.Check(x.r); e != x.want {
			t.Errorf("%d: Check = %d, want %d", i, e, x.want)
		}
		if x.want == api.OK {
			continue
		}
		// Check's error comes before that of any other argument, and alone.
		for _, a := range []asked{{}, {9, -1, 9, 9, -1, 99, sight(9, 9, 99, 9)}, {year: -1, class: -1}} {
			errs, clean := failures(answers(x.r, a))
			for name, e := range errs {
				if e != x.want || !clean {
					t.Errorf("%d: %s: %d, clean %t", i, name, e, clean)
				}
			}
		}
	}
}

// The errors of the other arguments, their order, and that there is no truth.
func TestArgumentsAndConflict(t *testing.T) {
	good := asked{sample: 0, other: 1, class: 2, glass: 0, second: 1, year: 5, sight: sight(0, 0, 5, api.Same)}
	of := func(change func(a *asked)) asked {
		a := good
		change(&a)
		return a
	}
	ofSample := []string{"Colour", "Classes", "Verdict", "Duty", "Alike", "Keep", "Next"}
	ofGlass := []string{"Fades", "Glass", "Darker"}
	ofYear := []string{"Glass", "Darker", "Keep", "Next"}
	untrue := slices.Concat(ofSample, ofGlass)
	type errs = map[api.Errno][]string
	for i, x := range []struct {
		r    api.Row
		a    asked
		want errs // those that are not OK
	}{
		{exampleH(), good, nil},
		{exampleH(), of(func(a *asked) { a.class, a.glass, a.second, a.other = 0, 3, 3, 0 }), nil},
		{exampleH(), of(func(a *asked) { a.sample, a.other = 2, 0 }), errs{api.ErrMissing: ofSample}},
		{exampleH(), of(func(a *asked) { a.sample = -1 }), errs{api.ErrMissing: ofSample}},
		{exampleH(), of(func(a *asked) { a.sample = math.MaxInt }), errs{api.ErrMissing: ofSample}},
		{exampleH(), of(func(a *asked) { a.other = 2 }), errs{api.ErrMissing: {"Alike"}}},
		{exampleH(), of(func(a *asked) { a.other = -1 }), errs{api.ErrMissing: {"Alike"}}},
		{exampleH(), of(func(a *asked) { a.class = 3 }), errs{api.ErrMissing: {"Verdict"}}},
		{exampleH(), of(func(a *asked) { a.class = -1 }), errs{api.ErrMissing: {"Verdict"}}},
		{exampleH(), of(func(a *asked) { a.glass = 4 }), errs{api.ErrMissing: ofGlass}},
		{exampleH(), of(func(a *asked) { a.glass = -1 }), errs{api.ErrMissing: ofGlass}},
		{exampleH(), of(func(a *asked) { a.second = 4 }), errs{api.ErrMissing: {"Darker"}}},
		{exampleH(), of(func(a *asked) { a.second = math.MinInt }), errs{api.ErrMissing: {"Darker"}}},
		{exampleH(), of(func(a *asked) { a.year = 61 }), errs{api.ErrValue: ofYear}},
		{exampleH(), of(func(a *asked) { a.year = -1 }), errs{api.ErrValue: ofYear}},
		{exampleH(), of(func(a *asked) { a.year, a.glass = math.MinInt, 3 }), errs{api.ErrValue: ofYear}},
		{exampleH(), of(func(a *asked) { a.year = 0 }), errs{api.ErrNothing: {"Keep", "Next"}}},
		{exampleH(), of(func(a *asked) { a.year, a.glass = 4, 3 }), errs{api.ErrBarred: {"Glass", "Darker"}, api.ErrNothing: {"Keep", "Next"}}},
		{exampleH(), of(func(a *asked) { a.year, a.second = 4, 2 }), errs{api.ErrBarred: {"Darker"}, api.ErrNothing: {"Keep", "Next"}}},
		{exampleH(), of(func(a *asked) { a.glass = 3 }), nil}, // made in this year
		// A glass, a sample or a class that is missing comes before the year, and the year before a glass that is made later.
		{exampleH(), of(func(a *asked) { a.glass, a.year = 4, 99 }), errs{api.ErrMissing: ofGlass, api.ErrValue: {"Keep", "Next"}}},
		{exampleH(), of(func(a *asked) { a.second, a.year = -1, 99 }), errs{api.ErrMissing: {"Darker"}, api.ErrValue: {"Glass", "Keep", "Next"}}},
		{exampleH(), of(func(a *asked) { a.glass, a.second, a.year = 3, 4, 0 }), errs{api.ErrMissing: {"Darker"}, api.ErrBarred: {"Glass"}, api.ErrNothing: {"Keep", "Next"}}},
		{exampleH(), of(func(a *asked) { a.sample, a.year = 2, -1 }), errs{api.ErrMissing: ofSample, api.ErrValue: {"Glass", "Darker"}}},
		{exampleH(), of(func(a *asked) { a.sight = sight(2, 0, 61, 3) }), errs{api.ErrMissing: {"Add"}}},
		{exampleH(), of(func(a *asked) { a.sight = sight(0, 4, 61, 3) }), errs{api.ErrMissing: {"Add"}}},
		{exampleH(), of(func(a *asked) { a.sight = sight(0, 3, 61, 3) }), errs{api.ErrValue: {"Add"}}},
		{exampleH(), of(func(a *asked) { a.sight = sight(0, 3, -1, 3) }), errs{api.ErrValue: {"Add"}}},
		{exampleH(), of(func(a *asked) { a.sight = sight(0, 3, 4, 3) }), errs{api.ErrBarred: {"Add"}}},
		{exampleH(), of(func(a *asked) { a.sight = sight(0, 2, 5, 3) }), errs{api.ErrSort: {"Add"}}}, // and it has no truth
		{exampleH(), of(func(a *asked) { a.sight = sight(0, 2, 5, -1) }), errs{api.ErrSort: {"Add"}}},
		{exampleH(), of(func(a *asked) { a.sight = sight(0, 2, 5, api.Same) }), errs{api.ErrConflict: {"Add"}}},
		{exampleW(), good, errs{api.ErrConflict: untrue}},
		{exampleW(), of(func(a *asked) { a.sample, a.class = 2, 3 }), errs{api.ErrMissing: ofSample, api.ErrConflict: ofGlass}},
		{exampleW(), of(func(a *asked) { a.other = 0 }), errs{api.ErrConflict: untrue}},
		{exampleW(), of(func(a *asked) { a.glass = 3 }), errs{api.ErrMissing: ofGlass, api.ErrConflict: ofSample}},
		{exampleW(), of(func(a *asked) { a.year = 61 }), errs{api.ErrValue: ofYear, api.ErrConflict: {"Colour", "Classes", "Verdict", "Duty", "Alike", "Fades"}}},
		{exampleW(), of(func(a *asked) { a.year, a.second = 4, 2 }), errs{api.ErrBarred: {"Darker"}, api.ErrConflict: append(slices.Clone(ofSample), "Fades", "Glass")}},
		{exampleW(), of(func(a *asked) { a.second = 0 }), errs{api.ErrConflict: untrue}},
		{exampleW(), of(func(a *asked) { a.sight = sight(0, 3, 0, 0) }), errs{api.ErrConflict: untrue, api.ErrMissing: {"Add"}}},
	} {
		want := map[string]api.Errno{}
		for e, names := range x.want {
			for _, name := range names {
				want[name] = e
			}
		}
		got, clean := failures(answers(x.r, x.a))
		for name, e := range got {
			if e != want[name] || !clean {
				t.Errorf("%d: %s: %d, want %d, clean %t", i, name, e, want[name], clean)
			}
		}
	}
}

// answerOf returns what one of the functions says.
func answerOf(name string, r api.Row, a asked) answer {
	list := answers(r, a)
	return list[slices.IndexFunc(list, func(x answer) bool { return x.name == name })]
}

// The table of the chapter.
func TestExamples(t *testing.T) {
	g, h, w := exampleG(), exampleH(), exampleW()
	for i, x := range []struct {
		name string
		r    api.Row
		a    asked
		want []any
		e    api.Errno
	}{
		{"Count", g, asked{}, []any{220}, api.OK},
		{"Count", h, asked{}, []any{220}, api.OK},
		{"Count", w, asked{}, []any{0}, api.OK},
		{"Wrong", w, asked{}, []any{ints{1}}, api.OK},
		{"Wrong", g, asked{}, []any{ints(nil)}, api.OK},
		{"Colour", g, asked{sample: 0}, []any{span(13, 19)}, api.OK},
		{"Colour", g, asked{sample: 1}, []any{span(5, 15)}, api.OK},
		{"Colour", w, asked{sample: 0}, []any{span(0, 0)}, api.ErrConflict},
		{"Fades", g, asked{glass: 0}, []any{ints{0, 1}}, api.OK},
		{"Fades", g, asked{glass: 2}, []any{ints{0}}, api.OK},
		{"Glass", g, asked{glass: 0, year: 4}, []any{span(16, 20)}, api.OK},
		{"Glass", g, asked{glass: 1, year: 5}, []any{span(20, 25)}, api.OK},
		{"Glass", g, asked{glass: 2, year: 4}, []any{span(0, 0)}, api.ErrBarred},
		{"Classes", g, asked{sample: 0}, []any{ints{1, 2}}, api.OK},
		{"Classes", g, asked{sample: 1}, []any{ints{0, 1}}, api.OK},
		{"Verdict", g, asked{sample: 0, class: 2}, []any{api.Open}, api.OK},
		{"Verdict", g, asked{sample: 0, class: 0}, []any{api.No}, api.OK},
		{"Verdict", g, asked{sample: 0, class: 3}, []any{0}, api.ErrMissing},
		{"Duty", g, asked{sample: 0}, []any{span(5, 8)}, api.OK},
		{"Duty", g, asked{sample: 1}, []any{span(3, 5)}, api.OK},
		{"Darker", g, asked{glass: 1, second: 2, year: 5}, []any{api.Yes}, api.OK},
		{"Darker", g, asked{glass: 2, second: 1, year: 5}, []any{api.No}, api.OK},
		{"Darker", g, asked{glass: 1, second: 0, year: 5}, []any{api.Open}, api.OK},
		{"Alike", g, asked{sample: 0, other: 1}, []any{api.Open}, api.OK},
		{"Alike", g, asked{sample: 1, other: 1}, []any{api.Yes}, api.OK},
		{"Keep", h, asked{sample: 0, year: 5}, []any{ints{3}}, api.OK},
		{"Keep", h, asked{sample: 1, year: 5}, []any{ints(nil)}, api.ErrNothing},
		{"Keep", g, asked{sample: 0, year: 5}, []any{ints(nil)}, api.ErrNothing},
		{"Next", h, asked{sample: 0, year: 5}, []any{3, 176}, api.OK},
		{"Next", g, asked{sample: 0, year: 5}, []any{0, 198}, api.OK},
		{"Add", g, asked{sight: sight(0, 2, 5, api.Same)}, []any{api.Row{}}, api.ErrConflict},
		{"Count", with(g, sight(0, 0, 5, api.Same)), asked{}, []any{22}, api.OK},
	} {
		if got := answerOf(x.name, x.r, x.a); got.e != x.e || !slices.EqualFunc(got.results, x.want, sameResult) {
			t.Errorf("%d: %s: %v %d, want %v %d", i, x.name, got.results, got.e, x.want, x.e)
		}
	}
}

// Check's line of the table.
func TestExamplesOfCheck(t *testing.T) {
	g := exampleG()
	for i, x := range []struct {
		change func(r *api.Row)
		want   api.Errno
	}{
		{func(r *api.Row) {}, api.OK},
		{func(r *api.Row) { r.Glasses = nil }, api.ErrShortage},
		{func(r *api.Row) { r.Steps = ints{10, 10} }, api.ErrSequence},
		{func(r *api.Row) { r.Duties = ints{3, 5} }, api.ErrConflict},
		{func(r *api.Row) { r.Sights = append(r.Sights, sight(0, 2, 4, 0)) }, api.ErrBarred},
		{func(r *api.Row) { r.Sights[0].Found = 3 }, api.ErrSort},
	} {
		if e := glass.Check(but(g, x.change)); e != x.want {
			t.Error(i, e)
		}
	}
}

// P6.1, P6.2, P6.9 and P6.18.
func TestCountAndWrong(t *testing.T) {
	found := map[int]int{}
	samples(1500, 1, false, func(r api.Row, all []truth, _ *rand.Rand) {
		n, e := glass.Count(r)
		if e != api.OK || n != len(all) {
			t.Fatalf("%+v: Count = %d %d, want %d", r, n, e, len(all))
		}
		wrong, e := glass.Wrong(r)
		if want := wrongBefore(r); e != api.OK || !slices.Equal(wrong, want) {
			t.Fatalf("%+v: Wrong = %v %d, want %v", r, wrong, e, want)
		}
		if n, e := glass.Count(without(r, wrong...)); n == 0 || e != api.OK {
			t.Fatalf("%+v: without %v there is no truth", r, wrong)
		}
		if (len(wrong) == 0) != (len(all) > 0) {
			t.Fatalf("%+v: %v, but %d truths", r, wrong, len(all))
		}
		found[len(wrong)]++
	})
	if found[0] < 700 || found[1] < 100 {
		t.Error(found)
	}
	g, w := exampleG(), exampleW()
	for i, x := range []struct {
		r     api.Row
		count int
		wrong ints
	}{
		{g, 220, nil}, {w, 0, ints{1}}, {without(g, 0, 1), 748, nil}, {clearRow(3, 7, 5), 5, nil}, {clearRow(3, 3, 5), 1, nil},
		// The colour of a glass is at least 0, and no fade is so great that another one is not as good.
		{with(but(full(1, 9), func(r *api.Row) { r.Samples[0] = span(0, 5) }), sight(0, 0, 60, api.Same)), 3, nil},
		{with(but(full(1, 9), func(r *api.Row) { r.Samples[0] = span(0, 5) }), sight(0, 0, 60, api.Lighter)), 6, nil},
		// In the year in which it was made a glass has its colour, in the next one it may have faded.
		{with(full(1, 9), sight(0, 0, 0, api.Same)), 4, nil}, {with(full(1, 9), sight(0, 0, 1, api.Same)), 4, nil},
		{with(full(1, 9), sight(0, 0, 0, api.Same), sight(0, 0, 1, api.Same)), 1, nil}, {with(full(1, 9), sight(0, 0, 0, api.Same), sight(0, 0, 1, api.Darker)), 3, nil}, {with(full(1, 9), sight(0, 0, 0, api.Same), sight(0, 0, 1, api.Lighter)), 0, ints{0}},
		// A glass that was made later has faded for fewer years.
		{with(but(full(1, 9), func(r *api.Row) { r.Glasses[0].Made = 50 }), sight(0, 0, 52, api.Same)), 4, nil},
		{with(but(full(1, 9), func(r *api.Row) { r.Glasses[0].Made, r.Samples[0] = 50, span(7, 7) }), sight(0, 0, 52, api.Same)), 1, nil},
	} {
		n, e := glass.Count(x.r)
		l, f := glass.Wrong(x.r)
		if e != api.OK || f != api.OK || n != x.count || !slices.Equal(l, x.wrong) {
			t.Error(i, n, l, e, f)
		}
	}
}

// Many sights, most of them arbitrary: the fewest wrong ones are several, of samples that differ.
func TestWrongOfMany(t *testing.T) {
	many, both := 0, 0
	samples(150, 2, false, func(r api.Row, _ []truth, dice *rand.Rand) {
		r.Sights = nil
		all := guesses(r)
		r.Sights = all[dice.IntN(len(all))].sights(dice, r, 4+dice.IntN(5), 2)
		got, e := glass.Wrong(r)
		if want := wrongBefore(r); e != api.OK || !slices.Equal(got, want) {
			t.Fatalf("%+v: Wrong = %v %d, want %v", r, got, e, want)
		}
		of := map[int]bool{}
		for _, i := range got {
			of[r.Sights[i].Sample] = true
		}
		if len(got) > 1 {
			many++
		}
		if len(of) > 1 {
			both++
		}
	})
	if many < 40 || both < 15 {
		t.Error(many, both)
	}
	lighter, same, darker := sight(0, 0, 0, api.Lighter), sight(0, 0, 0, api.Same), sight(0, 0, 0, api.Darker)
	one := clearRow(0, 40, 20)
	// One fade for both samples: that of the first sight, or that of the other ones.
	two := but(full(2, 9), func(r *api.Row) { r.Samples[0], r.Samples[1] = span(8, 8), span(7, 7) })
	a, b := sight(0, 0, 1, api.Same), sight(1, 0, 1, api.Same)
	for i, x := range []struct {
		r    api.Row
		want ints
	}{
		{with(one, lighter, same), ints{0}},            // of two that contradict each other the first one
		{with(one, lighter, same, lighter), ints{1}},   // the one that contradicts two others
		{with(one, lighter, same, darker), ints{0, 1}}, // all but the last one
		{with(one, slices.Repeat(sights{lighter, darker}, 4)...), ints{0, 2, 4, 6}},
		{with(clearRow(20, 20, 20), slices.Repeat(sights{lighter}, 8)...), ints{0, 1, 2, 3, 4, 5, 6, 7}},
		{with(clearRow(20, 20, 20), darker, same, lighter, same), ints{0, 2}},
		{with(two, a, b), ints{0}}, {with(two, a, b, a), ints{1}}, {with(two, a, b, a, b), ints{0, 2}}, {with(two, a, b, a, b, sight(0, 0, 0, api.Same)), ints{0, 2, 4}},
		{with(two, b, a, a, sight(0, 0, 0, api.Same), sight(1, 0, 0, api.Darker)), ints{0, 3, 4}},
	} {
		if got, e := glass.Wrong(x.r); e != api.OK || !slices.Equal(got, x.want) {
			t.Error(i, got, e, x.want)
		}
	}
}

// years calls look with each glass and some years in which it is made.
func years(r api.Row, look func(glass, year int)) {
	for glass, g := range r.Glasses {
		for year := g.Made; year < g.Made+8; year++ {
			look(glass, year)
		}
		look(glass, api.MaxYear)
	}
}

// P6.3 and P6.9: what there is in all truths.
func TestColourFadesGlass(t *testing.T) {
	narrow, fewer := 0, 0
	look := func(r api.Row, all []truth, _ *rand.Rand) {
		for sample, s := range r.Samples {
			want := boundsOf(all, func(t truth) int { return t.colours[sample] })
			if got, e := glass.Colour(r, sample); e != api.OK || got != want {
				t.Fatalf("%+v: Colour(%d) = %v %d, want %v", r, sample, got, e, want)
			}
			if want != s {
				narrow++
			}
		}
		for pane, g := range r.Glasses {
			want := seenIn(all, func(t truth) int { return t.fades[pane] })
			if got, e := glass.Fades(r, pane); e != api.OK || !slices.Equal(got, want) {
				t.Fatalf("%+v: Fades(%d) = %v %d, want %v", r, pane, got, e, want)
			}
			if len(want) <= g.Fade.Hi-g.Fade.Lo {
				fewer++
			}
		}
		years(r, func(pane, year int) {
			want := boundsOf(all, func(t truth) int { return t.glass(r, pane, year) })
			if got, e := glass.Glass(r, pane, year); e != api.OK || got != want {
				t.Fatalf("%+v: Glass(%d, %d) = %v %d, want %v", r, pane, year, got, e, want)
			}
		})
	}
	samples(800, 3, true, look)
	if narrow < 300 || fewer < 100 {
		t.Error(narrow, fewer)
	}
	// Fades, and colours, that are possible need not follow each other.
	look(exampleGap(), truths(exampleGap()), nil)
	if l, e := glass.Fades(exampleGap(), 0); e != api.OK || !slices.Equal(l, ints{0, 3}) {
		t.Error(l, e)
	}
	r := with(but(full(1, 20), func(r *api.Row) { r.Samples[0] = span(10, 14) }), sight(0, 0, 3, api.Darker), sight(0, 0, 2, api.Lighter))
	if l, e := glass.Fades(r, 0); e != api.OK || !slices.Equal(l, ints{3}) {
		t.Error(l, e)
	}
	if s, e := glass.Colour(r, 0); e != api.OK || s != span(12, 13) {
		t.Error(s, e)
	}
	if s, e := glass.Glass(r, 0, 60); e != api.OK || s != span(0, 0) {
		t.Error(s, e)
	}
}

// P6.10: without a sight there are not fewer truths, and no bound is narrower.
func TestBounds(t *testing.T) {
	wider := 0
	within := func(now, wide api.Span) bool {
		if now != wide {
			wider++
		}
		return wide.Lo <= now.Lo && now.Hi <= wide.Hi
	}
	samples(300, 4, true, func(r api.Row, all []truth, _ *rand.Rand) {
		for i := range r.Sights {
			less := without(r, i)
			if n, e := glass.Count(less); n < len(all) || e != api.OK {
				t.Fatalf("%+v: %d truths, without %d %d %d", r, len(all), i, n, e)
			}
			for sample := range r.Samples {
				now, _ := glass.Colour(r, sample)
				wide, e := glass.Colour(less, sample)
				duty, _ := glass.Duty(r, sample)
				wideDuty, f := glass.Duty(less, sample)
				if e != api.OK || f != api.OK || !within(now, wide) || !within(duty, wideDuty) {
					t.Fatalf("%+v: without %d %v %v becomes %v %v", r, i, now, duty, wide, wideDuty)
				}
			}
			years(r, func(pane, year int) {
				now, _ := glass.Glass(r, pane, year)
				wide, e := glass.Glass(less, pane, year)
				if e != api.OK || !within(now, wide) {
					t.Fatalf("%+v: without %d %v becomes %v", r, i, now, wide)
				}
			})
		}
	})
	if wider < 300 {
		t.Error(wider)
	}
}

// P6.11: a glass fades by no more than it can, and has its colour when it was made.
func TestFading(t *testing.T) {
	faded := 0
	samples(400, 5, true, func(r api.Row, _ []truth, _ *rand.Rand) {
		for pane, g := range r.Glasses {
			fades, _ := glass.Fades(r, pane)
			before, e := glass.Glass(r, pane, g.Made)
			if e != api.OK || before != span(g.Colour, g.Colour) {
				t.Fatalf("%+v: Glass(%d, %d) = %v %d", r, pane, g.Made, before, e)
			}
			for year := g.Made + 1; year <= min(api.MaxYear, g.Made+25); year++ {
				now, e := glass.Glass(r, pane, year)
				most := slices.Max(fades)
				if e != api.OK || now.Lo > before.Lo || now.Hi > before.Hi || now.Lo < before.Lo-most || now.Hi < before.Hi-most || now.Lo < 0 {
					t.Fatalf("%+v: %d: in the year %d %v becomes %v", r, pane, year, before, now)
				}
				if now != before {
					faded++
				}
				before = now
			}
		}
	})
	if faded < 500 {
		t.Error(faded)
	}
}

// P6.4 and P6.12.
func TestClassesVerdictDuty(t *testing.T) {
	verdicts, paid := map[int]int{}, 0
	samples(800, 6, true, func(r api.Row, all []truth, _ *rand.Rand) {
		for sample := range r.Samples {
			want := seenIn(all, func(t truth) int { return t.class(r, sample) })
			got, e := glass.Classes(r, sample)
			if e != api.OK || !slices.Equal(got, want) {
				t.Fatalf("%+v: Classes(%d) = %v %d, want %v", r, sample, got, e, want)
			}
			for class := range r.Duties {
				v, e := glass.Verdict(r, sample, class)
				if want := verdictOn(all, func(t truth) bool { return t.class(r, sample) == class }); e != api.OK || v != want {
					t.Fatalf("%+v: Verdict(%d, %d) = %d %d, want %d", r, sample, class, v, e, want)
				}
				if (v == api.Yes) != slices.Equal(got, ints{class}) {
					t.Fatalf("%+v: Verdict(%d, %d) = %d, but the classes are %v", r, sample, class, v, got)
				}
				verdicts[v]++
			}
			duty, e := glass.Duty(r, sample)
			if want := boundsOf(all, func(t truth) int { return r.Duties[t.class(r, sample)] }); e != api.OK || duty != want {
				t.Fatalf("%+v: Duty(%d) = %v %d, want %v", r, sample, duty, e, want)
			}
			if len(got) > 1 && duty.Lo == r.Duties[got[1]] {
				paid++
			}
		}
	})
	if verdicts[api.Yes] < 200 || verdicts[api.No] < 200 || verdicts[api.Open] < 200 || paid < 100 {
		t.Error(verdicts, paid)
	}
}

// P6.4: the steps themselves, and one less; duties that do not ascend.
func TestSteps(t *testing.T) {
	steps := but(full(1, 40), func(r *api.Row) { r.Steps, r.Duties = ints{1, 20, 40}, ints{50, 7, 99, 0} })
	for colour, class := range map[int]int{0: 0, 1: 1, 2: 1, 19: 1, 20: 2, 21: 2, 39: 2, 40: 3} {
		steps.Samples[0] = span(colour, colour)
		l, e := glass.Classes(steps, 0)
		s, f := glass.Duty(steps, 0)
		v, g := glass.Verdict(steps, 0, class)
		if e != api.OK || f != api.OK || g != api.OK || !slices.Equal(l, ints{class}) || s != span(steps.Duties[class], steps.Duties[class]) || v != api.Yes {
			t.Error(colour, l, s, v, e, f, g)
		}
	}
	for i, x := range []struct {
		steps, duties ints
		colours       api.Span
		classes       ints
		duty          api.Span
	}{
		{ints{10}, ints{4, 9}, span(0, 9), ints{0}, span(4, 4)},
		{ints{10}, ints{4, 9}, span(9, 10), ints{0, 1}, span(4, 9)},
		{ints{10, 20}, ints{9, 1, 5}, span(9, 21), ints{0, 1, 2}, span(1, 9)},
		{ints{10, 11, 12}, ints{9, 1, 99, 5}, span(9, 12), ints{0, 1, 2, 3}, span(1, 99)},
		{ints{10, 20, 30}, ints{9, 1, 99, 5}, span(10, 19), ints{1}, span(1, 1)},
		{ints{10, 20, 30}, ints{9, 1, 0, 5}, span(0, 19), ints{0, 1}, span(1, 9)},
		{ints{10}, ints{4, 9}, span(40, 40), ints{1}, span(9, 9)},
		{ints{10, 20}, ints{4, 9, 1}, span(40, 40), ints{2}, span(1, 1)},
		{ints{10, 40}, ints{4, 9, 1}, span(39, 40), ints{1, 2}, span(1, 9)},
		{ints{10, 20, 30}, ints{9, 9, 9, 9}, span(0, 40), ints{0, 1, 2, 3}, span(9, 9)},
	} {
		r := but(clearRow(0, 0, 40), func(r *api.Row) { r.Steps, r.Duties, r.Samples[0] = x.steps, x.duties, x.colours })
		l, e := glass.Classes(r, 0)
		s, f := glass.Duty(r, 0)
		if e != api.OK || f != api.OK || !slices.Equal(l, x.classes) || s != x.duty {
			t.Error(i, l, s, e, f)
		}
	}
	// No truth has the class between two others, and its duty is not due.
	for class, want := range []int{api.Open, api.No, api.Open} {
		if v, e := glass.Verdict(exampleGap(), 0, class); e != api.OK || v != want {
			t.Error(class, v, e)
		}
	}
	l, e := glass.Classes(exampleGap(), 0)
	s, f := glass.Duty(exampleGap(), 0)
	if e != api.OK || f != api.OK || !slices.Equal(l, ints{0, 2}) || s != span(5, 7) {
		t.Error(l, s, e, f)
	}
}

// P6.5 and P6.13.
func TestDarker(t *testing.T) {
	verdicts := map[int]int{}
	samples(600, 7, true, func(r api.Row, all []truth, dice *rand.Rand) {
		year := 6 + dice.IntN(7)
		for a := range r.Glasses {
			for b := range r.Glasses {
				v, e := glass.Darker(r, a, b, year)
				if want := verdictOn(all, func(t truth) bool { return t.glass(r, a, year) > t.glass(r, b, year) }); e != api.OK || v != want {
					t.Fatalf("%+v: Darker(%d, %d, %d) = %d %d, want %d", r, a, b, year, v, e, want)
				}
				verdicts[v]++
				back, _ := glass.Darker(r, b, a, year)
				if a == b && v != api.No || v == api.Yes && back != api.No {
					t.Fatalf("%+v: Darker(%d, %d, %d) = %d, and %d", r, a, b, year, v, back)
				}
				s, _ := glass.Glass(r, a, year)
				o, _ := glass.Glass(r, b, year)
				if s.Lo > o.Hi && v != api.Yes || s.Hi < o.Lo && v != api.No {
					t.Fatalf("%+v: Darker(%d, %d, %d) = %d, but %v and %v", r, a, b, year, v, s, o)
				}
			}
		}
	})
	if verdicts[api.Yes] < 500 || verdicts[api.No] < 500 || verdicts[api.Open] < 200 {
		t.Error(verdicts)
	}
	g := exampleG()
	for i, x := range []struct {
		r          api.Row
		a, b, year int
		want       int
	}{
		{g, 1, 0, 0, api.Yes}, {g, 0, 1, 0, api.No}, {g, 0, 1, 10, api.Open}, {g, 2, 1, 30, api.Yes}, {g, 0, 0, 5, api.No},
		{clearRow(0, 0, 7, 7), 0, 1, 3, api.No}, {clearRow(0, 0, 8, 7), 0, 1, 3, api.Yes}, // as dark is not darker
		{full(1, 20, 20), 0, 1, 0, api.No}, {full(1, 20, 20), 0, 1, 1, api.Open}, {full(1, 20, 20), 0, 1, 60, api.Open}, {full(1, 20, 0), 1, 0, 60, api.No},
		// The bounds meet, but there is no truth in which the second glass is as dark.
		{with(full(1, 20, 20), sight(0, 0, 1, api.Lighter), sight(0, 1, 1, api.Darker)), 0, 1, 1, api.Yes},
		{with(full(1, 20, 20), sight(0, 0, 1, api.Same), sight(0, 1, 1, api.Darker)), 0, 1, 1, api.Yes},
		{with(full(1, 20, 20), sight(0, 0, 1, api.Same), sight(0, 1, 1, api.Same)), 0, 1, 9, api.No},
	} {
		if v, e := glass.Darker(x.r, x.a, x.b, x.year); e != api.OK || v != x.want {
			t.Error(i, v, e)
		}
	}
}

// P6.5 and P6.14.
func TestAlike(t *testing.T) {
	verdicts, sure := map[int]int{}, 0
	samples(900, 8, true, func(r api.Row, all []truth, _ *rand.Rand) {
		for x := range r.Samples {
			for y := range r.Samples {
				v, e := glass.Alike(r, x, y)
				if want := verdictOn(all, func(t truth) bool { return t.class(r, x) == t.class(r, y) }); e != api.OK || v != want || x == y && v != api.Yes {
					t.Fatalf("%+v: Alike(%d, %d) = %d %d, want %d", r, x, y, v, e, want)
				}
				if x == y {
					continue
				}
				verdicts[v]++
				a, _ := glass.Classes(r, x)
				b, _ := glass.Classes(r, y)
				if len(a) == 1 && len(b) == 1 {
					sure++
					if (v == api.Yes) != slices.Equal(a, b) || v == api.Open {
						t.Fatalf("%+v: Alike(%d, %d) = %d, but %v and %v", r, x, y, v, a, b)
					}
				}
			}
		}
	})
	if verdicts[api.Yes] < 100 || verdicts[api.No] < 50 || verdicts[api.Open] < 200 || sure < 100 {
		t.Error(verdicts, sure)
	}
	// Neither class is sure, but both samples are as dark as one glass, or one is and the other one is not.
	twins := but(full(2, 20), func(r *api.Row) { r.Steps = ints{18, 19, 20} })
	a, b := sight(0, 0, 1, api.Same), sight(1, 0, 1, api.Same)
	for i, x := range []struct {
		r    api.Row
		want int
	}{
		{twins, api.Open}, {with(twins, a), api.Open}, {with(twins, a, b), api.Yes},
		{with(but(twins, func(r *api.Row) { r.Glasses[0].Fade.Hi = 2 }), a, sight(1, 0, 2, api.Darker), sight(1, 0, 1, api.Lighter)), api.No},
		{with(exampleG(), sight(1, 2, 5, api.Darker), sight(0, 0, 5, api.Same)), api.Yes},
		{but(exampleG(), func(r *api.Row) { r.Samples[1] = span(0, 9) }), api.No},
	} {
		if v, e := glass.Alike(x.r, 0, 1); e != api.OK || v != x.want {
			t.Error(i, v, e)
		}
		if v, e := glass.Alike(x.r, 1, 0); e != api.OK || v != x.want {
			t.Error(i, v, e)
		}
	}
}

// eachFinding calls look with the row, and all that can be found if a sample is held against glasses in a year.
func eachFinding(r api.Row, sample, year int, glasses ints, look func(r api.Row)) {
	choices(slices.Repeat(spans{span(0, 2)}, len(glasses)), func(found ints) {
		more := r
		for i, glass := range glasses {
			more = with(more, sight(sample, glass, year, found[i]))
		}
		look(more)
	})
}

// sure returns whether the class of a sample is sure whatever is found beside glasses, as sights more say.
func sure(t *testing.T, r api.Row, sample, year int, glasses ints) bool {
	all := true
	eachFinding(r, sample, year, glasses, func(r api.Row) {
		l, e := glass.Classes(r, sample)
		if e != api.OK && e != api.ErrConflict {
			t.Fatalf("%+v: Classes(%d) = %v %d", r, sample, l, e)
		}
		all = all && len(l) < 2
	})
	return all
}

// P6.6 and P6.15.
func TestKeep(t *testing.T) {
	found := map[int]int{}
	samples(1500, 9, true, func(r api.Row, all []truth, dice *rand.Rand) {
		if dice.IntN(2) == 0 {
			r = telling(dice)
			all = truths(r)
		}
		sample, year := dice.IntN(len(r.Samples)), dice.IntN(9)
		want, due := keep(r, all, sample, year)
		got, e := glass.Keep(r, sample, year)
		if e != due || !slices.Equal(got, want) {
			t.Fatalf("%+v: Keep(%d, %d) = %v %d, want %v %d", r, sample, year, got, e, want, due)
		}
		if e == api.OK {
			found[len(got)]++
		} else {
			found[-1]++
		}
		if len(r.Sights)+len(r.Glasses) > api.MaxSights || dice.IntN(3) > 0 {
			return
		}
		// Sights of these glasses make the class sure, and those of no list that comes before.
		for _, glasses := range lists(made(r, year)) {
			last := e == api.OK && slices.Equal(glasses, got)
			if sure(t, r, sample, year, glasses) != last {
				t.Fatalf("%+v: Keep(%d, %d) = %v %d, but %v", r, sample, year, got, e, glasses)
			}
			if last {
				break
			}
		}
	})
	if found[-1] < 300 || found[0] < 300 || found[1] < 200 || found[2] < 60 || found[3] < 5 {
		t.Error(found)
	}
}

// P6.6: which glasses a class needs, and of several lists the first one.
func TestKeepOfFew(t *testing.T) {
	nothing := api.ErrNothing
	later := func(r api.Row, glass int) api.Row {
		return but(r, func(r *api.Row) { r.Glasses[glass].Made = 4 })
	}
	for i, x := range []struct {
		r    api.Row
		year int
		want ints
		e    api.Errno
	}{
		{clearRow(12, 15, 10), 0, nil, api.OK}, // the class is sure
		{clearRow(9, 21, 10, 20), 0, ints{0, 1}, api.OK}, {clearRow(9, 21, 15, 10, 20), 0, ints{1, 2}, api.OK}, {clearRow(9, 21, 9, 19, 10, 20), 0, ints{0, 1}, api.OK}, {clearRow(8, 22, 9, 21, 10, 20), 0, ints{0, 3}, api.OK},
		{clearRow(8, 11, 9, 10), 0, ints{0}, api.OK}, {clearRow(8, 12, 8, 11), 0, nil, nothing}, {clearRow(8, 11, 8, 11), 0, nil, nothing}, // what is darker than the glass is not sure
		{clearRow(9, 10, 9), 0, ints{0}, api.OK}, {clearRow(9, 11, 10), 0, ints{0}, api.OK}, {clearRow(8, 10, 10), 0, ints{0}, api.OK}, {clearRow(9, 10, 8), 0, nil, nothing}, {clearRow(9, 10, 11), 0, nil, nothing},
		{clearRow(8, 11, 11, 9), 0, ints{1}, api.OK}, {clearRow(8, 11, 8, 11, 10), 0, ints{2}, api.OK}, // one is fewer than two, although these come before
		{later(clearRow(8, 11, 9, 10), 0), 3, ints{1}, api.OK}, {later(clearRow(8, 11, 9, 10), 0), 4, ints{0}, api.OK}, {later(clearRow(8, 11, 9), 0), 3, nil, nothing}, {later(clearRow(12, 15, 9), 0), 3, nil, api.OK},
		{full(1, 10), 0, nil, nothing}, {but(full(1, 10), func(r *api.Row) { r.Samples[0] = span(0, 19) }), 0, ints{0}, api.OK}, {but(full(1, 10), func(r *api.Row) { r.Samples[0] = span(0, 19) }), 1, nil, nothing}, // it fades
		{full(1, 10, 20, 30), 0, ints{0, 1, 2}, api.OK}, {full(1, 30, 5, 20, 10), 0, ints{0, 2, 3}, api.OK},
		// 0 3 comes before 1 2, and both are enough; 0 1 and 0 2 are not.
		{but(clearRow(9, 12, 9, 12, 10, 11), func(r *api.Row) { r.Steps, r.Duties = ints{10, 11, 12}, ints{1, 2, 3, 4} }), 0, ints{0, 3}, api.OK},
		// With a glass that is a little darker, the class of what is in between is not sure.
		{but(clearRow(6, 13, 6, 8, 10, 13), func(r *api.Row) { r.Steps, r.Duties = ints{7, 10, 13}, ints{1, 2, 3, 4} }), 0, ints{0, 2, 3}, api.OK},
		{but(clearRow(6, 13, 6, 8, 11, 13), func(r *api.Row) { r.Steps, r.Duties = ints{7, 10, 13}, ints{1, 2, 3, 4} }), 0, nil, nothing},
		{but(clearRow(6, 13, 6, 9, 10, 13), func(r *api.Row) { r.Steps, r.Duties = ints{7, 10, 13}, ints{1, 2, 3, 4} }), 0, ints{0, 1, 3}, api.OK},
	} {
		if l, e := glass.Keep(x.r, 0, x.year); e != x.e || !slices.Equal(l, x.want) {
			t.Error(i, l, e)
		}
	}
	// It is the sample that counts, not the other one; a row with all sights is answered, too.
	two := but(clearRow(9, 10, 9, 20), func(r *api.Row) { r.Samples = append(r.Samples, span(19, 20)) })
	two.Sights = slices.Repeat(sights{sight(0, 1, 0, api.Lighter)}, api.MaxSights)
	for sample, want := range []ints{{0}, {1}} {
		if l, e := glass.Keep(two, sample, 0); e != api.OK || !slices.Equal(l, want) {
			t.Error(sample, l, e)
		}
	}
}

// P6.7, P6.16 and P6.17.
func TestNext(t *testing.T) {
	found := map[int]int{}
	samples(1000, 10, true, func(r api.Row, all []truth, dice *rand.Rand) {
		sample, year := dice.IntN(len(r.Samples)), dice.IntN(12)
		pane, left, due := next(r, all, sample, year)
		g, n, e := glass.Next(r, sample, year)
		if g != pane || n != left || e != due {
			t.Fatalf("%+v: Next(%d, %d) = %d %d %d, want %d %d %d", r, sample, year, g, n, e, pane, left, due)
		}
		if e == api.OK {
			found[g]++
		} else {
			found[-1]++
		}
		if len(r.Sights) == api.MaxSights {
			return
		}
		for _, other := range made(r, year) {
			sum, most := 0, 0
			eachFinding(r, sample, year, ints{other}, func(r api.Row) {
				n, f := glass.Count(r)
				if f != api.OK {
					t.Fatalf("%+v: Count: %d", r, f)
				}
				sum, most = sum+n, max(most, n)
			})
			switch {
			case sum != len(all):
				t.Fatalf("%+v: %d truths, but by the findings beside %d %d", r, len(all), other, sum)
			case e == api.OK && (most < n || other < g && most == n || other == g && most != n), e != api.OK && most < len(all):
				t.Fatalf("%+v: Next(%d, %d) = %d %d %d, but %d leaves %d", r, sample, year, g, n, e, other, most)
			}
		}
	})
	if found[-1] < 200 || found[0] < 100 || found[1] < 80 || found[2] < 40 || found[3] < 20 {
		t.Error(found)
	}
	nothing := api.ErrNothing
	late := func(r api.Row) api.Row { return but(r, func(r *api.Row) { r.Glasses[0].Made = 4 }) }
	two := but(clearRow(8, 11, 9), func(r *api.Row) { r.Samples = append(r.Samples, span(0, 4)) })
	for i, x := range []struct {
		r            api.Row
		sample, year int
		glass, left  int
		e            api.Errno
	}{
		{r: clearRow(8, 11, 9), left: 2}, {r: clearRow(8, 11, 9, 10), left: 2}, {r: clearRow(8, 12, 9, 10), glass: 1, left: 2}, {r: clearRow(8, 11, 8, 9), glass: 1, left: 2}, {r: clearRow(9, 10, 9), left: 1},
		{r: clearRow(9, 10, 9, 10), left: 1},                                                                             // of several the first one
		{r: clearRow(8, 8, 8), e: nothing}, {r: clearRow(8, 11, 7), e: nothing}, {r: clearRow(8, 11, 12, 7), e: nothing}, // all truths are left
		{r: clearRow(8, 11, 7, 11), glass: 1, left: 3},
		{r: late(clearRow(8, 11, 9)), year: 3, e: nothing}, {r: late(clearRow(8, 11, 9)), year: 4, left: 2}, {r: late(clearRow(8, 12, 10, 9)), year: 3, glass: 1, left: 3}, {r: late(clearRow(8, 12, 10, 9)), year: 4, left: 2},
		{r: two, left: 10}, {r: two, sample: 1, e: nothing}, // the other sample has five colours
		{r: full(1, 40), left: 160}, {r: full(1, 40), year: 1, left: 154}, {r: full(1, 20), year: 60, left: 20 + 3*40},
		{r: with(clearRow(8, 11, 9), slices.Repeat(sights{sight(0, 0, 0, api.Darker)}, api.MaxSights)...), e: nothing},
	} {
		if g, n, e := glass.Next(x.r, x.sample, x.year); g != x.glass || n != x.left || e != x.e {
			t.Error(i, g, n, e)
		}
	}
}

// P6.7 and P6.19.
func TestAdd(t *testing.T) {
	found := map[api.Errno]int{}
	samples(1000, 11, false, func(r api.Row, all []truth, dice *rand.Rand) {
		s := sight(dice.IntN(len(r.Samples)), dice.IntN(len(r.Glasses)), 0, dice.IntN(3))
		s.Year = r.Glasses[s.Glass].Made + dice.IntN(7)
		want, due := api.OK, with(r, s)
		if len(all) > 0 && !slices.ContainsFunc(all, func(t truth) bool { return t.right(r, s) }) {
			want, due = api.ErrConflict, api.Row{}
		}
		found[want]++
		got, e := glass.Add(r, s)
		if e != want || !sameRow(got, due) {
			t.Fatalf("%+v: Add(%v) = %+v %d, want %d", r, s, got, e, want)
		}
		if n, f := glass.Count(got); e == api.OK && (f != api.OK || n > len(all) || n == 0 && len(all) > 0) {
			t.Fatalf("%+v: Add(%v) leaves %d %d of %d", r, s, n, f, len(all))
		}
	})
	if found[api.OK] < 400 || found[api.ErrConflict] < 200 {
		t.Error(found)
	}
	r, e := glass.Add(exampleG(), sight(0, 0, 5, api.Same))
	if n, f := glass.Count(r); e != api.OK || f != api.OK || n != 22 {
		t.Error(r, n, e, f)
	}
	// A row without a truth takes whatever is seen; as long as there is room.
	if r, e := glass.Add(exampleW(), sight(0, 0, 0, api.Darker)); e != api.OK || !sameRow(r, with(exampleW(), sight(0, 0, 0, api.Darker))) {
		t.Error(r, e)
	}
	r = clearRow(8, 11, 9)
	for n := range api.MaxSights {
		more, e := glass.Add(r, sight(0, 0, n, api.Darker))
		if e != api.OK || len(more.Sights) != n+1 || more.Sights[n] != sight(0, 0, n, api.Darker) {
			t.Fatal(n, more, e)
		}
		r = more
	}
	for _, s := range []api.Sight{sight(0, 0, 0, api.Darker), sight(0, 0, 0, api.Same), sight(9, 9, 99, 9)} {
		if more, e := glass.Add(r, s); e != api.ErrExcess || !sameRow(more, api.Row{}) {
			t.Error(s, more, e)
		}
	}
}

// P6.8: if all sights are right for some colours and fades, these are a truth.
func TestTrue(t *testing.T) {
	dice := rand.New(rand.NewPCG(12, 6))
	for range 400 {
		r, told := random(dice)
		r.Sights = nil
		for _, s := range told.sights(dice, r, dice.IntN(api.MaxSights+1), 0) {
			more, e := glass.Add(r, s)
			if e != api.OK {
				t.Fatalf("%+v: Add(%v): %d", r, s, e)
			}
			r = more
		}
		if wrong, e := glass.Wrong(r); e != api.OK || len(wrong) > 0 {
			t.Fatalf("%+v: Wrong = %v %d", r, wrong, e)
		}
		within := func(n int, s api.Span, e api.Errno) {
			t.Helper()
			if e != api.OK || n < s.Lo || n > s.Hi {
				t.Fatalf("%+v: %+v: %d is not within %v: %d", r, told, n, s, e)
			}
		}
		among := func(n int, l []int, e api.Errno) {
			t.Helper()
			if e != api.OK || !slices.Contains(l, n) {
				t.Fatalf("%+v: %+v: %d is not among %v: %d", r, told, n, l, e)
			}
		}
		for sample, colour := range told.colours {
			s, e := glass.Colour(r, sample)
			within(colour, s, e)
			l, e := glass.Classes(r, sample)
			among(told.class(r, sample), l, e)
			s, e = glass.Duty(r, sample)
			within(r.Duties[told.class(r, sample)], s, e)
		}
		for pane, fade := range told.fades {
			l, e := glass.Fades(r, pane)
			among(fade, l, e)
		}
		years(r, func(pane, year int) {
			s, e := glass.Glass(r, pane, year)
			within(told.glass(r, pane, year), s, e)
		})
	}
}

// renumbered returns a row whose glass i was the glass glasses[i], and whose sample i was the sample of[i].
func renumbered(r api.Row, glasses, of ints) api.Row {
	c := api.Row{Steps: r.Steps, Duties: r.Duties}
	for _, pane := range glasses {
		c.Glasses = append(c.Glasses, r.Glasses[pane])
	}
	for _, sample := range of {
		c.Samples = append(c.Samples, r.Samples[sample])
	}
	for _, s := range r.Sights {
		c.Sights = append(c.Sights, sight(slices.Index(of, s.Sample), slices.Index(glasses, s.Glass), s.Year, s.Found))
	}
	return c
}

// P6.20: what does not say which of several glasses is the first one.
func TestRenumbered(t *testing.T) {
	samples(500, 13, false, func(r api.Row, all []truth, dice *rand.Rand) {
		glasses, of := dice.Perm(len(r.Glasses)), dice.Perm(len(r.Samples))
		other := renumbered(r, glasses, of)
		now := asked{dice.IntN(len(of)), dice.IntN(len(of)), dice.IntN(len(r.Duties)), dice.IntN(len(glasses)), dice.IntN(len(glasses)), dice.IntN(12), api.Sight{}}
		a := now
		a.sample, a.other, a.glass, a.second = of[now.sample], of[now.other], glasses[now.glass], glasses[now.second]
		a.sight = sight(a.sample, a.glass, r.Glasses[a.glass].Made+dice.IntN(5), dice.IntN(3))
		now.sight = sight(now.sample, now.glass, a.sight.Year, a.sight.Found)
		was, is := answers(r, a), answers(other, now)
		for i, x := range was {
			y := is[i]
			switch x.name {
			case "Add":
				if x.e == api.OK && !sameRow(renumbered(x.results[0].(api.Row), glasses, of), y.results[0].(api.Row)) {
					t.Fatalf("%+v: %v, renumbered %v %v: %v", r, x.results, glasses, of, y.results)
				}
				x.results, y.results = nil, nil
			case "Keep":
				// As many glasses, but of several lists another one can be the first; it settles the class, too.
				old, list := x.results[0].(ints), y.results[0].(ints)
				var theirs ints
				for _, pane := range list {
					theirs = append(theirs, glasses[pane])
				}
				if len(old) != len(list) || x.e == api.OK && !settles(r, all, a.sample, a.year, theirs) {
					t.Fatalf("%+v: %v, renumbered %v %v: %v", r, old, glasses, of, list)
				}
				x.results, y.results = nil, nil
			case "Next":
				x.results, y.results = x.results[1:], y.results[1:]
			}
			if x.e != y.e || !slices.EqualFunc(x.results, y.results, sameResult) {
				t.Fatalf("%+v: %s: %v %d, renumbered %v %v: %v %d", r, x.name, x.results, x.e, glasses, of, y.results, y.e)
			}
		}
	})
}

// All that the limits let be, of one sample, against the reference; of two samples, that there are as many truths as there must be.
func TestLimits(t *testing.T) {
	colours := ints{40, 33, 20, 7}
	for i, seen := range []sights{nil, {sight(0, 0, 5, api.Lighter), sight(0, 2, 4, api.Darker)}, {sight(0, 0, 10, api.Lighter), sight(0, 1, 9, api.Same), sight(0, 2, 1, api.Lighter), sight(0, 2, 5, api.Darker), sight(0, 3, 0, api.Darker), sight(0, 3, 60, api.Darker), sight(0, 1, 8, api.Lighter), sight(0, 0, 0, api.Lighter)}} {
		r := with(full(1, colours...), seen...)
		all := truths(r)
		if n, e := glass.Count(r); e != api.OK || n != len(all) || n == 0 {
			t.Error(i, n, e, len(all))
		}
		want := boundsOf(all, func(t truth) int { return t.colours[0] })
		if s, e := glass.Colour(r, 0); e != api.OK || s != want {
			t.Error(i, s, e, want)
		}
		for _, year := range []int{0, 1, 13, 60} {
			l, e := glass.Keep(r, 0, year)
			if want, due := keep(r, all, 0, year); e != due || !slices.Equal(l, want) {
				t.Error(i, year, l, e, want, due)
			}
			g, n, e := glass.Next(r, 0, year)
			if pane, left, due := next(r, all, 0, year); g != pane || n != left || e != due {
				t.Error(i, year, g, n, e, pane, left, due)
			}
		}
	}
	two := full(2, colours...)
	for i, x := range []struct {
		r    api.Row
		want int
	}{
		{two, 256 * 41 * 41},
		{with(two, sight(1, 0, 0, api.Same)), 256 * 41},
		{with(two, sight(1, 2, 0, api.Darker), sight(0, 2, 0, api.Lighter)), 256 * 20 * 20},
		{with(two, sight(1, 3, 60, api.Same)), 64 * 41 * 4},
	} {
		if n, e := glass.Count(x.r); e != api.OK || n != x.want {
			t.Error(i, n, e)
		}
	}
	if v, e := glass.Alike(two, 0, 1); e != api.OK || v != api.Open {
		t.Error(v, e)
	}
	if g, n, e := glass.Next(two, 1, 0); g != 2 || n != 256*41*20 || e != api.OK {
		t.Error(g, n, e)
	}
}

// randomChar returns char of which some can be cleared.
func randomChar(r *rand.Rand) api.Char {
	c := api.Char{Kiln: r.IntN(3)}
	for range 1 + r.IntN(api.MaxFilters) {
		power := 1 + r.IntN(api.MaxPower)
		c.Filters = append(c.Filters, api.Filter{Power: power, Gain: r.IntN(power + 1), Now: r.IntN(power + 1)})
	}
	for range 1 + r.IntN(3) {
		c.Days = append(c.Days, r.IntN(6))
	}
	return c
}

// T4: sugar that was cleared pays no more duty, if darker sugar pays no less. The sample 0 is the sugar of a day, the sample 1 what it is when the filters that run have cleared it.
func TestCleared(t *testing.T) {
	dice := rand.New(rand.NewPCG(14, 6))
	cheaper, seen := 0, 0
	for range 1500 {
		c := randomChar(dice)
		plan, _, e := char.Fewest(c)
		if e == api.ErrNothing {
			continue
		}
		strengths, _, f := char.Course(c, plan)
		if e != api.OK || f != api.OK {
			t.Fatalf("%+v: %d %d", c, e, f)
		}
		r, _ := random(dice)
		slices.Sort(r.Duties)
		day, cleared := dice.IntN(len(c.Days)), 0
		for filter, does := range plan[day] {
			if does == api.Run {
				cleared += strengths[day][filter] - strengths[day+1][filter]
			}
		}
		before := r.Samples[0]
		r.Samples, r.Sights = spans{before, span(max(0, before.Lo-cleared), max(0, before.Hi-cleared))}, nil
		was, e := glass.Duty(r, 0)
		is, f := glass.Duty(r, 1)
		if e != api.OK || f != api.OK || is.Lo > was.Lo || is.Hi > was.Hi {
			t.Fatalf("%+v: %d cleared: %v becomes %v: %d %d", r, cleared, was, is, e, f)
		}
		if is != was {
			cheaper++
		}
		// So it is with what is seen of both, as far as it is sure.
		all := slices.DeleteFunc(guesses(r), func(t truth) bool { return t.colours[1] != max(0, t.colours[0]-cleared) })
		told := all[dice.IntN(len(all))]
		r.Sights = told.sights(dice, r, api.MaxSights, 0)
		was, e = glass.Duty(r, 0)
		is, f = glass.Duty(r, 1)
		if e != api.OK || f != api.OK || is.Lo > was.Hi {
			t.Fatalf("%+v: %d cleared: %v becomes %v: %d %d", r, cleared, was, is, e, f)
		}
		if is.Hi < was.Lo {
			seen++
		}
	}
	if cheaper < 200 || seen < 100 {
		t.Error(cheaper, seen)
	}
}

// P1, R3, R5 and R7: whatever the arguments are.
func TestAnyArguments(t *testing.T) {
	dice := rand.New(rand.NewPCG(15, 6))
	odd := func() int {
		switch dice.IntN(9) {
		case 0:
			return math.MaxInt
		case 1:
			return math.MinInt
		case 2:
			return -1
		}
		return dice.IntN(5)
	}
	oddly := func() (list ints) {
		for range dice.IntN(5) {
			list = append(list, odd())
		}
		return list
	}
	right := 0
	for range 6000 {
		r := api.Row{Steps: oddly(), Duties: oddly()}
		for range dice.IntN(6) {
			r.Glasses = append(r.Glasses, pane(odd(), odd(), odd(), odd()))
		}
		for range dice.IntN(4) {
			r.Samples = append(r.Samples, span(odd(), odd()))
		}
		if dice.IntN(3) == 0 {
			r = exampleH()
		}
		for range dice.IntN(9) {
			r.Sights = append(r.Sights, sight(odd(), odd(), odd(), odd()))
		}
		a := asked{odd(), odd(), odd(), odd(), odd(), odd(), sight(odd(), odd(), odd(), odd())}
		errs, clean := failures(answers(r, a))
		e := glass.Check(r)
		for name, f := range errs {
			if !clean || e != api.OK && f != e {
				t.Fatalf("%+v, %+v: %s: %d, Check %d, clean %t", r, a, name, f, e, clean)
			}
		}
		if e == api.OK {
			right++
		}
	}
	if right < 100 {
		t.Error(right)
	}
}

// R2, R4 and R6: no call changes an argument, nor memory behind it, and all calls of the same say the same, side by side too.
func TestNothingKept(t *testing.T) {
	samples(150, 16, false, func(r api.Row, _ []truth, dice *rand.Rand) {
		// There is room behind the lists, in which something stands.
		r.Glasses = append(slices.Clone(r.Glasses), pane(7, 7, 7, 7))[:len(r.Glasses)]
		r.Steps = append(slices.Clone(r.Steps), 77)[:len(r.Steps)]
		r.Duties = append(slices.Clone(r.Duties), 77)[:len(r.Duties)]
		r.Samples = append(slices.Clone(r.Samples), span(7, 7))[:len(r.Samples)]
		r.Sights = append(slices.Clone(r.Sights), sight(7, 7, 7, 7))[:len(r.Sights)]
		whole := func() api.Row {
			return copied(api.Row{Glasses: r.Glasses[:len(r.Glasses)+1], Steps: r.Steps[:len(r.Steps)+1], Duties: r.Duties[:len(r.Duties)+1], Samples: r.Samples[:len(r.Samples)+1], Sights: r.Sights[:len(r.Sights)+1]})
		}
		a := asked{dice.IntN(len(r.Samples)), 0, dice.IntN(len(r.Duties)), dice.IntN(len(r.Glasses)), 0, dice.IntN(14), sight(0, 0, 8, dice.IntN(3))}
		before, want := whole(), answers(r, a)
		var calls sync.WaitGroup
		for range 4 {
			calls.Go(func() {
				if got := answers(r, a); !reflect.DeepEqual(got, want) {
					t.Errorf("%+v: %v, then %v", r, want, got)
				}
			})
		}
		calls.Wait()
		if after := whole(); !sameRow(before, after) {
			t.Fatalf("%+v became %+v", before, after)
		}
	})
	// Nil and empty lists mean the same.
	none, empty := clearRow(9, 21, 10, 20), clearRow(9, 21, 10, 20)
	empty.Sights = sights{}
	got, _ := failures(answers(empty, asked{}))
	want, _ := failures(answers(none, asked{}))
	if !maps.Equal(got, want) {
		t.Error(got, want)
	}
	for i, r := range []api.Row{{}, {Glasses: panes{}}, {Glasses: panes{pane(0, 0, 0, 0)}, Steps: ints{}, Duties: ints{}}, {Glasses: panes{pane(0, 0, 0, 0)}, Steps: ints{1}, Duties: ints{1, 2}, Samples: spans{}}} {
		if e := glass.Check(r); e != api.ErrShortage {
			t.Error(i, e)
		}
	}
	// A result is new memory.
	r := exampleG()
	more, _ := glass.Add(r, sight(1, 1, 1, api.Lighter))
	more.Glasses[0], more.Steps[0], more.Duties[0], more.Samples[0], more.Sights[0] = pane(9, 9, 1, 1), 1, 1, span(4, 4), sight(1, 1, 1, 1)
	if !sameRow(r, exampleG()) {
		t.Error("a result is shared:", r)
	}
}
