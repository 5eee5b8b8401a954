package glass_test

import (
	"math/rand/v2"
	"slices"

	"muscovado/api"
)

// The reference goes through all truths, one by one, as the chapter's terms are worded, and knows nothing of how package glass works.

type (
	ints   = []int
	spans  = []api.Span
	panes  = []api.Glass
	sights = []api.Sight
)

func span(lo, hi int) api.Span {
	return api.Span{Lo: lo, Hi: hi}
}

func pane(made, colour, lo, hi int) api.Glass {
	return api.Glass{Made: made, Colour: colour, Fade: span(lo, hi)}
}

func sight(sample, glass, year, found int) api.Sight {
	return api.Sight{Sample: sample, Glass: glass, Year: year, Found: found}
}

// The examples G, H and W of the chapter, with sights more.
func exampleG(more ...api.Sight) api.Row {
	return api.Row{
		Glasses: panes{pane(0, 20, 0, 1), pane(0, 30, 1, 2), pane(5, 12, 0, 0)},
		Steps:   ints{10, 18},
		Duties:  ints{3, 5, 8},
		Samples: spans{span(8, 24), span(5, 15)},
		Sights:  slices.Concat(sights{sight(0, 0, 4, api.Lighter), sight(0, 2, 5, api.Darker)}, more),
	}
}

func exampleH() api.Row {
	return but(exampleG(), func(r *api.Row) { r.Glasses = append(r.Glasses, pane(5, 18, 0, 0)) })
}

func exampleW() api.Row {
	return exampleG(sight(0, 2, 6, api.Lighter))
}

// clearRow is a row of one sample, whose colour is within a span, and of glasses that do not fade.
func clearRow(lo, hi int, colours ...int) api.Row {
	r := api.Row{Steps: ints{10, 20}, Duties: ints{9, 1, 5}, Samples: spans{span(lo, hi)}}
	for _, colour := range colours {
		r.Glasses = append(r.Glasses, pane(0, colour, 0, 0))
	}
	return r
}

// exampleGap is a row whose sample is as dark as a glass that can have faded to 17 or 20, and as another one that can be of the colours in between, too.
func exampleGap() api.Row {
	return api.Row{
		Glasses: panes{pane(0, 20, 0, 3), pane(0, 20, 0, 1)},
		Steps:   ints{18, 20},
		Duties:  ints{5, 9, 7},
		Samples: spans{span(0, api.MaxColour)},
		Sights:  sights{sight(0, 0, 1, api.Same), sight(0, 1, 3, api.Same)},
	}
}

// full is a row of which nothing is known: all spans are as wide as they may be.
func full(samples int, colours ...int) api.Row {
	r := api.Row{Steps: ints{10, 20, 30}, Duties: ints{0, 30, 60, 99}}
	r.Samples = slices.Repeat(spans{span(0, api.MaxColour)}, samples)
	for _, colour := range colours {
		r.Glasses = append(r.Glasses, pane(0, colour, 0, api.MaxFade))
	}
	return r
}

// but returns a row with a change, in memory of its own.
func but(r api.Row, change func(r *api.Row)) api.Row {
	r = copied(r)
	change(&r)
	return r
}

func copied(r api.Row) api.Row {
	return api.Row{Glasses: slices.Clone(r.Glasses), Steps: slices.Clone(r.Steps), Duties: slices.Clone(r.Duties), Samples: slices.Clone(r.Samples), Sights: slices.Clone(r.Sights)}
}

// with returns a row with sights more; without one without the sights with these numbers.
func with(r api.Row, more ...api.Sight) api.Row {
	r.Sights = slices.Concat(r.Sights, more)
	return r
}

func without(r api.Row, numbers ...int) api.Row {
	var left sights
	for i, s := range r.Sights {
		if !slices.Contains(numbers, i) {
			left = append(left, s)
		}
	}
	r.Sights = left
	return r
}

// truth is a colour of each sample, and a fade of each glass.
type truth struct{ colours, fades []int }

// glass returns the colour of a glass, which fades year by year.
func (t truth) glass(r api.Row, glass, year int) int {
	g := r.Glasses[glass]
	colour := g.Colour
	for range year - g.Made {
		colour = max(0, colour-t.fades[glass])
	}
	return colour
}

// found returns what is found if a sample is held against a glass.
func (t truth) found(r api.Row, sample, glass, year int) int {
	a, b := t.colours[sample], t.glass(r, glass, year)
	if a > b {
		return api.Darker
	}
	if a < b {
		return api.Lighter
	}
	return api.Same
}

func (t truth) right(r api.Row, s api.Sight) bool {
	return t.found(r, s.Sample, s.Glass, s.Year) == s.Found
}

func (t truth) isTruth(r api.Row) bool {
	for _, s := range r.Sights {
		if !t.right(r, s) {
			return false
		}
	}
	return true
}

func (t truth) class(r api.Row, sample int) int {
	n := 0
	for _, step := range r.Steps {
		if step <= t.colours[sample] {
			n++
		}
	}
	return n
}

// choices calls look with each list of one number out of each span.
func choices(of spans, look func(ints)) {
	list := make(ints, len(of))
	var choose func(i int)
	choose = func(i int) {
		if i == len(list) {
			look(list)
			return
		}
		for list[i] = of[i].Lo; list[i] <= of[i].Hi; list[i]++ {
			choose(i + 1)
		}
	}
	choose(0)
}

// guesses returns all colours and fades, whether sights are right or not.
func guesses(r api.Row) []truth {
	var fades spans
	for _, g := range r.Glasses {
		fades = append(fades, g.Fade)
	}
	var all []truth
	choices(fades, func(fades ints) {
		fades = slices.Clone(fades)
		choices(r.Samples, func(colours ints) { all = append(all, truth{slices.Clone(colours), fades}) })
	})
	return all
}

func truths(r api.Row) []truth {
	return slices.DeleteFunc(guesses(r), func(t truth) bool { return !t.isTruth(r) })
}

// lists returns all ascending lists of some numbers, which ascend, in the order in which the fewest is looked for: the shorter ones first, then by their first difference.
func lists(of ints) []ints {
	all := []ints{{}}
	for from := 0; from < len(all); from++ {
		for _, n := range of {
			if l := all[from]; len(l) == 0 || n > l[len(l)-1] {
				all = append(all, slices.Concat(l, ints{n}))
			}
		}
	}
	return all
}

// numbers returns those from 0 to n-1.
func numbers(n int) (list ints) {
	for i := range n {
		list = append(list, i)
	}
	return list
}

// wrongBefore returns the first list without whose sights there is a truth.
func wrongBefore(r api.Row) ints {
	all := guesses(r)
	for _, list := range lists(numbers(len(r.Sights))) {
		left := without(r, list...)
		if slices.ContainsFunc(all, func(t truth) bool { return t.isTruth(left) }) {
			return list
		}
	}
	return nil
}

// boundsOf returns the least and the greatest of what is measured of each truth.
func boundsOf(all []truth, measure func(truth) int) api.Span {
	s := span(measure(all[0]), measure(all[0]))
	for _, t := range all {
		s.Lo, s.Hi = min(s.Lo, measure(t)), max(s.Hi, measure(t))
	}
	return s
}

// seenIn returns all that is measured of truths, ascending.
func seenIn(all []truth, measure func(truth) int) ints {
	var list ints
	for _, t := range all {
		list = append(list, measure(t))
	}
	slices.Sort(list)
	return slices.Compact(list)
}

// verdictOn returns whether something is so in all truths, in none, or in some.
func verdictOn(all []truth, so func(truth) bool) int {
	n := 0
	for _, t := range all {
		if so(t) {
			n++
		}
	}
	switch n {
	case 0:
		return api.No
	case len(all):
		return api.Yes
	}
	return api.Open
}

// made returns the glasses that there are in a year.
func made(r api.Row, year int) (list ints) {
	for glass, g := range r.Glasses {
		if g.Made <= year {
			list = append(list, glass)
		}
	}
	return list
}

// settles returns whether the class of a sample is sure whatever is found beside some glasses.
func settles(r api.Row, all []truth, sample, year int, glasses ints) bool {
	classes := map[string]int{}
	for _, t := range all {
		found := ""
		for _, glass := range glasses {
			found += string(rune('0' + t.found(r, sample, glass, year)))
		}
		class, some := classes[found]
		if some && class != t.class(r, sample) {
			return false
		}
		classes[found] = t.class(r, sample)
	}
	return true
}

// keep returns the first list of glasses that settle the class.
func keep(r api.Row, all []truth, sample, year int) (ints, api.Errno) {
	for _, glasses := range lists(made(r, year)) {
		if settles(r, all, sample, year, glasses) {
			return glasses, api.OK
		}
	}
	return nil, api.ErrNothing
}

// tally returns how many truths are left by each finding.
func tally(r api.Row, all []truth, sample, glass, year int) (n [3]int) {
	for _, t := range all {
		n[t.found(r, sample, glass, year)]++
	}
	return n
}

// next returns the first glass beside which the fewest truths are left at worst.
func next(r api.Row, all []truth, sample, year int) (glass, left int, e api.Errno) {
	glass, left, e = 0, len(all), api.ErrNothing
	for _, g := range made(r, year) {
		n := tally(r, all, sample, g, year)
		if most := slices.Max(n[:]); most < left {
			glass, left, e = g, most, api.OK
		}
	}
	if e != api.OK {
		return 0, 0, e
	}
	return glass, left, e
}

// random returns a small row, and the colours and fades by which most of its sights are right.
func random(dice *rand.Rand) (api.Row, truth) {
	var r api.Row
	low, wide := dice.IntN(28), dice.IntN(3)
	near := func() int { return low + dice.IntN(10) }
	for range 1 + dice.IntN(api.MaxDutySteps) {
		r.Steps = append(r.Steps, max(1, near()))
	}
	slices.Sort(r.Steps)
	r.Steps = slices.Compact(r.Steps)
	for range len(r.Steps) + 1 {
		r.Duties = append(r.Duties, dice.IntN(api.MaxDuty+1))
	}
	for range 1 + dice.IntN(api.MaxGlasses) {
		g := pane(dice.IntN(5), near(), 0, 0)
		switch dice.IntN(3) {
		case 0:
			// As dark as the first colour of a duty, or a little less.
			g.Colour = r.Steps[dice.IntN(len(r.Steps))] - dice.IntN(2)
		case 1:
			g.Fade.Lo = dice.IntN(2)
			fallthrough
		case 2:
			g.Colour += dice.IntN(3)
			g.Fade.Hi = min(api.MaxFade, g.Fade.Lo+dice.IntN(2+wide))
		}
		r.Glasses = append(r.Glasses, g)
	}
	for range 1 + dice.IntN(api.MaxSamples) {
		lo := low + dice.IntN(6)
		r.Samples = append(r.Samples, span(lo, lo+dice.IntN(7+wide)))
	}
	all := guesses(r)
	told := all[dice.IntN(len(all))]
	r.Sights = told.sights(dice, r, dice.IntN(6), 12)
	return r, told
}

// telling returns a row whose glasses tell classes of the sample from each other, most of them without fading, and in which nothing was seen.
func telling(dice *rand.Rand) api.Row {
	low := dice.IntN(28)
	r := clearRow(low, low+11)
	r.Steps = nil
	for range 1 + dice.IntN(api.MaxDutySteps) {
		r.Steps = append(r.Steps, low+1+dice.IntN(11))
	}
	slices.Sort(r.Steps)
	r.Steps = slices.Compact(r.Steps)
	r.Duties = make(ints, len(r.Steps)+1)
	for range 1 + dice.IntN(api.MaxGlasses) {
		r.Glasses = append(r.Glasses, pane(dice.IntN(4), r.Steps[dice.IntN(len(r.Steps))]-dice.IntN(2), 0, dice.IntN(8)/7))
	}
	return r
}

// sights returns some that are right, but for about one of so many; none of them if odds is 0.
func (t truth) sights(dice *rand.Rand, row api.Row, n, odds int) sights {
	var list sights
	for range n {
		s := sight(dice.IntN(len(row.Samples)), dice.IntN(len(row.Glasses)), 0, 0)
		s.Year = row.Glasses[s.Glass].Made + dice.IntN(5)
		s.Found = t.found(row, s.Sample, s.Glass, s.Year)
		if odds > 0 && dice.IntN(odds) == 0 {
			s.Found = dice.IntN(3)
		}
		list = append(list, s)
	}
	return list
}

// samples calls look with many small rows; with those that have a truth only, if true is asked for.
func samples(n int, seed uint64, truth bool, look func(r api.Row, all []truth, dice *rand.Rand)) {
	dice := rand.New(rand.NewPCG(seed, 6))
	for n > 0 {
		row, _ := random(dice)
		if all := truths(row); !truth || len(all) > 0 {
			look(row, all, dice)
			n--
		}
	}
}
