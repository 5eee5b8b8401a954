package char_test

import (
	"math"
	"math/rand/v2"
	"slices"

	"muscovado/api"
)

// The reference goes through all plans as the chapter's terms are worded, and knows nothing of how package char works.

type (
	ints    = []int
	rows    = [][]int
	filters = []api.Filter
)

func filter(power, gain, now int) api.Filter {
	return api.Filter{Power: power, Gain: gain, Now: now}
}

func worn(power, gain, now int) api.Filter {
	return api.Filter{Power: power, Gain: gain, Now: now, Washed: true}
}

// The examples S, U and T of the chapter, and its plan P.
func exampleS() api.Char {
	return api.Char{Filters: filters{filter(3, 1, 3), filter(2, 1, 1)}, Kiln: 1, Days: ints{3, 2, 3}}
}

func exampleU() api.Char {
	c := exampleS()
	c.Kiln = 0
	return c
}

func exampleT() api.Char {
	return api.Char{Filters: filters{filter(2, 1, 1), filter(2, 1, 1)}, Kiln: 1, Days: ints{1, 1}}
}

func exampleP() rows {
	return rows{{0, 2}, {3, 0}, {0, 0}}
}

// but returns char with a change, and nothing else.
func but(c api.Char, change func(c *api.Char)) api.Char {
	c.Filters, c.Days = slices.Clone(c.Filters), slices.Clone(c.Days)
	change(&c)
	return c
}

func withDays(c api.Char, days ...int) api.Char {
	return but(c, func(c *api.Char) { c.Days = days })
}

func withSugar(c api.Char, day, sugar int) api.Char {
	return but(c, func(c *api.Char) { c.Days[day] = sugar })
}

func withKiln(c api.Char, kiln int) api.Char {
	return but(c, func(c *api.Char) { c.Kiln = kiln })
}

func withFilter(c api.Char, f api.Filter) api.Char {
	return but(c, func(c *api.Char) { c.Filters = append(c.Filters, f) })
}

func withoutFilter(c api.Char, filter int) api.Char {
	return but(c, func(c *api.Char) { c.Filters = slices.Delete(c.Filters, filter, filter+1) })
}

// condition is how a filter is on a morning.
type condition struct {
	strength int
	washed   bool
}

func conditions(c api.Char) []condition {
	var list []condition
	for _, f := range c.Filters {
		list = append(list, condition{f.Now, f.Washed})
	}
	return list
}

func strengthsOf(list []condition) ints {
	var all ints
	for _, x := range list {
		all = append(all, x.strength)
	}
	return all
}

func sum(list ints) int {
	all := 0
	for _, n := range list {
		all += n
	}
	return all
}

// worked returns the conditions after a day, or why it is not right.
func worked(c api.Char, before []condition, sugar int, jobs ints) ([]condition, api.Errno) {
	burned := 0
	for i, job := range jobs {
		if job == api.Wash && before[i].washed {
			return nil, api.ErrBarred
		}
		if job == api.Burn {
			burned++
		}
	}
	if burned > c.Kiln {
		return nil, api.ErrExcess
	}
	after := slices.Clone(before)
	for i, job := range jobs {
		f, x := c.Filters[i], &after[i]
		switch job {
		case api.Run:
			for sugar > 0 && x.strength > 0 {
				sugar, x.strength = sugar-1, x.strength-1
			}
		case api.Wash:
			x.washed = true
			for n := 0; n < f.Gain && x.strength < f.Power; n++ {
				x.strength++
			}
		case api.Burn:
			*x = condition{f.Power, false}
		}
	}
	if sugar > 0 {
		return nil, api.ErrConflict
	}
	return after, api.OK
}

// followed returns the conditions on all mornings of a plan, and its fires and washings, or its first error.
func followed(c api.Char, plan rows) (all [][]condition, fires, washings int, e api.Errno) {
	size := func(n, want int) api.Errno {
		switch {
		case n < want:
			return api.ErrShortage
		case n > want:
			return api.ErrExcess
		}
		return api.OK
	}
	if e = size(len(plan), len(c.Days)); e != api.OK {
		return nil, 0, 0, e
	}
	all = append(all, conditions(c))
	for day, jobs := range plan {
		if e = size(len(jobs), len(c.Filters)); e != api.OK {
			return nil, 0, 0, e
		}
		for _, job := range jobs {
			if job != api.Run && job != api.Rest && job != api.Wash && job != api.Burn {
				return nil, 0, 0, api.ErrSort
			}
		}
		after, e := worked(c, all[day], c.Days[day], jobs)
		if e != api.OK {
			return nil, 0, 0, e
		}
		all = append(all, after)
		fires += fire(jobs)
		washings += washed(jobs)
	}
	return all, fires, washings, api.OK
}

// fire returns 1 for a day that is one, otherwise 0.
func fire(jobs ints) int {
	if slices.Contains(jobs, api.Burn) {
		return 1
	}
	return 0
}

func washed(jobs ints) int {
	n := 0
	for _, job := range jobs {
		if job == api.Wash {
			n++
		}
	}
	return n
}

// lists returns all lists of what so many filters can do, in lexicographic order.
func lists(filters int) rows {
	all := rows{{}}
	for range filters {
		var longer rows
		for _, list := range all {
			for _, job := range []int{api.Run, api.Rest, api.Wash, api.Burn} {
				longer = append(longer, slices.Concat(list, ints{job}))
			}
		}
		all = longer
	}
	return all
}

// history is a valid plan for some days, and what comes of it.
type history struct {
	plan            rows
	fires, washings int
	last            []condition
}

// walked returns, for each morning, all valid plans for the days before it, in lexicographic order; false if they are too many.
func walked(c api.Char) ([][]history, bool) {
	all := [][]history{{{last: conditions(c)}}}
	jobs := lists(len(c.Filters))
	for _, sugar := range c.Days {
		var longer []history
		for _, h := range all[len(all)-1] {
			for _, list := range jobs {
				last, e := worked(c, h.last, sugar, list)
				if e == api.OK {
					longer = append(longer, history{append(slices.Clone(h.plan), list), h.fires + fire(list), h.washings + washed(list), last})
				}
			}
			if len(longer) > 8000 {
				return nil, false
			}
		}
		all = append(all, longer)
	}
	return all, true
}

// exists returns whether there is a valid plan.
func exists(c api.Char) bool {
	found := false
	try(c, func(int) bool { return !found }, func(int) { found = true })
	return found
}

// leastFires returns how many fires a valid plan has at least; math.MaxInt if there is none.
func leastFires(c api.Char) int {
	least := math.MaxInt
	try(c, func(fires int) bool { return fires < least }, func(fires int) { least = fires })
	return least
}

// try calls look with the fires of all valid plans, but for those that begin so that they need not be looked at.
func try(c api.Char, need func(fires int) bool, look func(fires int)) {
	jobs := lists(len(c.Filters))
	var from func(day, fires int, now []condition)
	from = func(day, fires int, now []condition) {
		if day == len(c.Days) {
			look(fires)
			return
		}
		for _, list := range jobs {
			if fires := fires + fire(list); need(fires) {
				if next, e := worked(c, now, c.Days[day], list); e == api.OK {
					from(day+1, fires, next)
				}
			}
		}
	}
	from(0, 0, conditions(c))
}

// fewest returns the best plan of some that are in lexicographic order.
func fewest(all []history) (least history, some bool) {
	for _, h := range all {
		if !some || h.fires < least.fires || h.fires == least.fires && h.washings < least.washings {
			least, some = h, true
		}
	}
	return least, some
}

func greatest(all []history) int {
	most := 0
	for _, h := range all {
		most = max(most, sum(strengthsOf(h.last)))
	}
	return most
}

// repeats returns whether a plan that ends so can be repeated.
func repeats(c api.Char, last []condition) bool {
	for i, f := range c.Filters {
		if last[i].strength < f.Now || last[i].washed && !f.Washed {
			return false
		}
	}
	return true
}

// repeated returns those of some plans that can be repeated.
func repeated(c api.Char, all []history) []history {
	return slices.DeleteFunc(slices.Clone(all), func(h history) bool { return !repeats(c, h.last) })
}

// verdict returns whether a filter is burned on a day in all plans with the fewest fires.
func verdict(all []history, filter, day int) int {
	least, _ := fewest(all)
	burned, other := false, false
	for _, h := range all {
		if h.fires == least.fires {
			burns := h.plan[day][filter] == api.Burn
			burned, other = burned || burns, other || !burns
		}
	}
	switch {
	case burned && other:
		return api.Open
	case burned:
		return api.Yes
	}
	return api.No
}

func randomFilter(r *rand.Rand) api.Filter {
	power := 1 + r.IntN(api.MaxPower)
	return api.Filter{Power: power, Gain: r.IntN(power + 1), Now: r.IntN(power + 1), Washed: r.IntN(3) == 0}
}

// randomChar returns char with so many filters and days, whose sugar is such that it often just can be cleared.
func randomChar(r *rand.Rand, filters, days int) api.Char {
	c := api.Char{Kiln: r.IntN(filters + 1)}
	powers := 0
	for range filters {
		c.Filters = append(c.Filters, randomFilter(r))
		powers += c.Filters[len(c.Filters)-1].Power
	}
	heavy := 1 + r.IntN(powers)
	for range days {
		c.Days = append(c.Days, r.IntN(heavy+1))
	}
	return c
}

// samples calls look with many chars that have not many plans.
func samples(n int, seed uint64, look func(c api.Char, r *rand.Rand)) {
	r := rand.New(rand.NewPCG(seed, 4))
	sizes := [][2]int{{1, 1}, {1, 2}, {1, 3}, {1, 4}, {2, 1}, {2, 2}, {2, 3}, {2, 3}, {3, 1}, {3, 2}}
	for range n {
		size := sizes[r.IntN(len(sizes))]
		look(randomChar(r, size[0], size[1]), r)
	}
}

// largeSamples calls look with chars that are as large as they may be.
func largeSamples(n int, seed uint64, look func(c api.Char, r *rand.Rand)) {
	r := rand.New(rand.NewPCG(seed, 5))
	for range n {
		look(randomChar(r, api.MaxFilters, api.MaxCharDays), r)
	}
}

// randomPlan returns a list of lists that is often a valid plan, and otherwise often up to some day.
func randomPlan(r *rand.Rand, c api.Char) rows {
	var plan rows
	now, jobs := conditions(c), lists(len(c.Filters))
	for _, sugar := range c.Days {
		list := jobs[r.IntN(len(jobs))]
		for range 20 {
			if next, e := worked(c, now, sugar, list); e == api.OK {
				now = next
				break
			}
			list = jobs[r.IntN(len(jobs))]
		}
		plan = append(plan, slices.Clone(list))
	}
	if r.IntN(4) > 0 {
		return plan
	}
	day := r.IntN(len(plan))
	switch r.IntN(5) {
	case 0:
		plan = plan[:day]
	case 1:
		plan = append(plan, ints{})
	case 2:
		plan[day] = plan[day][1:]
	case 3:
		plan[day] = append(plan[day], api.Rest)
	default:
		plan[day][r.IntN(len(plan[day]))] = r.IntN(2)*5 - 1
	}
	return plan
}
