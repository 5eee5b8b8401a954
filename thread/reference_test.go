package thread_test

import (
	"math/rand/v2"
	"slices"

	"muscovado/api"
)

// The reference goes through all runs, tick by tick, as the chapter's terms are worded, and knows nothing of how package thread works.

type ints = []int

func span(lo, hi int) api.Span {
	return api.Span{Lo: lo, Hi: hi}
}

func proof(pan, tick, thread int) api.Proof {
	return api.Proof{Pan: pan, Tick: tick, Thread: thread}
}

// examples are S, T, W, U and V of the chapter.
func exampleS(more ...api.Proof) api.Boil {
	return api.Boil{
		Starts: []api.Span{span(4, 6), span(8, 8)},
		Rates:  ints{1, 2},
		Marks:  ints{8, 12, 16},
		Heats:  []api.Span{span(1, 2), span(2, 2), span(1, 3)},
		Proofs: slices.Concat([]api.Proof{proof(0, 2, api.Short)}, more),
	}
}

func exampleT() api.Boil {
	return exampleS(proof(1, 1, api.Short))
}

func exampleW() api.Boil {
	return exampleS(proof(0, 0, api.Long))
}

func exampleU() api.Boil {
	return steady(2, 12, 10)
}

func exampleV() api.Boil {
	return steady(2, 10, 10)
}

// steady is a boil in which all is known: the heat is 1 in each tick, and each pan has the rate 1.
func steady(ticks int, starts ...int) api.Boil {
	b := api.Boil{Marks: ints{8, 12, 16}, Heats: slices.Repeat([]api.Span{span(1, 1)}, ticks)}
	for _, n := range starts {
		b.Starts, b.Rates = append(b.Starts, span(n, n)), append(b.Rates, 1)
	}
	return b
}

// full is a boil in which nothing is known: all spans are as wide as they may be.
func full(pans int, proofs ...api.Proof) api.Boil {
	return api.Boil{
		Starts: slices.Repeat([]api.Span{span(0, api.MaxThick)}, pans),
		Rates:  slices.Repeat(ints{api.MaxBoilRate}, pans),
		Marks:  ints{20, 40, 60},
		Heats:  slices.Repeat([]api.Span{span(0, api.MaxHeat)}, api.MaxTicks),
		Proofs: proofs,
	}
}

// with returns a boil with proofs more, in memory of their own; only one with these proofs alone.
func with(b api.Boil, more ...api.Proof) api.Boil {
	b.Proofs = slices.Concat(b.Proofs, more)
	return b
}

func only(b api.Boil, proofs ...api.Proof) api.Boil {
	b.Proofs = proofs
	return b
}

// run is how thick each pan is at each time, and the heat of each tick.
type run struct {
	thick [][]int
	heats []int
}

func (r run) thread(b api.Boil, pan, time int) int {
	n := 0
	for _, mark := range b.Marks {
		if r.thick[time][pan] >= mark {
			n++
		}
	}
	return n
}

func (r run) right(b api.Boil, p api.Proof) bool {
	return r.thread(b, p.Pan, p.Tick) == p.Thread
}

func (r run) isTruth(b api.Boil) bool {
	for _, p := range b.Proofs {
		if !r.right(b, p) {
			return false
		}
	}
	return true
}

func (r run) burns(b api.Boil) bool {
	for time := range r.thick {
		for pan := range b.Starts {
			if r.thread(b, pan, time) == api.Burnt {
				return true
			}
		}
	}
	return false
}

// boiled is the run with these thicknesses and heats.
func boiled(b api.Boil, starts, heats []int) run {
	r := run{[][]int{slices.Clone(starts)}, slices.Clone(heats)}
	for tick, heat := range heats {
		next := slices.Clone(r.thick[tick])
		for pan := range next {
			next[pan] += b.Rates[pan] * heat
		}
		r.thick = append(r.thick, next)
	}
	return r
}

// choices calls look with each list of one number out of each span.
func choices(spans []api.Span, look func([]int)) {
	list := make([]int, len(spans))
	var choose func(i int)
	choose = func(i int) {
		if i == len(list) {
			look(list)
			return
		}
		for list[i] = spans[i].Lo; list[i] <= spans[i].Hi; list[i]++ {
			choose(i + 1)
		}
	}
	choose(0)
}

func runs(b api.Boil) []run {
	var all []run
	choices(b.Starts, func(starts []int) {
		choices(b.Heats, func(heats []int) { all = append(all, boiled(b, starts, heats)) })
	})
	return all
}

func truths(b api.Boil) []run {
	return slices.DeleteFunc(runs(b), func(r run) bool { return !r.isTruth(b) })
}

// lists returns all ascending lists of numbers from lo to hi-1, in the order in which the fewest is looked for: the shorter ones first, then by their first difference.
func lists(lo, hi int) [][]int {
	all := [][]int{{}}
	for from := 0; from < len(all); from++ {
		next := lo
		if n := len(all[from]); n > 0 {
			next = all[from][n-1] + 1
		}
		for ; next < hi; next++ {
			all = append(all, slices.Concat(all[from], ints{next}))
		}
	}
	return all
}

// without returns a boil without the proofs with these numbers.
func without(b api.Boil, numbers []int) api.Boil {
	var left []api.Proof
	for i, p := range b.Proofs {
		if !slices.Contains(numbers, i) {
			left = append(left, p)
		}
	}
	return only(b, left...)
}

// wrongBefore returns the first list without whose proofs there is a truth.
func wrongBefore(b api.Boil) []int {
	all := runs(b)
	for _, list := range lists(0, len(b.Proofs)) {
		left := without(b, list)
		if slices.ContainsFunc(all, func(r run) bool { return r.isTruth(left) }) {
			return list
		}
	}
	return nil
}

// bounds returns the least and the greatest of what is measured of each truth.
func bounds(all []run, measure func(run) int) api.Span {
	s := span(measure(all[0]), measure(all[0]))
	for _, r := range all {
		s.Lo, s.Hi = min(s.Lo, measure(r)), max(s.Hi, measure(r))
	}
	return s
}

// tally returns in how many truths a pan has each thread at a time.
func tally(b api.Boil, all []run, pan, time int) (n [4]int) {
	for _, r := range all {
		n[r.thread(b, pan, time)]++
	}
	return n
}

func verdict(some, all int) int {
	switch some {
	case 0:
		return api.No
	case all:
		return api.Yes
	}
	return api.Open
}

// strikes returns the times at which a pan is long in all truths.
func strikes(b api.Boil, all []run, pan int) []int {
	var times []int
	for time := range len(b.Heats) + 1 {
		if tally(b, all, pan, time)[api.Long] == len(all) {
			times = append(times, time)
		}
	}
	return times
}

// plans returns all lists of times, one of each list and no two the same, in lexicographic order.
func plans(strikes [][]int) [][]int {
	all := [][]int{{}}
	for _, times := range strikes {
		var longer [][]int
		for _, plan := range all {
			for _, time := range times {
				if !slices.Contains(plan, time) {
					longer = append(longer, slices.Concat(plan, ints{time}))
				}
			}
		}
		all = longer
	}
	return all
}

// lacking returns the first list of pans for which there are no times.
func lacking(strikes [][]int) []int {
	for _, pans := range lists(0, len(strikes)) {
		var theirs [][]int
		for _, pan := range pans {
			theirs = append(theirs, strikes[pan])
		}
		if len(plans(theirs)) == 0 {
			return pans
		}
	}
	return nil
}

// burning returns in how many of the runs, with no heat in some ticks, a pan burns.
func burning(b api.Boil, all []run, damped []int) int {
	n := 0
	for _, r := range all {
		heats := slices.Clone(r.heats)
		for _, tick := range damped {
			heats[tick] = 0
		}
		if boiled(b, r.thick[0], heats).burns(b) {
			n++
		}
	}
	return n
}

// damp returns the first list of ticks, from the given one on, with which no truth burns a pan.
func damp(b api.Boil, all []run, tick int) ([]int, bool) {
	for _, ticks := range lists(tick, len(b.Heats)) {
		if burning(b, all, ticks) == 0 {
			return ticks, true
		}
	}
	return nil, false
}

// random returns a small boil; most of its proofs are right in one run.
func random(r *rand.Rand) api.Boil {
	var b api.Boil
	low := r.IntN(30)
	wide := 1 + r.IntN(3)
	for range 1 + r.IntN(api.MaxBoilPans) {
		lo := max(0, low-3+r.IntN(7))
		b.Starts = append(b.Starts, span(lo, min(api.MaxThick, lo+r.IntN(wide))))
		b.Rates = append(b.Rates, 1+r.IntN(api.MaxBoilRate))
	}
	ticks := 1 + r.IntN(4)
	for range ticks {
		lo := r.IntN(3)
		b.Heats = append(b.Heats, span(lo, min(api.MaxHeat, lo+r.IntN(wide+1))))
	}
	mark := max(1, low-4+r.IntN(8))
	for range 3 {
		b.Marks = append(b.Marks, mark)
		mark += 1 + r.IntN(2*ticks+3)
	}
	return with(b, near(r, b, r.IntN(6))...)
}

// near returns proofs, most of which are right in one run of the boil.
func near(r *rand.Rand, b api.Boil, n int) []api.Proof {
	all := runs(b)
	told := all[r.IntN(len(all))]
	var list []api.Proof
	for range n {
		p := proof(r.IntN(len(b.Starts)), r.IntN(len(b.Heats)+1), 0)
		p.Thread = told.thread(b, p.Pan, p.Tick)
		if r.IntN(12) == 0 {
			p.Thread = r.IntN(4)
		}
		list = append(list, p)
	}
	return list
}

// samples calls look with many small boils; with those that have a truth only, if true is asked for.
func samples(n int, seed uint64, truth bool, look func(b api.Boil, all []run)) {
	r := rand.New(rand.NewPCG(seed, 2))
	for n > 0 {
		b := random(r)
		if all := truths(b); !truth || len(all) > 0 {
			look(b, all)
			n--
		}
	}
}

// places calls look with each pan and each time of a boil.
func places(b api.Boil, look func(pan, time int)) {
	for pan := range b.Starts {
		for time := range len(b.Heats) + 1 {
			look(pan, time)
		}
	}
}
