package fining_test

import (
	"math/bits"
	"math/rand/v2"
	"slices"

	"muscovado/api"
)

// The reference looks at melts fault by fault, and goes through ways and sets of agents, as the chapter's terms are worded. It knows nothing of how package fining works.

type (
	ints   = []int
	agents = []api.Agent
)

const allMelts = api.MaxMelt + 1

func of(needs, not, takes, leaves, cost int) api.Agent {
	return api.Agent{Needs: needs, Not: not, Takes: takes, Leaves: leaves, Cost: cost}
}

// The examples S and T of the chapter.
func exampleS() agents {
	return agents{of(1, 0, 1, 2, 1), of(2, 4, 2, 0, 2), of(4, 0, 4, 1, 1), of(6, 1, 6, 0, 5)}
}

func exampleT() agents {
	return append(exampleS()[:3], of(0, 0, 7, 8, 1))
}

// counter has so many agents that count a melt down: each takes its fault if there is no lesser one, and leaves all lesser ones. One way leads from each melt.
func counter(n int) (a agents) {
	for i := range n {
		fault := 1 << i
		a = append(a, of(fault, fault-1, fault, fault-1, 1))
	}
	return a
}

// but returns agents with a change, in memory of their own.
func but(a agents, change func(a agents)) agents {
	a = slices.Clone(a)
	change(a)
	return a
}

// with returns agents with one more.
func with(a agents, more api.Agent) agents {
	return append(slices.Clone(a), more)
}

// in returns whether a sum has a fault.
func in(sum, fault int) bool {
	return sum/fault%2 == 1
}

func may(a api.Agent, melt int) bool {
	for fault := 1; fault <= 32; fault *= 2 {
		if in(a.Needs, fault) && !in(melt, fault) || in(a.Not, fault) && in(melt, fault) {
			return false
		}
	}
	return true
}

func put(a api.Agent, melt int) (after int) {
	for fault := 1; fault <= 32; fault *= 2 {
		if in(a.Leaves, fault) || in(melt, fault) && !in(a.Takes, fault) {
			after += fault
		}
	}
	return after
}

func isClear(melt, pass int) bool {
	for fault := 1; fault <= 32; fault *= 2 {
		if in(melt, fault) && !in(pass, fault) {
			return false
		}
	}
	return true
}

// follow returns what a melt is after each agent of a list, and whether it is a way.
func follow(a agents, melt int, way ints) (after ints, is bool) {
	for _, n := range way {
		if !may(a[n], melt) {
			return nil, false
		}
		melt = put(a[n], melt)
		after = append(after, melt)
	}
	return after, true
}

// clears returns whether a list is a way that clears a melt.
func clears(a agents, melt, pass int, way ints) bool {
	after, is := follow(a, melt, way)
	return is && isClear(slices.Concat(ints{melt}, after)[len(after)], pass)
}

// numbers returns those from 0 to n-1 that are so.
func numbers(n int, so func(int) bool) (list ints) {
	for i := range n {
		if so(i) {
			list = append(list, i)
		}
	}
	return list
}

// lists returns all lists of so many agents, or fewer; each before all that come after it.
func lists(a agents, most int) []ints {
	all, last := []ints{nil}, []ints{nil}
	for range most {
		var longer []ints
		for _, l := range last {
			for n := range a {
				longer = append(longer, slices.Concat(l, ints{n}))
			}
		}
		all, last = append(all, longer...), longer
	}
	return all
}

// sets returns all sets of agents, each before all that come after it.
func sets(a agents) (all []ints) {
	for mask := range 1 << len(a) {
		all = append(all, numbers(len(a), func(n int) bool { return in(mask, 1<<n) }))
	}
	slices.SortFunc(all, before)
	return all
}

// before compares lists; a shorter one comes first.
func before(a, b ints) int {
	if len(a) != len(b) {
		return len(a) - len(b)
	}
	return slices.Compare(a, b)
}

// some returns the agents with these numbers.
func some(a agents, set ints) (list agents) {
	for _, n := range set {
		list = append(list, a[n])
	}
	return list
}

// reached returns whether a melt can become each one.
func reached(a agents, melt int) (is [allMelts]bool) {
	is[melt] = true
	for before := ([allMelts]bool{}); before != is; {
		before = is
		for m := range is {
			for _, x := range a {
				if is[m] && may(x, m) {
					is[put(x, m)] = true
				}
			}
		}
	}
	return is
}

// can returns whether some way clears a melt.
func can(a agents, melt, pass int) bool {
	for m, is := range reached(a, melt) {
		if is && isClear(m, pass) {
			return true
		}
	}
	return false
}

// ways says, by costs and melts, which lengths those ways have that clear the melt and cost as much: the bit n is for n agents. The least cost, and the least length, is that of a way that comes to no melt twice.
type ways [][allMelts]uint64

func waysOf(a agents, pass int) ways {
	most := 0
	for _, x := range a {
		most = max(most, x.Cost)
	}
	w := make(ways, most*api.MaxMelt+1)
	for melt := range allMelts {
		if isClear(melt, pass) {
			w[0][melt] = 1
		}
	}
	next := nexts(a)
	for cost := range w {
		for melt := range allMelts {
			for n, x := range a {
				if after := next[melt][n]; after >= 0 && x.Cost <= cost {
					w[cost][melt] |= w[cost-x.Cost][after] << 1
				}
			}
		}
	}
	return w
}

// nexts returns, by melts and agents, what becomes of the melt; less than 0 if the agent may not be put.
func nexts(a agents) (next [allMelts]ints) {
	for melt := range next {
		for _, x := range a {
			after := -1
			if may(x, melt) {
				after = put(x, melt)
			}
			next[melt] = append(next[melt], after)
		}
	}
	return next
}

// cheapest returns the first of the ways with the least cost, and this cost.
func (w ways) cheapest(a agents, melt int) (way ints, cost int, e api.Errno) {
	for cost < len(w) && w[cost][melt] == 0 {
		cost++
	}
	if cost == len(w) {
		return nil, 0, api.ErrNothing
	}
	left := cost
	for length := bits.TrailingZeros64(w[cost][melt]); length > 0; length-- {
		n := slices.IndexFunc(a, func(x api.Agent) bool {
			return x.Cost <= left && may(x, melt) && w[left-x.Cost][put(x, melt)]>>(length-1)%2 == 1
		})
		way, left, melt = append(way, n), left-a[n].Cost, put(a[n], melt)
	}
	return way, cost, api.OK
}

// equal returns the agents with the same cost for each.
func equal(a agents) agents {
	return but(a, func(a agents) {
		for n := range a {
			a[n].Cost = 1
		}
	})
}

// shortest returns the first way that clears a melt.
func shortest(a agents, melt, pass int) (ints, api.Errno) {
	way, _, e := waysOf(equal(a), pass).cheapest(equal(a), melt)
	return way, e
}

// needed returns the agents that are in all ways that clear a melt: it goes through all pairs of what the melt can be and the agents that were put until then.
func needed(a agents, melt, pass int) (ints, api.Errno) {
	type pair struct{ melt, used int }
	in := map[pair]bool{{melt, 0}: true}
	all, common, nothing := []pair{{melt, 0}}, 1<<len(a)-1, true
	for i := 0; i < len(all); i++ {
		p := all[i]
		if isClear(p.melt, pass) {
			common, nothing = common&p.used, false
		}
		for n, x := range a {
			if q := (pair{put(x, p.melt), p.used | 1<<n}); may(x, p.melt) && !in[q] {
				in[q], all = true, append(all, q)
			}
		}
	}
	if nothing {
		return nil, api.ErrNothing
	}
	return numbers(len(a), func(n int) bool { return common>>n%2 == 1 }), api.OK
}

func spoils(a agents, melt, pass int) (ints, api.Errno) {
	if !can(a, melt, pass) {
		return nil, api.ErrNothing
	}
	return numbers(len(a), func(n int) bool { return may(a[n], melt) && !can(a, put(a[n], melt), pass) }), api.OK
}

func hopeless(a agents, pass int) ints {
	return numbers(allMelts, func(melt int) bool { return !can(a, melt, pass) })
}

func farthest(a agents, pass int) (melt, puts int) {
	w := waysOf(equal(a), pass)
	for m := range allMelts {
		if way, _, _ := w.cheapest(equal(a), m); len(way) > puts {
			melt, puts = m, len(way)
		}
	}
	return melt, puts
}

func fewest(a agents, pass int) ints {
	without := hopeless(a, pass)
	for _, set := range sets(a) {
		if slices.Equal(hopeless(some(a, set), pass), without) {
			return set
		}
	}
	panic("all agents do what all agents do")
}

// clearsAll returns whether a list is a way from each of some melts, and clears each of them.
func clearsAll(a agents, melts ints, pass int, way ints) bool {
	return !slices.ContainsFunc(melts, func(melt int) bool { return !clears(a, melt, pass, way) })
}

func both(a agents, melts ints, pass int) (ints, api.Errno) {
	for _, way := range lists(a, api.MaxSteps) {
		if clearsAll(a, melts, pass, way) {
			return way, api.OK
		}
	}
	return nil, api.ErrNothing
}

// apart returns whether a list tells two melts apart.
func apart(a agents, x, y int, way ints) bool {
	if len(way) == 0 {
		return false
	}
	_, fromX := follow(a, x, way)
	_, fromY := follow(a, y, way)
	_, beforeX := follow(a, x, way[:len(way)-1])
	_, beforeY := follow(a, y, way[:len(way)-1])
	return fromX != fromY && beforeX && beforeY
}

func tells(a agents, x, y int) (ints, api.Errno) {
	for _, way := range lists(a, api.MaxSteps) {
		if apart(a, x, y, way) {
			return way, api.OK
		}
	}
	return nil, api.ErrNothing
}

// pick returns one of some numbers.
func pick(dice *rand.Rand, of ...int) int {
	return of[dice.IntN(len(of))]
}

// randomAgent returns a valid agent for some faults.
func randomAgent(dice *rand.Rand, of int) api.Agent {
	any := func() int { return dice.IntN(allMelts) & of }
	few := func() int { return any() & any() }
	one := func() int { return 1 << dice.IntN(bits.Len(uint(of))) }
	a := api.Agent{Cost: pick(dice, 1, 1, 2, 2, 3, 4, 5, 9)}
	switch dice.IntN(4) {
	case 0: // takes a fault, and leaves another one
		a.Needs, a.Not = one(), few()&few()
		a.Takes, a.Leaves = a.Needs, pick(dice, 0, one())
	case 1: // counts, if it is put where it may be
		a.Needs = one()
		a.Not, a.Takes, a.Leaves = pick(dice, 0, few(), a.Needs-1), a.Needs|few(), pick(dice, a.Needs-1, few())
	default:
		a.Needs, a.Not, a.Takes, a.Leaves = few(), few()&any(), any(), few()
	}
	a.Not &^= a.Needs
	return a
}

// random returns valid agents, and faults that are let pass; often only some faults matter, and sometimes the agents nearly count.
func random(dice *rand.Rand) (a agents, pass int) {
	of := pick(dice, 3, 7, 7, 15, 15, 31, 63)
	if dice.IntN(4) == 0 {
		a = counter(pick(dice, 2, 3, 4))
	}
	for range pick(dice, 0, 1, 2, 3, 3, 4, 4, 4, 4) {
		if more := randomAgent(dice, of); len(a) == api.MaxAgents || len(a) > 0 && dice.IntN(2) == 0 {
			a[dice.IntN(len(a))] = more
		} else {
			a = append(a, more)
		}
	}
	dice.Shuffle(len(a), func(i, j int) { a[i], a[j] = a[j], a[i] })
	pass = pick(dice, 0, 0, 0, 1, 2, 4, 8, dice.IntN(allMelts))
	if dice.IntN(4) > 0 {
		pass |= api.MaxMelt - of
	}
	return a, pass
}

// samples calls look with many agents.
func samples(n int, seed uint64, look func(a agents, pass int, dice *rand.Rand)) {
	dice := rand.New(rand.NewPCG(seed, 9))
	for range n {
		a, pass := random(dice)
		look(a, pass, dice)
	}
}
