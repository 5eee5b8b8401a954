package month_test

import (
	"math/rand/v2"
	"slices"

	"muscovado/api"
	"muscovado/fining"
	"muscovado/floor"
)

// The reference goes through lists of agents, shares and ways of syrups as the chapters' terms are worded, asks layer 5 for the plan of a plant, and knows nothing of how package month works.

type (
	ints   = []int
	rows   = [][]int
	berths = []api.Berth
	melts  = []api.Melt
	agents = []api.Agent
	pans   = []api.Pan
	floors = []api.Floor
)

// The examples S, T and W of the chapter.
func exampleS() api.Month {
	return api.Month{
		Agents: agents{agent(1, 0, 1, 2, 1), agent(2, 4, 2, 0, 2), agent(4, 0, 4, 1, 1), agent(6, 1, 6, 0, 5)},
		Pans:   pans{pan(8, 12, -3), pan(4, 9, -3), pan(2, 5, 2)},
		Rooms:  ints{6, 6, 2},
		Floors: floors{floorOf(4, 2, 3, 1), floorOf(3, 3, 5, 2)},
		Melts:  melts{melt(ints{0}, 0, 3, 0, 9), melt(ints{2}, 0, 2, 1, 8), melt(ints{1, 3}, 1, 4, 1, 4), melt(ints{6}, 5, 2, 0, 1)},
	}
}

func exampleT() api.Month {
	return but(exampleS(), func(m *api.Month) { m.Melts[1].Kinds = ints{2, 6} })
}

func exampleW() api.Month {
	return but(exampleS(), func(m *api.Month) { m.Floors[0].Cool = 0 })
}

func agent(needs, not, takes, leaves, cost int) api.Agent {
	return api.Agent{Needs: needs, Not: not, Takes: takes, Leaves: leaves, Cost: cost}
}

func pan(lo, hi, shift int) api.Pan {
	return api.Pan{Lo: lo, Hi: hi, Shift: shift}
}

func floorOf(places, lo, hi, cool int) api.Floor {
	return api.Floor{Places: places, Drip: api.Span{Lo: lo, Hi: hi}, Cool: cool}
}

func melt(kinds ints, day, cones, wait, quality int) api.Melt {
	return api.Melt{Kinds: kinds, Day: day, Cones: cones, Wait: wait, Quality: quality}
}

func on(floor, day int) api.Berth {
	return api.Berth{Floor: floor, Day: day}
}

// away is the berth of a melt that is not set.
func away() api.Berth {
	return on(-1, 0)
}

// counter is agents that count a melt of so many faults down to 0, so that clearing it takes as many agents as it is.
func counter(faults int) (l agents) {
	for i := range faults {
		l = append(l, agent(1<<i, 1<<i-1, 1<<i, 1<<i-1, 1))
	}
	return l
}

// bare is a month without pans, whose agents count, and whose one floor has so many places, on which cones stand for two days.
func bare(places int, list ...api.Melt) api.Month {
	return api.Month{Agents: counter(3), Floors: floors{floorOf(places, 2, 2, 9)}, Melts: list}
}

func copied(m api.Month) api.Month {
	m.Agents, m.Pans, m.Rooms, m.Floors, m.Melts = slices.Clone(m.Agents), slices.Clone(m.Pans), slices.Clone(m.Rooms), slices.Clone(m.Floors), slices.Clone(m.Melts)
	for i := range m.Melts {
		m.Melts[i].Kinds = slices.Clone(m.Melts[i].Kinds)
	}
	return m
}

// but returns a month with a change, and nothing else.
func but(m api.Month, change func(m *api.Month)) api.Month {
	m = copied(m)
	change(&m)
	return m
}

func withKinds(m api.Month, melt int, kinds ...int) api.Month {
	return but(m, func(m *api.Month) { m.Melts[melt].Kinds = kinds })
}

func withDay(m api.Month, melt, day int) api.Month {
	return but(m, func(m *api.Month) { m.Melts[melt].Day = day })
}

func withoutAgent(m api.Month, agent int) api.Month {
	return but(m, func(m *api.Month) { m.Agents = slices.Delete(m.Agents, agent, agent+1) })
}

// only returns the month of some of its melts, in this order.
func only(m api.Month, list ints) api.Month {
	return but(m, func(m *api.Month) {
		var some melts
		for _, number := range list {
			some = append(some, m.Melts[number])
		}
		m.Melts = some
	})
}

func withoutMelt(m api.Month, melt int) api.Month {
	return only(m, numbers(len(m.Melts), func(n int) bool { return n != melt }))
}

func numbers(n int, is func(int) bool) (list ints) {
	for i := range n {
		if is(i) {
			list = append(list, i)
		}
	}
	return list
}

// has returns whether a melt has all of some faults.
func has(melt, faults int) bool {
	return melt&faults == faults
}

func may(a api.Agent, melt int) bool {
	return has(melt, a.Needs) && melt&a.Not == 0
}

func put(a api.Agent, melt int) int {
	return melt&^a.Takes | a.Leaves
}

// follow returns what a melt is after a list of agents, and whether that is a way from it.
func follow(m api.Month, melt int, way ints) (int, bool) {
	for _, n := range way {
		if !may(m.Agents[n], melt) {
			return 0, false
		}
		melt = put(m.Agents[n], melt)
	}
	return melt, true
}

// clears returns whether a list is a way from each of some melts, after which it is clear.
func clears(m api.Month, kinds ints, way ints) bool {
	for _, kind := range kinds {
		if after, is := follow(m, kind, way); !is || !has(m.Pass, after) {
			return false
		}
	}
	return true
}

// wayOf returns the first list of at most MaxSteps agents that clears each of some melts. It goes through all lists whose agents may be put to each of them.
func wayOf(m api.Month, kinds ints) (ints, bool) {
	lists := rows{nil}
	for range api.MaxSteps + 1 {
		var longer rows
		for _, way := range lists {
			if clears(m, kinds, way) {
				return way, true
			}
			for n := range m.Agents {
				further := slices.Concat(way, ints{n})
				if !slices.ContainsFunc(kinds, func(kind int) bool { _, is := follow(m, kind, further); return !is }) {
					longer = append(longer, further)
				}
			}
		}
		lists = longer
	}
	return nil, false
}

// outcome is all that a month says but for what it would be worth if it were another one.
type outcome struct {
	ways    rows
	ready   ints // -1 for a melt that is spoilt
	spoilt  ints
	order   ints // the melt of each strike
	strikes []api.Strike
	berths  berths
	loaves  int
	set     ints
	cost    int
	late    int
}

func outcomeOf(m api.Month) (o outcome) {
	for _, x := range m.Melts {
		way, some := wayOf(m, x.Kinds)
		day := -1
		if some {
			day = x.Day + len(way)
		}
		o.ways, o.ready = append(o.ways, way), append(o.ready, day)
	}
	o.spoilt = numbers(len(m.Melts), func(n int) bool { return o.ready[n] == -1 })
	for day := range api.MaxStrikeDay + 1 {
		for n, x := range m.Melts {
			if o.ready[n] == day {
				o.order = append(o.order, n)
				o.strikes = append(o.strikes, api.Strike{Day: day, Cones: x.Cones, Wait: x.Wait})
			}
		}
	}
	o.plan(m)
	return o
}

// plan asks layer 5 for the plan of the strikes, and for the one that is late.
func (o *outcome) plan(m api.Month) {
	plan, _, e := floor.Best(api.Plant{Floors: m.Floors, Strikes: o.strikes})
	if e != api.OK {
		panic(e)
	}
	o.berths = slices.Repeat(berths{away()}, len(m.Melts))
	for strike, at := range plan {
		o.berths[o.order[strike]] = at
	}
	o.set = numbers(len(m.Melts), func(n int) bool { return o.berths[n] != away() })
	for _, n := range o.set {
		o.loaves += m.Melts[n].Cones
		for _, x := range o.ways[n] {
			o.cost += m.Agents[x].Cost
		}
	}
	o.late, e = floor.Late(api.Plant{Floors: m.Floors, Strikes: o.strikes})
	if e != api.OK {
		panic(e)
	}
	if o.late >= 0 {
		o.late = o.order[o.late]
	}
}

func loavesOf(m api.Month) int {
	return outcomeOf(m).loaves
}

// missed returns all agents without which there are fewer loaves.
func missed(m api.Month) ints {
	now := loavesOf(m)
	return numbers(len(m.Agents), func(n int) bool { return loavesOf(withoutAgent(m, n)) < now })
}

// tooLate returns the days, up to MaxMeltDay, on which there are fewer loaves if the melt comes then.
func tooLate(m api.Month, melt int) ints {
	now := loavesOf(m)
	return numbers(api.MaxMeltDay+1, func(day int) bool { return day >= m.Melts[melt].Day && loavesOf(withDay(m, melt, day)) < now })
}

func later(m api.Month, melt int) int {
	bad := tooLate(m, melt)
	if len(bad) == 0 {
		return api.MaxMeltDay - m.Melts[melt].Day
	}
	return bad[0] - m.Melts[melt].Day - 1
}

// gains returns what each kind of a melt is worth if it is known.
func gains(m api.Month, melt int) (list ints) {
	now := loavesOf(m)
	for _, kind := range m.Melts[melt].Kinds {
		list = append(list, loavesOf(withKinds(m, melt, kind))-now)
	}
	return list
}

// shares returns all lists of a pan, or -1, for each of some melts, in lexicographic order, such that each pan takes what it has, and has room for it.
func shares(m api.Month, set ints) (all rows) {
	lists := rows{nil}
	for range set {
		var longer rows
		for _, l := range lists {
			for pan := -1; pan < len(m.Pans); pan++ {
				longer = append(longer, slices.Concat(l, ints{pan}))
			}
		}
		lists = longer
	}
	return slices.DeleteFunc(lists, func(l ints) bool { return !isShare(m, set, l) })
}

func isShare(m api.Month, set, share ints) bool {
	loads := make(ints, len(m.Pans))
	for lot, pan := range share {
		x := m.Melts[set[lot]]
		if pan == -1 {
			continue
		}
		if x.Quality < m.Pans[pan].Lo || x.Quality > m.Pans[pan].Hi {
			return false
		}
		loads[pan] += x.Cones
		if loads[pan] > m.Rooms[pan] {
			return false
		}
	}
	return true
}

func poundsOf(m api.Month, set, share ints) (pounds int) {
	for lot, pan := range share {
		if pan != -1 {
			pounds += m.Melts[set[lot]].Cones
		}
	}
	return pounds
}

// share returns the pan of each melt in the first of the shares with the most pounds, and these.
func share(m api.Month, set ints) (ints, int) {
	var best ints
	most := -1
	for _, l := range shares(m, set) {
		if n := poundsOf(m, set, l); n > most {
			best, most = l, n
		}
	}
	all := slices.Repeat(ints{-1}, len(m.Melts))
	for lot, n := range set {
		all[n] = best[lot]
	}
	return all, most
}

// rounds returns whether a syrup can go round for ever: just if there is a way with more pans than there are qualities.
func rounds(list pans, quality int) bool {
	can := map[int]bool{quality: true}
	for range api.MaxQuality + 2 {
		next := map[int]bool{}
		for q := range can {
			for _, p := range list {
				if p.Lo <= q && q <= p.Hi {
					next[min(max(q+p.Shift, 0), api.MaxQuality)] = true
				}
			}
		}
		can = next
	}
	return len(can) > 0
}

// pick returns one of some numbers.
func pick(dice *rand.Rand, of ...int) int {
	return of[dice.IntN(len(of))]
}

// within returns a number from lo to hi.
func within(dice *rand.Rand, lo, hi int) int {
	return lo + dice.IntN(hi-lo+1)
}

func randomAgent(dice *rand.Rand, of int) api.Agent {
	few := func() int { return dice.IntN(of+1) & dice.IntN(of+1) }
	a := agent(few()&few(), few()&few(), few(), few()&few(), within(dice, 1, api.MaxCost))
	a.Not &^= a.Needs
	return a
}

// randomAgents returns agents for some faults: those of the example, ones that count, or any.
func randomAgents(dice *rand.Rand, of int) (l agents) {
	switch dice.IntN(4) {
	case 0:
		l = exampleS().Agents
	case 1:
		l = counter(within(dice, 1, 3))
	}
	for range dice.IntN(api.MaxAgents + 1) {
		if len(l) < api.MaxAgents {
			l = append(l, randomAgent(dice, of))
		} else if dice.IntN(2) == 0 {
			l[dice.IntN(len(l))] = randomAgent(dice, of)
		}
	}
	dice.Shuffle(len(l), func(i, j int) { l[i], l[j] = l[j], l[i] })
	return l
}

// canEach returns whether each of some melts can be cleared if it is known.
func canEach(m api.Month, kinds ints) bool {
	return !slices.ContainsFunc(kinds, func(kind int) bool { _, some := wayOf(m, ints{kind}); return !some })
}

// randomKinds returns kinds of which, mostly, some way clears all, or each alone. Layer 9 says so here, as it is quicker.
func randomKinds(dice *rand.Rand, m api.Month, of int) (kinds ints) {
	clear := func(kind int) bool {
		_, e := fining.Both(m.Agents, ints{kind}, m.Pass)
		return e == api.OK
	}
	for range 12 {
		kinds = nil
		for range pick(dice, 1, 1, 2, 2, 3) {
			kinds = append(kinds, dice.IntN(api.MaxMelt+1)&of)
		}
		slices.Sort(kinds)
		kinds = slices.Compact(kinds)
		way, e := fining.Both(m.Agents, kinds, m.Pass)
		switch {
		case e == api.OK && (len(way) > 0 || dice.IntN(3) == 0):
			return kinds
		case e != api.OK && len(kinds) > 1 && dice.IntN(4) == 0 && clear(kinds[0]) && clear(kinds[1]) && clear(kinds[len(kinds)-1]):
			return kinds
		case dice.IntN(25) == 0:
			return kinds
		}
	}
	return kinds
}

func randomMonth(dice *rand.Rand, list, wait int) (m api.Month) {
	of := pick(dice, 3, 7, 7, 7, 15)
	m.Agents, m.Pass = randomAgents(dice, of), pick(dice, 0, 0, 0, 1, 2, 8, dice.IntN(of+1))
	for range dice.IntN(api.MaxPans + 1) {
		lo := dice.IntN(api.MaxQuality + 1)
		m.Pans = append(m.Pans, pan(lo, within(dice, lo, api.MaxQuality), within(dice, -4, 4)))
		m.Rooms = append(m.Rooms, dice.IntN(8))
	}
	for range within(dice, 1, api.MaxFloors) {
		lo := within(dice, 1, 4)
		m.Floors = append(m.Floors, floorOf(within(dice, 2, 6), lo, lo+dice.IntN(3), dice.IntN(4)))
	}
	for range list {
		m.Melts = append(m.Melts, melt(randomKinds(dice, m, of), dice.IntN(pick(dice, 3, 6, api.MaxMeltDay+1)), within(dice, 1, 4), dice.IntN(wait+1), dice.IntN(api.MaxQuality+1)))
	}
	return m
}

// samples calls look with many months, of which few have many plans.
func samples(n int, seed uint64, look func(m api.Month, dice *rand.Rand)) {
	dice := rand.New(rand.NewPCG(seed, 11))
	for i := range n {
		wait := 1
		if i%16 == 0 {
			wait = api.MaxWait
		}
		look(randomMonth(dice, pick(dice, 0, 1, 2, 3, 4, 4, 4), wait), dice)
	}
}
