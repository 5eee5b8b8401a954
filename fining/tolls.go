package fining

import (
	"cmp"

	"muscovado/api"
)

// toll is what it takes to clear a melt: the cost of a way, how many agents it has, and the first of them.
type toll struct {
	cost, puts int
	agent      agent
}

// order says which of two tolls is the lesser one.
type order struct {
	compare func(a, b toll) int
}

func byCost() order {
	return order{func(a, b toll) int {
		return cmp.Or(cmp.Compare(a.cost, b.cost), cmp.Compare(a.puts, b.puts), cmp.Compare(a.agent.number, b.agent.number))
	}}
}

func byPuts() order {
	return order{func(a, b toll) int { return cmp.Compare(a.puts, b.puts) }}
}

// tolls are the least ones of all melts that can be cleared.
type tolls struct {
	order
	bench   bench
	cleared melts
	least   [api.MaxMelt + 1]toll
}

// tolls returns the least tolls with these agents.
func (b bench) tolls(pass faults, o order) *tolls {
	t := &tolls{order: o, bench: b}
	for melt := range every + 1 {
		if melt.clear(pass) {
			t.cleared = t.cleared.with(melt)
		}
	}
	// What leads to a melt becomes cheaper when that melt does.
again:
	cheaper := false
	for melt := range every + 1 {
		if t.improve(melt) {
			cheaper = true
		}
	}
	if cheaper {
		goto again
	}
	return t
}

// improve returns whether an agent makes the toll of a melt less.
func (t *tolls) improve(melt faults) bool {
	better := false
	for _, a := range t.bench {
		if x, some := t.through(a, melt); some && (!t.cleared.has(melt) || t.compare(x, t.least[melt]) < 0) {
			t.least[melt], t.cleared = x, t.cleared.with(melt)
			better = true
		}
	}
	return better
}

// through returns the least toll of a melt to which an agent is put first.
func (t *tolls) through(a agent, melt faults) (toll, bool) {
	if !a.may(melt) || !t.cleared.has(a.put(melt)) {
		return toll{}, false
	}
	rest := t.least[a.put(melt)]
	return toll{rest.cost + a.Cost, rest.puts + 1, a}, true
}

// way returns the first of the ways with the least toll that clear a melt, and its cost.
func (t *tolls) way(melt faults) (way []int, cost int, e api.Errno) {
	if !t.cleared.has(melt) {
		return nil, 0, api.ErrNothing
	}
	cost = t.least[melt].cost
	for t.least[melt].puts > 0 {
		a := t.least[melt].agent
		way, melt = append(way, a.number), a.put(melt)
	}
	return way, cost, api.OK
}

// farthest returns the first melt whose toll has the most agents, and how many these are.
func (t *tolls) farthest() (melt, puts int) {
	for m := range t.cleared.each {
		if n := t.least[m].puts; n > puts {
			melt, puts = int(m), n
		}
	}
	return melt, puts
}

// fewest returns the first set of agents with which alone as much can be cleared as with all.
func (b bench) fewest(pass faults) bench {
	all := b.tolls(pass, byPuts()).cleared
	for set := range b.sets() {
		if set.tolls(pass, byPuts()).cleared == all {
			return set
		}
	}
	return b
}
