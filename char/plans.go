package char

import (
	"iter"
	"slices"
	"sync"

	"muscovado/api"
)

// way is a plan for the days before a morning, as the numbers of its shifts, and what it costs.
type way struct {
	cost
	plan []int
}

// compare says which of two ways with as many days comes first.
func (w way) compare(o way) int {
	if w.cost != o.cost {
		return w.cost.compare(o.cost)
	}
	return slices.Compare(w.plan, o.plan)
}

// arrival is a morning and the way to it.
type arrival struct {
	morning
	way
}

func (a arrival) compare(o arrival) int {
	return a.way.compare(o.way)
}

// mornings are some of one day, each with the best way to it: by the filters that are washed, and by strengths.
type mornings [sets]map[strengths]way

func someMornings(all ...arrival) *mornings {
	m := new(mornings)
	for washed := range m {
		m[washed] = map[strengths]way{}
	}
	m.take(all...)
	return m
}

// take adds arrivals. In whatever order they come, the same ways are kept.
func (m *mornings) take(all ...arrival) {
	for _, a := range all {
		w := a.way
		if before, some := m[a.washed][a.strengths]; some {
			w = best(way.compare, w, before)
		}
		m[a.washed][a.strengths] = w
	}
}

// list returns all mornings, those with better ways first.
func (m *mornings) list() []arrival {
	var all []arrival
	for washed := range m {
		for s, w := range m[washed] {
			all = append(all, arrival{morning{s, set(washed)}, w})
		}
	}
	slices.SortFunc(all, arrival.compare)
	return all
}

// thin deletes each morning with which nothing can be done that cannot be done with one that is as good, and by plans that come before: for no question a plan that goes on from it is needed then.
func (m *mornings) thin() {
	all := m.list()
	for i, a := range all {
		if slices.ContainsFunc(all[:i], func(o arrival) bool { return o.asGood(a.morning) }) {
			delete(m[a.washed], a.strengths)
		}
	}
}

// hands is how many goroutines look for the mornings of one day.
const hands = 4

// next returns what is needed of the mornings after a day.
func (h house) next(before *mornings, day int) *mornings {
	found, done := make(chan []arrival), make(chan struct{})
	list := before.list()
	var looks sync.WaitGroup
	for some := range slices.Chunk(list, len(list)/hands+1) {
		looks.Go(func() { found <- h.reached(some, day) })
	}
	go func() {
		looks.Wait()
		close(done)
	}()
	after := someMornings()
	for {
		select {
		case all := <-found:
			after.take(all...)
		case <-done:
			// Whoever looked has handed over what was found, as nothing waits in the channel.
			after.thin()
			return after
		}
	}
}

// reached returns all that can be reached from some mornings by a day that is right.
func (h house) reached(from []arrival, day int) []arrival {
	var all []arrival
	for _, a := range from {
		for number, s := range h.shifts {
			if !h.may(day, s) {
				continue
			}
			if m, e := h.after(a.morning, day, s); e == api.OK {
				n := len(a.plan)
				// The capacity is cut, as the plans that go on from here share their beginning.
				all = append(all, arrival{m, way{a.cost.plus(s.cost), append(a.plan[:n:n], number)}})
			}
		}
	}
	return all
}

// plans goes through plans for the days before a morning, in their order: the best one to each morning that is needed.
func (h house) plans(before int) iter.Seq[arrival] {
	return func(yield func(arrival) bool) {
		m := someMornings(arrival{morning: h.first()})
		for day := range before {
			m = h.next(m, day)
		}
		for _, a := range m.list() {
			if !yield(a) {
				return
			}
		}
	}
}

// fewest returns the first of the best plans after which filters are as good as on a morning.
func (h house) fewest(as morning) (way, api.Errno) {
	for a := range h.plans(len(h.Days)) {
		if a.asGood(as) {
			return a.way, api.OK
		}
	}
	return way{}, api.ErrNothing
}

// possible returns whether there is a valid plan.
func (h house) possible() bool {
	_, e := h.fewest(worst())
	return e == api.OK
}

// most returns the greatest sum of strengths on a morning.
func (h house) most(on int) (int, api.Errno) {
	most, e := 0, api.ErrNothing
	for a := range h.plans(on) {
		most, e = max(most, a.sum()), api.OK
	}
	return most, e
}

// lists returns a plan as lists of what filters do.
func (h house) lists(plan []int) [][]int {
	var lists [][]int
	for _, number := range plan {
		lists = append(lists, h.shifts[number].list())
	}
	return lists
}
