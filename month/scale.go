package month

import (
	"cmp"
	"iter"
	"slices"

	"muscovado/api"
)

// change makes another month of one, into which it does not write.
type change func(api.Month) api.Month

// without leaves an agent out.
func without(agent int) change {
	return func(m api.Month) api.Month {
		// The capacity is cut so that the agents behind it are copied to new memory, and not over it.
		m.Agents = append(m.Agents[:agent:agent], m.Agents[agent+1:]...)
		return m
	}
}

// with puts another melt in the place of one.
func with(number int, x api.Melt) change {
	return func(m api.Month) api.Month {
		m.Melts = slices.Clone(m.Melts)
		m.Melts[number] = x
		return m
	}
}

func (m *month) later(number, days int) change {
	x := m.Melts[number]
	x.Day += days
	return with(number, x)
}

func (m *month) known(number, kind int) change {
	x := m.Melts[number]
	x.Kinds = []int{kind}
	return with(number, x)
}

// tried goes through some changes, by their numbers. Meanwhile the month at work is the one with this change; afterwards it is again the one that it was.
func (m *month) tried(changes ...change) iter.Seq[int] {
	return func(yield func(int) bool) {
		given := m.Month
		defer func() { m.Month = given }()
		for n, c := range changes {
			m.Month = c(given)
			if !yield(n) {
				return
			}
		}
	}
}

// scale holds what a plan is worth against what it was worth at first.
type scale struct {
	worth func() int
	first int
}

// scale returns the one of the month. What is worth so much is whatever month it has become.
func (m *month) scale() scale {
	first := m.loaves()
	return scale{m.loaves, first}
}

// gain returns by how much more the plan is worth than at first.
func (s scale) gain() int {
	return s.worth() - s.first
}

// extent keeps the least and the greatest of all that it is given.
type extent[T cmp.Ordered] struct {
	least, greatest T
	some            bool
}

func (x *extent[T]) keep(value T) {
	if !x.some {
		x.least, x.greatest, x.some = value, value, true
	}
	x.least, x.greatest = min(x.least, value), max(x.greatest, value)
}

// missed returns all agents without which there are fewer loaves.
func (m *month) missed() []int {
	var leavings []change
	for agent := range m.Agents {
		leavings = append(leavings, without(agent))
	}
	s := m.scale()
	var missed []int
	for agent := range m.tried(leavings...) {
		if s.gain() < 0 {
			missed = append(missed, agent)
		}
	}
	return missed
}

// latest returns the most days by which the melt can be later, and by each number below it, without fewer loaves.
func (m *month) latest(number int) int {
	s := m.scale()
	var fine extent[int]
days:
	for more := range api.MaxMeltDay - m.Melts[number].Day + 1 {
		for range m.tried(m.later(number, more)) {
			if s.gain() < 0 {
				break days
			}
		}
		fine.keep(more)
	}
	return fine.greatest
}

// worth returns the least and the greatest of what it is worth to know which of its kinds the melt is.
func (m *month) worth(number int) api.Span {
	var kinds []change
	for _, kind := range m.Melts[number].Kinds {
		kinds = append(kinds, m.known(number, kind))
	}
	s := m.scale()
	before, e := m.cleared(number)
	var gains extent[int]
	for range m.tried(kinds...) {
		switch known, alone := m.cleared(number); {
		case alone != api.OK:
			// If it is spoilt although it is known, it was so before.
			fallthrough
		case e == api.OK && len(known.way) == len(before.way):
			gains.keep(0)
		default:
			gains.keep(s.gain())
		}
	}
	return api.Span{Lo: gains.least, Hi: gains.greatest}
}
