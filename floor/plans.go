package floor

import (
	"errors"
	"iter"

	"muscovado/api"
)

// settings returns all berths that a strike can have if it is set, in their order.
func (p plant) settings(strike int) []api.Berth {
	var all []api.Berth
	s := p.Strikes[strike]
	for floor := range p.Floors {
		for wait := range s.Wait + 1 {
			all = append(all, api.Berth{Floor: floor, Day: s.Day + wait})
		}
	}
	return all
}

// choices returns all berths that a strike can have, in their order.
func (p plant) choices(strike int) []api.Berth {
	return append([]api.Berth{{Floor: nowhere}}, p.settings(strike)...)
}

// search is a plant of which plans are looked for. What is set on one floor is the same in many plans, so it is kept why those that were met, with nothing on other floors, are wrong.
type search struct {
	plant
	met map[berths]error
}

// judge returns why a plan is wrong.
func (s search) judge(b berths) error {
	for floor := range s.Floors {
		alone := b.only(floor)
		err, some := s.met[alone]
		if !some {
			err = s.look(floor, alone)
			s.met[alone] = err
		}
		if err != nil {
			return err
		}
	}
	return nil
}

// hopeless returns whether a plan that is wrong for this reason stays so whatever else is set.
func hopeless(err error) bool {
	var w wrong
	return errors.As(err, &w) && w.stays()
}

// plans goes through all right plans with such berths of each strike, in their order if berths are in theirs.
func (p plant) plans(berthsFor func(strike int) []api.Berth) iter.Seq[berths] {
	return func(yield func(berths) bool) {
		s, b := search{p, map[berths]error{}}, berthsOf(nil)
		var set func(strike int) bool
		set = func(strike int) bool {
			err := s.judge(b)
			switch {
			case hopeless(err):
				return true
			case strike == len(p.Strikes):
				return err != nil || yield(b)
			}
			defer func() { b[strike] = api.Berth{Floor: nowhere} }()
			for _, at := range berthsFor(strike) {
				b[strike] = at
				if !set(strike + 1) {
					return false
				}
			}
			return true
		}
		set(0)
	}
}

// settable returns whether there is a right plan in which all strikes are set.
func (p plant) settable() bool {
	for range p.plans(p.settings) {
		return true
	}
	return false
}

// loaves returns the cones of all strikes that are set.
func (p plant) loaves(b berths) int {
	sum := 0
	for strike, s := range p.Strikes {
		if b[strike].Floor != nowhere {
			sum += s.Cones
		}
	}
	return sum
}

// most keeps all that is worth most of what it takes, in the order in which it comes.
type most[T any] struct {
	worth func(T) int
	value int
	kept  []T
}

// take returns true, as more can always come.
func (m *most[T]) take(x T) bool {
	switch value := m.worth(x); {
	case len(m.kept) == 0, value > m.value:
		m.value, m.kept = value, []T{x}
	case value == m.value:
		m.kept = append(m.kept, x)
	}
	return true
}

// best returns the best plans, in their order, and their loaves.
func (p plant) best() ([]berths, int) {
	m := most[berths]{worth: p.loaves}
	p.plans(p.choices)(m.take)
	return m.kept, m.value
}

// verdict returns the one on what is so in some, and in all.
func verdict(some, all bool) int {
	sure := api.Yes
	switch {
	case !some:
		sure = api.No
		fallthrough
	case all:
		return sure
	}
	return api.Open
}
