package char

import "cmp"

// job is what a filter does on a day, as plans say it; the numbers are those of package api.
type job int

const (
	run job = iota
	rest
	wash
	burn
	jobs = iota
)

// deed is what a filter does on a day.
type deed interface {
	job() job
}

// All that a filter can do.
type (
	running struct{}
	resting struct{}
	washing struct{}
	burning struct{}
)

func (running) job() job { return run }
func (resting) job() job { return rest }
func (washing) job() job { return wash }
func (burning) job() job { return burn }

func (j job) deed() deed {
	switch j {
	case run:
		return running{}
	case wash:
		return washing{}
	case burn:
		return burning{}
	}
	return resting{}
}

// cost is what plans are chosen by, before their order.
type cost struct{ fires, washings int }

func (c cost) plus(o cost) cost {
	return cost{c.fires + o.fires, c.washings + o.washings}
}

func (c cost) compare(o cost) int {
	return cmp.Or(cmp.Compare(c.fires, o.fires), cmp.Compare(c.washings, o.washings))
}

// shift is what all filters do on a day.
type shift struct {
	cost
	deeds          []deed
	washed, burned set
}

// shiftOf returns the shift in which filters do what a list of a plan says.
func shiftOf(list []int) shift {
	var s shift
	for filter, number := range list {
		d := job(number).deed()
		s.deeds = append(s.deeds, d)
		switch d.(type) {
		case washing:
			s.washed = s.washed.with(filter)
		case burning:
			s.burned = s.burned.with(filter)
		}
	}
	s.cost = cost{min(1, s.burned.size()), s.washed.size()}
	return s
}

// list returns what a plan says of the shift.
func (s shift) list() []int {
	var list []int
	for _, d := range s.deeds {
		list = append(list, int(d.job()))
	}
	return list
}

// shifts returns all that so many filters can do on a day, in lexicographic order.
func shifts(filters int) []shift {
	lists := [][]int{nil}
	for range filters {
		var longer [][]int
		for _, list := range lists {
			for number := range jobs {
				// The capacity is cut, so that each of the longer lists is a copy.
				longer = append(longer, append(list[:len(list):len(list)], number))
			}
		}
		lists = longer
	}
	var all []shift
	for _, list := range lists {
		all = append(all, shiftOf(list))
	}
	return all
}
