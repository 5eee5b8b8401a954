// Package weigh is layer 1: vessels that are filled out of one another, in each of which something is lost, and some of which were weighed by scales that err (see shared/doc/01-weigh.md).
package weigh

import (
	"errors"
	"slices"
	"sync"

	"muscovado/api"
)

// Can returns whether there is a truth.
func Can(w api.Works) (bool, api.Errno) {
	if e := Check(w); e != api.OK {
		return false, e
	}
	return possible(w), api.OK
}

// Truth returns the truth whose list of weights is first in lexicographic order.
func Truth(w api.Works) ([]int, api.Errno) {
	b, e := known(w)
	if e != api.OK {
		return nil, e
	}
	truth := make([]int, len(w.Vessels))
	for v := range w.Vessels {
		truth[v] = b[v].weight.Lo
		w = with(w, exact(v, truth[v]))
		b, _ = at(w).bounds()
	}
	return truth, api.OK
}

// Weight returns the least and the greatest weight that the vessel has in a truth.
func Weight(w api.Works, vessel int) (api.Span, api.Errno) {
	b, e := known(w, vessel)
	if e != api.OK {
		return api.Span{}, e
	}
	return b[vessel].weight, api.OK
}

// Loss returns the least and the greatest number that is lost in the vessel in a truth.
func Loss(w api.Works, vessel int) (api.Span, api.Errno) {
	b, e := known(w, vessel)
	if e != api.OK {
		return api.Span{}, e
	}
	return b[vessel].loss, api.OK
}

// Lost returns the least and the greatest number that is lost altogether in a truth.
func Lost(w api.Works) (api.Span, api.Errno) {
	return altogether(w, (*works).lost)
}

// Stands returns the least and the greatest number that stands in a truth.
func Stands(w api.Works) (api.Span, api.Errno) {
	return altogether(w, (*works).stands)
}

func altogether(w api.Works, find func(*works) (api.Span, error)) (api.Span, api.Errno) {
	if e := Check(w); e != api.OK {
		return api.Span{}, e
	}
	all, err := find(at(w))
	return all, errno(err)
}

// Sure returns all vessels whose weight is the same in all truths.
func Sure(w api.Works) ([]int, api.Errno) {
	b, e := known(w)
	if e != api.OK {
		return nil, e
	}
	var sure []int
	for v := range w.Vessels {
		if numbers(b[v].weight) == 1 {
			sure = append(sure, v)
		}
	}
	return sure, api.OK
}

// Heavier returns whether the weight of a is above that of b in all truths, in none, or in some.
func Heavier(w api.Works, a, b int) (int, api.Errno) {
	if _, e := known(w, a, b); e != api.OK {
		return 0, e
	}
	above, not := false, false
	for weight, all := range byWeight(w, a, (*works).bounds).each {
		other := all[b].weight
		above = above || weight > other.Lo
		not = not || weight <= other.Hi
	}
	switch {
	case !not:
		return api.Yes, api.OK
	case !above:
		return api.No, api.OK
	}
	return api.Open, api.OK
}

// Knots returns all vessels whose branch has no truth, although the branch of each vessel that they fill has one.
func Knots(w api.Works) ([]int, api.Errno) {
	if e := Check(w); e != api.OK {
		return nil, e
	}
	found := make(chan int, len(w.Vessels))
	var looks sync.WaitGroup
	for b := range at(w).branches() {
		looks.Go(func() {
			if b.knot() {
				found <- b.number
			}
		})
	}
	looks.Wait()
	close(found)
	var knots []int
	for number := range found {
		knots = append(knots, number)
	}
	slices.Sort(knots)
	return knots, api.OK
}

// Untrue returns the fewest scales without whose readings there is a truth.
func Untrue(w api.Works) ([]int, api.Errno) {
	if e := Check(w); e != api.OK {
		return nil, e
	}
	var untrue []int
	e := api.ErrNothing
search:
	for size := range api.MaxScales + 1 {
		for set := range everyScale + 1 {
			if set.size() == size && possible(set.silence(w)) {
				untrue, e = set.list(), api.OK
				break search
			}
		}
	}
	return untrue, e
}

// Useless returns all readings without which, the one alone left out, all bounds are the same.
func Useless(w api.Works) ([]int, api.Errno) {
	all, e := known(w)
	if e != api.OK {
		return nil, e
	}
	var useless []int
	for r := range w.Readings {
		// A truth of all readings is one of fewer, so there are bounds.
		if others, _ := at(without(w, r)).bounds(); others == all {
			useless = append(useless, r)
		}
	}
	return useless, api.OK
}

// Next returns the vessel whose weighing, by a scale that errs by at most err, leaves the fewest numbers for what is lost altogether at worst, and how many these are.
func Next(w api.Works, err int) (vessel, left int, e api.Errno) {
	if e := first(Check(w), unless(within(err, 0, api.MaxErr), api.ErrValue)); e != api.OK {
		return 0, 0, e
	}
	now, e := Lost(w)
	if e != api.OK {
		return 0, 0, e
	}
	vessel, left = -1, numbers(now)
	for v := range w.Vessels {
		if n := worst(w, v, err); n < left {
			vessel, left = v, n
		}
	}
	if vessel < 0 {
		return 0, 0, api.ErrNothing
	}
	return vessel, left, api.OK
}

// worst returns the greatest number of numbers that Lost has after one reading more of the vessel.
func worst(w api.Works, vessel, err int) int {
	lost := byWeight(w, vessel, (*works).lost)
	most := 0
	// What is shown below 0 leaves no more weights than a shown 0 does, so it cannot be worse.
	for shown := range api.MaxShown + 1 {
		if left, some := lost.among(about(shown, err), hull); some {
			most = max(most, numbers(left))
		}
	}
	return most
}

// Beyond returns the least number by which the greatest loss of the vessel must be greater so that there is a truth.
func Beyond(w api.Works, vessel int) (int, api.Errno) {
	if e := check(w, vessel); e != api.OK {
		return 0, e
	}
	promised := w.Vessels[vessel].Loss.Hi
	w.Vessels = slices.Clone(w.Vessels)
	// No vessel can lose more than it can hold: this lets it lose whatever it likes.
	w.Vessels[vessel].Loss.Hi = max(promised, api.MaxRoom)
	b, err := at(w).bounds()
	if err != nil {
		return 0, api.ErrNothing
	}
	return max(0, b[vessel].loss.Lo-promised), api.OK
}

// Thieves returns all vessels for which Beyond returns a number above 0.
func Thieves(w api.Works) ([]int, api.Errno) {
	if e := Check(w); e != api.OK {
		return nil, e
	}
	var thieves []int
	for v := range w.Vessels {
		if more, e := Beyond(w, v); e == api.OK && more > 0 {
			thieves = append(thieves, v)
		}
	}
	return thieves, api.OK
}

// known returns the bounds of valid works whose vessels the arguments are, or why there are none.
func known(w api.Works, vessels ...int) (bounds, api.Errno) {
	if e := check(w, vessels...); e != api.OK {
		return bounds{}, e
	}
	b, err := at(w).bounds()
	return b, errno(err)
}

// possible returns whether valid works have a truth.
func possible(w api.Works) bool {
	_, err := at(w).bounds()
	return err == nil
}

func errno(err error) api.Errno {
	var c contradiction
	if errors.As(err, &c) {
		return api.ErrConflict
	}
	return api.OK
}
