package weigh_test

import (
	"math/rand/v2"
	"slices"

	"muscovado/api"
	"muscovado/weigh"
)

// The reference goes through all lists of weights, as the chapter's terms are worded, and knows nothing of how package weigh works.

func span(lo, hi int) api.Span {
	return api.Span{Lo: lo, Hi: hi}
}

func vessel(from, room, lo, hi int) api.Vessel {
	return api.Vessel{From: from, Room: room, Loss: span(lo, hi)}
}

func reading(vessel, scale, shown, err int) api.Reading {
	return api.Reading{Vessel: vessel, Scale: scale, Shown: shown, Err: err}
}

// examples are S, W and U of the chapter.
func exampleS(more ...api.Reading) api.Works {
	return api.Works{
		Vessels: []api.Vessel{vessel(-1, 40, 1, 4), vessel(0, 20, 0, 2), vessel(0, 20, 0, 0), vessel(1, 20, 0, 0)},
		Readings: append([]api.Reading{
			reading(0, 0, 30, 1), reading(2, 1, 12, 1), reading(3, 1, 15, 0),
		}, more...),
	}
}

func exampleW() api.Works {
	return exampleS(reading(1, 0, 20, 1))
}

func exampleU() api.Works {
	return api.Works{Vessels: []api.Vessel{vessel(-1, 9, 0, 0)}}
}

// plus returns works with readings more, in memory of their own.
func plus(w api.Works, more ...api.Reading) api.Works {
	w.Readings = slices.Concat(w.Readings, more)
	return w
}

func fills(w api.Works, v int) []int {
	var list []int
	for i, x := range w.Vessels {
		if x.From == v {
			list = append(list, i)
		}
	}
	return list
}

func lostIn(w api.Works, weights []int, v int) int {
	below := fills(w, v)
	if len(below) == 0 {
		return 0
	}
	lost := weights[v]
	for _, f := range below {
		lost -= weights[f]
	}
	return lost
}

func isTruth(w api.Works, weights []int) bool {
	for v, x := range w.Vessels {
		if weights[v] < 0 || weights[v] > x.Room {
			return false
		}
		if lost := lostIn(w, weights, v); len(fills(w, v)) > 0 && (lost < x.Loss.Lo || lost > x.Loss.Hi) {
			return false
		}
	}
	for _, r := range w.Readings {
		if d := r.Shown - weights[r.Vessel]; d > r.Err || -d > r.Err {
			return false
		}
	}
	return true
}

// truths returns all truths in lexicographic order.
func truths(w api.Works) [][]int {
	var all [][]int
	weights := make([]int, len(w.Vessels))
	var try func(v int)
	try = func(v int) {
		if v == len(weights) {
			if isTruth(w, weights) {
				all = append(all, slices.Clone(weights))
			}
			return
		}
		for weights[v] = 0; weights[v] <= w.Vessels[v].Room; weights[v]++ {
			try(v + 1)
		}
	}
	try(0)
	return all
}

func lost(w api.Works, weights []int) int {
	sum := 0
	for v := range weights {
		sum += lostIn(w, weights, v)
	}
	return sum
}

func stands(w api.Works, weights []int) int {
	sum := 0
	for v, weight := range weights {
		if len(fills(w, v)) == 0 {
			sum += weight
		}
	}
	return sum
}

// bounds returns the least and the greatest of what is measured of each truth.
func bounds(all [][]int, measure func([]int) int) api.Span {
	s := span(measure(all[0]), measure(all[0]))
	for _, t := range all {
		s.Lo, s.Hi = min(s.Lo, measure(t)), max(s.Hi, measure(t))
	}
	return s
}

// every returns the bounds of weight and loss of all vessels.
func every(w api.Works) []api.Span {
	all := truths(w)
	if len(all) == 0 {
		return nil
	}
	var list []api.Span
	for v := range w.Vessels {
		list = append(list, bounds(all, func(t []int) int { return t[v] }), bounds(all, func(t []int) int { return lostIn(w, t, v) }))
	}
	return list
}

// branch returns the works that have the vessel as a source, and the numbers that its vessels had.
func branch(w api.Works, v int) (api.Works, []int) {
	old := []int{v}
	b := api.Works{Vessels: []api.Vessel{w.Vessels[v]}}
	b.Vessels[0].From = -1
	for i := v + 1; i < len(w.Vessels); i++ {
		if from := slices.Index(old, w.Vessels[i].From); from >= 0 {
			x := w.Vessels[i]
			x.From = from
			b.Vessels, old = append(b.Vessels, x), append(old, i)
		}
	}
	for _, r := range w.Readings {
		if at := slices.Index(old, r.Vessel); at >= 0 {
			r.Vessel = at
			b.Readings = append(b.Readings, r)
		}
	}
	return b, old
}

// scaleSets are all sets of scales, those with the fewest first.
func scaleSets() [][]int {
	return [][]int{{}, {0}, {1}, {2}, {0, 1}, {0, 2}, {1, 2}, {0, 1, 2}}
}

func silenced(w api.Works, scales []int) api.Works {
	w.Readings = slices.DeleteFunc(slices.Clone(w.Readings), func(r api.Reading) bool { return slices.Contains(scales, r.Scale) })
	return w
}

func without(w api.Works, reading int) api.Works {
	w.Readings = slices.Delete(slices.Clone(w.Readings), reading, reading+1)
	return w
}

// loosened returns works in which so much more may be lost in the vessel.
func loosened(w api.Works, v, more int) api.Works {
	w.Vessels = slices.Clone(w.Vessels)
	w.Vessels[v].Loss.Hi += more
	return w
}

// leaves returns how many numbers Lost has, at worst, after the vessel is weighed once more.
func leaves(w api.Works, v, err int) int {
	all, worst := truths(w), 0
	for shown := -api.MaxErr; shown <= api.MaxRoom+api.MaxErr; shown++ {
		left := slices.DeleteFunc(slices.Clone(all), func(t []int) bool { return max(shown-t[v], t[v]-shown) > err })
		if len(left) > 0 {
			s := bounds(left, func(t []int) int { return lost(w, t) })
			worst = max(worst, s.Hi-s.Lo+1)
		}
	}
	return worst
}

// random returns small works; near returns readings that are mostly near to a truth of them.
func random(r *rand.Rand) api.Works {
	var w api.Works
	n := 1 + r.IntN(5)
	room := []int{0, 8, 8, 6, 4, 3}[n]
	for v := range n {
		lo := r.IntN(3) * r.IntN(2)
		x := vessel(r.IntN(v+1)-1, r.IntN(room+1), lo, lo+r.IntN(3))
		if r.IntN(3) > 0 {
			x.Room = room
		}
		if v > 0 && r.IntN(2) == 0 {
			x.From = r.IntN(v)
		}
		w.Vessels = append(w.Vessels, x)
	}
	return plus(w, near(r, w, r.IntN(5))...)
}

func near(r *rand.Rand, w api.Works, n int) []api.Reading {
	all := truths(w)
	var list []api.Reading
	for range n {
		v, err := r.IntN(len(w.Vessels)), r.IntN(3)
		shown := r.IntN(9)
		if len(all) > 0 && r.IntN(6) > 0 {
			shown = max(0, all[r.IntN(len(all))][v]+r.IntN(2*err+1)-err)
		}
		list = append(list, reading(v, r.IntN(api.MaxScales), shown, err))
	}
	return list
}

// samples calls look with many small works; with those that have a truth only, if true is asked for.
func samples(n int, seed uint64, truth bool, look func(w api.Works, all [][]int)) {
	r := rand.New(rand.NewPCG(seed, 1))
	for n > 0 {
		w := random(r)
		if all := truths(w); !truth || len(all) > 0 {
			look(w, all)
			n--
		}
	}
}

// found returns what Weight and Loss say of all vessels.
func found(w api.Works) []api.Span {
	var list []api.Span
	for v := range w.Vessels {
		weight, e := weigh.Weight(w, v)
		loss, f := weigh.Loss(w, v)
		if e != api.OK || f != api.OK {
			return nil
		}
		list = append(list, weight, loss)
	}
	return list
}
