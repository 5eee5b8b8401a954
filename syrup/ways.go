package syrup

import (
	"iter"
	"slices"
	"strconv"

	"muscovado/api"
)

// way is a list of pans, each of which takes what comes out of the one before it, and what comes out at its end.
type way struct {
	pans []int
	end  int
}

// ways goes through ways from a quality, the shorter ones first, and those that are as long in lexicographic order. Of ways with the same end only the first one is gone on with, so not all are gone through, but the first one of one pan or more to each end is: if a way comes before another one to the same end, it also does with the same pans behind both.
func (h house) ways(quality int) iter.Seq[way] {
	return func(yield func(way) bool) {
		var gone qualities
		queue := []way{{end: quality}}
		for len(queue) > 0 {
			w := queue[0]
			queue = queue[1:]
			if !yield(w) {
				return
			}
			if gone[w.end] {
				continue
			}
			gone[w.end] = true
			for _, pan := range h.taking(w.end) {
				queue = append(queue, way{append(slices.Clone(w.pans), pan), h.out(pan, w.end)})
			}
		}
	}
}

// noWay is an error: a list of pans is no way, because of the pan at an index.
type noWay struct {
	index int
	errno api.Errno
}

func (n noWay) Error() string {
	return "the pan " + strconv.Itoa(n.index) + " of the way: " + n.errno.Error()
}

// boil returns the quality of what comes out of each pan of a way.
func (h house) boil(quality int, way []int) ([]int, error) {
	if len(way) > api.MaxBoils {
		return nil, noWay{api.MaxBoils, api.ErrExcess}
	}
	var outs []int
	for i, pan := range way {
		switch {
		case !within(pan, 0, len(h.given)-1):
			return nil, noWay{i, api.ErrMissing}
		case !h.takes(pan, quality):
			return nil, noWay{i, api.ErrBarred}
		}
		quality = h.out(pan, quality)
		outs = append(outs, quality)
	}
	return outs, nil
}

// count returns the number of ways to treacle, if there are none as long as one likes.
func (h house) count(quality int) int {
	count := 0
	// How many of the ways with so many pans have each end, and of those with one pan more.
	ends, next := map[int]int{quality: 1}, map[int]int{}
	for len(ends) > 0 {
		for end, ways := range ends {
			if h.treacle(end) {
				count += ways
			}
			for _, out := range h.outs(end) {
				next[out] += ways
			}
		}
		clear(ends)
		ends, next = next, ends
	}
	return count
}
