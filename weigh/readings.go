package weigh

import (
	"math/bits"

	"muscovado/api"
)

// scales is a set of scales. Sets of one size have ascending numbers if their lists are in lexicographic order (of three scales that is so).
type scales uint

const (
	scale0 scales = 1 << iota
	scale1
	scale2
	everyScale scales = 1<<iota - 1
)

func (s scales) size() int {
	return bits.OnesCount(uint(s))
}

// list returns the numbers of the scales.
func (s scales) list() []int {
	var list []int
	for number, one := range [api.MaxScales]scales{scale0, scale1, scale2} {
		if s&one != 0 {
			list = append(list, number)
		}
	}
	return list
}

// silence returns works without the readings of the scales.
func (s scales) silence(w api.Works) api.Works {
	var left []api.Reading
	for _, r := range w.Readings {
		if s&(scale0<<r.Scale) == 0 {
			left = append(left, r)
		}
	}
	w.Readings = left
	return w
}

// with returns works with a reading more.
func with(w api.Works, r api.Reading) api.Works {
	n := len(w.Readings)
	// The capacity is cut so that the readings that were given are copied, and not written behind.
	w.Readings = append(w.Readings[:n:n], r)
	return w
}

// without returns works without one of their readings.
func without(w api.Works, reading int) api.Works {
	w.Readings = append(w.Readings[:reading:reading], w.Readings[reading+1:]...)
	return w
}

// exact is a reading of the true weight.
func exact(vessel, weight int) api.Reading {
	return api.Reading{Vessel: vessel, Shown: weight}
}
