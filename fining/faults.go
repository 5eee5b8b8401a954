package fining

import "math/bits"

// faults is a sum of faults: those of a melt, those that are let pass, or those of an agent.
type faults int

const (
	fault1 faults = 1 << iota
	fault2
	fault3
	fault4
	fault5
	fault6

	none  faults = 0
	every        = fault1 | fault2 | fault3 | fault4 | fault5 | fault6
)

// and returns the faults that are in both.
func (f faults) and(o faults) faults {
	return f & o
}

func (f faults) with(o faults) faults {
	return f | o
}

func (f faults) without(o faults) faults {
	return f &^ o
}

func (f faults) has(o faults) bool {
	return f.and(o) == o
}

// clear returns whether a melt has no fault but those that are let pass.
func (f faults) clear(pass faults) bool {
	return pass.has(f)
}

// melts is a set of melts.
type melts uint64

func (m melts) has(melt faults) bool {
	return m&(1<<melt) != 0
}

func (m melts) with(melt faults) melts {
	return m | 1<<melt
}

// others returns all melts that are not in the set; it has a bit for each one that there is, and no more.
func (m melts) others() melts {
	return ^m
}

// each goes through the melts in ascending order.
func (m melts) each(yield func(faults) bool) {
	for ; m != 0; m &= m - 1 {
		if !yield(faults(bits.TrailingZeros64(uint64(m)))) {
			return
		}
	}
}

func (m melts) list() []int {
	var list []int
	for melt := range m.each {
		list = append(list, int(melt))
	}
	return list
}
