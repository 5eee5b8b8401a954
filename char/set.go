package char

import (
	"math/bits"

	"muscovado/api"
)

// set is a set of filters.
type set uint

const (
	sets         = 1 << api.MaxFilters // how many there are
	everyOne set = sets - 1
)

func (s set) has(filter int) bool {
	return s&(1<<filter) != 0
}

func (s set) with(filter int) set {
	return s | 1<<filter
}

// in returns whether all filters of s are in o.
func (s set) in(o set) bool {
	return s&^o == 0
}

func (s set) size() int {
	return bits.OnesCount(uint(s))
}

// each goes through the filters in ascending order.
func (s set) each(yield func(int) bool) {
	for ; s != 0; s &= s - 1 {
		if !yield(bits.TrailingZeros(uint(s))) {
			return
		}
	}
}

// best returns the one of some, of which there is at least one, that comes before all others.
func best[T any](compare func(a, b T) int, one T, others ...T) T {
	for _, o := range others {
		if compare(o, one) < 0 {
			one = o
		}
	}
	return one
}
