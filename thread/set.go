package thread

import (
	"iter"
	"math/bits"
)

// set is a set of small numbers: times, ticks, pans or proofs.
type set uint

func (s set) with(n int) set {
	return s | 1<<n
}

func (s set) without(n int) set {
	return s &^ (1 << n)
}

// before returns whether the list of s comes before that of o: it is shorter, or it is as long and first in lexicographic order.
func (s set) before(o set) bool {
	a, b := bits.OnesCount(uint(s)), bits.OnesCount(uint(o))
	if a != b {
		return a < b
	}
	// Lists that are as long first differ where one of them has the least number that the other one has not.
	differ := s ^ o
	return s&differ&-differ != 0
}

// each goes through the numbers in ascending order.
func (s set) each(yield func(int) bool) {
	for ; s != 0; s &= s - 1 {
		if !yield(bits.TrailingZeros(uint(s))) {
			return
		}
	}
}

func (s set) list() []int {
	var list []int
	for n := range s.each {
		list = append(list, n)
	}
	return list
}

// fewest returns the one of several lists that comes before all others, if there is one.
func fewest[T any](lists iter.Seq[T], before func(a, b T) bool) (least T, some bool) {
	for l := range lists {
		if !some || before(l, least) {
			least, some = l, true
		}
	}
	return least, some
}
