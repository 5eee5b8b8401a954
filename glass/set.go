package glass

import (
	"cmp"
	"iter"
	"math/bits"

	"muscovado/api"
)

// set is a set of small numbers: glasses, classes, fades or sights.
type set uint

func (s set) has(n int) bool {
	return s&(1<<n) != 0
}

func (s set) with(n int) set {
	return s | 1<<n
}

// in returns whether all numbers of s are in o.
func (s set) in(o set) bool {
	return s&^o == 0
}

func (s set) size() int {
	return bits.OnesCount(uint(s))
}

// before returns whether the list of s comes before that of o: it is shorter, or it is as long and first in lexicographic order.
func (s set) before(o set) bool {
	if s.size() != o.size() {
		return s.size() < o.size()
	}
	// Lists that are as long first differ where one of them has the least number that the other one has not.
	differ := s ^ o
	return s&differ&-differ != 0
}

// each goes through the numbers in ascending order.
func (s set) each(yield func(int) bool) {
	for ; s != 0; s &= s - 1 {
		if !yield(bits.TrailingZeros(uint(s))) {
			return
		}
	}
}

func (s set) list() []int {
	var list []int
	for n := range s.each {
		list = append(list, n)
	}
	return list
}

// fewest returns the one of several lists that comes before all others, if there is one.
func fewest[T any](lists iter.Seq[T], before func(a, b T) bool) (least T, some bool) {
	for l := range lists {
		if !some || before(l, least) {
			least, some = l, true
		}
	}
	return least, some
}

// bounds are the least and the greatest of what they took.
type bounds[N cmp.Ordered] struct {
	least, greatest N
	some            bool
}

// take returns true, as more can always come.
func (b *bounds[N]) take(n N) bool {
	if !b.some {
		*b = bounds[N]{n, n, true}
	}
	b.least, b.greatest = min(b.least, n), max(b.greatest, n)
	return true
}

// spanOf returns the bounds of numbers, of which there is at least one.
func spanOf(numbers iter.Seq[int]) api.Span {
	var b bounds[int]
	numbers(b.take)
	return api.Span{Lo: b.least, Hi: b.greatest}
}

// size returns how many numbers are in a span.
func size(s api.Span) int {
	return max(0, s.Hi-s.Lo+1)
}

// votes say whether something is so in truths.
type votes struct{ so, not bool }

func (v *votes) take(so bool) {
	v.so, v.not = v.so || so, v.not || !so
}

func (v *votes) verdict() int {
	switch {
	case !v.not:
		return api.Yes
	case !v.so:
		return api.No
	}
	return api.Open
}
