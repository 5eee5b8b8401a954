package saw

import (
	"cmp"
	"math/bits"
	"slices"
)

// set is a list of wants, which ascends.
type set uint

// setOf returns the set of an ascending list.
func setOf(list []int) set {
	var s set
	for _, want := range list {
		s |= 1 << want
	}
	return s
}

func (s set) has(want int) bool {
	return s&(1<<want) != 0
}

func (s set) size() int {
	return bits.OnesCount(uint(s))
}

// each goes through the wants in ascending order.
func (s set) each(yield func(int) bool) {
	for ; s != 0; s &= s - 1 {
		if !yield(bits.TrailingZeros(uint(s))) {
			return
		}
	}
}

func (s set) list() []int {
	var list []int
	for want := range s.each {
		list = append(list, want)
	}
	return list
}

// compare compares lists in lexicographic order.
func (s set) compare(o set) int {
	return slices.Compare(s.list(), o.list())
}

// compareSize compares lists in lexicographic order, but shorter ones come first.
func (s set) compareSize(o set) int {
	return cmp.Or(cmp.Compare(s.size(), o.size()), s.compare(o))
}

// best keeps the best of several.
type best[T any] struct {
	compare func(a, b T) int
	kept    T
	some    bool
}

func (b *best[T]) keep(x T) {
	if !b.some || b.compare(x, b.kept) < 0 {
		b.kept, b.some = x, true
	}
}
