package stove

import (
	"cmp"
	"math/bits"
	"slices"
)

// cones is a set of cones.
type cones uint

func (c cones) has(cone int) bool {
	return c&(1<<cone) != 0
}

func (c cones) with(cone int) cones {
	return c | 1<<cone
}

func (c cones) size() int {
	return bits.OnesCount(uint(c))
}

// each goes through the cones in ascending order.
func (c cones) each(yield func(int) bool) {
	for ; c != 0; c &= c - 1 {
		if !yield(bits.TrailingZeros(uint(c))) {
			return
		}
	}
}

func (c cones) list() []int {
	var list []int
	for cone := range c.each {
		list = longer(list, cone)
	}
	return list
}

// compare compares lists in lexicographic order, but those with fewer cones come first.
func (c cones) compare(o cones) int {
	return cmp.Or(cmp.Compare(c.size(), o.size()), slices.Compare(c.list(), o.list()))
}

// longer returns a list with more behind it. The capacity is cut, so that it is new memory.
func longer(list []int, more ...int) []int {
	n := len(list)
	return append(list[:n:n], more...)
}

// least keeps the first of the least of several.
type least[T any] struct {
	compare func(a, b T) int
	kept    T
	some    bool
}

func (l *least[T]) keep(x T) {
	if !l.some || l.compare(x, l.kept) < 0 {
		l.kept, l.some = x, true
	}
}
