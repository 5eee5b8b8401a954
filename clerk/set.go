package clerk

import (
	"cmp"
	"math/bits"
	"slices"
)

// set is an ascending list of small numbers: lines, or digits.
type set uint

func (s set) with(n int) set {
	return s | 1<<n
}

func (s set) has(n int) bool {
	return s&(1<<n) != 0
}

// in returns whether o has all that s has.
func (s set) in(o set) bool {
	return s&^o == 0
}

// each goes through the numbers in ascending order.
func (s set) each(yield func(int) bool) {
	for ; s != 0; s &= s - 1 {
		if !yield(bits.TrailingZeros(uint(s))) {
			return
		}
	}
}

func (s set) list() []int {
	return slices.Collect(s.each)
}

// compare compares lists in lexicographic order, but shorter ones come first.
func (s set) compare(o set) int {
	return cmp.Or(
		cmp.Compare(bits.OnesCount(uint(s)), bits.OnesCount(uint(o))),
		slices.Compare(s.list(), o.list()),
	)
}

// lists returns all lists of numbers below n, in the order in which the fewest are looked for.
func lists(n int) []set {
	var all []set
	for s := range set(1) << n {
		all = append(all, s)
	}
	slices.SortFunc(all, set.compare)
	return all
}

// fewest returns the first of some lists for which one of several things is as it should be, if there is one.
func fewest[T any](lists []set, is func(T, set) bool, of ...T) (least set, some bool) {
search:
	for _, list := range lists {
		for _, x := range of {
			if is(x, list) {
				least, some = list, true
				break search
			}
		}
	}
	return least, some
}
