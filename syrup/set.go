package syrup

import (
	"cmp"
	"slices"

	"muscovado/api"
)

// set is a set of pans.
type set uint

func (s set) has(pan int) bool {
	return s&(1<<pan) != 0
}

func (s set) list() []int {
	var list []int
	for pan := range api.MaxPans {
		if s.has(pan) {
			list = append(list, pan)
		}
	}
	return list
}

// before returns whether the list of s comes before that of o: it is shorter, or it is as long and first in lexicographic order.
func (s set) before(o set) bool {
	a, b := s.list(), o.list()
	return cmp.Or(cmp.Compare(len(a), len(b)), slices.Compare(a, b)) < 0
}

// best keeps what comes before all else that it was given; the first one, if several are equally good.
type best[T any] struct {
	before func(a, b T) bool
	kept   T
	some   bool
}

func (b *best[T]) take(x T) {
	if !b.some || b.before(x, b.kept) {
		b.kept, b.some = x, true
	}
}
