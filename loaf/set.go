package loaf

import (
	"iter"
	"math"
	"math/bits"

	"muscovado/api"
)

// set is a set of loaves. The loaf 0 is the highest bit, so of two sets of one size the one whose list is first in lexicographic order has the greater number.
type set uint

const (
	loaf3 set = 1 << iota
	loaf2
	loaf1
	loaf0
	everyLoaf set = 1<<iota - 1
)

// one returns the set of this loaf alone.
func one(loaf int) set {
	return [api.MaxLoaves]set{loaf0, loaf1, loaf2, loaf3}[loaf]
}

func (s set) has(loaf int) bool {
	return s&one(loaf) != 0
}

func (s set) size() int {
	return bits.OnesCount(uint(s))
}

// each goes through the loaves in ascending order.
func (s set) each(yield func(int) bool) {
	for loaf := range api.MaxLoaves {
		if s.has(loaf) && !yield(loaf) {
			return
		}
	}
}

func (s set) list() []int {
	var list []int
	for loaf := range s.each {
		list = append(list, loaf)
	}
	return list
}

// parts goes through all sets of loaves of s: the fewest first, those of one size in lexicographic order.
func (s set) parts(yield func(set) bool) {
	for size := range s.size() + 1 {
		for left := s + 1; left > 0; left-- {
			if part := left - 1; part&^s == 0 && part.size() == size && !yield(part) {
				return
			}
		}
	}
}

// fewest returns the first of some lists that is enough, if one is.
func fewest[T any](lists iter.Seq[T], enough func(T) bool) (least T, some bool) {
	for l := range lists {
		if enough(l) {
			return l, true
		}
	}
	return least, false
}

// sum is a sum of numbers; one of bits that differ is the set of them.
type sum[N ~int | ~uint] struct{ total N }

func (s *sum[N]) add(n N) {
	s.total += n
}

// widen returns the least span in which all of the given ones are, of which there is at least one.
func widen(spans ...api.Span) api.Span {
	wide := api.Span{Lo: math.MaxInt, Hi: math.MinInt}
	for _, s := range spans {
		wide.Lo, wide.Hi = min(wide.Lo, s.Lo), max(wide.Hi, s.Hi)
	}
	return wide
}

// minus returns all differences of a number in a and one in b.
func minus(a, b api.Span) api.Span {
	return api.Span{Lo: a.Lo - b.Hi, Hi: a.Hi - b.Lo}
}

// both returns what is in a and in b.
func both(a, b api.Span) api.Span {
	return api.Span{Lo: max(a.Lo, b.Lo), Hi: min(a.Hi, b.Hi)}
}

// about returns what is at most err away from n.
func about(n, err int) api.Span {
	return api.Span{Lo: n - err, Hi: n + err}
}

func empty(s api.Span) bool {
	return s.Lo > s.Hi
}
