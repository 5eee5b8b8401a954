package saw

import (
	"slices"

	"muscovado/api"
)

// perKind is a number for each kind; 0 for those that there are not.
type perKind [api.MaxKinds]int

// perKindOf returns the numbers of a list.
func perKindOf(list []int) perKind {
	var p perKind
	copy(p[:], list)
	return p
}

// list returns the numbers of the kinds that there are.
func (p perKind) list(kinds int) []int {
	return slices.Clone(p[:kinds])
}

func (p perKind) total() int {
	return sum(p[:]...)
}

// compare compares numbers in lexicographic order.
func (p perKind) compare(o perKind) int {
	if p == o {
		return 0
	}
	kind := 0
	for p[kind] == o[kind] {
		kind++
	}
	return p[kind] - o[kind]
}

// order is an order of kinds.
type order struct {
	compare func(a, b int) int
}

// kinds returns so many kinds in this order.
func (o order) kinds(n int) []int {
	var kinds []int
	for kind := range n {
		kinds = append(kinds, kind)
	}
	slices.SortStableFunc(kinds, o.compare)
	return kinds
}

// sum returns what some weights are together.
func sum(weights ...int) int {
	total := 0
	for _, w := range weights {
		total += w
	}
	return total
}
