package saw

import (
	"slices"

	"muscovado/api"
)

// saw is a saw at work: the given one, its wants as those of their sorts, what a loaf of each kind weighs, and the kinds, those with heavier loaves first.
type saw struct {
	api.Saw
	wants   []want
	weights perKind
	kinds   []int
}

// at puts a saw to work, unless it is wrong, or another argument is.
func at(s api.Saw, arguments ...api.Errno) (*saw, api.Errno) {
	if e := first(Check(s), first(arguments...)); e != api.OK {
		return nil, e
	}
	return work(s), api.OK
}

// work puts a valid saw to work.
func work(s api.Saw) *saw {
	w := &saw{Saw: s}
	for _, x := range s.Wants {
		w.wants = append(w.wants, wantOf(x))
	}
	for kind, loaf := range s.Loaves {
		w.weights[kind] = sum(loaf...)
	}
	byWeight := order{func(a, b int) int { return w.weights[b] - w.weights[a] }}
	w.kinds = byWeight.kinds(len(s.Loaves))
	return w
}

// copied returns a saw in memory of its own.
func copied(s api.Saw) api.Saw {
	loaves := make([][]int, len(s.Loaves))
	for kind, loaf := range s.Loaves {
		loaves[kind] = slices.Clone(loaf)
	}
	s.Loaves, s.Stock, s.Wants = loaves, slices.Clone(s.Stock), slices.Clone(s.Wants)
	return s
}

// all returns the list of all wants.
func (s *saw) all() set {
	return 1<<len(s.wants) - 1
}

// upper returns the fewest upper slices of a loaf that weigh at least so many pounds, if all of them do.
func (s *saw) upper(kind, pounds int) (slices int, some bool) {
	loaf := s.Loaves[kind]
	for n := range len(loaf) + 1 {
		if sum(loaf[len(loaf)-n:]...) >= pounds {
			return n, true
		}
	}
	return 0, false
}

// need returns the fewest loaves more of a kind with which all wants can be served, if so many can be had.
func (s *saw) need(kind int) (loaves int, some bool) {
	for n := range api.MaxStock + 1 {
		more := *s
		more.Stock = slices.Clone(s.Stock)
		more.Stock[kind] += n
		if more.can(more.all()) {
			return n, true
		}
	}
	return 0, false
}

// widest returns the greatest kerf with which all wants can be served, if there is one.
func (s *saw) widest() (kerf int, some bool) {
	cut := *s
	cut.Kerf = api.MaxKerf
narrower:
	if cut.can(cut.all()) {
		return cut.Kerf, true
	}
	if cut.Kerf > 0 {
		cut.Kerf--
		goto narrower
	}
	return 0, false
}

// refused returns the fewest wants without which all others can be served.
func (s *saw) refused() (without set) {
	var lists []set
	for l := range s.all() + 1 {
		lists = append(lists, l)
	}
	slices.SortFunc(lists, set.compareSize)
search:
	for _, without = range lists {
		for range s.plans(s.needs(s.all() &^ without)) {
			break search
		}
	}
	return without
}
