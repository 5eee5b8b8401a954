package stove

import (
	"cmp"
	"iter"
	"slices"

	"muscovado/api"
)

// plan is a stand for each cone; the zero value for cones that there are not.
type plan [api.MaxDamp]api.Stand

// compare compares plans in lexicographic order.
func (p plan) compare(o plan) int {
	if p == o {
		return 0
	}
	cone := 0
	for p[cone] == o[cone] {
		cone++
	}
	return cmp.Or(cmp.Compare(p[cone].Shelf, o[cone].Shelf), cmp.Compare(p[cone].Day, o[cone].Day))
}

// list returns the stands of the cones that there are.
func (p plan) list(cones int) []api.Stand {
	return slices.Clone(p[:cones])
}

// places says who is on each shelf on each day.
type places [api.MaxShelves][api.MaxStoveDays]cones

// lists returns who is on each shelf on a day.
func (s *stove) lists(p places, day int) [][]int {
	var lists [][]int
	for shelf := range s.Shelves {
		lists = append(lists, p[shelf][day].list())
	}
	return lists
}

// hold returns whether no shelf has more cones than it has room for.
func (s *stove) hold(p places) bool {
	for shelf, x := range s.Shelves {
		for day := range s.Days {
			if p[shelf][day].size() > x.Room {
				return false
			}
		}
	}
	return true
}

// draft is a plan, and what it does: who is put in, who is where, and the day at whose end the last cone is dry.
type draft struct {
	plan   plan
	in     cones
	places places
	last   int
}

// blank is a draft in which no cone has a stand yet.
func blank() draft {
	return draft{last: noDay}
}

// with returns the draft with the stay of a cone.
func (d draft) with(cone int, x stay) draft {
	d.plan[cone] = x.Stand
	d.last = max(d.last, x.last)
	if x.Shelf != noShelf {
		d.in = d.in.with(cone)
	}
	for day := x.Day; day <= x.last; day++ {
		d.places[x.Shelf][day] = d.places[x.Shelf][day].with(cone)
	}
	return d
}

// judged returns what a plan does, or what is wrong with it.
func (s *stove) judged(stands []api.Stand) (d draft, e api.Errno) {
	defer func() {
		if w, is := recover().(wrong); is {
			d, e = draft{}, w.errno
		}
	}()
	if e := count(len(stands), len(s.Cones), len(s.Cones)); e != api.OK {
		return draft{}, e
	}
	d = blank()
	for cone, at := range stands {
		d = d.with(cone, s.need(cone, at))
	}
	if !s.hold(d.places) {
		panic(wrong{api.ErrExcess})
	}
	return d, api.OK
}

// all returns the set of all cones.
func (s *stove) all() cones {
	return 1<<len(s.Cones) - 1
}

// choices returns all stays that each cone has if it is alone: not to be put in, unless it must be, and to dry, if it may be put in.
func (s *stove) choices(must, may cones) [][]stay {
	var all [][]stay
	for cone := range s.Cones {
		var list []stay
		if !must.has(cone) {
			list = append(list, out())
		}
		if may.has(cone) {
			list = slices.AppendSeq(list, s.stays(cone))
		}
		all = append(all, list)
	}
	return all
}

// plans goes through all right plans, in their order, in which all cones are put in that must be, and others only if they may be.
func (s *stove) plans(must, may cones) iter.Seq[draft] {
	return func(yield func(draft) bool) {
		choices := s.choices(must, may)
		var on func(d draft, cone int) bool
		on = func(d draft, cone int) bool {
			if cone == len(choices) {
				return yield(d)
			}
			for _, x := range choices[cone] {
				if more := d.with(cone, x); s.hold(more.places) && !on(more, cone+1) {
					return false
				}
			}
			return true
		}
		on(blank(), 0)
	}
}

// can returns whether these cones can all be dried, without the others.
func (s *stove) can(list cones) bool {
	for range s.plans(list, list) {
		return true
	}
	return false
}

// fullest returns all right plans with the most cones, and who is put in.
func (s *stove) fullest() map[plan]cones {
	full, most := map[plan]cones{}, 0
	for d := range s.plans(0, s.all()) {
		switch n := d.in.size(); {
		case n > most:
			most = n
			clear(full)
			fallthrough
		case n == most:
			full[d.plan] = d.in
		}
	}
	return full
}

// most returns the first right plan with the most cones, and who is put in. No cone at all is always a right plan.
func (s *stove) most() (plan, cones) {
	full, l := s.fullest(), least[plan]{compare: plan.compare}
	for p := range full {
		l.keep(p)
	}
	return l.kept, full[l.kept]
}

// verdict returns whether the cone is put in in all right plans with the most cones, in none, or in some.
func (s *stove) verdict(cone int) int {
	with, without := false, false
	for _, in := range s.fullest() {
		with, without = with || in.has(cone), without || !in.has(cone)
	}
	switch {
	case with && without:
		return api.Open
	case with:
		return api.Yes
	}
	return api.No
}

// soonest returns the first right plan with all cones in which the last one is dry soonest, if there is one.
func (s *stove) soonest() (draft, bool) {
	l := least[draft]{compare: func(a, b draft) int { return cmp.Compare(a.last, b.last) }}
	for d := range s.plans(s.all(), s.all()) {
		l.keep(d)
	}
	return l.kept, l.some
}

// crowd returns the fewest cones that cannot all be dried.
func (s *stove) crowd() ([]int, api.Errno) {
	l := least[cones]{compare: cones.compare}
	for list := range s.all() + 1 {
		if !s.can(list) {
			l.keep(list)
		}
	}
	if !l.some {
		return nil, api.ErrNothing
	}
	return l.kept.list(), api.OK
}
