package saw

import (
	"cmp"
	"errors"
	"iter"
	"math"

	"muscovado/api"
)

// lack is what a plan has too little of: loaves of a kind, or crushed sugar of it, or of all kinds together.
type lack struct {
	errno api.Errno
	kind  int
}

func (l lack) Error() string {
	return "the plan lacks loaves or sugar: " + l.errno.Error()
}

// errnoOf returns what is wrong with a plan.
func errnoOf(err error) api.Errno {
	var l lack
	if errors.As(err, &l) {
		return l.errno
	}
	return api.OK
}

// judge returns why a plan is wrong, in which these loaves are crushed for what is needed.
func (s *saw) judge(n needs, crushed perKind) error {
	for kind, left := range s.uncut(n, crushed) {
		if left < 0 {
			return lack{api.ErrBarred, kind}
		}
	}
	for kind, pounds := range s.pounds(n, crushed) {
		if pounds < n.sugar[kind] {
			return lack{api.ErrConflict, kind}
		}
	}
	if s.over(n, crushed) < 0 {
		return lack{api.ErrConflict, anyKind}
	}
	return nil
}

// uncut returns the loaves of each kind that are not taken; less than 0 if more are than there are.
func (s *saw) uncut(n needs, crushed perKind) perKind {
	left := perKindOf(s.Stock)
	for kind := range left {
		left[kind] -= n.loaves[kind] + crushed[kind]
	}
	return left
}

// pounds returns the crushed sugar of each kind.
func (s *saw) pounds(n needs, crushed perKind) perKind {
	pounds := n.rests
	for kind, loaves := range crushed {
		pounds[kind] += loaves * s.weights[kind]
	}
	return pounds
}

// over returns the crushed sugar that is not taken; less than 0 if more is than there is.
func (s *saw) over(n needs, crushed perKind) int {
	return s.pounds(n, crushed).total() - n.pounds
}

// plan is how many loaves are crushed as they are, all loaves that are taken then, and the pounds that are left over.
type plan struct {
	crushed     perKind
	cones, over int
}

// compare says which of two plans for the same wants is better.
func (p plan) compare(o plan) int {
	return cmp.Or(p.cones-o.cones, p.over-o.over, p.crushed.compare(o.crushed))
}

// walk goes from plan to plan for what is needed: it crushes a loaf more, or takes the last one back.
type walk struct {
	*saw
	needs   needs
	crushed perKind
	tried   map[perKind]bool
	fewest  int // the cones of a right plan that was met
}

// plans goes through right plans for what is needed: all that have the fewest cones, and perhaps some that have more.
func (s *saw) plans(n needs) iter.Seq[plan] {
	return func(yield func(plan) bool) {
		w := walk{saw: s, needs: n, tried: map[perKind]bool{}, fewest: math.MaxInt}
		w.on(yield)
	}
}

// on goes on until yield has enough. Loaves are only added where sugar is lacking, so that none of them is too many: every plan with the fewest cones is met.
func (w *walk) on(yield func(plan) bool) bool {
	p := plan{w.crushed, w.needs.loaves.total() + w.crushed.total(), w.over(w.needs, w.crushed)}
	if w.tried[p.crushed] || p.cones > w.fewest {
		return true
	}
	w.tried[p.crushed] = true
	var l lack
	if !errors.As(w.judge(w.needs, p.crushed), &l) {
		w.fewest = p.cones
		return yield(p)
	}
	for _, kind := range w.helping(l) {
		if !w.more(kind, yield) {
			return false
		}
	}
	return true
}

// more goes on with a loaf more that is crushed.
func (w *walk) more(kind int, yield func(plan) bool) bool {
	w.crushed[kind]++
	defer func() { w.crushed[kind]-- }()
	return w.on(yield)
}

// helping returns the kinds of which more loaves can be crushed for what is lacking: first those with heavier loaves, as the fewest of them are enough.
func (s *saw) helping(l lack) []int {
	switch {
	case l.errno == api.ErrBarred:
		return nil
	case l.kind == anyKind:
		return s.kinds
	}
	return []int{l.kind}
}

// plan returns the best plan for these wants, if one is right.
func (s *saw) plan(wants set) (plan, bool) {
	b := best[plan]{compare: plan.compare}
	for p := range s.plans(s.needs(wants)) {
		b.keep(p)
	}
	return b.kept, b.some
}

// crush returns what is crushed in the best plan for these wants, and its cones.
func (s *saw) crush(wants set) (crushed []int, cones int, e api.Errno) {
	p, some := s.plan(wants)
	if !some {
		return nil, 0, api.ErrNothing
	}
	return p.crushed.list(len(s.Loaves)), p.cones, api.OK
}

// can returns whether these wants can be served.
func (s *saw) can(wants set) bool {
	for range s.plans(s.needs(wants)) {
		return true
	}
	return false
}
