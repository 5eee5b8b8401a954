package thread

import (
	"cmp"
	"sync"

	"muscovado/api"
)

// bounds are the least and the greatest of what they were given.
type bounds[T cmp.Ordered] struct {
	lo, hi T
	some   bool
}

func (b *bounds[T]) take(x T) {
	if !b.some {
		b.lo, b.hi, b.some = x, x, true
	}
	b.lo, b.hi = min(b.lo, x), max(b.hi, x)
}

// join takes what other bounds were given.
func (b *bounds[T]) join(o bounds[T]) {
	if o.some {
		b.take(o.lo)
		b.take(o.hi)
	}
}

func span(b bounds[int]) api.Span {
	return api.Span{Lo: b.lo, Hi: b.hi}
}

// truths are what all truths of a boil say together.
type truths struct {
	*boil
	count   int
	heats   [api.MaxTicks]bounds[int]
	moments [api.MaxBoilPans][api.MaxTicks + 1]moment
}

// moment is a pan at a time: how thick it is, and in how many truths it has each thread.
type moment struct {
	thick   bounds[int]
	threads [kinds]int
}

// known returns the truths of a boil: the error of the boil, or of the arguments, or a conflict if there is none.
func known(b api.Boil, arguments ...api.Errno) (*truths, api.Errno) {
	if e := first(Check(b), first(arguments...)); e != api.OK {
		return nil, e
	}
	all := (&boil{b}).truths()
	if all.count == 0 {
		return nil, api.ErrConflict
	}
	return all, api.OK
}

// truths counts those of each first heat side by side.
func (b *boil) truths() *truths {
	found := make(chan *truths, size(b.Heats[0]))
	var counts sync.WaitGroup
	for heat := b.Heats[0].Lo; heat <= b.Heats[0].Hi; heat++ {
		counts.Go(func() { found <- b.lit(heat).counted() })
	}
	counts.Wait()
	close(found)
	all := &truths{boil: b}
	for some := range found {
		all.join(some)
	}
	return all
}

func (b *boil) counted() *truths {
	all := &truths{boil: b}
	for f := range b.fires() {
		all.take(f)
	}
	return all
}

// take adds the truths with these heats.
func (t *truths) take(f fire) {
	var starts [api.MaxBoilPans]api.Span
	count := 1
	for pan := range t.pans() {
		starts[pan] = t.starts(pan, f)
		count *= size(starts[pan])
	}
	if count == 0 {
		return
	}
	t.count += count
	for tick := range t.Heats {
		t.heats[tick].take(f[tick])
	}
	for pan := range t.pans() {
		others := count / size(starts[pan])
		for time := range t.times() {
			now := shift(starts[pan], t.added(pan, time, f))
			m := &t.moments[pan][time]
			m.thick.take(now.Lo)
			m.thick.take(now.Hi)
			for thread := range m.threads {
				m.threads[thread] += others * size(both(now, t.thick(kind(thread))))
			}
		}
	}
}

// join adds other truths of the same boil. In whatever order these come, the sum is the same.
func (t *truths) join(o *truths) {
	t.count += o.count
	for tick := range t.heats {
		t.heats[tick].join(o.heats[tick])
	}
	for pan := range t.moments {
		for time := range t.moments[pan] {
			to, from := &t.moments[pan][time], &o.moments[pan][time]
			to.thick.join(from.thick)
			for thread, n := range from.threads {
				to.threads[thread] += n
			}
		}
	}
}

// verdict returns whether a pan has this thread at the time.
func (t *truths) verdict(pan, time int, thread kind) int {
	switch t.moments[pan][time].threads[thread] {
	case 0:
		return api.No
	case t.count:
		return api.Yes
	}
	return api.Open
}

// strikes returns, for each pan, the times at which its thread is long in all truths.
func (t *truths) strikes() []set {
	strikes := make([]set, t.pans())
	for pan := range strikes {
		for time := range t.times() {
			if t.verdict(pan, time, long) == api.Yes {
				strikes[pan] = strikes[pan].with(time)
			}
		}
	}
	return strikes
}
