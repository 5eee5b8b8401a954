package thread

import (
	"iter"

	"muscovado/api"
)

// courses say how thick each pan can be at first, at most, if the heats are these.
type courses map[fire][api.MaxBoilPans]int

// put adds what pans can be at first to what is said of these heats already.
func (c courses) put(f fire, starts [api.MaxBoilPans]int) {
	for pan, before := range c[f] {
		starts[pan] = max(starts[pan], before)
	}
	c[f] = starts
}

// damped returns the courses with the heat 0 in a tick. Those that differ in this tick alone become one.
func (c courses) damped(tick int) courses {
	out := courses{}
	for f, starts := range c {
		cool := f
		cool[tick] = 0
		out.put(cool, starts)
	}
	return out
}

// courses returns those of all truths.
func (b *boil) courses() courses {
	all := courses{}
look:
	for f := range b.fires() {
		var most [api.MaxBoilPans]int
		for pan := range b.pans() {
			starts := b.starts(pan, f)
			if size(starts) == 0 {
				continue look
			}
			most[pan] = starts.Hi
		}
		all.put(f, most)
	}
	return all
}

// burns returns whether a pan burns in one of the courses. No pan becomes thinner, so the last time says it.
func (b *boil) burns(c courses) bool {
	last := len(b.Heats)
	for f, starts := range c {
		for pan := range b.pans() {
			if b.thread(starts[pan]+b.added(pan, last, f)) == burnt {
				return true
			}
		}
	}
	return false
}

// dampings goes through sets of ticks, from the given one on, without whose heat no pan burns. To a set that is enough it adds no tick more, so not all are gone through, but the fewest are.
func (b *boil) dampings(tick int) iter.Seq[set] {
	return func(yield func(set) bool) {
		var damp func(c courses, damped set, tick int) bool
		damp = func(c courses, damped set, tick int) bool {
			if !b.burns(c) {
				return yield(damped)
			}
			for ; tick < len(b.Heats); tick++ {
				if !damp(c.damped(tick), damped.with(tick), tick+1) {
					return false
				}
			}
			return true
		}
		damp(b.courses(), 0, tick)
	}
}
