package thread

import (
	"iter"

	"muscovado/api"
)

// kind is a kind of thread; the numbers are those of package api.
type kind int

const (
	breaks kind = iota
	short
	long
	burnt
	kinds = iota
)

// thickest is more than a pan can ever be.
const thickest = api.MaxThick + api.MaxTicks*api.MaxBoilRate*api.MaxHeat + 1

// fire is the heats of a run; those of ticks that a boil does not have are 0.
type fire [api.MaxTicks]int

// until returns the sum of the heats before a time.
func (f fire) until(time int) int {
	sum := 0
	for _, heat := range f[:time] {
		sum += heat
	}
	return sum
}

// boil is a valid one at work.
type boil struct {
	api.Boil
}

// pans and times return how many there are.
func (b *boil) pans() int {
	return len(b.Starts)
}

func (b *boil) times() int {
	return len(b.Heats) + 1
}

// fires goes through all heats that a run can have.
func (b *boil) fires() iter.Seq[fire] {
	return func(yield func(fire) bool) {
		var f fire
		for tick, heat := range b.Heats {
			f[tick] = heat.Lo
		}
	look:
		if !yield(f) {
			return
		}
		for tick, heat := range b.Heats {
			if f[tick] < heat.Hi {
				f[tick]++
				goto look
			}
			f[tick] = heat.Lo
		}
	}
}

// lit returns the boil whose first heat is known.
func (b *boil) lit(heat int) *boil {
	known := *b
	known.Heats = append([]api.Span{{Lo: heat, Hi: heat}}, b.Heats[1:]...)
	return &known
}

// added returns by how much a pan becomes thicker until a time.
func (b *boil) added(pan, time int, f fire) int {
	return b.Rates[pan] * f.until(time)
}

// thread returns that of a pan that is so thick.
func (b *boil) thread(thick int) kind {
	k := burnt
	switch {
	case thick < b.Marks[short-1]:
		k--
		fallthrough
	case thick < b.Marks[long-1]:
		k--
		fallthrough
	case thick < b.Marks[burnt-1]:
		k--
	}
	return k
}

// thick returns how thick a pan is that has this thread.
func (b *boil) thick(thread kind) api.Span {
	s := api.Span{Lo: 0, Hi: thickest}
	if thread > breaks {
		s.Lo = b.Marks[thread-1]
	}
	if thread < burnt {
		s.Hi = b.Marks[thread] - 1
	}
	return s
}

// starts returns how thick a pan was at first, if its proofs are right and the heats are these. With the heats known, pans do not matter for each other, and what is left of each one is a span, for each proof leaves one.
func (b *boil) starts(pan int, f fire) api.Span {
	s := b.Starts[pan]
	for _, p := range b.Proofs {
		if p.Pan == pan {
			s = both(s, shift(b.thick(kind(p.Thread)), -b.added(pan, p.Tick, f)))
		}
	}
	return s
}

// possible returns whether there is a truth.
func (b *boil) possible() bool {
	found := false
search:
	for f := range b.fires() {
		for pan := range b.pans() {
			if size(b.starts(pan, f)) == 0 {
				continue search
			}
		}
		found = true
		break search
	}
	return found
}

// wrong goes through the proofs of a pan that are wrong with these heats: a set for each thickness that it can have at first.
func (b *boil) wrong(pan int, f fire) iter.Seq[set] {
	return func(yield func(set) bool) {
		for start := b.Starts[pan].Lo; start <= b.Starts[pan].Hi; start++ {
			var proofs set
			for i, p := range b.Proofs {
				if p.Pan == pan && int(b.thread(start+b.added(pan, p.Tick, f))) != p.Thread {
					proofs = proofs.with(i)
				}
			}
			if !yield(proofs) {
				return
			}
		}
	}
}

// wrongs goes through the fewest proofs that are wrong with each fire. The fewest of all pans are those of each one, which do not matter for each other.
func (b *boil) wrongs() iter.Seq[set] {
	return func(yield func(set) bool) {
		for f := range b.fires() {
			var proofs set
			for pan := range b.pans() {
				least, _ := fewest(b.wrong(pan, f), set.before)
				proofs |= least
			}
			if !yield(proofs) {
				return
			}
		}
	}
}

// shift returns a span that is greater by n.
func shift(s api.Span, n int) api.Span {
	return api.Span{Lo: s.Lo + n, Hi: s.Hi + n}
}

// both returns what is in a and in b; Lo is above Hi if that is nothing.
func both(a, b api.Span) api.Span {
	return api.Span{Lo: max(a.Lo, b.Lo), Hi: min(a.Hi, b.Hi)}
}

// size returns how many numbers are in a span.
func size(s api.Span) int {
	return max(0, s.Hi-s.Lo+1)
}
