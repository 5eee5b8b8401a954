package glass

import (
	"iter"
	"slices"
	"sync"
	"sync/atomic"

	"muscovado/api"
)

// row is a row at work: the given one, and its truths in parts.
type row struct {
	api.Row
	parts []part
}

// fades are those of all glasses; 0 of glasses that there are not.
type fades [api.MaxGlasses]int

// part is all truths with these fades: each sample has any of its colours, whatever the other one has. Samples that there are not have the colour 0.
type part struct {
	fades
	colours [api.MaxSamples]api.Span
}

// count returns the number of truths.
func (p part) count() int {
	n := 1
	for _, colours := range p.colours {
		n *= size(colours)
	}
	return n
}

// at puts a row to work, unless it or another argument is wrong.
func at(r api.Row, arguments ...ask) (*row, api.Errno) {
	w := &row{Row: r}
	e := caught(func() {
		w.check()
		for _, ask := range arguments {
			ask(w)
		}
	})
	if e != api.OK {
		return nil, e
	}
	for _, p := range look(w, w.left) {
		if p.count() > 0 {
			w.parts = append(w.parts, p)
		}
	}
	return w, api.OK
}

// seen is at, but there has to be a truth.
func seen(r api.Row, arguments ...ask) (*row, api.Errno) {
	w, e := at(r, arguments...)
	if e == api.OK && len(w.parts) == 0 {
		return nil, api.ErrConflict
	}
	return w, e
}

// fadings goes through all fades that glasses can have, in lexicographic order.
func (r *row) fadings(yield func(fades) bool) {
	var first fades
	for glass, g := range r.Glasses {
		first[glass] = g.Fade.Lo
	}
	for f := first; yield(f); {
		if f = r.after(f); f == first {
			return
		}
	}
}

// after returns the fades that follow; the first ones behind the last ones.
func (r *row) after(f fades) fades {
	for glass, g := range slices.Backward(r.Glasses) {
		if f[glass] < g.Fade.Hi {
			f[glass]++
			return f
		}
		f[glass] = g.Fade.Lo
	}
	return f
}

// finds is what was found, by the fades with which it was.
type finds[T any] struct {
	mutex sync.Mutex
	with  map[fades]T
}

func (f *finds[T]) put(with fades, found T) {
	f.mutex.Lock()
	defer f.mutex.Unlock()
	f.with[with] = found
}

// lookers is how many goroutines look at fades.
const lookers = 4

// look looks at all fades side by side, and returns what was found with each of them, in their order.
func look[T any](r *row, what func(fades) T) []T {
	all := slices.Collect(r.fadings)
	found := finds[T]{with: map[fades]T{}}
	var next atomic.Int64
	var looks sync.WaitGroup
	for range min(lookers, len(all)) {
		looks.Go(func() {
			for i := next.Add(1) - 1; i < int64(len(all)); i = next.Add(1) - 1 {
				found.put(all[i], what(all[i]))
			}
		})
	}
	looks.Wait()
	var list []T
	for _, f := range all {
		list = append(list, found.with[f])
	}
	return list
}

// colour returns that of a glass in a year in which it is made.
func (r *row) colour(glass, year int, f fades) int {
	g := r.Glasses[glass]
	return max(0, g.Colour-f[glass]*(year-g.Made))
}

// made goes through the glasses that are made in the year or before.
func (r *row) made(year int) iter.Seq[int] {
	return func(yield func(int) bool) {
		for glass, g := range r.Glasses {
			if g.Made <= year && !yield(glass) {
				return
			}
		}
	}
}

// finding returns what a sight says.
func (r *row) finding(s api.Sight, f fades) finding {
	return findingsBeside(r.colour(s.Glass, s.Year, f))[s.Found]
}

// left returns what all sights leave of the truths with these fades.
func (r *row) left(f fades) part {
	p := part{fades: f}
	for sample, colours := range r.Samples {
		var list []finding
		for _, s := range r.Sights {
			if s.Sample == sample {
				list = append(list, r.finding(s, f))
			}
		}
		p.colours[sample] = left(colours, list)
	}
	return p
}

// wrongs goes through the sights of a sample that are wrong with these fades: a set for each colour that it can have.
func (r *row) wrongs(sample int, f fades) iter.Seq[set] {
	return func(yield func(set) bool) {
		for colour := r.Samples[sample].Lo; colour <= r.Samples[sample].Hi; colour++ {
			var sights set
			for i, s := range r.Sights {
				if s.Sample == sample && !r.finding(s, f).right(colour) {
					sights = sights.with(i)
				}
			}
			if !yield(sights) {
				return
			}
		}
	}
}

// wrong returns the fewest sights that are wrong with these fades. They are the fewest of each sample, as these do not matter for each other.
func (r *row) wrong(f fades) set {
	var sights set
	for sample := range r.Samples {
		least, _ := fewest(r.wrongs(sample, f), set.before)
		sights |= least
	}
	return sights
}
