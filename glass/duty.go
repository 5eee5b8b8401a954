package glass

import (
	"iter"
	"slices"

	"muscovado/api"
)

// step returns the colour that a step has; if there is none, one that no sample has.
func (r *row) step(n int) int {
	if n < len(r.Steps) {
		return r.Steps[n]
	}
	return api.MaxColour + 1
}

// class returns how many steps are at most the colour.
func (r *row) class(colour int) int {
	class := 0
	switch {
	case colour >= r.step(2):
		class++
		fallthrough
	case colour >= r.step(1):
		class++
		fallthrough
	case colour >= r.step(0):
		class++
	}
	return class
}

// classesOf returns the classes of some colours.
func (r *row) classesOf(colours api.Span) set {
	var classes set
	for class := r.class(colours.Lo); class <= r.class(colours.Hi); class++ {
		classes = classes.with(class)
	}
	return classes
}

// classes returns all classes that a sample has in some truth.
func (r *row) classes(sample int) set {
	var classes set
	for _, p := range r.parts {
		classes |= r.classesOf(p.colours[sample])
	}
	return classes
}

// duties goes through all that a sample pays in some truth.
func (r *row) duties(sample int) iter.Seq[int] {
	classes := r.classes(sample)
	return func(yield func(int) bool) {
		for class := range len(r.Duties) {
			if classes.has(class) && !yield(r.Duties[class]) {
				return
			}
		}
	}
}

// alike says whether samples that differ have the same class.
func (r *row) alike(x, y int) int {
	var v votes
	for _, p := range r.parts {
		for a := range r.classesOf(p.colours[x]).each {
			for b := range r.classesOf(p.colours[y]).each {
				v.take(a == b)
			}
		}
	}
	return v.verdict()
}

// held is the numbers of what is found beside each glass; 0 beside others than those against which the sample is held.
type held [api.MaxGlasses]int

func (r *row) hold(colour int, against set, year int, f fades) held {
	var h held
	for glass := range against.each {
		h[glass] = findingsBeside(r.colour(glass, year, f)).of(colour)
	}
	return h
}

// settled returns whether the class of the sample is sure, whatever is found if it is held against these glasses.
func (r *row) settled(sample int, against set, year int) bool {
	classes := map[held]int{}
	for _, p := range r.parts {
		for colour := p.colours[sample].Lo; colour <= p.colours[sample].Hi; colour++ {
			h, class := r.hold(colour, against, year, p.fades), r.class(colour)
			if other, some := classes[h]; some && other != class {
				return false
			}
			classes[h] = class
		}
	}
	return true
}

// settling goes through all lists of glasses that settle the class of the sample in the year.
func (r *row) settling(sample, year int) iter.Seq[set] {
	var made set
	for glass := range r.made(year) {
		made = made.with(glass)
	}
	return func(yield func(set) bool) {
		for against := range made + 1 {
			if against.in(made) && r.settled(sample, against, year) && !yield(against) {
				return
			}
		}
	}
}

// count returns the number of all truths.
func (r *row) count() int {
	n := 0
	for _, p := range r.parts {
		n += p.count()
	}
	return n
}

// next returns the glass beside which any finding leaves the fewest truths at most, and how many; -1 if there is none that leaves fewer than there are.
func (r *row) next(sample, year int) (glass, left int) {
	glass, left = -1, r.count()
	counts := make([]int, len(findings{}))
	for other := range r.made(year) {
		clear(counts)
		for _, p := range r.parts {
			colours := p.colours[sample]
			for found, f := range findingsBeside(r.colour(other, year, p.fades)) {
				p.colours[sample] = cut(colours, f)
				counts[found] += p.count()
			}
		}
		if most := slices.Max(counts); most < left {
			glass, left = other, most
		}
	}
	return glass, left
}
