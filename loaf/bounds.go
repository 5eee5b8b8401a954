package loaf

import (
	"iter"

	"muscovado/api"
)

// bounds are what came out for each loaf; 0 for loaves that there are not.
type bounds [api.MaxLoaves]api.Span

// with returns what can have come out with these rates.
func (w *batch) with(r rates) (bounds, error) {
	var b bounds
	for number := range w.Loaves {
		k := w.known[number]
		b[number] = out(k, left(k, w.Paper), r)
	}
	return w.settle(b)
}

// settle narrows bounds so that each of them is what a loaf weighs in a truth: all loaves together weigh what the vessel can.
func (w *batch) settle(b bounds) (bounds, error) {
	for _, s := range b {
		if empty(s) {
			return bounds{}, untrue{}
		}
	}
	if empty(w.together(b, everyLoaf)) {
		return bounds{}, untrue{}
	}
	settled := b
	for number := range w.Loaves {
		settled[number] = w.together(b, one(number))
	}
	return settled, nil
}

// together returns what some loaves weigh together, if each loaf is within its bounds and all of them weigh what the vessel can.
func (w *batch) together(b bounds, loaves set) api.Span {
	return both(b.sum(loaves), minus(w.vessel, b.sum(everyLoaf&^loaves)))
}

// sum returns the sum of the bounds of some loaves.
func (b bounds) sum(loaves set) api.Span {
	var least, greatest sum[int]
	b.ends(loaves, least.add, greatest.add)
	return api.Span{Lo: least.total, Hi: greatest.total}
}

// ends hands over the bounds of some loaves, one by one.
func (b bounds) ends(loaves set, least, greatest func(int)) {
	for number := range loaves.each {
		least(b[number].Lo)
		greatest(b[number].Hi)
	}
}

// cases goes through what can have come out if some loaves are short, and no other ones; there are several bounds for such loaves.
func (w *batch) cases() iter.Seq2[set, bounds] {
	return func(yield func(set, bounds) bool) {
		for _, b := range w.outs {
			for short := range w.loaves().parts {
				if b, err := w.settle(w.cut(b, short)); err == nil && !yield(short, b) {
					return
				}
			}
		}
	}
}

// cut leaves weights at which these loaves are short and the other ones are not.
func (w *batch) cut(b bounds, short set) bounds {
	for number, l := range w.Loaves {
		if short.has(number) {
			b[number].Hi = min(b[number].Hi, l.Promise-1)
		} else {
			b[number].Lo = max(b[number].Lo, l.Promise)
		}
	}
	return b
}

// shorts returns the least and the greatest number of loaves that are short in a truth.
func (w *batch) shorts() api.Span {
	var all []api.Span
	for short := range w.cases() {
		all = append(all, about(short.size(), 0))
	}
	return widen(all...)
}

// owed returns the least and the greatest sum of what short loaves lack in a truth.
func (w *batch) owed() api.Span {
	var all []api.Span
	for short, b := range w.cases() {
		var promised sum[int]
		for number := range short.each {
			promised.add(w.Loaves[number].Promise)
		}
		all = append(all, minus(about(promised.total, 0), w.together(b, short)))
	}
	return widen(all...)
}
