package weigh

import "muscovado/api"

// table says what is so at each weight at which something is.
type table[T any] struct {
	cells [api.MaxRoom + 1]T
	some  [api.MaxRoom + 1]bool
}

func (t *table[T]) put(weight int, x T) {
	t.cells[weight], t.some[weight] = x, true
}

// join puts x together with what is at the weight already.
func (t *table[T]) join(weight int, x T, with func(a, b T) T) {
	if t.some[weight] {
		x = with(t.cells[weight], x)
	}
	t.put(weight, x)
}

// each goes through the weights at which something is, in ascending order.
func (t *table[T]) each(yield func(int, T) bool) {
	for weight := range t.cells {
		if t.some[weight] && !yield(weight, t.cells[weight]) {
			return
		}
	}
}

// among joins what is at all weights of a range; there may be nothing.
func (t *table[T]) among(weights api.Span, with func(a, b T) T) (all T, some bool) {
	for weight, x := range t.each {
		switch {
		case !within(weight, weights.Lo, weights.Hi):
		case some:
			all = with(all, x)
		default:
			all, some = x, true
		}
	}
	return all, some
}

// byWeight finds something out about the works for each weight that a vessel has in a truth.
func byWeight[T any](w api.Works, vessel int, find func(*works) (T, error)) *table[T] {
	var found table[T]
	for weight := range api.MaxRoom + 1 {
		if x, err := find(at(with(w, exact(vessel, weight)))); err == nil {
			found.put(weight, x)
		}
	}
	return &found
}

// lost returns the bounds of what is lost altogether.
func (w *works) lost() (api.Span, error) {
	return w.sum(func(weight int, lost api.Span) api.Span { return lost })
}

// stands returns the bounds of what stands: what a source weighs and does not lose in its branch.
func (w *works) stands() (api.Span, error) {
	return w.sum(func(weight int, lost api.Span) api.Span { return minus(about(weight, 0), lost) })
}

// sum adds up the bounds of what is measured of each source, of which its weight and what is lost in its branch are known.
func (w *works) sum(measure func(weight int, lost api.Span) api.Span) (api.Span, error) {
	var sum api.Span
	for _, s := range w.sources {
		weights, err := s.settle()
		if err != nil {
			return api.Span{}, err
		}
		var measured table[api.Span]
		for weight, lost := range s.losses().each {
			measured.put(weight, measure(weight, lost))
		}
		all, _ := measured.among(weights, hull)
		sum = plus(sum, all)
	}
	return sum, nil
}

// losses says what can be lost in the branch, at each weight that its vessel has in a truth of it.
func (b *branch) losses() *table[api.Span] {
	var all table[api.Span]
	if len(b.fills) == 0 {
		for weight := b.alone.Lo; weight <= b.alone.Hi; weight++ {
			all.put(weight, api.Span{})
		}
		return &all
	}
	for below, lost := range b.lossesBelow().each {
		for own := b.Loss.Lo; own <= b.Loss.Hi; own++ {
			if weight := below + own; within(weight, b.alone.Lo, b.alone.Hi) {
				all.join(weight, plus(lost, about(own, 0)), hull)
			}
		}
	}
	return &all
}

// lossesBelow says what can be lost in the branches of all that the vessel fills, at each sum of their weights that a vessel can hold.
func (b *branch) lossesBelow() *table[api.Span] {
	all := new(table[api.Span])
	all.put(0, api.Span{})
	for _, f := range b.fills {
		before, more := all, f.losses()
		all = new(table[api.Span])
		for weight, lost := range before.each {
			for added, x := range more.each {
				if weight+added > api.MaxRoom {
					break
				}
				all.join(weight+added, plus(lost, x), hull)
			}
		}
	}
	return all
}
