package loaf

import (
	"errors"
	"iter"

	"muscovado/api"
	"muscovado/weigh"
)

// batch is a batch at work: the given one, what the vessel can weigh, what is known of each loaf, and all truths, as what can have come out with each list of rates with which there is one.
type batch struct {
	api.Batch
	vessel api.Span
	known  [api.MaxLoaves]known
	outs   map[rates]bounds
}

// untrue is that there is no truth.
type untrue struct{}

func (untrue) Error() string {
	return "there is no truth"
}

// at puts a batch to work, unless it is wrong, or another argument is; its truths are not looked for.
func at(b api.Batch, arguments ...api.Errno) (*batch, api.Errno) {
	if e := first(Check(b), first(arguments...)); e != api.OK {
		return nil, e
	}
	// Every weight between the least and the greatest one is in a truth of the works.
	vessel, e := weigh.Weight(b.Works, b.Vessel)
	w := &batch{Batch: b, vessel: vessel}
	for number, l := range w.Loaves {
		w.known[number] = found{travelled{l}}
	}
	return w, e
}

// told is at, but there has to be a truth.
func told(b api.Batch, arguments ...api.Errno) (*batch, api.Errno) {
	w, e := at(b, arguments...)
	if e != api.OK {
		return nil, e
	}
	if errors.Is(w.look(), untrue{}) {
		return nil, api.ErrConflict
	}
	return w, api.OK
}

// without returns the batch without the findings of some loaves.
func (w *batch) without(loaves set) (*batch, error) {
	less := *w
	for number := range loaves.each {
		less.known[number] = unfound{travelled{w.Loaves[number]}}
	}
	return &less, less.look()
}

// again returns the batch after one loaf has been weighed again, by scales that err by at most off.
func (w *batch) again(loaf, shown, off int) (*batch, error) {
	more := *w
	more.outs = map[rates]bounds{}
	for r, b := range w.outs {
		b[loaf] = both(b[loaf], out(w.known[loaf], about(shown-w.Paper, off), r))
		if b, err := more.settle(b); err == nil {
			more.outs[r] = b
		}
	}
	if len(more.outs) == 0 {
		return nil, untrue{}
	}
	return &more, nil
}

// loaves returns all that there are.
func (w *batch) loaves() set {
	var all sum[set]
	for number := range w.Loaves {
		all.add(one(number))
	}
	return all.total
}

// span returns the least and the greatest of what is measured of all truths.
func (w *batch) span(measure func(r rates, b bounds) api.Span) api.Span {
	var all []api.Span
	for r, b := range w.outs {
		all = append(all, measure(r, b))
	}
	return widen(all...)
}

// rate returns the least and the greatest rate at a place of the list.
func (w *batch) rate(place int) api.Span {
	return w.span(func(r rates, b bounds) api.Span { return about(r[place], 0) })
}

// out returns the least and the greatest weight that came out for a loaf.
func (w *batch) out(loaf int) api.Span {
	return w.span(func(r rates, b bounds) api.Span { return b[loaf] })
}

// total returns the least and the greatest sum of what came out for all loaves.
func (w *batch) total() api.Span {
	return w.span(func(r rates, b bounds) api.Span { return w.together(b, everyLoaf) })
}

// verdict returns whether a loaf is short in all truths, in none, or in some.
func (w *batch) verdict(loaf int) int {
	came, promise := w.out(loaf), w.Loaves[loaf].Promise
	switch {
	case came.Hi < promise:
		return api.Yes
	case came.Lo >= promise:
		return api.No
	}
	return api.Open
}

// having returns all loaves of which the verdict is this one.
func (w *batch) having(verdict int) set {
	var all sum[set]
	for number := range w.Loaves {
		if w.verdict(number) == verdict {
			all.add(one(number))
		}
	}
	return all.total
}

// proof returns the fewest other loaves whose findings prove that a loaf is short, which it is in all truths.
func (w *batch) proof(loaf int) set {
	others := w.loaves() &^ one(loaf)
	proof, _ := fewest(others.parts, func(proof set) bool {
		// A truth is still one if less is known, so there are truths.
		less, _ := w.without(others &^ proof)
		return less.verdict(loaf) == api.Yes
	})
	return proof
}

// wrong returns the fewest loaves without whose findings there is a truth, if there are such loaves.
func (w *batch) wrong() (set, bool) {
	return fewest(w.loaves().parts, func(wrong set) bool {
		_, err := w.without(wrong)
		return err == nil
	})
}

// next returns the loaf that leaves the fewest loaves open at worst if it is weighed again by scales that err by at most off, and how many these are; -1 if there is none that leaves fewer than are open now.
func (w *batch) next(off int) (loaf, left int) {
	loaf, left = -1, w.having(api.Open).size()
search:
	for number := range w.Loaves {
		worst := 0
		for after := range w.weighings(number, off) {
			worst = max(worst, after.having(api.Open).size())
			if worst >= left {
				continue search
			}
		}
		loaf, left = number, worst
		if left == 0 {
			break search
		}
	}
	return loaf, left
}

// weighings goes through the batch as it is after one loaf has been weighed again, by scales that err by at most off, with all that these can show.
func (w *batch) weighings(loaf, off int) iter.Seq[*batch] {
	return func(yield func(*batch) bool) {
		for shown := w.Paper - off; shown <= w.Paper+api.MaxLoaf+off; shown++ {
			if after, err := w.again(loaf, shown, off); err == nil && !yield(after) {
				return
			}
		}
	}
}
