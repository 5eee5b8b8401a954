package syrup

import (
	"sync"

	"muscovado/api"
)

// given are the pans as they were given.
type given []api.Pan

// takes returns whether the pan takes a syrup of the quality.
func (g given) takes(pan, quality int) bool {
	return within(quality, g[pan].Lo, g[pan].Hi)
}

// out returns what comes out of the pan.
func (g given) out(pan, quality int) int {
	return min(max(0, quality+g[pan].Shift), api.MaxQuality)
}

// treacle returns whether no pan takes a syrup of the quality.
func (g given) treacle(quality int) bool {
	for pan := range g {
		if g.takes(pan, quality) {
			return false
		}
	}
	return true
}

// house is pans at work. One that is closed takes nothing, but what it could take is not treacle for that.
type house struct {
	given
	closed set
}

// at puts pans to work, unless they or other arguments are wrong.
func at(pans []api.Pan, arguments ...api.Errno) (house, api.Errno) {
	if e := first(Check(pans), first(arguments...)); e != api.OK {
		return house{}, e
	}
	return house{given: pans}, api.OK
}

// without returns the house with these pans closed.
func (h house) without(pans set) house {
	return house{h.given, pans}
}

// taking returns all pans that take a syrup of the quality.
func (h house) taking(quality int) []int {
	var pans []int
	for pan := range h.given {
		if !h.closed.has(pan) && h.takes(pan, quality) {
			pans = append(pans, pan)
		}
	}
	return pans
}

// outs returns what comes out of each pan that takes a syrup of the quality; the same can come out of several.
func (h house) outs(quality int) []int {
	outs := h.taking(quality)
	for i, pan := range outs {
		outs[i] = h.out(pan, quality)
	}
	return outs
}

// qualities says which ones are among some.
type qualities [api.MaxQuality + 1]bool

func (q qualities) list() []int {
	var list []int
	for quality, among := range q {
		if among {
			list = append(list, quality)
		}
	}
	return list
}

// after returns all that comes out of pans that take a syrup of one of these qualities.
func (h house) after(before qualities) qualities {
	var all qualities
	for _, quality := range before.list() {
		for _, out := range h.outs(quality) {
			all[out] = true
		}
	}
	return all
}

// reached returns all qualities at the ends of ways; that of the syrup itself is one of them.
func (h house) reached(quality int) qualities {
	var all qualities
	all[quality] = true
	var visit func(quality int)
	visit = func(quality int) {
	look:
		for outs := h.outs(quality); len(outs) > 0; outs = outs[1:] {
			out := outs[0]
			if all[out] {
				continue look
			}
			all[out] = true
			if len(outs) == 1 {
				// Nothing is left to be done here afterwards, so the last one is gone on with in this call.
				quality = out
				goto look
			}
			visit(out)
		}
	}
	visit(quality)
	return all
}

// ends returns the qualities of all treacle at the ends of ways.
func (h house) ends(quality int) []int {
	ends := h.reached(quality)
	for end := range ends {
		ends[end] = ends[end] && h.treacle(end)
	}
	return ends.list()
}

// longest returns how many pans the longest way has; false if there are ways as long as one likes. It looks at the ends of all ways with one pan, with two and so on: either there are no more, or these are the same ones as before, and so they will be for ever.
func (h house) longest(quality int) (int, bool) {
	var ends qualities
	ends[quality] = true
	seen := map[qualities]bool{}
	for pans := 0; !seen[ends]; pans++ {
		seen[ends] = true
		next := h.after(ends)
		if next == (qualities{}) {
			return pans, true
		}
		ends = next
	}
	return 0, false
}

// ever returns all qualities from which a syrup can go round for ever.
func (h house) ever() qualities {
	var all qualities
	for quality := range all {
		_, ends := h.longest(quality)
		all[quality] = !ends
	}
	return all
}

// closing returns the first of the sets of pans without which nothing can go round for ever.
func (h house) closing() set {
	sets := set(1) << len(h.given)
	enough := map[set]bool{}
	for pans := range sets {
		enough[pans] = true
	}
	var lock sync.Mutex
	var looks sync.WaitGroup
	for pans := range sets {
		looks.Go(func() {
			if h.without(pans).ever() == (qualities{}) {
				return
			}
			lock.Lock()
			defer lock.Unlock()
			delete(enough, pans)
		})
	}
	looks.Wait()
	least := best[set]{before: set.before}
	for pans := range enough {
		least.take(pans)
	}
	return least.kept
}
