package thread

import "iter"

// planner gives times to pans, a time of its own to each one.
type planner struct {
	strikes []set // the times that each pan can get
	free    set
}

// plan returns the first list of times, one out of each set and no two of them the same, if there is one.
func plan(strikes []set) ([]int, bool) {
	p := &planner{strikes: strikes}
	for _, times := range strikes {
		p.free |= times
	}
	return p.place(0)
}

// place gives times to the pan and to all behind it.
func (p *planner) place(pan int) ([]int, bool) {
	if pan == len(p.strikes) {
		return nil, true
	}
	for time := range (p.strikes[pan] & p.free).each {
		if later, ok := p.take(time, pan); ok {
			return append([]int{time}, later...), true
		}
	}
	return nil, false
}

// take gives the time to the pan, and times to those behind it, which are returned; then it puts the time back.
func (p *planner) take(time, pan int) ([]int, bool) {
	p.change(set.without, time)
	defer p.change(set.with, time)
	return p.place(pan + 1)
}

func (p *planner) change(how func(set, int) set, time int) {
	p.free = how(p.free, time)
}

// lacking goes through the sets of pans for which there is no plan.
func lacking(strikes []set) iter.Seq[set] {
	return func(yield func(set) bool) {
		for pans := range set(1) << len(strikes) {
			var theirs []set
			for pan := range pans.each {
				theirs = append(theirs, strikes[pan])
			}
			if _, ok := plan(theirs); !ok && !yield(pans) {
				return
			}
		}
	}
}
