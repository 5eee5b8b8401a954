package char

import "muscovado/api"

// house is char at work.
type house struct {
	api.Char
	shifts []shift
	// may returns whether plans with the shift on the day are looked at.
	may func(day int, s shift) bool
}

// at puts char to work, unless it or other arguments are wrong.
func at(c api.Char, arguments ...api.Errno) (house, api.Errno) {
	if e := first(Check(c), first(arguments...)); e != api.OK {
		return house{}, e
	}
	return put(c), api.OK
}

// put puts char to work; it may have no filters, although Check does not let that pass.
func put(c api.Char) house {
	return house{c, shifts(len(c.Filters)), func(int, shift) bool { return true }}
}

// only returns the house of which plans are looked at only if they have such a shift on the day.
func (h house) only(day int, such func(shift) bool) house {
	h.may = func(on int, s shift) bool { return on != day || such(s) }
	return h
}

// without returns char without one of its filters.
func without(c api.Char, filter int) api.Char {
	c.Filters = append(c.Filters[:filter:filter], c.Filters[filter+1:]...)
	return c
}

// with returns char with a filter more, behind the others.
func with(c api.Char, f api.Filter) api.Char {
	n := len(c.Filters)
	// The capacity is cut so that the filters that were given are copied, and not written behind.
	c.Filters = append(c.Filters[:n:n], f)
	return c
}

// strengths are those of all filters on a morning; 0 for filters that there are not.
type strengths [api.MaxFilters]int

func (s strengths) sum() int {
	sum := 0
	for _, strength := range s {
		sum += strength
	}
	return sum
}

// raised returns the strengths of s, or those of o where they are greater.
func (s strengths) raised(o strengths) strengths {
	for filter := range s {
		s[filter] = max(s[filter], o[filter])
	}
	return s
}

// morning is how filters are on one.
type morning struct {
	strengths
	washed set
}

// asGood returns whether each filter is at least as strong as in o, and not washed unless it is there, too. If it is so, then it is so after each shift, and a shift that is right on a day after o is right after m.
func (m morning) asGood(o morning) bool {
	return m.strengths == m.raised(o.strengths) && m.washed.in(o.washed)
}

// worst is a morning that all others are as good as.
func worst() morning {
	return morning{washed: everyOne}
}

// first returns the morning 0.
func (h house) first() morning {
	var m morning
	for filter, f := range h.Filters {
		m.strengths[filter] = f.Now
		if f.Washed {
			m.washed = m.washed.with(filter)
		}
	}
	return m
}

// wrong says why a day is not right.
type wrong struct{ errno api.Errno }

// after returns the morning after a day, or why the day is not right.
func (h house) after(m morning, day int, s shift) (next morning, e api.Errno) {
	defer func() {
		if w, ok := recover().(wrong); ok {
			next, e = morning{}, w.errno
		}
	}()
	return h.worked(m, day, s), api.OK
}

// worked is after, but panics with what is wrong.
func (h house) worked(m morning, day int, s shift) morning {
	switch {
	case m.washed&s.washed != 0:
		panic(wrong{api.ErrBarred})
	case s.burned.size() > h.Kiln:
		panic(wrong{api.ErrExcess})
	}
	left := h.Days[day]
	for filter, d := range s.deeds {
		left -= work(&m.strengths[filter], h.Filters[filter], d, left)
	}
	if left > 0 {
		panic(wrong{api.ErrConflict})
	}
	m.washed = m.washed&^s.burned | s.washed
	return m
}

// work changes the strength of a filter by what it does, and returns how much it clears of what is left.
func work(strength *int, f api.Filter, d deed, left int) int {
	cleared, gain := 0, f.Gain
	switch d.job() {
	case run:
		cleared = min(left, *strength)
		*strength -= cleared
	case burn:
		gain = f.Power
		fallthrough
	case wash:
		*strength = min(f.Power, *strength+gain)
	}
	return cleared
}

// course returns all mornings of a plan, and what it costs.
func (h house) course(plan [][]int) ([]morning, cost, api.Errno) {
	if e := count(len(plan), len(h.Days), len(h.Days)); e != api.OK {
		return nil, cost{}, e
	}
	m, sum := h.first(), cost{}
	mornings := []morning{m}
	for day, list := range plan {
		e := checkJobs(list, len(h.Filters))
		if e != api.OK {
			return nil, cost{}, e
		}
		s := shiftOf(list)
		if m, e = h.after(m, day, s); e != api.OK {
			return nil, cost{}, e
		}
		mornings, sum = append(mornings, m), sum.plus(s.cost)
	}
	return mornings, sum, api.OK
}
