package glass

import "muscovado/api"

// wrong says what is wrong with an argument.
type wrong struct{ errno api.Errno }

// need panics with an error unless something is right.
func need(right bool, e api.Errno) {
	if !right {
		panic(wrong{e})
	}
}

// caught returns the error with which ask panics.
func caught(ask func()) (e api.Errno) {
	defer func() {
		if w, ok := recover().(wrong); ok {
			e = w.errno
		}
	}()
	ask()
	return api.OK
}

// Check returns the first error of a row, otherwise OK.
func Check(r api.Row) api.Errno {
	return caught((&row{Row: r}).check)
}

func (r *row) check() {
	needCount(len(r.Glasses), 1, api.MaxGlasses)
	for _, g := range r.Glasses {
		need(within(g.Made, 0, api.MaxYear), api.ErrValue)
		need(within(g.Colour, 0, api.MaxColour), api.ErrValue)
		needSpan(g.Fade, api.MaxFade)
	}
	r.checkDuties()
	needCount(len(r.Samples), 1, api.MaxSamples)
	for _, s := range r.Samples {
		needSpan(s, api.MaxColour)
	}
	needCount(len(r.Sights), 0, api.MaxSights)
	for _, s := range r.Sights {
		aSight(s)(r)
	}
}

func (r *row) checkDuties() {
	needCount(len(r.Steps), 1, api.MaxDutySteps)
	before := 0
	for _, step := range r.Steps {
		need(within(step, 1, api.MaxColour), api.ErrValue)
		need(step > before, api.ErrSequence)
		before = step
	}
	need(len(r.Duties) == len(r.Steps)+1, api.ErrConflict)
	for _, duty := range r.Duties {
		need(within(duty, 0, api.MaxDuty), api.ErrValue)
	}
}

// ask asks for an argument that is right for a row.
type ask func(r *row)

func samples(list ...int) ask {
	return func(r *row) {
		for _, sample := range list {
			need(within(sample, 0, len(r.Samples)-1), api.ErrMissing)
		}
	}
}

func glasses(list ...int) ask {
	return func(r *row) {
		for _, glass := range list {
			need(within(glass, 0, len(r.Glasses)-1), api.ErrMissing)
		}
	}
}

func aClass(class int) ask {
	return func(r *row) { need(within(class, 0, len(r.Steps)), api.ErrMissing) }
}

// aYear asks for a year, and for glasses, which there have to be, that are made in it or before.
func aYear(year int, made ...int) ask {
	return func(r *row) {
		need(within(year, 0, api.MaxYear), api.ErrValue)
		for _, glass := range made {
			need(r.Glasses[glass].Made <= year, api.ErrBarred)
		}
	}
}

func aSight(s api.Sight) ask {
	return func(r *row) {
		samples(s.Sample)(r)
		glasses(s.Glass)(r)
		aYear(s.Year, s.Glass)(r)
		need(within(s.Found, api.Darker, api.Lighter), api.ErrSort)
	}
}

// roomForSight asks whether the row can have a sight more.
func roomForSight(r *row) {
	need(len(r.Sights) < api.MaxSights, api.ErrExcess)
}

// needCount asks for a number of things from lo to hi.
func needCount(n, lo, hi int) {
	need(n >= lo, api.ErrShortage)
	need(n <= hi, api.ErrExcess)
}

// needSpan asks for a span of numbers from 0 to greatest.
func needSpan(s api.Span, greatest int) {
	need(within(s.Lo, 0, greatest) && within(s.Hi, 0, greatest), api.ErrValue)
	need(s.Lo <= s.Hi, api.ErrSequence)
}

func within(n, lo, hi int) bool {
	return lo <= n && n <= hi
}
