package char

import "muscovado/api"

// Check returns the first error of char, otherwise OK.
func Check(c api.Char) api.Errno {
	if e := count(len(c.Filters), 1, api.MaxFilters); e != api.OK {
		return e
	}
	if e := checkFilters(c.Filters); e != api.OK {
		return e
	}
	e := first(unless(within(c.Kiln, 0, api.MaxKiln), api.ErrValue), count(len(c.Days), 1, api.MaxCharDays))
	if e != api.OK {
		return e
	}
	for _, sugar := range c.Days {
		if !within(sugar, 0, api.MaxSugar) {
			return api.ErrValue
		}
	}
	return api.OK
}

func checkFilters(filters []api.Filter) api.Errno {
	for _, f := range filters {
		if !within(f.Power, 1, api.MaxPower) || !within(f.Gain, 0, f.Power) || !within(f.Now, 0, f.Power) {
			return api.ErrValue
		}
	}
	return api.OK
}

// checkOffers asks whether one of the offers could be bought.
func checkOffers(c api.Char, offers []api.Filter) api.Errno {
	return first(
		unless(len(c.Filters) < api.MaxFilters, api.ErrBarred),
		unless(len(offers) <= api.MaxOffers, api.ErrExcess),
		checkFilters(offers),
	)
}

// checkJobs asks for one thing that each of so many filters does.
func checkJobs(jobs []int, filters int) api.Errno {
	if e := count(len(jobs), filters, filters); e != api.OK {
		return e
	}
	for _, number := range jobs {
		if !within(number, int(run), int(burn)) {
			return api.ErrSort
		}
	}
	return api.OK
}

func needFilter(c api.Char, filter int) api.Errno {
	return unless(within(filter, 0, len(c.Filters)-1), api.ErrMissing)
}

func needDay(c api.Char, day int) api.Errno {
	return unless(within(day, 0, len(c.Days)-1), api.ErrMissing)
}

// count asks for a number of things from lo to hi.
func count(n, lo, hi int) api.Errno {
	return first(unless(n >= lo, api.ErrShortage), unless(n <= hi, api.ErrExcess))
}

// first returns the first of some errors that is one.
func first(errs ...api.Errno) api.Errno {
	for _, e := range errs {
		if e != api.OK {
			return e
		}
	}
	return api.OK
}

func unless(right bool, e api.Errno) api.Errno {
	if right {
		return api.OK
	}
	return e
}

func within(n, lo, hi int) bool {
	return lo <= n && n <= hi
}
