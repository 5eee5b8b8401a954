package fining

import "muscovado/api"

// Check returns the first error of agents, otherwise OK.
func Check(agents []api.Agent) api.Errno {
	if len(agents) > api.MaxAgents {
		return api.ErrExcess
	}
	for _, a := range agents {
		if e := checkAgent(a); e != api.OK {
			return e
		}
	}
	return api.OK
}

func checkAgent(a api.Agent) api.Errno {
	return first(
		checkFaults(a.Needs, a.Not, a.Takes, a.Leaves),
		unless(faults(a.Needs).and(faults(a.Not)) == none, api.ErrConflict),
		unless(within(a.Cost, 1, api.MaxCost), api.ErrValue),
	)
}

// checkFaults asks for sums of faults. A number below 0 is none, as it has bits beyond those of all faults.
func checkFaults(numbers ...int) api.Errno {
	for _, n := range numbers {
		if faults(n).without(every) != none {
			return api.ErrValue
		}
	}
	return api.OK
}

// count asks for a number of things from lo to hi.
func count(n, lo, hi int) api.Errno {
	return first(unless(n >= lo, api.ErrShortage), unless(n <= hi, api.ErrExcess))
}

// first returns the first of some errors that is one.
func first(errs ...api.Errno) api.Errno {
	for _, e := range errs {
		if e != api.OK {
			return e
		}
	}
	return api.OK
}

// oneOf asks for the number of one of so many things.
func oneOf(number, things int) api.Errno {
	return unless(within(number, 0, things-1), api.ErrMissing)
}

func unless(right bool, e api.Errno) api.Errno {
	if right {
		return api.OK
	}
	return e
}

func within(n, lo, hi int) bool {
	return lo <= n && n <= hi
}
