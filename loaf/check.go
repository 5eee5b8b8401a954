package loaf

import (
	"muscovado/api"
	"muscovado/weigh"
)

// Check returns the first error of a batch, otherwise OK.
func Check(b api.Batch) api.Errno {
	return first(
		checkWorks(b.Works, b.Vessel),
		checkRates(b.Stoves, api.MaxStoves),
		checkRates(b.Carts, api.MaxCarts),
		unless(within(b.Paper, 0, api.MaxPaper), api.ErrValue),
		checkLoaves(b),
	)
}

func checkWorks(w api.Works, vessel int) api.Errno {
	can, e := weigh.Can(w)
	return first(e, unless(can, api.ErrConflict), oneOf(vessel, len(w.Vessels)))
}

func checkRates(ranges []api.Span, most int) api.Errno {
	if len(ranges) > most {
		return api.ErrExcess
	}
	for _, r := range ranges {
		e := first(
			unless(within(r.Lo, 0, api.MaxLoafRate), api.ErrValue),
			unless(within(r.Hi, 0, api.MaxLoafRate), api.ErrValue),
			unless(r.Lo <= r.Hi, api.ErrSequence),
		)
		if e != api.OK {
			return e
		}
	}
	return api.OK
}

func checkLoaves(b api.Batch) api.Errno {
	if len(b.Loaves) > api.MaxLoaves {
		return api.ErrExcess
	}
	for _, l := range b.Loaves {
		e := first(
			unless(within(l.Stove, -1, len(b.Stoves)-1), api.ErrMissing),
			unless(within(l.Cart, -1, len(b.Carts)-1), api.ErrMissing),
			unless(within(l.Promise, 0, api.MaxLoaf), api.ErrValue),
			unless(within(l.Days, 0, api.MaxSlowDays), api.ErrValue),
			unless(within(l.Miles, 0, api.MaxMiles), api.ErrValue),
			unless(within(l.Found, 0, api.MaxLoaf+api.MaxPaper), api.ErrValue),
			unless(within(l.Err, 0, api.MaxLoafErr), api.ErrValue),
		)
		if e != api.OK {
			return e
		}
	}
	return api.OK
}

// first returns the first of some errors that is one.
func first(errs ...api.Errno) api.Errno {
	for _, e := range errs {
		if e != api.OK {
			return e
		}
	}
	return api.OK
}

// oneOf asks for the number of one of so many things.
func oneOf(number, things int) api.Errno {
	return unless(within(number, 0, things-1), api.ErrMissing)
}

func unless(right bool, e api.Errno) api.Errno {
	if right {
		return api.OK
	}
	return e
}

func within(n, lo, hi int) bool {
	return lo <= n && n <= hi
}
