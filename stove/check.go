package stove

import "muscovado/api"

// Check returns the first error of a stove, otherwise OK.
func Check(s api.Stove) api.Errno {
	return first(
		checkShelves(s.Shelves),
		checkCones(s.Cones),
		unless(within(s.Days, 1, api.MaxStoveDays), api.ErrValue),
		unless(within(s.Now, 0, api.MaxTop), api.ErrValue),
		unless(within(s.Top, 0, api.MaxTop), api.ErrValue),
		unless(within(s.Rise, 0, api.MaxRise), api.ErrValue),
	)
}

func checkShelves(shelves []api.Shelf) api.Errno {
	if e := count(len(shelves), 1, api.MaxShelves); e != api.OK {
		return e
	}
	for _, x := range shelves {
		if !within(x.Lift, 0, api.MaxLift) || !within(x.Room, 1, api.MaxShelfRoom) {
			return api.ErrValue
		}
	}
	return api.OK
}

func checkCones(cones []api.Cone) api.Errno {
	if len(cones) > api.MaxDamp {
		return api.ErrExcess
	}
	for _, c := range cones {
		if e := checkCone(c); e != api.OK {
			return e
		}
	}
	return api.OK
}

func checkCone(c api.Cone) api.Errno {
	right := within(c.Wet, 1, api.MaxWet)
	for _, limit := range []int{c.Cold, c.Jump, c.Most} {
		right = right && within(limit, 0, api.MaxLimit)
	}
	return unless(right, api.ErrValue)
}

// checkHeats returns the first error of the heats of a valid stove.
func checkHeats(s api.Stove, heats []int) api.Errno {
	if e := count(len(heats), s.Days, s.Days); e != api.OK {
		return e
	}
	before := s.Now
	for _, heat := range heats {
		e := first(unless(within(heat, 0, s.Top), api.ErrValue), unless(heat <= hottest(s, before), api.ErrBarred))
		if e != api.OK {
			return e
		}
		before = heat
	}
	return api.OK
}

// hottest returns the greatest heat of a day, when the heat of the day before is known.
func hottest(s api.Stove, before int) int {
	return min(s.Top, before+s.Rise)
}

// checkStand asks for a shelf and a day of the stove.
func checkStand(s api.Stove, at api.Stand) api.Errno {
	return first(oneOf(at.Shelf, len(s.Shelves)), oneOf(at.Day, s.Days))
}

// count asks for a number of things from lo to hi.
func count(n, lo, hi int) api.Errno {
	return first(unless(n >= lo, api.ErrShortage), unless(n <= hi, api.ErrExcess))
}

// first returns the first of some errors that is one.
func first(errs ...api.Errno) api.Errno {
	for _, e := range errs {
		if e != api.OK {
			return e
		}
	}
	return api.OK
}

// oneOf asks for the number of one of so many things.
func oneOf(number, things int) api.Errno {
	return unless(within(number, 0, things-1), api.ErrMissing)
}

func unless(right bool, e api.Errno) api.Errno {
	if right {
		return api.OK
	}
	return e
}

func within(n, lo, hi int) bool {
	return lo <= n && n <= hi
}
