package month

import (
	"muscovado/api"
	"muscovado/fining"
	"muscovado/floor"
	"muscovado/syrup"
)

// Check returns the first error of a month, otherwise OK.
func Check(m api.Month) api.Errno {
	return first(
		fining.Check(m.Agents),
		unless(within(m.Pass, 0, api.MaxMelt), api.ErrValue),
		syrup.Check(m.Pans),
		checkRooms(m.Pans, m.Rooms),
		floor.Check(api.Plant{Floors: m.Floors}),
		checkMelts(m.Melts),
	)
}

// checkRooms asks layer 3, which names the error of the rooms where it shares lots, be it none.
func checkRooms(pans []api.Pan, rooms []int) api.Errno {
	_, _, e := syrup.Share(pans, nil, rooms)
	return e
}

func checkMelts(melts []api.Melt) api.Errno {
	if len(melts) > api.MaxMonthMelts {
		return api.ErrExcess
	}
	for _, x := range melts {
		if e := checkMelt(x); e != api.OK {
			return e
		}
	}
	return api.OK
}

func checkMelt(x api.Melt) api.Errno {
	if e := count(len(x.Kinds), 1, api.MaxMelts); e != api.OK {
		return e
	}
	return first(
		checkKinds(x.Kinds),
		unless(within(x.Day, 0, api.MaxMeltDay), api.ErrValue),
		unless(within(x.Cones, 1, api.MaxCones), api.ErrValue),
		unless(within(x.Wait, 0, api.MaxWait), api.ErrValue),
		unless(within(x.Quality, 0, api.MaxQuality), api.ErrValue),
	)
}

// checkKinds asks for ascending melts.
func checkKinds(kinds []int) api.Errno {
	before := -1
	for _, kind := range kinds {
		e := first(unless(within(kind, 0, api.MaxMelt), api.ErrValue), unless(kind > before, api.ErrSequence))
		if e != api.OK {
			return e
		}
		before = kind
	}
	return api.OK
}

// count asks for a number of things from lo to hi.
func count(n, lo, hi int) api.Errno {
	return first(unless(n >= lo, api.ErrShortage), unless(n <= hi, api.ErrExcess))
}

// first returns the first of some errors that is one.
func first(errs ...api.Errno) api.Errno {
	for _, e := range errs {
		if e != api.OK {
			return e
		}
	}
	return api.OK
}

// oneOf asks for the number of one of so many things.
func oneOf(number, things int) api.Errno {
	return unless(within(number, 0, things-1), api.ErrMissing)
}

func unless(right bool, e api.Errno) api.Errno {
	if right {
		return api.OK
	}
	return e
}

func within(n, lo, hi int) bool {
	return lo <= n && n <= hi
}
