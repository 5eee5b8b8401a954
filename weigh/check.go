package weigh

import "muscovado/api"

// Check returns the first error of works, otherwise OK.
func Check(w api.Works) api.Errno {
	vessels, readings := len(w.Vessels), len(w.Readings)
	if e := first(unless(vessels >= 1, api.ErrShortage), unless(vessels <= api.MaxVessels, api.ErrExcess)); e != api.OK {
		return e
	}
	for number, v := range w.Vessels {
		if e := checkVessel(v, number); e != api.OK {
			return e
		}
	}
	if readings > api.MaxReadings {
		return api.ErrExcess
	}
	for _, r := range w.Readings {
		if e := checkReading(r, vessels); e != api.OK {
			return e
		}
	}
	return api.OK
}

func checkVessel(v api.Vessel, number int) api.Errno {
	return first(
		unless(within(v.From, -1, number-1), api.ErrMissing),
		unless(within(v.Room, 0, api.MaxRoom), api.ErrValue),
		unless(within(v.Loss.Lo, 0, api.MaxLoss), api.ErrValue),
		unless(within(v.Loss.Hi, 0, api.MaxLoss), api.ErrValue),
		unless(v.Loss.Lo <= v.Loss.Hi, api.ErrSequence),
	)
}

func checkReading(r api.Reading, vessels int) api.Errno {
	return first(
		unless(within(r.Vessel, 0, vessels-1), api.ErrMissing),
		unless(within(r.Scale, 0, api.MaxScales-1), api.ErrMissing),
		unless(within(r.Shown, 0, api.MaxShown), api.ErrValue),
		unless(within(r.Err, 0, api.MaxErr), api.ErrValue),
	)
}

// check returns the error of works, or of arguments that should be vessels of them.
func check(w api.Works, vessels ...int) api.Errno {
	if e := Check(w); e != api.OK {
		return e
	}
	for _, v := range vessels {
		if !within(v, 0, len(w.Vessels)-1) {
			return api.ErrMissing
		}
	}
	return api.OK
}

// first returns the first of some errors that is one.
func first(errs ...api.Errno) api.Errno {
	for _, e := range errs {
		if e != api.OK {
			return e
		}
	}
	return api.OK
}

func unless(right bool, e api.Errno) api.Errno {
	if right {
		return api.OK
	}
	return e
}

func within(n, lo, hi int) bool {
	return lo <= n && n <= hi
}
