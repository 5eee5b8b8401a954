package floor

import "muscovado/api"

// Check returns the first error of a plant, otherwise OK.
func Check(p api.Plant) api.Errno {
	if e := count(len(p.Floors), 1, api.MaxFloors); e != api.OK {
		return e
	}
	for _, f := range p.Floors {
		if e := checkFloor(f); e != api.OK {
			return e
		}
	}
	if len(p.Strikes) > api.MaxStrikes {
		return api.ErrExcess
	}
	day := 0
	for _, s := range p.Strikes {
		if e := checkStrike(s, day); e != api.OK {
			return e
		}
		day = s.Day
	}
	return api.OK
}

func checkFloor(f api.Floor) api.Errno {
	return first(
		unless(within(f.Places, 1, api.MaxPlaces), api.ErrValue),
		unless(within(f.Drip.Lo, 1, api.MaxDrip) && within(f.Drip.Hi, 1, api.MaxDrip), api.ErrValue),
		unless(f.Drip.Lo <= f.Drip.Hi, api.ErrSequence),
		unless(within(f.Cool, 0, api.MaxCool), api.ErrValue),
	)
}

// checkStrike asks for a strike that is not before the day.
func checkStrike(s api.Strike, day int) api.Errno {
	return first(
		unless(within(s.Day, 0, api.MaxStrikeDay), api.ErrValue),
		unless(within(s.Cones, 1, api.MaxCones), api.ErrValue),
		unless(within(s.Wait, 0, api.MaxWait), api.ErrValue),
		unless(s.Day >= day, api.ErrSequence),
	)
}

// checkBerths returns the first error of a plan for a valid plant.
func checkBerths(p api.Plant, plan []api.Berth) api.Errno {
	if e := count(len(plan), len(p.Strikes), len(p.Strikes)); e != api.OK {
		return e
	}
	for strike, at := range plan {
		if e := checkBerth(p, p.Strikes[strike], at); e != api.OK {
			return e
		}
	}
	return api.OK
}

func checkBerth(p api.Plant, s api.Strike, at api.Berth) api.Errno {
	if at.Floor == nowhere {
		return unless(at.Day == 0, api.ErrSort)
	}
	return first(needFloor(p, at.Floor), unless(within(at.Day, s.Day, s.Day+s.Wait), api.ErrBarred))
}

func needFloor(p api.Plant, floor int) api.Errno {
	return unless(within(floor, 0, len(p.Floors)-1), api.ErrMissing)
}

func needStrike(p api.Plant, strike int) api.Errno {
	return unless(within(strike, 0, len(p.Strikes)-1), api.ErrMissing)
}

func needDay(day int) api.Errno {
	return unless(within(day, 0, api.LastDay), api.ErrValue)
}

// count asks for a number of things from lo to hi.
func count(n, lo, hi int) api.Errno {
	return first(unless(n >= lo, api.ErrShortage), unless(n <= hi, api.ErrExcess))
}

// first returns the first of some errors that is one.
func first(errs ...api.Errno) api.Errno {
	for _, e := range errs {
		if e != api.OK {
			return e
		}
	}
	return api.OK
}

func unless(right bool, e api.Errno) api.Errno {
	if right {
		return api.OK
	}
	return e
}

func within(n, lo, hi int) bool {
	return lo <= n && n <= hi
}
