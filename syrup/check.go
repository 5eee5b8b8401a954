package syrup

import "muscovado/api"

// Check returns the first error of pans, otherwise OK.
func Check(pans []api.Pan) api.Errno {
	if len(pans) > api.MaxPans {
		return api.ErrExcess
	}
	for _, p := range pans {
		switch {
		case !isQuality(p.Lo) || !isQuality(p.Hi):
			return api.ErrValue
		case p.Lo > p.Hi:
			return api.ErrSequence
		case !within(p.Shift, -api.MaxShift, api.MaxShift):
			return api.ErrValue
		}
	}
	return api.OK
}

func checkLots(lots []api.Lot) api.Errno {
	if len(lots) > api.MaxLots {
		return api.ErrExcess
	}
	for _, l := range lots {
		if !isQuality(l.Quality) || !within(l.Pounds, 1, api.MaxPounds) {
			return api.ErrValue
		}
	}
	return api.OK
}

// checkRooms asks for one room for each of so many pans.
func checkRooms(rooms []int, pans int) api.Errno {
	switch {
	case len(rooms) < pans:
		return api.ErrShortage
	case len(rooms) > pans:
		return api.ErrExcess
	}
	for _, room := range rooms {
		if !within(room, 0, api.MaxPanRoom) {
			return api.ErrValue
		}
	}
	return api.OK
}

func needQuality(quality int) api.Errno {
	return unless(isQuality(quality), api.ErrValue)
}

func needLot(lots []api.Lot, lot int) api.Errno {
	return unless(within(lot, 0, len(lots)-1), api.ErrMissing)
}

func isQuality(n int) bool {
	return within(n, 0, api.MaxQuality)
}

// first returns the first of some errors that is one.
func first(errs ...api.Errno) api.Errno {
	for _, e := range errs {
		if e != api.OK {
			return e
		}
	}
	return api.OK
}

func unless(right bool, e api.Errno) api.Errno {
	if right {
		return api.OK
	}
	return e
}

func within(n, lo, hi int) bool {
	return lo <= n && n <= hi
}
