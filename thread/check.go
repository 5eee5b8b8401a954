package thread

import (
	"errors"

	"muscovado/api"
)

// wrongList is an error: something is wrong with a list of a boil, or of an argument.
type wrongList struct {
	name  string
	errno api.Errno
}

func (w wrongList) Error() string {
	return w.name + ": " + w.errno.Error()
}

// errno returns the number of an error, which is OK if there is none.
func errno(err error) api.Errno {
	var w wrongList
	if errors.As(err, &w) {
		return w.errno
	}
	return api.OK
}

// Check returns the first error of a boil, otherwise OK.
func Check(b api.Boil) api.Errno {
	for _, check := range []func(api.Boil) error{checkStarts, checkRates, checkMarks, checkHeats, checkProofs} {
		if err := check(b); err != nil {
			return errno(err)
		}
	}
	return api.OK
}

func checkStarts(b api.Boil) error {
	return checkSpans("starts", b.Starts, api.MaxBoilPans, api.MaxThick)
}

func checkHeats(b api.Boil) error {
	return checkSpans("heats", b.Heats, api.MaxTicks, api.MaxHeat)
}

// checkSpans asks for 1 to most spans of numbers from 0 to greatest.
func checkSpans(name string, spans []api.Span, most, greatest int) error {
	switch {
	case len(spans) < 1:
		return wrongList{name, api.ErrShortage}
	case len(spans) > most:
		return wrongList{name, api.ErrExcess}
	}
	for _, s := range spans {
		switch {
		case !within(s.Lo, 0, greatest) || !within(s.Hi, 0, greatest):
			return wrongList{name, api.ErrValue}
		case s.Lo > s.Hi:
			return wrongList{name, api.ErrSequence}
		}
	}
	return nil
}

func checkRates(b api.Boil) error {
	return checkNumbers("rates", b.Rates, len(b.Starts), api.MaxBoilRate)
}

func checkMarks(b api.Boil) error {
	if err := checkNumbers("marks", b.Marks, int(burnt), api.MaxMark); err != nil {
		return err
	}
	for i, mark := range b.Marks[1:] {
		if mark <= b.Marks[i] {
			return wrongList{"marks", api.ErrSequence}
		}
	}
	return nil
}

// checkNumbers asks for so many numbers from 1 to greatest.
func checkNumbers(name string, list []int, many, greatest int) error {
	if len(list) != many {
		return wrongList{name, api.ErrConflict}
	}
	for _, n := range list {
		if !within(n, 1, greatest) {
			return wrongList{name, api.ErrValue}
		}
	}
	return nil
}

func checkProofs(b api.Boil) error {
	if len(b.Proofs) > api.MaxProofs {
		return wrongList{"proofs", api.ErrExcess}
	}
	for _, p := range b.Proofs {
		if e := checkProof(b, p); e != api.OK {
			return wrongList{"proofs", e}
		}
	}
	return nil
}

func checkProof(b api.Boil, p api.Proof) api.Errno {
	return first(needPan(b, p.Pan), needTime(b, p.Tick), needThread(p.Thread))
}

// checkChosen asks for one number within each span.
func checkChosen(name string, list []int, spans []api.Span) error {
	switch {
	case len(list) < len(spans):
		return wrongList{name, api.ErrShortage}
	case len(list) > len(spans):
		return wrongList{name, api.ErrExcess}
	}
	for i, s := range spans {
		if !within(list[i], s.Lo, s.Hi) {
			return wrongList{name, api.ErrBarred}
		}
	}
	return nil
}

func needPan(b api.Boil, pan int) api.Errno {
	return unless(within(pan, 0, len(b.Starts)-1), api.ErrMissing)
}

func needTime(b api.Boil, time int) api.Errno {
	return unless(within(time, 0, len(b.Heats)), api.ErrMissing)
}

func needTick(b api.Boil, tick int) api.Errno {
	return unless(within(tick, 0, len(b.Heats)-1), api.ErrMissing)
}

func needThread(thread int) api.Errno {
	return unless(within(thread, int(breaks), int(burnt)), api.ErrSort)
}

// first returns the first of some errors that is one.
func first(errs ...api.Errno) api.Errno {
	for _, e := range errs {
		if e != api.OK {
			return e
		}
	}
	return api.OK
}

func unless(right bool, e api.Errno) api.Errno {
	if right {
		return api.OK
	}
	return e
}

func within(n, lo, hi int) bool {
	return lo <= n && n <= hi
}
