package saw

import (
	"math"

	"muscovado/api"
)

// Check returns the first error of a saw, otherwise OK.
func Check(s api.Saw) api.Errno {
	return first(
		checkLoaves(s.Loaves),
		checkStock(s.Stock, len(s.Loaves)),
		unless(within(s.Kerf, 0, api.MaxKerf), api.ErrValue),
		checkAllWants(s),
	)
}

func checkLoaves(loaves [][]int) api.Errno {
	if e := count(len(loaves), 1, api.MaxKinds); e != api.OK {
		return e
	}
	for _, loaf := range loaves {
		if e := checkLoaf(loaf); e != api.OK {
			return e
		}
	}
	return api.OK
}

// checkLoaf asks for slices from the base up.
func checkLoaf(loaf []int) api.Errno {
	if e := count(len(loaf), 1, api.MaxSlices); e != api.OK {
		return e
	}
	below := api.MaxSlice
	for _, weight := range loaf {
		e := first(unless(within(weight, 1, api.MaxSlice), api.ErrValue), unless(weight <= below, api.ErrSequence))
		if e != api.OK {
			return e
		}
		below = weight
	}
	return api.OK
}

func checkStock(stock []int, kinds int) api.Errno {
	return first(unless(len(stock) == kinds, api.ErrConflict), checkCounts(stock))
}

// checkCounts asks for numbers of loaves of which no more than a Stock are.
func checkCounts(counts []int) api.Errno {
	for _, n := range counts {
		if !within(n, 0, api.MaxStock) {
			return api.ErrValue
		}
	}
	return api.OK
}

func checkAllWants(s api.Saw) api.Errno {
	if len(s.Wants) > api.MaxWants {
		return api.ErrExcess
	}
	for _, w := range s.Wants {
		if e := checkWant(w, s.Loaves); e != api.OK {
			return e
		}
	}
	return api.OK
}

// checkWant returns the first error of a want of such loaves.
func checkWant(w api.Want, loaves [][]int) api.Errno {
	if e := checkKind(w, len(loaves)); e != api.OK {
		return e
	}
	amounts := amountsOf(w, loaves)
	return first(
		unless(within(w.Amount, amounts.Lo, amounts.Hi), api.ErrValue),
		unless(within(w.Pay, 0, api.MaxPrice), api.ErrValue),
	)
}

// checkKind looks at the Sort of a want, too, which says whether any kind can be meant.
func checkKind(w api.Want, kinds int) api.Errno {
	switch w.Sort {
	case sortCrushed:
		if w.Kind == anyKind {
			return api.OK
		}
		fallthrough
	case sortWhole, sortTop:
		return oneOf(w.Kind, kinds)
	}
	return api.ErrSort
}

// checkWants asks for an ascending list of some of so many wants.
func checkWants(list []int, wants int) api.Errno {
	before := math.MinInt
	for _, want := range list {
		if e := first(oneOf(want, wants), unless(want > before, api.ErrSequence)); e != api.OK {
			return e
		}
		before = want
	}
	return api.OK
}

// checkCrushed asks for a number of loaves of each kind.
func checkCrushed(crushed []int, kinds int) api.Errno {
	return first(count(len(crushed), kinds, kinds), checkCounts(crushed))
}

// count asks for a number of things from lo to hi.
func count(n, lo, hi int) api.Errno {
	return first(unless(n >= lo, api.ErrShortage), unless(n <= hi, api.ErrExcess))
}

// first returns the first of some errors that is one.
func first(errs ...api.Errno) api.Errno {
	for _, e := range errs {
		if e != api.OK {
			return e
		}
	}
	return api.OK
}

// oneOf asks for the number of one of so many things.
func oneOf(number, things int) api.Errno {
	return unless(within(number, 0, things-1), api.ErrMissing)
}

func unless(right bool, e api.Errno) api.Errno {
	if right {
		return api.OK
	}
	return e
}

func within(n, lo, hi int) bool {
	return lo <= n && n <= hi
}
