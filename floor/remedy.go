package floor

import (
	"slices"

	"muscovado/api"
)

// remedy is a change of a plant, and whether it is enough.
type remedy[T any] struct {
	change func(p api.Plant, to T) api.Plant
	helps  func(p plant) bool
}

// helping returns the first of some with which a remedy helps.
func helping[T any](p plant, r remedy[T], tries []T) (T, api.Errno) {
	for _, to := range tries {
		if r.helps(plant{r.change(p.Plant, to)}) {
			return to, api.OK
		}
	}
	var none T
	return none, api.ErrNothing
}

// numbers returns those from lo to hi.
func numbers(lo, hi int) []int {
	var list []int
	for n := lo; n <= hi; n++ {
		list = append(list, n)
	}
	return list
}

// waiting returns the plant whose strikes all wait longer.
func waiting(p api.Plant, more int) api.Plant {
	p.Strikes = slices.Clone(p.Strikes)
	for strike := range p.Strikes {
		p.Strikes[strike].Wait += more
	}
	return p
}

// with returns the plant with another floor instead of one that it has.
func with(p api.Plant, floor int, f api.Floor) api.Plant {
	p.Floors = slices.Clone(p.Floors)
	p.Floors[floor] = f
	return p
}
