package stove

import (
	"errors"
	"iter"
	"strconv"

	"muscovado/api"
)

// stove is a stove at work: the given one, and the heat of each day.
type stove struct {
	api.Stove
	heats []int
}

// heated puts a stove to work, unless it is wrong, or its heats or another argument are.
func heated(s api.Stove, heats []int, arguments ...api.Errno) (*stove, api.Errno) {
	if e := Check(s); e != api.OK {
		return nil, e
	}
	if e := first(checkHeats(s, heats), first(arguments...)); e != api.OK {
		return nil, e
	}
	return &stove{s, heats}, api.OK
}

// end is what becomes of a cone; the numbers are those of package api.
type end int

const (
	dry end = iota
	cracked
	wet
)

// fate is what becomes of a cone at a stand.
type fate interface {
	ends() (end end, day int)
}

// All that can become of a cone.
type (
	drying   struct{ last int } // it is dry at the end of a day
	cracking struct{ hot }      // a day is too hot for it
	dripping struct{ last int } // it is not dry at the end of the last day
)

func (d drying) ends() (end, int)   { return dry, d.last }
func (c cracking) ends() (end, int) { return cracked, c.day }
func (d dripping) ends() (end, int) { return wet, d.last }

// hot is a day that is too hot for a cone.
type hot struct{ day, heat int }

func (h hot) Error() string {
	return "the day " + strconv.Itoa(h.day) + " is too hot for the cone, whose shelf has the heat " + strconv.Itoa(h.heat)
}

// heat returns the heat of a shelf on a day.
func (s *stove) heat(shelf, day int) int {
	return s.heats[day] + s.Shelves[shelf].Lift
}

// bears returns an error if a cone cracks on a day.
func (s *stove) bears(c api.Cone, at api.Stand, day int) error {
	heat, isFirst := s.heat(at.Shelf, day), day == at.Day
	switch {
	case heat > c.Most:
		fallthrough
	case isFirst && heat > c.Cold:
		fallthrough
	case !isFirst && heat-s.heat(at.Shelf, day-1) > c.Jump:
		return hot{day, heat}
	}
	return nil
}

// fate returns what becomes of a cone at a stand.
func (s *stove) fate(cone int, at api.Stand) fate {
	c, day, dried := s.Cones[cone], at.Day, 0
nextDay:
	var h hot
	if errors.As(s.bears(c, at, day), &h) {
		return cracking{h}
	}
	dried += s.heat(at.Shelf, day)
	if dried >= c.Wet {
		return drying{day}
	}
	if day < s.Days-1 {
		day++
		goto nextDay
	}
	return dripping{day}
}

// stay is a stand, and the last day on which the cone is there, at whose end it is dry.
type stay struct {
	api.Stand
	last int
}

const (
	noShelf = -1 // where a cone is that is not put in
	noDay   = -1 // comes before all days
)

// out is the stay of a cone that is not put in.
func out() stay {
	return stay{api.Stand{Shelf: noShelf}, noDay}
}

// stays goes through all stands at which a cone dries if it is alone, in their order.
func (s *stove) stays(cone int) iter.Seq[stay] {
	return func(yield func(stay) bool) {
		for shelf := range s.Shelves {
			for day := range s.Days {
				at := api.Stand{Shelf: shelf, Day: day}
				if d, is := s.fate(cone, at).(drying); is && !yield(stay{at, d.last}) {
					return
				}
			}
		}
	}
}

// lost returns all cones that are dried at no stand.
func (s *stove) lost() []int {
	var lost cones
search:
	for cone := range s.Cones {
		for range s.stays(cone) {
			continue search
		}
		lost = lost.with(cone)
	}
	return lost.list()
}

// wrong is what is wrong with a stand.
type wrong struct{ errno api.Errno }

// need returns the stay that a plan says of a cone. It panics if it is not right.
func (s *stove) need(cone int, at api.Stand) stay {
	if at.Shelf == noShelf {
		if at.Day != 0 {
			panic(wrong{api.ErrValue})
		}
		return out()
	}
	if e := checkStand(s.Stove, at); e != api.OK {
		panic(wrong{e})
	}
	last := noDay
	switch f := s.fate(cone, at).(type) {
	case cracking:
		panic(wrong{api.ErrBarred})
	case dripping:
		panic(wrong{api.ErrConflict})
	case drying:
		last = f.last
	}
	return stay{at, last}
}
