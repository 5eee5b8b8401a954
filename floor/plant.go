package floor

import (
	"cmp"
	"slices"
	"strconv"
	"sync"

	"muscovado/api"
)

// days is how many days are looked at: some more than there can be in a valid plant, as strikes wait longer where patience is tried.
const days = api.LastDay + api.MaxMore + 1

// nowhere is the floor of a strike that is not set.
const nowhere = -1

// plant is a plant at work.
type plant struct{ api.Plant }

// at puts a plant to work, unless it or other arguments are wrong.
func at(p api.Plant, arguments ...api.Errno) (plant, api.Errno) {
	if e := first(Check(p), first(arguments...)); e != api.OK {
		return plant{}, e
	}
	return plant{p}, api.OK
}

// planned puts a plant and a plan to work, unless these or other arguments are wrong.
func planned(p api.Plant, plan []api.Berth, arguments ...api.Errno) (plant, berths, api.Errno) {
	if e := first(CheckPlan(p, plan), first(arguments...)); e != api.OK {
		return plant{}, berths{}, e
	}
	return plant{p}, berthsOf(plan), api.OK
}

// berths is a plan. Strikes that there are not are not set.
type berths [api.MaxStrikes]api.Berth

// berthsOf returns the plan in which strikes behind the list are not set.
func berthsOf(plan []api.Berth) berths {
	var b berths
	for strike := range b {
		b[strike].Floor = nowhere
	}
	copy(b[:], plan)
	return b
}

// only returns the plan in which the strikes of other floors are not set.
func (b berths) only(floor int) berths {
	for strike, at := range b {
		if at.Floor != floor {
			b[strike] = api.Berth{Floor: nowhere}
		}
	}
	return b
}

// used returns the first and the last day on which a strike is set on the floor; there is one.
func (b berths) used(floor int) api.Span {
	used := api.Span{Lo: days}
	for _, at := range b {
		if at.Floor == floor {
			used = api.Span{Lo: min(used.Lo, at.Day), Hi: max(used.Hi, at.Day)}
		}
	}
	return used
}

// ready returns the least and the greatest number of the first day on which cones that were set there do not stand any more.
func (p plant) ready(at api.Berth) api.Span {
	drip := p.Floors[at.Floor].Drip
	return api.Span{Lo: at.Day + drip.Lo, Hi: at.Day + drip.Hi}
}

// standing is the least and the greatest number of cones that stand on a floor on each day.
type standing [days]api.Span

func (p plant) standing(floor int, b berths) standing {
	var s standing
	for strike, at := range b {
		if at.Floor != floor {
			continue
		}
		ready, cones := p.ready(at), p.Strikes[strike].Cones
		for day := at.Day; day < ready.Hi; day++ {
			s[day].Hi += cones
			if day < ready.Lo {
				s[day].Lo += cones
			}
		}
	}
	return s
}

// doubtful returns all days on which not the same number of cones stands on the floor in all heats.
func (p plant) doubtful(floor int, b berths) []int {
	var list []int
	for day, cones := range p.standing(floor, b) {
		if cones.Lo < cones.Hi {
			list = append(list, day)
		}
	}
	return list
}

// fault is what is wrong with a floor.
type fault interface {
	// day is the first one on which it shows in some heat.
	day() int
}

type (
	tooFull struct{ on int }
	tooCold struct{ on int }
)

func (f tooFull) day() int { return f.on }
func (f tooCold) day() int { return f.on }

// wrong is that a plan is not right on one of its floors.
type wrong struct{ fault }

func (w wrong) Error() string {
	return "wrong on the day " + strconv.Itoa(w.day())
}

// stays returns whether the plan is wrong whatever else is set.
func (w wrong) stays() bool {
	switch w.fault.(type) {
	case tooFull:
		return true
	case tooCold:
		// What is set in between keeps the floor warm.
	}
	return false
}

// look returns why the plan is not right on the floor.
func (p plant) look(floor int, b berths) error {
	s := p.standing(floor, b)
	if s == (standing{}) {
		return nil
	}
	f, used, empty := p.Floors[floor], b.used(floor), 0
look:
	for day, cones := range s {
		switch {
		case day > used.Hi:
			// From here on there are only fewer cones, and the floor may cool.
			break look
		case cones.Hi > f.Places:
			return wrong{tooFull{day}}
		case day < used.Lo, cones.Lo > 0:
			empty = 0
			continue look
		}
		// If it is empty in some heat, then it is where all cones stand as few days as they can, and so was it on the days before that count.
		empty++
		if empty > f.Cool {
			return wrong{tooCold{day}}
		}
	}
	return nil
}

// spot is a floor on a day.
type spot struct{ floor, day int }

func (s spot) byFloor(o spot) int {
	return cmp.Or(cmp.Compare(s.floor, o.floor), cmp.Compare(s.day, o.day))
}

func (s spot) byDay(o spot) int {
	return cmp.Or(cmp.Compare(s.day, o.day), cmp.Compare(s.floor, o.floor))
}

// spots looks for days on all floors side by side, and returns what is found in an order.
func (p plant) spots(look func(floor int) []int, order func(a, b spot) int) []spot {
	found := make(chan spot)
	go p.send(look, found)
	var all []spot
	for {
		s, more := <-found
		if !more {
			slices.SortFunc(all, order)
			return all
		}
		all = append(all, s)
	}
}

// send sends what is found on all floors, and closes the channel behind it.
func (p plant) send(look func(floor int) []int, found chan<- spot) {
	defer close(found)
	var looks sync.WaitGroup
	for floor := range p.Floors {
		looks.Go(func() {
			for _, day := range look(floor) {
				found <- spot{floor, day}
			}
		})
	}
	looks.Wait()
}
