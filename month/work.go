package month

import (
	"cmp"
	"slices"

	"muscovado/api"
	"muscovado/floor"
)

// none is the floor, or the pan, of a melt that has none, and the strike that is late if there is none.
const none = -1

// month is a month at work: the given one, and what was found for it and for others that differ from it in one thing, the floors never being that.
type month struct {
	api.Month
	ways  ways
	plans map[strikes]plan
}

// at puts a month to work, unless it or another argument is wrong.
func at(m api.Month, arguments ...api.Errno) (*month, api.Errno) {
	if e := first(Check(m), first(arguments...)); e != api.OK {
		return nil, e
	}
	return &month{m, ways{asked: map[question]*answer{}}, map[strikes]plan{}}, api.OK
}

// cleared returns a melt that is ready; ErrNothing if it is spoilt.
func (m *month) cleared(number int) (ready, api.Errno) {
	x, is := m.ways.become(m.Month, number).(ready)
	return x, unless(is, api.ErrNothing)
}

// day returns the one on which a melt is ready: one agent is put each day.
func (m *month) day(x ready) int {
	return m.Melts[x.number()].Day + len(x.way)
}

// compare compares melts as their strikes follow each other.
func (m *month) compare(a, b ready) int {
	return cmp.Or(cmp.Compare(m.day(a), m.day(b)), cmp.Compare(a.number(), b.number()))
}

// sorted returns all melts that are ready, in the order of their strikes, and the numbers of those that are spoilt.
func (m *month) sorted() (queue []ready, lost []int) {
	for _, x := range m.ways.all(m.Month) {
		switch x := x.(type) {
		case ready:
			queue = append(queue, x)
		case spoilt:
			lost = append(lost, x.number())
		}
	}
	slices.SortFunc(queue, m.compare)
	return queue, lost
}

// plant returns the plant of the month, and the melt of each strike.
func (m *month) plant() (api.Plant, []ready) {
	p := api.Plant{Floors: slices.Clone(m.Floors)}
	queue, _ := m.sorted()
	for _, x := range queue {
		given := m.Melts[x.number()]
		p.Strikes = append(p.Strikes, api.Strike{Day: m.day(x), Cones: given.Cones, Wait: given.Wait})
	}
	return p, queue
}

// strikes are those of a plant. Where there are fewer, there are some without cones.
type strikes [api.MaxStrikes]api.Strike

func strikesOf(list []api.Strike) strikes {
	var s strikes
	copy(s[:], list)
	return s
}

// plan is the one of a month: the berth of each strike, and the loaves.
type plan struct {
	berths []api.Berth
	loaves int
}

// planned returns the plan of a plant with the floors of the month, which is valid, so that layer 5 has no error for it.
func (m *month) planned(p api.Plant) plan {
	s := strikesOf(p.Strikes)
	best, some := m.plans[s]
	if !some {
		best.berths, best.loaves, _ = floor.Best(p)
		m.plans[s] = best
	}
	return best
}

// berths returns that of each melt, and the loaves.
func (m *month) berths() ([]api.Berth, int) {
	p, queue := m.plant()
	best := m.planned(p)
	berths := slices.Repeat([]api.Berth{{Floor: none}}, len(m.Melts))
	for strike, at := range best.berths {
		berths[queue[strike].number()] = at
	}
	return berths, best.loaves
}

func (m *month) loaves() int {
	_, loaves := m.berths()
	return loaves
}

// set returns all melts that are set, by their numbers.
func (m *month) set() []ready {
	berths, _ := m.berths()
	var set []ready
	for _, x := range m.ways.all(m.Month) {
		if x, is := x.(ready); is && berths[x.number()].Floor != none {
			set = append(set, x)
		}
	}
	return set
}

// lots returns the syrups of melts.
func (m *month) lots(melts []ready) []api.Lot {
	var lots []api.Lot
	for _, x := range melts {
		given := m.Melts[x.number()]
		lots = append(lots, api.Lot{Quality: given.Quality, Pounds: given.Cones})
	}
	return lots
}

// cost returns what the ways of melts cost.
func (m *month) cost(melts []ready) int {
	var costs []int
	for _, x := range melts {
		for _, agent := range x.way {
			costs = append(costs, m.Agents[agent].Cost)
		}
	}
	return sum(costs...)
}

func sum(numbers ...int) int {
	sum := 0
	for _, n := range numbers {
		sum += n
	}
	return sum
}

// numbers returns those of melts.
func numbers(melts []ready) []int {
	var list []int
	for _, x := range melts {
		list = append(list, x.number())
	}
	return list
}
