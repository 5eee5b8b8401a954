package floor_test

import (
	"math/rand/v2"
	"slices"

	"muscovado/api"
)

// The reference goes through all plans and all heats, day by day, as the chapter's terms are worded, and knows nothing of how package floor works.

type (
	ints    = []int
	rows    = [][]int
	berths  = []api.Berth
	floors  = []api.Floor
	strikes = []api.Strike
)

// lastDay is a day on which no cone can stand any more, however long strikes wait.
const lastDay = 30

func floorOf(places, lo, hi, cool int) api.Floor {
	return api.Floor{Places: places, Drip: api.Span{Lo: lo, Hi: hi}, Cool: cool}
}

func strike(day, cones, wait int) api.Strike {
	return api.Strike{Day: day, Cones: cones, Wait: wait}
}

func on(floor, day int) api.Berth {
	return api.Berth{Floor: floor, Day: day}
}

// away is a berth of a strike that is not set.
func away() api.Berth {
	return api.Berth{Floor: -1}
}

// The examples S, T and W of the chapter, and its plan P.
func exampleS() api.Plant {
	return api.Plant{
		Floors:  floors{floorOf(4, 2, 3, 1), floorOf(3, 3, 5, 2)},
		Strikes: strikes{strike(0, 3, 0), strike(1, 2, 1), strike(3, 4, 1), strike(6, 2, 0)},
	}
}

func exampleT() api.Plant {
	return but(exampleS(), func(p *api.Plant) { p.Strikes[3].Day = 4 })
}

func exampleW() api.Plant {
	return but(exampleS(), func(p *api.Plant) { p.Floors[0].Cool = 0 })
}

func exampleP() berths {
	return berths{on(0, 0), on(1, 1), on(0, 3), on(0, 6)}
}

// but returns a plant with a change, and nothing else.
func but(p api.Plant, change func(p *api.Plant)) api.Plant {
	p.Floors, p.Strikes = slices.Clone(p.Floors), slices.Clone(p.Strikes)
	change(&p)
	return p
}

// plantOf returns a plant of one floor.
func plantOf(f api.Floor, list ...api.Strike) api.Plant {
	return api.Plant{Floors: floors{f}, Strikes: list}
}

func withPlaces(p api.Plant, floor, places int) api.Plant {
	return but(p, func(p *api.Plant) { p.Floors[floor].Places = places })
}

func withDrip(p api.Plant, floor, lo, hi int) api.Plant {
	return but(p, func(p *api.Plant) { p.Floors[floor].Drip = api.Span{Lo: lo, Hi: hi} })
}

// withWait returns the plant whose strikes all wait longer; it may be one that is not valid.
func withWait(p api.Plant, more int) api.Plant {
	return but(p, func(p *api.Plant) {
		for i := range p.Strikes {
			p.Strikes[i].Wait += more
		}
	})
}

func withoutStrike(p api.Plant, strike int) api.Plant {
	return but(p, func(p *api.Plant) { p.Strikes = slices.Delete(p.Strikes, strike, strike+1) })
}

func isSet(b api.Berth) bool {
	return b.Floor != -1
}

// product returns all lists that have one of each of some lists, in the order of these.
func product[T any](choices [][]T) [][]T {
	all := [][]T{{}}
	for _, list := range choices {
		var longer [][]T
		for _, before := range all {
			for _, x := range list {
				longer = append(longer, slices.Concat(before, []T{x}))
			}
		}
		all = longer
	}
	return all
}

// heats returns all heats of a plan, each as the days of each strike; 0 for one that is not set.
func heats(p api.Plant, plan berths) []ints {
	var choices []ints
	for _, b := range plan {
		list := ints{0}
		if isSet(b) {
			list = nil
			for n := p.Floors[b.Floor].Drip.Lo; n <= p.Floors[b.Floor].Drip.Hi; n++ {
				list = append(list, n)
			}
		}
		choices = append(choices, list)
	}
	return product(choices)
}

// carried is how many cones stand on each floor on each day if a plan is carried out in a heat.
type carried [api.MaxFloors][lastDay + 1]int

func carry(p api.Plant, plan berths, heat ints) carried {
	var c carried
	for i, b := range plan {
		for n := range heat[i] {
			c[b.Floor][b.Day+n] += p.Strikes[i].Cones
		}
	}
	return c
}

// between returns whether strikes are set on the floor on a day before from, and on one behind to.
func between(plan berths, floor, from, to int) bool {
	before, behind := false, false
	for _, b := range plan {
		before = before || b.Floor == floor && b.Day < from
		behind = behind || b.Floor == floor && b.Day > to
	}
	return before && behind
}

// shows returns the first day, and on it the first floor, on which the plan is wrong if what stands is this; -1 and -1 if it is not.
func shows(p api.Plant, plan berths, c carried) (floor, day int) {
	for day := range lastDay {
		for floor, f := range p.Floors {
			if c[floor][day] > f.Places {
				return floor, day
			}
			from := day - f.Cool
			if from < 0 || !between(plan, floor, from, day) {
				continue
			}
			if !slices.ContainsFunc(c[floor][from:day+1], func(n int) bool { return n > 0 }) {
				return floor, day
			}
		}
	}
	return -1, -1
}

// wrong returns the first day, and on it the first floor, on which the plan is wrong in some heat.
func wrong(p api.Plant, plan berths) (floor, day int) {
	floor, day = -1, -1
	for _, heat := range heats(p, plan) {
		f, d := shows(p, plan, carry(p, plan, heat))
		if d >= 0 && (day < 0 || d < day || d == day && f < floor) {
			floor, day = f, d
		}
	}
	return floor, day
}

func right(p api.Plant, plan berths) bool {
	for _, heat := range heats(p, plan) {
		if _, day := shows(p, plan, carry(p, plan, heat)); day >= 0 {
			return false
		}
	}
	return true
}

// settings returns all berths of a strike that is set.
func settings(p api.Plant, s api.Strike) berths {
	var list berths
	for floor := range p.Floors {
		for day := s.Day; day <= s.Day+s.Wait; day++ {
			list = append(list, on(floor, day))
		}
	}
	return list
}

// rightPlans returns all right plans, in their order.
func rightPlans(p api.Plant) []berths {
	var choices []berths
	for _, s := range p.Strikes {
		choices = append(choices, slices.Concat(berths{away()}, settings(p, s)))
	}
	return slices.DeleteFunc(product(choices), func(plan berths) bool { return !right(p, plan) })
}

// allCanBeSet returns whether there is a right plan in which all strikes are set.
func allCanBeSet(p api.Plant) bool {
	var choices []berths
	for _, s := range p.Strikes {
		choices = append(choices, settings(p, s))
	}
	return slices.ContainsFunc(product(choices), func(plan berths) bool { return right(p, plan) })
}

func loavesOf(p api.Plant, plan berths) int {
	sum := 0
	for i, b := range plan {
		if isSet(b) {
			sum += p.Strikes[i].Cones
		}
	}
	return sum
}

// bestPlans returns those of some plans that have the most loaves, and these.
func bestPlans(p api.Plant, plans []berths) (best []berths, loaves int) {
	for _, plan := range plans {
		loaves = max(loaves, loavesOf(p, plan))
	}
	for _, plan := range plans {
		if loavesOf(p, plan) == loaves {
			best = append(best, plan)
		}
	}
	return best, loaves
}

// late returns the first strike up to which all and no other one are set in none of some plans.
func late(plans []berths) int {
	for n := range plans[0] {
		upTo := func(plan berths) bool {
			return !slices.ContainsFunc(plan[:n+1], func(b api.Berth) bool { return !isSet(b) }) && !slices.ContainsFunc(plan[n+1:], isSet)
		}
		if !slices.ContainsFunc(plans, upTo) {
			return n
		}
	}
	return -1
}

// verdictOf returns the one on what is so in so many of all.
func verdictOf(so, all int) int {
	switch so {
	case 0:
		return api.No
	case all:
		return api.Yes
	}
	return api.Open
}

func randomFloor(r *rand.Rand, width int) api.Floor {
	lo := 1 + r.IntN(api.MaxDrip-width)
	return floorOf(2+r.IntN(5), lo, lo+r.IntN(width+1), r.IntN(4))
}

// randomPlant returns a plant whose strikes follow each other so closely that often just not all can be set.
func randomPlant(r *rand.Rand, floors, strikes, wait, width int) api.Plant {
	var p api.Plant
	for range floors {
		p.Floors = append(p.Floors, randomFloor(r, width))
	}
	day := 0
	if r.IntN(4) == 0 {
		day = r.IntN(api.MaxStrikeDay + 1)
	}
	for range strikes {
		p.Strikes = append(p.Strikes, strike(day, 1+r.IntN(4), r.IntN(wait+1)))
		day = min(day+r.IntN(4), api.MaxStrikeDay)
	}
	return p
}

// samples calls look with many plants that have not many plans and heats.
func samples(n int, seed uint64, look func(p api.Plant, r *rand.Rand)) {
	r := rand.New(rand.NewPCG(seed, 5))
	// Floors, strikes, the longest wait, and the greatest width of a drip.
	sizes := [][4]int{{1, 0, 0, 1}, {1, 1, 3, 5}, {1, 2, 2, 3}, {1, 3, 2, 2}, {1, 4, 1, 1}, {2, 1, 2, 3}, {2, 2, 2, 2}, {2, 2, 3, 1}, {2, 3, 1, 1}, {2, 3, 1, 2}, {2, 4, 0, 1}}
	for range n {
		size := sizes[r.IntN(len(sizes))]
		look(randomPlant(r, size[0], size[1], size[2], size[3]), r)
	}
}

// largeSamples calls look with plants that are as large as they may be.
func largeSamples(n int, seed uint64, look func(p api.Plant, r *rand.Rand)) {
	r := rand.New(rand.NewPCG(seed, 6))
	for range n {
		p := randomPlant(r, api.MaxFloors, api.MaxStrikes, api.MaxWait, 4)
		if r.IntN(3) == 0 {
			p.Strikes[r.IntN(api.MaxStrikes)].Cones = api.MaxCones
			p.Floors[r.IntN(api.MaxFloors)].Places = api.MaxPlaces
		}
		look(p, r)
	}
}

// randomPlan returns a plan that is valid for the plant.
func randomPlan(r *rand.Rand, p api.Plant) berths {
	plan := berths{}
	for _, s := range p.Strikes {
		b := away()
		if r.IntN(5) > 0 {
			b = on(r.IntN(len(p.Floors)), s.Day+r.IntN(s.Wait+1))
		}
		plan = append(plan, b)
	}
	return plan
}

func randomHeat(r *rand.Rand, p api.Plant, plan berths) ints {
	heat := make(ints, len(plan))
	for i, b := range plan {
		if isSet(b) {
			d := p.Floors[b.Floor].Drip
			heat[i] = d.Lo + r.IntN(d.Hi-d.Lo+1)
		}
	}
	return heat
}
