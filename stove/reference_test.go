package stove_test

import (
	"math/rand/v2"
	"slices"

	"muscovado/api"
)

// The reference goes through all plans and all heats as the chapter's terms are worded, and knows nothing of how package stove works.

type (
	ints    = []int
	stands  = []api.Stand
	shelves = []api.Shelf
	cones   = []api.Cone
)

// The example S of the chapter, and its heats H and N.
func exampleS() api.Stove {
	return api.Stove{Shelves: shelves{shelf(0, 1), shelf(2, 1)}, Cones: cones{cone(6, 3, 1, 5), cone(4, 4, 2, 6)}, Days: 3, Now: 0, Rise: 2, Top: 3}
}

func exampleH() ints { return ints{1, 2, 3} }
func exampleN() ints { return ints{0, 0, 0} }

func shelf(lift, room int) api.Shelf {
	return api.Shelf{Lift: lift, Room: room}
}

func cone(wet, cold, jump, most int) api.Cone {
	return api.Cone{Wet: wet, Cold: cold, Jump: jump, Most: most}
}

// hard is a cone that bears all that a stove can do.
func hard(wet int) api.Cone {
	return cone(wet, 9, 9, 9)
}

func on(shelf, day int) api.Stand {
	return api.Stand{Shelf: shelf, Day: day}
}

// out is the stand of a cone that is not put in.
func out() api.Stand {
	return on(-1, 0)
}

// plan returns the stands of shelves and days.
func plan(numbers ...int) (l stands) {
	for pair := range slices.Chunk(numbers, 2) {
		l = append(l, on(pair[0], pair[1]))
	}
	return l
}

func copied(s api.Stove) api.Stove {
	s.Shelves, s.Cones = slices.Clone(s.Shelves), slices.Clone(s.Cones)
	return s
}

// but returns a stove with a change, and nothing else.
func but(s api.Stove, change func(s *api.Stove)) api.Stove {
	s = copied(s)
	change(&s)
	return s
}

func withCones(s api.Stove, list ...api.Cone) api.Stove {
	return but(s, func(s *api.Stove) { s.Cones = list })
}

// only returns a stove with some of its cones.
func only(s api.Stove, list ints) api.Stove {
	var some cones
	for _, n := range list {
		some = append(some, s.Cones[n])
	}
	return withCones(s, some...)
}

// plain is a stove of shelves without Lift, which have so much room, and is as hot as it can be at once.
func plain(rooms ints, days, top int, list ...api.Cone) api.Stove {
	s := api.Stove{Cones: list, Days: days, Now: top, Rise: 0, Top: top}
	for _, n := range rooms {
		s.Shelves = append(s.Shelves, shelf(0, n))
	}
	return s
}

func numbers(n int, is func(int) bool) (list ints) {
	for i := range n {
		if is(i) {
			list = append(list, i)
		}
	}
	return list
}

func everyNumber(int) bool { return true }

func sum(list ints) (sum int) {
	for _, n := range list {
		sum += n
	}
	return sum
}

// badHeats returns what is wrong with the heats of a valid stove.
func badHeats(s api.Stove, heats ints) api.Errno {
	if len(heats) < s.Days {
		return api.ErrShortage
	}
	if len(heats) > s.Days {
		return api.ErrExcess
	}
	for i, now := range slices.Concat(ints{s.Now}, heats)[:s.Days] {
		if heats[i] < 0 || heats[i] > s.Top {
			return api.ErrValue
		}
		if heats[i]-now > s.Rise {
			return api.ErrBarred
		}
	}
	return api.OK
}

// onShelf returns the heat of a shelf on each day.
func onShelf(s api.Stove, heats ints, shelf int) (all ints) {
	for _, heat := range heats {
		all = append(all, heat+s.Shelves[shelf].Lift)
	}
	return all
}

// tooHot returns whether a cone that was put in on a day cracks on another one.
func tooHot(c api.Cone, heats ints, put, day int) bool {
	if heats[day] > c.Most {
		return true
	}
	if day == put {
		return heats[day] > c.Cold
	}
	return heats[day]-heats[day-1] > c.Jump
}

// become returns what becomes of a cone at a stand, and on which day.
func become(s api.Stove, heats ints, number int, at api.Stand) (fate, day int) {
	c, hot := s.Cones[number], onShelf(s, heats, at.Shelf)
	for day := at.Day; day < s.Days; day++ {
		if tooHot(c, hot, at.Day, day) {
			return api.Cracked, day
		}
		if sum(hot[at.Day:day+1]) >= c.Wet {
			return api.Dry, day
		}
	}
	return api.Wet, s.Days - 1
}

// stay returns the days on which a cone that dries is on its shelf.
func stay(s api.Stove, heats ints, number int, at api.Stand) ints {
	if at == out() {
		return nil
	}
	_, last := become(s, heats, number, at)
	return numbers(s.Days, func(day int) bool { return at.Day <= day && day <= last })
}

// badStand returns what is wrong with the stand of a cone.
func badStand(s api.Stove, heats ints, number int, at api.Stand) api.Errno {
	if at.Shelf == -1 && at.Day != 0 {
		return api.ErrValue
	}
	if at.Shelf == -1 {
		return api.OK
	}
	if at.Shelf < -1 || at.Shelf >= len(s.Shelves) || at.Day < 0 || at.Day >= s.Days {
		return api.ErrMissing
	}
	fate, _ := become(s, heats, number, at)
	return map[int]api.Errno{api.Dry: api.OK, api.Cracked: api.ErrBarred, api.Wet: api.ErrConflict}[fate]
}

// places returns who is on each shelf on a day, if all cones that are put in dry.
func places(s api.Stove, heats ints, p stands, day int) [][]int {
	lists := make([][]int, len(s.Shelves))
	for number, at := range p {
		if slices.Contains(stay(s, heats, number, at), day) {
			lists[at.Shelf] = append(lists[at.Shelf], number)
		}
	}
	return lists
}

// wrong returns what is wrong with a plan, when the stove and the heats are valid.
func wrong(s api.Stove, heats ints, p stands) api.Errno {
	if len(p) < len(s.Cones) {
		return api.ErrShortage
	}
	if len(p) > len(s.Cones) {
		return api.ErrExcess
	}
	for number, at := range p {
		if e := badStand(s, heats, number, at); e != api.OK {
			return e
		}
	}
	for day := range s.Days {
		for shelf, l := range places(s, heats, p, day) {
			if len(l) > s.Shelves[shelf].Room {
				return api.ErrExcess
			}
		}
	}
	return api.OK
}

// allStands returns all stands that there are, in their order: first the one of a cone that is not put in.
func allStands(s api.Stove) stands {
	l := stands{out()}
	for shelf := range s.Shelves {
		for day := range s.Days {
			l = append(l, on(shelf, day))
		}
	}
	return l
}

// eachPlan calls look with all right plans, in their order, until it returns false.
func eachPlan(s api.Stove, heats ints, look func(p stands) bool) {
	good := make([]stands, len(s.Cones))
	for number := range s.Cones {
		good[number] = slices.DeleteFunc(allStands(s), func(at api.Stand) bool { return badStand(s, heats, number, at) != api.OK })
	}
	var further func(p stands) bool
	further = func(p stands) bool {
		if len(p) == len(s.Cones) {
			return wrong(s, heats, p) != api.OK || look(slices.Clone(p))
		}
		for _, at := range good[len(p)] {
			if !further(append(p, at)) {
				return false
			}
		}
		return true
	}
	further(nil)
}

// plans returns all right plans, in their order.
func plans(s api.Stove, heats ints) (all []stands) {
	eachPlan(s, heats, func(p stands) bool {
		all = append(all, p)
		return true
	})
	return all
}

// put returns the cones that are put in.
func put(p stands) ints {
	return numbers(len(p), func(number int) bool { return p[number] != out() })
}

// most returns all right plans with the most cones.
func most(all []stands) (best []stands) {
	n := 0
	for _, p := range all {
		n = max(n, len(put(p)))
	}
	return slices.DeleteFunc(slices.Clone(all), func(p stands) bool { return len(put(p)) < n })
}

// whole returns all right plans in which all cones are put in.
func whole(all []stands) []stands {
	return slices.DeleteFunc(slices.Clone(all), func(p stands) bool { return len(put(p)) < len(p) })
}

// ready returns the day at whose end the last cone of a plan is dry.
func ready(s api.Stove, heats ints, p stands) int {
	day := -1
	for number, at := range p {
		for _, n := range stay(s, heats, number, at) {
			day = max(day, n)
		}
	}
	return day
}

// canAll returns whether there is a right plan in which all cones are put in.
func canAll(s api.Stove, heats ints) (can bool) {
	eachPlan(s, heats, func(p stands) bool {
		can = len(put(p)) == len(p)
		return !can
	})
	return can
}

// sets returns all lists of cones, those with fewer ones first, of as many in lexicographic order.
func sets(n int) (all []ints) {
	for bits := range 1 << n {
		all = append(all, numbers(n, func(i int) bool { return bits&(1<<i) != 0 }))
	}
	slices.SortFunc(all, func(a, b ints) int {
		if len(a) != len(b) {
			return len(a) - len(b)
		}
		return slices.Compare(a, b)
	})
	return all
}

// crowd returns the first list of cones that cannot all be dried.
func crowd(s api.Stove, heats ints) (ints, api.Errno) {
	for _, list := range sets(len(s.Cones)) {
		if !canAll(only(s, list), heats) {
			return list, api.OK
		}
	}
	return nil, api.ErrNothing
}

func verdict(best []stands, number int) int {
	in, not := 0, 0
	for _, p := range best {
		if slices.Contains(put(p), number) {
			in++
		} else {
			not++
		}
	}
	switch {
	case not == 0:
		return api.Yes
	case in == 0:
		return api.No
	}
	return api.Open
}

// allHeats returns all valid heats, in lexicographic order.
func allHeats(s api.Stove) (all []ints) {
	lists := []ints{{}}
	for range s.Days {
		var more []ints
		for _, l := range lists {
			for heat := range s.Top + 1 {
				more = append(more, slices.Concat(l, ints{heat}))
			}
		}
		lists = more
	}
	return slices.DeleteFunc(lists, func(heats ints) bool { return badHeats(s, heats) != api.OK })
}

// fire returns the heats with which all cones can be dried with the least fuel.
func fire(s api.Stove) (best ints, fuel int, e api.Errno) {
	e = api.ErrNothing
	for _, heats := range allHeats(s) {
		if (e != api.OK || sum(heats) < fuel) && canAll(s, heats) {
			best, fuel, e = heats, sum(heats), api.OK
		}
	}
	return best, fuel, e
}

func days(s api.Stove) (int, api.Errno) {
	for n := range s.Days {
		if _, _, e := fire(but(s, func(s *api.Stove) { s.Days = n + 1 })); e == api.OK {
			return n + 1, api.OK
		}
	}
	return 0, api.ErrNothing
}

func spare(s api.Stove, heats ints, day int) (int, api.Errno) {
	most, e := 0, api.ErrNothing
	for heat := range api.MaxTop + 1 {
		other := withHeat(heats, day, heat)
		if badHeats(s, other) == api.OK && canAll(s, other) {
			most, e = heat, api.OK
		}
	}
	return most, e
}

func withHeat(heats ints, day, heat int) ints {
	heats = slices.Clone(heats)
	heats[day] = heat
	return heats
}

// within returns a number from lo to hi.
func within(dice *rand.Rand, lo, hi int) int {
	return lo + dice.IntN(hi-lo+1)
}

// randomCone returns a cone that often dries in a stove of few degrees, and often cracks.
func randomCone(dice *rand.Rand) api.Cone {
	if dice.IntN(5) == 0 {
		return cone(within(dice, 1, api.MaxWet), dice.IntN(10), dice.IntN(10), dice.IntN(10))
	}
	c := cone(within(dice, 1, 10), within(dice, 2, 9), dice.IntN(4), 0)
	c.Most = min(api.MaxLimit, c.Cold+dice.IntN(4))
	return c
}

func randomStove(dice *rand.Rand) api.Stove {
	s := api.Stove{Days: within(dice, 1, api.MaxStoveDays), Now: dice.IntN(api.MaxTop + 1), Rise: dice.IntN(api.MaxRise + 1), Top: dice.IntN(api.MaxTop + 1)}
	if dice.IntN(3) > 0 {
		s.Days, s.Top, s.Rise = within(dice, 2, api.MaxStoveDays), within(dice, 2, api.MaxTop), within(dice, 1, api.MaxRise)
	}
	for range within(dice, 1, api.MaxShelves) {
		s.Shelves = append(s.Shelves, shelf(dice.IntN(api.MaxLift+1), within(dice, 1, api.MaxShelfRoom)))
	}
	if dice.IntN(3) > 0 {
		s.Shelves = s.Shelves[:1]
	}
	for range min(api.MaxDamp, dice.IntN(5)) {
		s.Cones = append(s.Cones, randomCone(dice))
	}
	return s
}

// randomHeats returns valid heats, which more often rise than fall.
func randomHeats(dice *rand.Rand, s api.Stove) (heats ints) {
	now := s.Now
	for range s.Days {
		top := min(s.Top, now+s.Rise)
		now = max(dice.IntN(top+1), dice.IntN(top+1))
		heats = append(heats, now)
	}
	return heats
}

// samples calls look with many stoves, and heats of each.
func samples(n int, seed uint64, look func(s api.Stove, heats ints, dice *rand.Rand)) {
	dice := rand.New(rand.NewPCG(seed, 10))
	for range n {
		s := randomStove(dice)
		look(s, randomHeats(dice, s), dice)
	}
}

// cooler returns stoves with fewer heats, for tests that go through all of them.
func cooler(n int, seed uint64, look func(s api.Stove, dice *rand.Rand)) {
	samples(n, seed, func(s api.Stove, _ ints, dice *rand.Rand) {
		if s.Days == api.MaxStoveDays {
			s.Top = min(s.Top, 3)
		}
		look(s, dice)
	})
}
