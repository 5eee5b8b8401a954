package saw_test

import (
	"math/rand/v2"
	"slices"

	"muscovado/api"
)

// The reference tries all plans and all lists of wants, as the chapter's terms are worded, and knows nothing of how package saw works.

type (
	ints  = []int
	wants = []api.Want
)

func whole(kind, pay int) api.Want {
	return api.Want{Sort: api.Whole, Kind: kind, Pay: pay}
}

func crushed(kind, pounds, pay int) api.Want {
	return api.Want{Sort: api.Crushed, Kind: kind, Amount: pounds, Pay: pay}
}

func top(kind, slices, pay int) api.Want {
	return api.Want{Sort: api.Top, Kind: kind, Amount: slices, Pay: pay}
}

// The examples S and T of the chapter.
func exampleS() api.Saw {
	return api.Saw{
		Loaves: []ints{{5, 3, 2}, {4, 2}},
		Stock:  ints{2, 2},
		Kerf:   1,
		Wants:  wants{whole(0, 12), top(0, 1, 6), crushed(-1, 9, 9), crushed(1, 5, 5)},
	}
}

func exampleT() api.Saw {
	return but(exampleS(), func(s *api.Saw) { s.Stock[1] = 1 })
}

// but returns a saw with a change, in memory of its own.
func but(s api.Saw, change func(s *api.Saw)) api.Saw {
	s = copied(s)
	change(&s)
	return s
}

func copied(s api.Saw) api.Saw {
	s.Loaves = slices.Clone(s.Loaves)
	for kind := range s.Loaves {
		s.Loaves[kind] = slices.Clone(s.Loaves[kind])
	}
	s.Stock, s.Wants = slices.Clone(s.Stock), slices.Clone(s.Wants)
	return s
}

// weight returns what numbers are together.
func weight(of ...int) (sum int) {
	for _, n := range of {
		sum += n
	}
	return sum
}

// rest returns what is left to be crushed below so many upper slices of a loaf, and what the cut loses.
func rest(loaf ints, upper, kerf int) (pounds, lost int) {
	below := weight(loaf[:len(loaf)-upper]...)
	if below < kerf {
		return 0, below
	}
	return below - kerf, kerf
}

// served is what a plan does: the loaves of each kind that it takes, the crushed sugar of each kind, and what its wants take of it, by kinds and of any kind.
type served struct {
	taken, sugar, ofKind ints
	ofAny                int
}

func serve(s api.Saw, list, crush ints) served {
	kinds := len(s.Loaves)
	x := served{taken: make(ints, kinds), sugar: make(ints, kinds), ofKind: make(ints, kinds)}
	for _, number := range list {
		w := s.Wants[number]
		if w.Sort == api.Whole {
			x.taken[w.Kind]++
		}
		if w.Sort == api.Top {
			x.taken[w.Kind]++
			pounds, _ := rest(s.Loaves[w.Kind], w.Amount, s.Kerf)
			x.sugar[w.Kind] += pounds
		}
		if w.Sort == api.Crushed && w.Kind >= 0 {
			x.ofKind[w.Kind] += w.Amount
		}
		if w.Sort == api.Crushed && w.Kind < 0 {
			x.ofAny += w.Amount
		}
	}
	for kind, n := range crush {
		for range n {
			x.taken[kind]++
			x.sugar[kind] += weight(s.Loaves[kind]...)
		}
	}
	return x
}

// cones returns all loaves that are taken, and over the crushed sugar that nobody takes.
func (x served) cones() int {
	return weight(x.taken...)
}

func (x served) over() int {
	return weight(x.sugar...) - weight(x.ofKind...) - x.ofAny
}

// wrong returns the first error of a plan.
func wrong(s api.Saw, list, crush ints) api.Errno {
	x := serve(s, list, crush)
	for kind, n := range x.taken {
		if n > s.Stock[kind] {
			return api.ErrBarred
		}
	}
	// Each want takes sugar of its own kind first; those of any kind take what is left.
	left := 0
	for kind, pounds := range x.sugar {
		if pounds < x.ofKind[kind] {
			return api.ErrConflict
		}
		left += pounds - x.ofKind[kind]
	}
	if left < x.ofAny {
		return api.ErrConflict
	}
	return api.OK
}

// crushings returns all lists of numbers of loaves of which there are so many, in lexicographic order.
func crushings(stock ints) []ints {
	all := []ints{nil}
	for _, most := range stock {
		var longer []ints
		for _, l := range all {
			for n := range most + 1 {
				longer = append(longer, slices.Concat(l, ints{n}))
			}
		}
		all = longer
	}
	return all
}

// bestPlan is the best plan for some wants, if one is right.
type bestPlan struct {
	crush       ints
	cones, over int
	some        bool
}

func bestFor(s api.Saw, list ints) (b bestPlan) {
	for _, crush := range crushings(s.Stock) {
		if wrong(s, list, crush) != api.OK {
			continue
		}
		x := serve(s, list, crush)
		if !b.some || x.cones() < b.cones || x.cones() == b.cones && x.over() < b.over {
			b = bestPlan{crush, x.cones(), x.over(), true}
		}
	}
	return b
}

// can returns whether some wants can be served.
func can(s api.Saw, list ints) bool {
	return bestFor(s, list).some
}

// numbers returns those from 0 to n-1, but for some.
func numbers(n int, but ...int) (list ints) {
	for i := range n {
		if !slices.Contains(but, i) {
			list = append(list, i)
		}
	}
	return list
}

// lists returns all lists of wants, in lexicographic order.
func lists(s api.Saw) []ints {
	all := []ints{nil}
	for from := 0; from < len(all); from++ {
		for n := range s.Wants {
			if l := all[from]; len(l) == 0 || n > l[len(l)-1] {
				all = append(all, slices.Concat(l, ints{n}))
			}
		}
	}
	slices.SortFunc(all, slices.Compare[ints])
	return all
}

// shortest returns the same lists, but the shorter ones first.
func shortest(s api.Saw) []ints {
	all := lists(s)
	slices.SortStableFunc(all, func(a, b ints) int { return len(a) - len(b) })
	return all
}

func pays(s api.Saw, list ints) (pay int) {
	for _, number := range list {
		pay += s.Wants[number].Pay
	}
	return pay
}

// deal is a list of wants that can be served, with what it pays, and its fewest cones.
type deal struct {
	list       ints
	pay, cones int
}

// deals returns all of them, in lexicographic order.
func deals(s api.Saw) (all []deal) {
	for _, list := range lists(s) {
		if b := bestFor(s, list); b.some {
			all = append(all, deal{list, pays(s, list), b.cones})
		}
	}
	return all
}

// bestDeal returns the first of those that pay most, with the fewest cones.
func bestDeal(all []deal) deal {
	b := all[0]
	for _, d := range all {
		if d.pay > b.pay || d.pay == b.pay && d.cones < b.cones {
			b = d
		}
	}
	return b
}

// verdict returns whether a want is in all deals that pay most, in none, or in some; worth what they pay more than those without it.
func verdict(all []deal, want int) int {
	in, out := 0, 0
	for _, d := range all {
		switch {
		case d.pay < bestDeal(all).pay:
		case slices.Contains(d.list, want):
			in++
		default:
			out++
		}
	}
	switch {
	case out == 0:
		return api.Yes
	case in == 0:
		return api.No
	}
	return api.Open
}

func worth(all []deal, want int) int {
	without := slices.DeleteFunc(slices.Clone(all), func(d deal) bool { return slices.Contains(d.list, want) })
	return bestDeal(all).pay - bestDeal(without).pay
}

// refused returns the first list without which all other wants can be served.
func refused(s api.Saw) ints {
	for _, list := range shortest(s) {
		if can(s, numbers(len(s.Wants), list...)) {
			return list
		}
	}
	panic("no want at all cannot be served")
}

// need returns the fewest loaves more of a kind with which all wants can be served.
func need(s api.Saw, kind int) (int, api.Errno) {
	for more := range api.MaxStock + 1 {
		if can(but(s, func(s *api.Saw) { s.Stock[kind] += more }), numbers(len(s.Wants))) {
			return more, api.OK
		}
	}
	return 0, api.ErrNothing
}

// kerf returns the greatest one with which all wants can be served.
func kerf(s api.Saw) (widest int, e api.Errno) {
	e = api.ErrNothing
	for k := range api.MaxKerf + 1 {
		if can(but(s, func(s *api.Saw) { s.Kerf = k }), numbers(len(s.Wants))) {
			widest, e = k, api.OK
		}
	}
	return widest, e
}

// upper returns the fewest upper slices of a loaf that weigh enough.
func upper(loaf ints, pounds int) (int, api.Errno) {
	for n := 0; n <= len(loaf); n++ {
		if weight(loaf[len(loaf)-n:]...) >= pounds {
			return n, api.OK
		}
	}
	return 0, api.ErrNothing
}

// pick returns one of some numbers.
func pick(dice *rand.Rand, of ...int) int {
	return of[dice.IntN(len(of))]
}

// randomLoaf returns a loaf; heavy slices are rare.
func randomLoaf(dice *rand.Rand) (loaf ints) {
	for range pick(dice, 1, 2, 2, 3, 3, 4) {
		loaf = append(loaf, pick(dice, 1, 1, 2, 2, 3, 4, 5, 6, 9))
	}
	slices.SortFunc(loaf, func(a, b int) int { return b - a })
	return loaf
}

// randomWant returns a valid want; what is wanted of crushed sugar is often near what some loaves weigh.
func randomWant(dice *rand.Rand, s api.Saw) api.Want {
	kind, pay := dice.IntN(len(s.Loaves)), pick(dice, 0, 1, 1, 2, 2, 3, 4, 5, 9)
	loaf := s.Loaves[kind]
	switch dice.IntN(5) {
	case 0:
		return whole(kind, pay)
	case 1, 2:
		if len(loaf) > 1 {
			return top(kind, 1+dice.IntN(len(loaf)-1), pay)
		}
	}
	pounds := weight(loaf...)*(dice.IntN(3)) + pick(dice, -2, -1, 0, 1, 2, 3, 5)
	if dice.IntN(2) == 0 {
		kind = -1
	}
	return crushed(kind, min(api.MaxCrushed, max(1, pounds)), pay)
}

// random returns a valid saw; its loaves often weigh the same.
func random(dice *rand.Rand) api.Saw {
	s := api.Saw{Kerf: dice.IntN(api.MaxKerf + 1)}
	for kind := range 1 + dice.IntN(api.MaxKinds) {
		l := randomLoaf(dice)
		if kind > 0 && dice.IntN(4) == 0 {
			l = slices.Clone(s.Loaves[dice.IntN(kind)])
		}
		s.Loaves = append(s.Loaves, l)
		s.Stock = append(s.Stock, pick(dice, 0, 1, 1, 1, 2, 2, 3, 4))
	}
	for range pick(dice, 0, 1, 2, 3, 3, 4, 4, 5, 5, 5) {
		s.Wants = append(s.Wants, randomWant(dice, s))
	}
	return s
}

// samples calls look with many saws.
func samples(n int, seed uint64, look func(s api.Saw, dice *rand.Rand)) {
	dice := rand.New(rand.NewPCG(seed, 8))
	for range n {
		look(random(dice), dice)
	}
}
