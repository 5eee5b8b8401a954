package loaf_test

import (
	"iter"
	"math/rand/v2"
	"slices"

	"muscovado/api"
	"muscovado/weigh"
)

// The reference goes through all truths, one by one, as the chapter's terms are worded, and knows nothing of how package loaf works.

type (
	ints   = []int
	spans  = []api.Span
	loaves = []api.Loaf
)

func span(lo, hi int) api.Span {
	return api.Span{Lo: lo, Hi: hi}
}

// slow is a loaf that was in the stove and on the cart with these numbers.
func slow(promise, stove, days, cart, miles, found, err int) api.Loaf {
	return api.Loaf{Promise: promise, Stove: stove, Days: days, Cart: cart, Miles: miles, Found: found, Err: err}
}

// quick is a loaf that was in no stove and on no cart.
func quick(promise, found, err int) api.Loaf {
	return slow(promise, -1, 0, -1, 0, found, err)
}

// vat is works of a single vessel, with readings of it.
func vat(room int, readings ...api.Reading) api.Works {
	return api.Works{Vessels: []api.Vessel{{From: -1, Room: room}}, Readings: readings}
}

func reading(vessel, shown, err int) api.Reading {
	return api.Reading{Vessel: vessel, Shown: shown, Err: err}
}

// plain is a batch without stoves and carts, whose paper weighs nothing.
func plain(room int, l ...api.Loaf) api.Batch {
	return api.Batch{Works: vat(room), Loaves: l}
}

// The examples S, T and U of the chapter.
func exampleS() api.Batch {
	return api.Batch{
		Works:  vat(40, reading(0, 30, 1)),
		Stoves: spans{span(1, 2)},
		Carts:  spans{span(0, 1)},
		Paper:  1,
		Loaves: loaves{slow(12, 0, 2, 0, 3, 8, 0), slow(12, 0, 1, -1, 0, 10, 0), slow(6, -1, 0, 0, 1, 6, 1)},
	}
}

func exampleT() api.Batch {
	return but(exampleS(), func(b *api.Batch) {
		b.Works.Vessels[0].Room, b.Carts[0], b.Loaves[0].Promise = 30, span(0, 2), 15
	})
}

func exampleU() api.Batch {
	return but(exampleS(), func(b *api.Batch) { b.Loaves[1].Found = 30 })
}

// but returns a batch with a change, in memory of its own.
func but(b api.Batch, change func(b *api.Batch)) api.Batch {
	b = copied(b)
	change(&b)
	return b
}

func copied(b api.Batch) api.Batch {
	b.Works = api.Works{Vessels: slices.Clone(b.Works.Vessels), Readings: slices.Clone(b.Works.Readings)}
	b.Stoves, b.Carts, b.Loaves = slices.Clone(b.Stoves), slices.Clone(b.Carts), slices.Clone(b.Loaves)
	return b
}

// truth is a rate of each stove and of each cart, and what came out for each loaf.
type truth struct {
	stoves [api.MaxStoves]int
	carts  [api.MaxCarts]int
	outs   [api.MaxLoaves]int
}

// left returns what is left of a loaf, which dries day by day and is carried mile by mile.
func (t truth) left(b api.Batch, loaf int) int {
	l, weight := b.Loaves[loaf], t.outs[loaf]
	if l.Stove >= 0 {
		for range l.Days {
			weight -= t.stoves[l.Stove]
		}
	}
	if l.Cart >= 0 {
		for range l.Miles {
			weight -= t.carts[l.Cart]
		}
	}
	return weight
}

// found returns whether scales that err so much can show this for a loaf with its paper.
func (t truth) found(b api.Batch, loaf, shown, err int) bool {
	off := shown - (t.left(b, loaf) + b.Paper)
	return -err <= off && off <= err
}

func (t truth) short(b api.Batch, loaf int) bool {
	return t.outs[loaf] < b.Loaves[loaf].Promise
}

func (t truth) total() int {
	sum := 0
	for _, out := range t.outs {
		sum += out
	}
	return sum
}

// shorts returns how many loaves are short, and owed what they lack.
func (t truth) shorts(b api.Batch) int {
	n := 0
	for loaf := range b.Loaves {
		if t.short(b, loaf) {
			n++
		}
	}
	return n
}

func (t truth) owed(b api.Batch) int {
	sum := 0
	for loaf, l := range b.Loaves {
		if t.short(b, loaf) {
			sum += l.Promise - t.outs[loaf]
		}
	}
	return sum
}

// weights returns all weights that the vessel has in a truth of the works, ascending: those that one more reading can show.
func weights(b api.Batch) (list ints) {
	for weight := range api.MaxRoom + 1 {
		w := b.Works
		w.Readings = slices.Concat(w.Readings, []api.Reading{reading(b.Vessel, weight, 0)})
		can, e := weigh.Can(w)
		if e != api.OK {
			panic(e)
		}
		if can {
			list = append(list, weight)
		}
	}
	return list
}

// allRates calls look with each list of one number out of each span, until it returns false.
func allRates(of spans, look func(ints) bool) {
	list := make(ints, len(of))
	var choose func(i int) bool
	choose = func(i int) bool {
		if i == len(list) {
			return look(list)
		}
		for list[i] = of[i].Lo; list[i] <= of[i].Hi; list[i]++ {
			if !choose(i + 1) {
				return false
			}
		}
		return true
	}
	choose(0)
}

// truthsWithout goes through all truths of a batch without the findings of some loaves.
func truthsWithout(b api.Batch, forgotten ints) iter.Seq[truth] {
	return func(yield func(truth) bool) {
		sums := weights(b)
		var t truth
		var choose func(loaf, sum int) bool
		choose = func(loaf, sum int) bool {
			if sum > slices.Max(sums) {
				return true
			}
			if loaf == len(b.Loaves) {
				return !slices.Contains(sums, sum) || yield(t)
			}
			l := b.Loaves[loaf]
			for out := range api.MaxLoaf + 1 {
				t.outs[loaf] = out
				if t.left(b, loaf) < 0 || !slices.Contains(forgotten, loaf) && !t.found(b, loaf, l.Found, l.Err) {
					continue
				}
				if !choose(loaf+1, sum+out) {
					return false
				}
			}
			return true
		}
		allRates(slices.Concat(b.Stoves, b.Carts), func(rates ints) bool {
			copy(t.stoves[:], rates[:len(b.Stoves)])
			copy(t.carts[:], rates[len(b.Stoves):])
			return choose(0, 0)
		})
	}
}

func truths(b api.Batch) []truth {
	return slices.Collect(truthsWithout(b, nil))
}

// boundsOf returns the least and the greatest of what is measured of each truth.
func boundsOf(all []truth, measure func(truth) int) api.Span {
	s := span(measure(all[0]), measure(all[0]))
	for _, t := range all {
		s.Lo, s.Hi = min(s.Lo, measure(t)), max(s.Hi, measure(t))
	}
	return s
}

// verdictOn returns whether a loaf is short in all truths, in none, or in some.
func verdictOn(b api.Batch, all iter.Seq[truth], loaf int) int {
	short, not := false, false
	for t := range all {
		short, not = short || t.short(b, loaf), not || !t.short(b, loaf)
		if short && not {
			return api.Open
		}
	}
	if short {
		return api.Yes
	}
	return api.No
}

// open returns how many loaves are open.
func open(b api.Batch, all []truth) int {
	n := 0
	for loaf := range b.Loaves {
		if verdictOn(b, slices.Values(all), loaf) == api.Open {
			n++
		}
	}
	return n
}

// lists returns all ascending lists of some numbers, which ascend, in the order in which the fewest is looked for: the shorter ones first, then by their first difference.
func lists(of ints) []ints {
	all := []ints{{}}
	for from := 0; from < len(all); from++ {
		for _, n := range of {
			if l := all[from]; len(l) == 0 || n > l[len(l)-1] {
				all = append(all, slices.Concat(l, ints{n}))
			}
		}
	}
	return all
}

// numbers returns those from 0 to n-1, but for some.
func numbers(n int, but ...int) (list ints) {
	for i := range n {
		if !slices.Contains(but, i) {
			list = append(list, i)
		}
	}
	return list
}

// proves returns whether a loaf is short in all truths with its finding and those of some other loaves.
func proves(b api.Batch, loaf int, proof ints) bool {
	forgotten := numbers(len(b.Loaves), append(slices.Clone(proof), loaf)...)
	return verdictOn(b, truthsWithout(b, forgotten), loaf) == api.Yes
}

// proof returns the first list of other loaves whose findings prove that a loaf is short.
func proof(b api.Batch, loaf int) (ints, api.Errno) {
	if verdictOn(b, truthsWithout(b, nil), loaf) != api.Yes {
		return nil, api.ErrNothing
	}
	for _, list := range lists(numbers(len(b.Loaves), loaf)) {
		if proves(b, loaf, list) {
			return list, api.OK
		}
	}
	panic("all findings do not prove what they prove")
}

// trueWithout returns whether there is a truth without the findings of some loaves.
func trueWithout(b api.Batch, forgotten ints) bool {
	for range truthsWithout(b, forgotten) {
		return true
	}
	return false
}

// wrong returns the first list of loaves without whose findings there is a truth.
func wrong(b api.Batch) (ints, api.Errno) {
	for _, list := range lists(numbers(len(b.Loaves))) {
		if trueWithout(b, list) {
			return list, api.OK
		}
	}
	return nil, api.ErrNothing
}

// after returns the truths that are left when a loaf is weighed again.
func after(b api.Batch, all []truth, loaf, shown, err int) (some []truth) {
	for _, t := range all {
		if t.found(b, loaf, shown, err) {
			some = append(some, t)
		}
	}
	return some
}

// worst returns the greatest number of loaves that are open after a loaf is weighed again.
func worst(b api.Batch, all []truth, loaf, err int) int {
	seen, most := map[int]bool{}, 0
	for _, t := range all {
		weight := t.left(b, loaf) + b.Paper
		for shown := weight - err; shown <= weight+err; shown++ {
			if !seen[shown] {
				seen[shown] = true
				most = max(most, open(b, after(b, all, loaf, shown, err)))
			}
		}
	}
	return most
}

// next returns the first loaf that leaves the fewest loaves open at worst.
func next(b api.Batch, all []truth, err int) (loaf, left int, e api.Errno) {
	left, e = open(b, all), api.ErrNothing
	for other := range b.Loaves {
		if most := worst(b, all, other, err); most < left {
			loaf, left, e = other, most, api.OK
		}
	}
	if e != api.OK {
		return 0, 0, e
	}
	return loaf, left, e
}

// pick returns one of some numbers.
func pick(dice *rand.Rand, of ...int) int {
	return of[dice.IntN(len(of))]
}

// ranges returns some ranges of rates, which are narrow.
func ranges(dice *rand.Rand, most int) (list spans) {
	for range dice.IntN(most + 1) {
		lo := pick(dice, 0, 0, 1, 1, 2, 3)
		list = append(list, span(lo, min(api.MaxLoafRate, lo+pick(dice, 0, 0, 1, 1, 2))))
	}
	return list
}

// around returns works and a vessel of them that can weigh so much, and little else.
func around(dice *rand.Rand, weight int) (api.Works, int) {
	near := func() api.Reading {
		err := dice.IntN(3)
		return reading(0, max(0, weight+dice.IntN(2*err+1)-err), err)
	}
	switch dice.IntN(4) {
	case 0:
		return vat(min(api.MaxRoom, weight+dice.IntN(3))), 0
	case 1:
		return vat(min(api.MaxRoom, weight+dice.IntN(7)), near()), 0
	case 2:
		return vat(api.MaxRoom, near(), near()), 0
	}
	// A vessel that is filled out of another one, beside others, or that fills one.
	other := dice.IntN(4)
	lost := dice.IntN(3)
	w := api.Works{Vessels: []api.Vessel{
		{From: -1, Room: api.MaxRoom, Loss: span(max(0, lost-1), lost+dice.IntN(2))},
		{From: 0, Room: min(api.MaxRoom, weight+dice.IntN(4))},
		{From: 0, Room: other + dice.IntN(3)},
	}}
	w.Readings = []api.Reading{reading(0, weight+other+lost, dice.IntN(2)), reading(2, other, dice.IntN(2))}
	return w, pick(dice, 1, 1, 1, 0)
}

// carried returns a loaf that lost weight by some rates, and what came out for it; what was found is right, but for about one of so many loaves (for none if odds is 0).
func carried(dice *rand.Rand, b api.Batch, told truth, odds int) (l api.Loaf, out int) {
	l = quick(0, 0, pick(dice, 0, 0, 1, 1, 2, 3))
	l.Days, l.Miles = pick(dice, 0, 1, 1, 2, 3), pick(dice, 0, 1, 1, 2, 3)
	l.Stove, l.Cart = dice.IntN(len(b.Stoves)+1)-1, dice.IntN(len(b.Carts)+1)-1
	left := pick(dice, 0, 1, 2, 3, 4, 5, 6, 7)
	l.Found = max(0, left+b.Paper+dice.IntN(2*l.Err+1)-l.Err)
	if odds > 0 && dice.IntN(odds) == 0 {
		l.Found = max(0, l.Found+pick(dice, -4, -3, -2, 2, 3, 4))
	}
	out = left
	if l.Stove >= 0 {
		out += l.Days * told.stoves[l.Stove]
	}
	if l.Cart >= 0 {
		out += l.Miles * told.carts[l.Cart]
	}
	l.Promise = min(api.MaxLoaf, max(0, out+pick(dice, -3, -1, 0, 0, 1, 1, 2, 4)))
	return l, out
}

// random returns a small batch, and what is true of it if all its findings are right.
func random(dice *rand.Rand, odds int) (api.Batch, truth) {
	for {
		b := api.Batch{Stoves: ranges(dice, api.MaxStoves), Carts: ranges(dice, api.MaxCarts), Paper: dice.IntN(api.MaxPaper + 1)}
		var told truth
		for i, r := range b.Stoves {
			told.stoves[i] = r.Lo + dice.IntN(r.Hi-r.Lo+1)
		}
		for i, r := range b.Carts {
			told.carts[i] = r.Lo + dice.IntN(r.Hi-r.Lo+1)
		}
		for i := range pick(dice, 0, 1, 2, 2, 3, 3, 3, 4, 4) {
			l, out := carried(dice, b, told, odds)
			b.Loaves = append(b.Loaves, l)
			told.outs[i] = out
		}
		if told.total() > 28 {
			continue
		}
		if b.Works, b.Vessel = around(dice, told.total()); b.Vessel == 0 && len(b.Works.Vessels) > 1 {
			// All loaves came out of a vessel that fills others, too.
			b.Works.Readings[0].Shown = told.total()
		}
		if can, e := weigh.Can(b.Works); e != api.OK || !can || odds == 0 && !slices.Contains(weights(b), told.total()) {
			continue
		}
		return b, told
	}
}

// samples calls look with many small batches; with those that have a truth only, if true is asked for.
func samples(n int, seed uint64, odds int, truth bool, look func(b api.Batch, all []truth, dice *rand.Rand)) {
	dice := rand.New(rand.NewPCG(seed, 7))
	for n > 0 {
		b, _ := random(dice, odds)
		if all := truths(b); !truth || len(all) > 0 {
			look(b, all, dice)
			n--
		}
	}
}
