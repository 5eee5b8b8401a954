package syrup_test

import (
	"math/rand/v2"
	"slices"

	"muscovado/api"
)

// The reference goes through ways and shares as the chapter's terms are worded, and knows nothing of how package syrup works.

type (
	ints = []int
	pans = []api.Pan
	lots = []api.Lot
)

func pan(lo, hi, shift int) api.Pan {
	return api.Pan{Lo: lo, Hi: hi, Shift: shift}
}

func lot(quality, pounds int) api.Lot {
	return api.Lot{Quality: quality, Pounds: pounds}
}

// examples are S, T and L of the chapter.
func exampleS() pans {
	return pans{pan(8, 12, -3), pan(4, 9, -3), pan(2, 5, 2)}
}

func exampleT() pans {
	return exampleS()[:2]
}

func exampleL() lots {
	return lots{lot(9, 5), lot(8, 4), lot(4, 3)}
}

// most returns as many pans as there may be, which take all, and as many lots, which are as heavy as they may be.
func most() (pans, lots) {
	return slices.Repeat(pans{pan(0, 12, 0)}, api.MaxPans), slices.Repeat(lots{lot(0, api.MaxPounds)}, api.MaxLots)
}

const qualities = api.MaxQuality + 1

func takes(p api.Pan, quality int) bool {
	return p.Lo <= quality && quality <= p.Hi
}

func comesOut(p api.Pan, quality int) int {
	switch out := quality + p.Shift; {
	case out < 0:
		return 0
	case out > api.MaxQuality:
		return api.MaxQuality
	default:
		return out
	}
}

func takers(p pans, quality int) []int {
	var list []int
	for i := range p {
		if takes(p[i], quality) {
			list = append(list, i)
		}
	}
	return list
}

func isTreacle(p pans, quality int) bool {
	return len(takers(p, quality)) == 0
}

// boiled returns what comes out of each pan, if the list is a way.
func boiled(p pans, quality int, list []int) ([]int, bool) {
	var outs []int
	for _, i := range list {
		if !takes(p[i], quality) {
			return nil, false
		}
		quality = comesOut(p[i], quality)
		outs = append(outs, quality)
	}
	return outs, true
}

// end returns the quality at the end of a way.
func end(p pans, quality int, way []int) int {
	outs, _ := boiled(p, quality, way)
	return append(ints{quality}, outs...)[len(outs)]
}

// tables say how many ways with so many pans there are from one quality to another one, without some pans. Those with more pans than there are qualities go round.
type table [qualities][qualities]int

func tables(p pans, without ...int) [qualities + 1]table {
	var all [qualities + 1]table
	for q := range qualities {
		all[0][q][q] = 1
	}
	for n := range qualities {
		for q := range qualities {
			for _, i := range takers(p, q) {
				if !slices.Contains(without, i) {
					for to, ways := range all[n][comesOut(p[i], q)] {
						all[n+1][q][to] += ways
					}
				}
			}
		}
	}
	return all
}

func canGoRound(all [qualities + 1]table, quality int) bool {
	return all[qualities][quality] != [qualities]int{}
}

func everRound(all [qualities + 1]table) []int {
	var list []int
	for q := range qualities {
		if canGoRound(all, q) {
			list = append(list, q)
		}
	}
	return list
}

// firstWay returns the first way with at least so many pans to one of some qualities.
func firstWay(p pans, all [qualities + 1]table, quality, least int, good func(int) bool) ([]int, bool) {
	there := func(n, from int) bool {
		for to, ways := range all[n][from] {
			if ways > 0 && good(to) {
				return true
			}
		}
		return false
	}
	for n := least; n <= qualities; n++ {
		if !there(n, quality) {
			continue
		}
		var way []int
		for at := quality; len(way) < n; {
			for _, i := range takers(p, at) {
				if out := comesOut(p[i], at); there(n-len(way)-1, out) {
					way, at = append(way, i), out
					break
				}
			}
		}
		return way, true
	}
	return nil, false
}

// treacleEnds returns the qualities of treacle at the ends of ways, and how many ways have such an end.
func treacleEnds(p pans, all [qualities + 1]table, quality int) (ends []int, count int) {
	for to := range qualities {
		ways := 0
		for n := range all {
			ways += all[n][quality][to]
		}
		if ways > 0 && isTreacle(p, to) {
			ends, count = append(ends, to), count+ways
		}
	}
	return ends, count
}

// walked goes through all ways from a quality with at most so many pans, the shorter ones first, then in lexicographic order; false if there are too many.
func walked(p pans, quality, most int) ([][]int, bool) {
	all := [][]int{{}}
	for from := 0; from < len(all); from++ {
		way := all[from]
		if len(way) == most {
			break
		}
		for _, i := range takers(p, end(p, quality, way)) {
			all = append(all, slices.Concat(way, ints{i}))
		}
		if len(all) > 2000 {
			return nil, false
		}
	}
	return all, true
}

// lists returns all ascending lists of numbers below hi: the shorter ones first, then in lexicographic order.
func lists(hi int) [][]int {
	all := [][]int{{}}
	for from := 0; from < len(all); from++ {
		next := 0
		if n := len(all[from]); n > 0 {
			next = all[from][n-1] + 1
		}
		for ; next < hi; next++ {
			all = append(all, slices.Concat(all[from], ints{next}))
		}
	}
	return all
}

// shares returns all shares in lexicographic order.
func shares(p pans, l lots, rooms []int) [][]int {
	all := [][]int{{}}
	for range l {
		var longer [][]int
		for _, s := range all {
			for i := -1; i < len(p); i++ {
				longer = append(longer, slices.Concat(s, ints{i}))
			}
		}
		all = longer
	}
	return slices.DeleteFunc(all, func(s []int) bool { return !isShare(p, l, rooms, s) })
}

func isShare(p pans, l lots, rooms, share []int) bool {
	left := slices.Clone(rooms)
	for k, i := range share {
		if i < 0 {
			continue
		}
		if left[i] -= l[k].Pounds; left[i] < 0 || !takes(p[i], l[k].Quality) {
			return false
		}
	}
	return true
}

func poundsOf(l lots, share []int) int {
	sum := 0
	for k, i := range share {
		if i >= 0 {
			sum += l[k].Pounds
		}
	}
	return sum
}

// bestShares returns all of them in lexicographic order, and their pounds.
func bestShares(p pans, l lots, rooms []int) (good [][]int, most int) {
	all := shares(p, l, rooms)
	for _, s := range all {
		most = max(most, poundsOf(l, s))
	}
	return slices.DeleteFunc(all, func(s []int) bool { return poundsOf(l, s) < most }), most
}

// served returns whether there is a share, with this room in each pan, in which each lot that some pan takes has one.
func served(p pans, l lots, room int) bool {
	return slices.ContainsFunc(shares(p, l, slices.Repeat(ints{room}, len(p))), func(s []int) bool {
		for k, i := range s {
			if i < 0 && !isTreacle(p, l[k].Quality) {
				return false
			}
		}
		return true
	})
}

// randomPans returns a few of them; in most, something takes what comes out of another one.
func randomPans(r *rand.Rand) pans {
	var list pans
	wide := 1 + r.IntN(qualities)
	for range r.IntN(api.MaxPans + 1) {
		lo := r.IntN(qualities)
		list = append(list, pan(lo, min(api.MaxQuality, lo+r.IntN(wide)), r.IntN(2*api.MaxShift+1)-api.MaxShift))
		if r.IntN(2) == 0 { // little by little, and often the same way
			list[len(list)-1].Shift = r.IntN(4) - 3
		}
	}
	return list
}

// widePans returns some that take most qualities, so that lots have a choice.
func widePans(r *rand.Rand) pans {
	var list pans
	for range 1 + r.IntN(api.MaxPans) {
		list = append(list, pan(r.IntN(5), 8+r.IntN(5), 0))
	}
	return list
}

func randomLots(r *rand.Rand) lots {
	var list lots
	most := 1 + r.IntN(api.MaxPounds)
	for range r.IntN(api.MaxLots + 1) {
		list = append(list, lot(r.IntN(qualities), 1+r.IntN(most)))
	}
	return list
}

func randomRooms(r *rand.Rand, p pans) []int {
	var list []int
	most := 1 + r.IntN(api.MaxPanRoom)
	for range p {
		list = append(list, r.IntN(most+1))
	}
	return list
}

// samples calls look with many lists of pans.
func samples(n int, seed uint64, look func(p pans, r *rand.Rand)) {
	r := rand.New(rand.NewPCG(seed, 2))
	for range n {
		look(randomPans(r), r)
	}
}
