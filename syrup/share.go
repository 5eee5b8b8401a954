package syrup

import (
	"slices"

	"muscovado/api"
)

// none is what a lot has that has no pan.
const none = -1

// enough is as much room as all lots together can need.
const enough = api.MaxLots * api.MaxPounds

// share is the pan of each lot, and the pounds that each pan has.
type share struct {
	pans  [api.MaxLots]int
	loads [api.MaxPans]int
}

// pounds returns those of all lots that have a pan.
func (s share) pounds() int {
	sum := 0
	for _, load := range s.loads {
		sum += load
	}
	return sum
}

// room returns the room that each pan must have.
func (s share) room() int {
	return slices.Max(s.loads[:])
}

func (s share) heavier(o share) bool {
	return s.pounds() > o.pounds()
}

func (s share) narrower(o share) bool {
	return s.room() < o.room()
}

// sharer gives lots to pans, one after the other, and looks at each share that comes of it.
type sharer struct {
	lots    []api.Lot
	choices [][]int // for each lot, ascending
	rooms   []int
	share   share
	look    func(share)
}

// shares looks at all shares in lexicographic order, or only at those in which each lot that some pan takes has one.
func (h house) shares(lots []api.Lot, rooms []int, all bool, look func(share)) {
	s := sharer{lots: lots, rooms: rooms, look: look}
	for _, l := range lots {
		var choices []int
		switch pans := h.taking(l.Quality); {
		case all, len(pans) == 0:
			choices = append(choices, none)
			fallthrough
		default:
			choices = append(choices, pans...)
		}
		s.choices = append(s.choices, choices)
	}
	s.give(0)
}

// give goes through all that the lot and those behind it can have.
func (s *sharer) give(lot int) {
	if lot == len(s.lots) {
		s.look(s.share)
		return
	}
	for _, pan := range s.choices[lot] {
		s.put(lot, pan)
	}
}

// put gives the lot to the pan, if there is room for it, and goes through all that those behind it can have.
func (s *sharer) put(lot, pan int) {
	s.share.pans[lot] = pan
	if pan != none {
		load, pounds := &s.share.loads[pan], s.lots[lot].Pounds
		if *load+pounds > s.rooms[pan] {
			return
		}
		*load += pounds
		defer func() { *load -= pounds }()
	}
	s.give(lot + 1)
}

// heaviest returns the best share that is first in lexicographic order.
func (h house) heaviest(lots []api.Lot, rooms []int) share {
	most := best[share]{before: share.heavier}
	h.shares(lots, rooms, true, most.take)
	return most.kept
}

// verdict holds the best of the shares in which the lot has a pan against the best of the others, of which there always are some.
func (h house) verdict(lots []api.Lot, rooms []int, lot int) int {
	with, without := best[share]{before: share.heavier}, best[share]{before: share.heavier}
	h.shares(lots, rooms, true, func(s share) {
		if s.pans[lot] == none {
			without.take(s)
		} else {
			with.take(s)
		}
	})
	switch {
	case !with.some || without.kept.heavier(with.kept):
		return api.No
	case with.kept.heavier(without.kept):
		return api.Yes
	}
	return api.Open
}

// need returns the least room with which each lot that some pan takes can have one.
func (h house) need(lots []api.Lot) int {
	least := best[share]{before: share.narrower}
	h.shares(lots, slices.Repeat([]int{enough}, len(h.given)), false, least.take)
	return least.kept.room()
}
