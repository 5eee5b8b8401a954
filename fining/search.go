package fining

import (
	"iter"
	"slices"

	"muscovado/api"
)

// queue gives back first what was put in first.
type queue[T any] struct {
	items []T
}

func (q *queue[T]) push(item T) {
	q.items = append(q.items, item)
}

func (q *queue[T]) pop() (item T, some bool) {
	if len(q.items) == 0 {
		return item, false
	}
	item, q.items = q.items[0], q.items[1:]
	return item, true
}

// several are melts to which the same agents are put. Where they are fewer, the last one is there again, which changes nothing.
type several [api.MaxMelts]faults

func severalOf(numbers ...int) several {
	var s several
	for i := range s {
		s[i] = faults(numbers[min(i, len(numbers)-1)])
	}
	return s
}

// clear returns whether all melts are clear.
func (s several) clear(pass faults) bool {
	for i, melt := range s {
		s[i] = melt.without(pass)
	}
	return s == several{}
}

// after returns what the melts are after an agent, if it may be put to all of them.
func (s several) after(a agent) (after several, may bool) {
	for i, melt := range s {
		if !a.may(melt) {
			return several{}, false
		}
		after[i] = a.put(melt)
	}
	return after, true
}

// step is a way from several melts, and what these are after it.
type step struct {
	melts several
	way   []int
}

// further hands on all ways that are longer by an agent.
func (s step) further(b bench, hand func(step)) {
	for _, a := range b {
		if after, may := s.melts.after(a); may {
			hand(step{after, s.then(a)})
		}
	}
}

// then returns the way with one agent more.
func (s step) then(a agent) []int {
	return slices.Concat(s.way, []int{a.number})
}

// search looks for ways. It can be used again: what was visited is cleared.
type search struct {
	visited map[several]bool
}

func newSearch() search {
	return search{map[several]bool{}}
}

// longest is how long the first way to a melt can be, as it comes to no melt twice.
const longest = api.MaxMelt

// ways goes through the first way to each that several melts can become together, in the order of these ways. Only such a way is the beginning of another one.
func (s search) ways(b bench, from several) iter.Seq[step] {
	return func(yield func(step) bool) {
		clear(s.visited)
		var waiting queue[step]
		waiting.push(step{melts: from})
		for next, some := waiting.pop(); some; next, some = waiting.pop() {
			if s.visited[next.melts] {
				continue
			}
			s.visited[next.melts] = true
			if !yield(next) {
				return
			}
			next.further(b, waiting.push)
		}
	}
}

// clearing returns the first way that clears all melts, if it has no more agents than so many.
func (s search) clearing(b bench, from several, pass faults, most int) ([]int, api.Errno) {
	for x := range s.ways(b, from) {
		if len(x.way) > most {
			break
		}
		if x.melts.clear(pass) {
			return x.way, api.OK
		}
	}
	return nil, api.ErrNothing
}

// can returns whether some way clears the melt.
func (s search) can(b bench, melt, pass faults) bool {
	_, e := s.clearing(b, severalOf(int(melt)), pass, longest)
	return e == api.OK
}

// telling returns the first list of few agents whose last one may be put to just one of the first two melts, when all before it were put to both.
func (s search) telling(b bench, from several) ([]int, api.Errno) {
	for x := range s.ways(b, from) {
		if len(x.way) == api.MaxSteps {
			break
		}
		for _, a := range b {
			if a.may(x.melts[0]) != a.may(x.melts[1]) {
				return x.then(a), api.OK
			}
		}
	}
	return nil, api.ErrNothing
}

// needed returns all agents without which no way clears the melt.
func (b bench) needed(melt, pass faults) ([]int, api.Errno) {
	s := newSearch()
	if !s.can(b, melt, pass) {
		return nil, api.ErrNothing
	}
	return b.that(func(a agent) bool { return !s.can(b.without(a.number), melt, pass) }), api.OK
}

// spoils returns all agents that may be put to the melt, and after which no way clears it.
func (b bench) spoils(melt, pass faults) ([]int, api.Errno) {
	s := newSearch()
	if !s.can(b, melt, pass) {
		return nil, api.ErrNothing
	}
	return b.that(func(a agent) bool { return a.may(melt) && !s.can(b, a.put(melt), pass) }), api.OK
}
