package fining

import (
	"errors"
	"iter"
	"slices"
	"strconv"

	"muscovado/api"
)

// agent is an agent at work: the given one, and its number.
type agent struct {
	api.Agent
	number int
}

// may returns whether the agent may be put to a melt.
func (a agent) may(melt faults) bool {
	return melt.has(faults(a.Needs)) && melt.and(faults(a.Not)) == none
}

// barred is an agent that may not be put to a melt.
type barred struct {
	agent int
	melt  faults
}

func (b barred) Error() string {
	return "the agent " + strconv.Itoa(b.agent) + " may not be put to the melt " + strconv.Itoa(int(b.melt))
}

// errnoOf returns what is wrong with a way.
func errnoOf(err error) api.Errno {
	var b barred
	if errors.As(err, &b) {
		return api.ErrBarred
	}
	var e api.Errno
	if errors.As(err, &e) {
		return e
	}
	return api.OK
}

// put returns what a melt is afterwards. It panics if the agent may not be put.
func (a agent) put(melt faults) faults {
	if !a.may(melt) {
		panic(barred{a.number, melt})
	}
	return melt.without(faults(a.Takes)).with(faults(a.Leaves))
}

// idle returns whether the agent may be put to a melt and leaves it as it is.
func (a agent) idle(melt faults) bool {
	return a.may(melt) && a.put(melt) == melt
}

// makes returns all that some melts become to which the agent may be put.
func (a agent) makes(from melts) melts {
	var made melts
	for melt := range from.each {
		if a.may(melt) {
			made = made.with(a.put(melt))
		}
	}
	return made
}

// bench is some agents at work, with ascending numbers.
type bench []agent

// at puts agents to work, unless they are wrong, or another argument is.
func at(agents []api.Agent, arguments ...api.Errno) (bench, api.Errno) {
	if e := first(Check(agents), first(arguments...)); e != api.OK {
		return nil, e
	}
	var b bench
	for number, a := range agents {
		b = append(b, agent{a, number})
	}
	return b, api.OK
}

func (b bench) numbers() []int {
	return b.that(func(agent) bool { return true })
}

// that returns the numbers of those agents that are so.
func (b bench) that(so func(agent) bool) []int {
	var list []int
	for _, a := range b {
		if so(a) {
			list = append(list, a.number)
		}
	}
	return list
}

// without returns all agents but one.
func (b bench) without(number int) bench {
	return slices.DeleteFunc(slices.Clone(b), func(a agent) bool { return a.number == number })
}

// sets goes through all sets of the agents: the fewest agents first, sets of as many in lexicographic order.
func (b bench) sets() iter.Seq[bench] {
	return func(yield func(bench) bool) {
		var choose func(chosen, rest bench, more int) bool
		choose = func(chosen, rest bench, more int) bool {
			if more == 0 {
				return yield(chosen)
			}
			for i, a := range rest {
				if !choose(slices.Concat(chosen, bench{a}), rest[i+1:], more-1) {
					return false
				}
			}
			return true
		}
		for size := range len(b) + 1 {
			if !choose(nil, b, size) {
				return
			}
		}
	}
}

// course returns what a melt is after each agent of a way, or what is wrong with the way.
func (b bench) course(melt faults, way []int) (melts []int, err error) {
	defer func() {
		if x, ok := recover().(barred); ok {
			melts, err = nil, x
		}
	}()
	for _, number := range way {
		if e := oneOf(number, len(b)); e != api.OK {
			return nil, e
		}
		melt = b[number].put(melt)
		melts = append(melts, int(melt))
	}
	return melts, nil
}

// reach returns all melts that this one can become. In each round the agents are put to what was new in the round before.
func (b bench) reach(melt faults) melts {
	reached := melts(0).with(melt)
	fresh := reached
rounds:
	for {
		fresh = b.spread(fresh) &^ reached
		if fresh == 0 {
			break rounds
		}
		reached |= fresh
	}
	return reached
}

// spread returns all that agents make of some melts, side by side.
func (b bench) spread(from melts) melts {
	sent := make(chan melts)
	for _, a := range b {
		go func() { sent <- a.makes(from) }()
	}
	var made melts
	for range b {
		made |= <-sent
	}
	return made
}
