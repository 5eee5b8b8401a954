package stove

import (
	"cmp"
	"slices"
	"sync"

	"muscovado/api"
)

// allHeats returns all valid heats of a valid stove: those with a lesser sum first, those with the same sum in lexicographic order.
func allHeats(s api.Stove) [][]int {
	all := [][]int{nil}
	for range s.Days {
		var more [][]int
		for _, heats := range all {
			before := s.Now
			if n := len(heats); n > 0 {
				before = heats[n-1]
			}
			for heat := range hottest(s, before) + 1 {
				more = append(more, longer(heats, heat))
			}
		}
		all = more
	}
	slices.SortStableFunc(all, func(a, b []int) int { return cmp.Compare(sum(a), sum(b)) })
	return all
}

func sum(heats []int) int {
	sum := 0
	for _, heat := range heats {
		sum += heat
	}
	return sum
}

// hands is how many goroutines try heats.
const hands = 4

// fire returns the first of all heats of a valid stove with which all cones can be dried, and their sum.
func fire(s api.Stove) (heats []int, fuel int, e api.Errno) {
	all := allHeats(s)
	found, done := make(chan int), make(chan struct{})
	var tries sync.WaitGroup
	for hand := range hands {
		tries.Go(func() {
			for n := hand; n < len(all); n += hands {
				if w := (&stove{s, all[n]}); w.can(w.all()) {
					found <- n
					return
				}
			}
		})
	}
	go func() {
		tries.Wait()
		close(done)
	}()
	l := least[int]{compare: cmp.Compare[int]}
	for {
		select {
		case n := <-found:
			l.keep(n)
		case <-done:
			// All hands have handed over what they found, as nothing waits in the channel.
			if !l.some {
				return nil, 0, api.ErrNothing
			}
			return all[l.kept], sum(all[l.kept]), api.OK
		}
	}
}

// canFire returns whether there are heats with which all cones can be dried.
func canFire(s api.Stove) bool {
	_, _, e := fire(s)
	return e == api.OK
}
