package saw

import (
	"cmp"
	"sync"

	"muscovado/api"
)

// deal is a list of wants that can be served, the fewest cones that it takes, and what it pays.
type deal struct {
	wants      set
	cones, pay int
}

// compare says which of two deals is better.
func (d deal) compare(o deal) int {
	return cmp.Or(o.pay-d.pay, d.cones-o.cones, d.wants.compare(o.wants))
}

// lookers is how many goroutines look at lists of wants.
const lookers = 4

// deals returns the deals of all lists of wants that can be served, in any order.
func (s *saw) deals() []deal {
	sent := make(chan deal)
	var looks sync.WaitGroup
	for looker := range set(lookers) {
		looks.Go(func() {
			for wants := looker; wants <= s.all(); wants += lookers {
				if p, some := s.plan(wants); some {
					sent <- deal{wants, p.cones, s.pay(wants)}
				}
			}
		})
	}
	go func() {
		looks.Wait()
		close(sent)
	}()
	var all []deal
	for {
		d, open := <-sent
		if !open {
			return all
		}
		all = append(all, d)
	}
}

// pay returns what these wants pay together.
func (s *saw) pay(wants set) int {
	pay := 0
	for want := range wants.each {
		pay += s.wants[want].pays()
	}
	return pay
}

// best returns the best deal; no want at all is always one.
func (s *saw) best() deal {
	b := best[deal]{compare: deal.compare}
	for _, d := range s.deals() {
		b.keep(d)
	}
	return b.kept
}

// most returns the most that lists pay that have the want, and those that have not; nothing can be served for less than 0, which it is if there is no such list.
func (s *saw) most(want int) (with, without int) {
	with, without = -1, -1
	for _, d := range s.deals() {
		if d.wants.has(want) {
			with = max(with, d.pay)
		} else {
			without = max(without, d.pay)
		}
	}
	return with, without
}

// verdict returns whether the want is in all lists that pay most, in none, or in some.
func (s *saw) verdict(want int) int {
	with, without := s.most(want)
	switch {
	case with > without:
		return api.Yes
	case with < without:
		return api.No
	}
	return api.Open
}

// worth returns what lists pay more because of the want.
func (s *saw) worth(want int) int {
	with, without := s.most(want)
	return max(with, without) - without
}
