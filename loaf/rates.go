package loaf

import (
	"iter"
	"slices"
	"sync"

	"muscovado/api"
)

// rates are those of all stoves, and behind them those of all carts; 0 of those that there are not.
type rates [places]int

const places = api.MaxStoves + api.MaxCarts

// ofStove and ofCart return the places of their rates.
func ofStove(stove int) int { return stove }

func ofCart(cart int) int { return api.MaxStoves + cart }

// allRates goes through all rates that stoves and carts can have together.
func (w *batch) allRates() iter.Seq[rates] {
	var ranges [places]api.Span
	for stove, r := range w.Stoves {
		ranges[ofStove(stove)] = r
	}
	for cart, r := range w.Carts {
		ranges[ofCart(cart)] = r
	}
	return func(yield func(rates) bool) {
		var r rates
		var choose func(place int) bool
		choose = func(place int) bool {
			if place == places {
				return yield(r)
			}
			for r[place] = ranges[place].Lo; r[place] <= ranges[place].Hi; r[place]++ {
				if !choose(place + 1) {
					return false
				}
			}
			return true
		}
		choose(0)
	}
}

// queue is lists of rates at which nobody has looked yet.
type queue struct {
	mutex sync.Mutex
	lists []rates
}

// take takes the first list out of the queue, if there is one.
func (q *queue) take() (r rates, some bool) {
	q.mutex.Lock()
	defer q.mutex.Unlock()
	if len(q.lists) == 0 {
		return rates{}, false
	}
	r, q.lists = q.lists[0], q.lists[1:]
	return r, true
}

// lookers is how many goroutines look at lists of rates.
const lookers = 4

// hands returns how many goroutines are of use for some lists, which ascend.
func hands(lists []rates) int {
	if lists[0] == lists[len(lists)-1] {
		return 1
	}
	return lookers
}

// part is what can have come out with a list of rates.
type part struct {
	rates
	bounds
}

// look finds all truths; an error says that there is none.
func (w *batch) look() error {
	q := queue{lists: slices.Collect(w.allRates())}
	parts, done := make(chan part), make(chan struct{})
	var looks sync.WaitGroup
	for range hands(q.lists) {
		looks.Go(func() {
			for r, some := q.take(); some; r, some = q.take() {
				if b, err := w.with(r); err == nil {
					parts <- part{r, b}
				}
			}
		})
	}
	go func() {
		looks.Wait()
		close(done)
	}()
	if w.outs = gather(parts, done); len(w.outs) == 0 {
		return untrue{}
	}
	return nil
}

// gather puts parts together until all are there, as done says when it is closed; none waits in the channel then.
func gather(parts <-chan part, done <-chan struct{}) map[rates]bounds {
	outs := map[rates]bounds{}
	for {
		select {
		case p := <-parts:
			outs[p.rates] = p.bounds
		case <-done:
			return outs
		}
	}
}
