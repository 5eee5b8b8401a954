package month

import (
	"errors"
	"sync"

	"muscovado/api"
	"muscovado/fining"
)

// refusal is an error of a lower layer.
type refusal struct {
	layer string
	errno api.Errno
}

func (r refusal) Error() string {
	return r.layer + ": " + r.errno.Error()
}

// question is all that the way of a melt depends on. Where there are fewer agents there are none, which cost nothing; where there are fewer kinds, the last one is there again.
type question struct {
	agents [api.MaxAgents]api.Agent
	pass   int
	kinds  [api.MaxMelts]int
}

func questionOf(m api.Month, melt int) question {
	q := question{pass: m.Pass}
	copy(q.agents[:], m.Agents)
	kinds := m.Melts[melt].Kinds
	for i := range q.kinds {
		q.kinds[i] = kinds[min(i, len(kinds)-1)]
	}
	return q
}

// answer is a way that is found once, whoever asks for it, or why there is none.
type answer struct {
	once sync.Once
	way  []int
	err  error
}

func (a *answer) find(m api.Month, melt int) {
	way, e := fining.Both(m.Agents, m.Melts[melt].Kinds, m.Pass)
	if e != api.OK {
		a.err = refusal{"fining", e}
		return
	}
	a.way = way
}

// ways are the answers to all that was asked. Months that differ in one thing ask for many of the same ways.
type ways struct {
	mutex sync.Mutex
	asked map[question]*answer
}

// of returns the way of a melt of the month. It may be called side by side.
func (w *ways) of(m api.Month, melt int) ([]int, error) {
	a := w.answer(questionOf(m, melt))
	a.once.Do(func() { a.find(m, melt) })
	return a.way, a.err
}

func (w *ways) answer(q question) *answer {
	w.mutex.Lock()
	defer w.mutex.Unlock()
	if w.asked[q] == nil {
		w.asked[q] = &answer{}
	}
	return w.asked[q]
}

// melt is what becomes of a melt.
type melt interface {
	// number is the one that it has in its month.
	number() int
}

type numbered int

func (n numbered) number() int { return int(n) }

type (
	// spoilt is a melt that no way clears whichever of its kinds it is.
	spoilt struct{ numbered }
	// ready is one that is cleared by a way.
	ready struct {
		numbered
		way []int
	}
)

// become returns what becomes of a melt of the month.
func (w *ways) become(m api.Month, number int) melt {
	way, err := w.of(m, number)
	var none refusal
	if errors.As(err, &none) {
		return spoilt{numbered(number)}
	}
	return ready{numbered(number), way}
}

// all returns what becomes of all melts of the month, which is found side by side.
func (w *ways) all(m api.Month) []melt {
	melts := make([]melt, len(m.Melts))
	var finds sync.WaitGroup
	for number := range m.Melts {
		finds.Go(func() { melts[number] = w.become(m, number) })
	}
	finds.Wait()
	return melts
}
