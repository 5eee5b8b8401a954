package clerk

import (
	"slices"
	"strconv"
	"strings"

	"muscovado/api"
	"muscovado/glass"
	"muscovado/saw"
	"muscovado/thread"
)

// refusal is an answer that is an error.
type refusal struct{ errno api.Errno }

func (r refusal) Error() string {
	return r.errno.Error()
}

// files are those that entries made, and the entries that had no error.
type files struct {
	boil api.Boil
	row  api.Row
	saw  api.Saw
	held set
}

// copied returns files in memory of their own.
func (f files) copied() files {
	b, r, s := &f.boil, &f.row, &f.saw
	b.Starts, b.Rates, b.Marks = slices.Clone(b.Starts), slices.Clone(b.Rates), slices.Clone(b.Marks)
	b.Heats, b.Proofs = slices.Clone(b.Heats), slices.Clone(b.Proofs)
	r.Glasses, r.Steps, r.Duties = slices.Clone(r.Glasses), slices.Clone(r.Steps), slices.Clone(r.Duties)
	r.Samples, r.Sights = slices.Clone(r.Samples), slices.Clone(r.Sights)
	s.Loaves, s.Stock, s.Wants = slices.Clone(s.Loaves), slices.Clone(s.Stock), slices.Clone(s.Wants)
	for kind, loaf := range s.Loaves {
		s.Loaves[kind] = slices.Clone(loaf)
	}
	return f
}

// enter makes of a file what a layer makes of it with something more, unless that has an error.
func enter[F, X any](file *F, add func(F, X) (F, api.Errno), x X) (string, error) {
	more, e := add(*file, x)
	if e != api.OK {
		return "", refusal{e}
	}
	*file = more
	return "ok", nil
}

func (f *files) enterProof(p proof) (string, error) {
	return enter(&f.boil, thread.Add, p.Proof)
}

func (f *files) enterSight(s sight) (string, error) {
	return enter(&f.row, glass.Add, s.Sight)
}

func (f *files) enterWant(w want) (string, error) {
	return enter(&f.saw, saw.Add, w.Want)
}

func (f *files) sayWhen(w when) (string, error) {
	times, e := thread.Strike(f.boil, w.pan)
	return said(e, spaced(times))
}

func (f *files) sayDuty(d duty) (string, error) {
	span, e := glass.Duty(f.row, d.sample)
	return said(e, strconv.Itoa(span.Lo), "-", strconv.Itoa(span.Hi))
}

func (f *files) sayBest(best) (string, error) {
	wants, pay, e := saw.Best(f.saw)
	return said(e, spaced(wants), ": ", strconv.Itoa(pay))
}

// said returns an answer of several parts, unless there is an error.
func said(e api.Errno, parts ...string) (string, error) {
	if e != api.OK {
		return "", refusal{e}
	}
	return strings.Join(parts, ""), nil
}

// spaced returns numbers with a space between them.
func spaced(numbers []int) string {
	var texts []string
	for _, n := range numbers {
		texts = append(texts, strconv.Itoa(n))
	}
	return strings.Join(texts, " ")
}
