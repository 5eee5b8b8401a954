package weigh

import (
	"errors"
	"iter"
	"strconv"

	"muscovado/api"
)

// works are the given ones at work: their vessels as trees.
type works struct {
	api.Works
	sources []*branch
}

// branch is a vessel with the branches of those that it fills.
type branch struct {
	api.Vessel
	number int
	alone  api.Span // what it can weigh by its room and its own readings
	fills  []*branch
}

// contradiction is a vessel that can have no weight, although each one that it fills can.
type contradiction struct{ vessel int }

func (c contradiction) Error() string {
	return "the vessel " + strconv.Itoa(c.vessel) + " can have no weight"
}

// bounds are those of each vessel, by their numbers.
type bounds [api.MaxVessels]bound

type bound struct{ weight, loss api.Span }

// at puts valid works to work; they may have more readings than Check lets pass.
func at(w api.Works) *works {
	all := &works{Works: w}
	var numbered [api.MaxVessels]*branch
	for number, v := range all.Vessels {
		b := &branch{Vessel: v, number: number, alone: api.Span{Lo: 0, Hi: v.Room}}
		numbered[number] = b
		if v.From < 0 {
			all.sources = append(all.sources, b)
			continue
		}
		from := numbered[v.From]
		from.fills = append(from.fills, b)
	}
	for _, r := range all.Readings {
		b := numbered[r.Vessel]
		b.alone = both(b.alone, about(r.Shown, r.Err))
	}
	return all
}

// branches goes through the branch of each vessel.
func (w *works) branches() iter.Seq[*branch] {
	return func(yield func(*branch) bool) {
		var visit func(list []*branch) bool
		visit = func(list []*branch) bool {
			for _, b := range list {
				if !yield(b) || !visit(b.fills) {
					return false
				}
			}
			return true
		}
		visit(w.sources)
	}
}

// bounds returns what each vessel can weigh, and what can be lost in it, in a truth.
func (w *works) bounds() (bounds, error) {
	var all bounds
	for _, s := range w.sources {
		weight, err := s.settle()
		if err != nil {
			return bounds{}, err
		}
		all = s.narrow(weight, all)
	}
	return all, nil
}

// settle returns what the vessel can weigh in the truths of its branch; if it has none, a contradiction in it.
func (b *branch) settle() (weight api.Span, err error) {
	defer func() {
		if c, ok := recover().(contradiction); ok {
			weight, err = api.Span{}, c
		}
	}()
	return b.weighs(), nil
}

// weighs is settle, but panics with the contradiction. All that is between two weights is possible if they are: a sum of ranges is a range, and so is what two have in common.
func (b *branch) weighs() api.Span {
	weight := b.alone
	if len(b.fills) > 0 {
		filled := b.Loss
		for _, f := range b.fills {
			filled = plus(filled, f.weighs())
		}
		weight = both(weight, filled)
	}
	if weight.Lo > weight.Hi {
		panic(contradiction{b.number})
	}
	return weight
}

// knot returns whether the branch has no truth, although the branch of each vessel that it fills has one.
func (b *branch) knot() bool {
	_, err := b.settle()
	var c contradiction
	return errors.As(err, &c) && c.vessel == b.number
}

// narrow adds the bounds of the branch to those that are given, if its vessel has a weight within a range in all truths, and every weight in it in one.
func (b *branch) narrow(weight api.Span, all bounds) bounds {
	all[b.number].weight = weight
	if len(b.fills) == 0 {
		return all
	}
	all[b.number].loss = both(b.Loss, minus(weight, b.filled(nil)))
	for _, f := range b.fills {
		left := minus(minus(weight, b.Loss), b.filled(f))
		all = f.narrow(both(f.weighs(), left), all)
	}
	return all
}

// filled returns what all vessels that this one fills can weigh together, but for one of them.
func (b *branch) filled(but *branch) api.Span {
	var sum api.Span
	for _, f := range b.fills {
		if f != but {
			sum = plus(sum, f.weighs())
		}
	}
	return sum
}

func plus(a, b api.Span) api.Span {
	return api.Span{Lo: a.Lo + b.Lo, Hi: a.Hi + b.Hi}
}

// minus returns all differences of a number in a and one in b.
func minus(a, b api.Span) api.Span {
	return api.Span{Lo: a.Lo - b.Hi, Hi: a.Hi - b.Lo}
}

// both returns what is in a and in b; Lo is above Hi if that is nothing.
func both(a, b api.Span) api.Span {
	return api.Span{Lo: max(a.Lo, b.Lo), Hi: min(a.Hi, b.Hi)}
}

// hull returns the range from the least to the greatest number of a and b.
func hull(a, b api.Span) api.Span {
	return api.Span{Lo: min(a.Lo, b.Lo), Hi: max(a.Hi, b.Hi)}
}

// about returns what is at most err away from shown.
func about(shown, err int) api.Span {
	return api.Span{Lo: shown - err, Hi: shown + err}
}

// numbers returns how many numbers are in a range that is not empty.
func numbers(s api.Span) int {
	return s.Hi - s.Lo + 1
}
