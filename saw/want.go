package saw

import "muscovado/api"

// The sorts of wants, as api numbers them.
const (
	sortWhole = iota
	sortCrushed
	sortTop
)

// anyKind is the Kind of crushed sugar of whatever kinds.
const anyKind = -1

// amountsOf returns the amounts that a want of a known sort and kind can have.
func amountsOf(w api.Want, loaves [][]int) api.Span {
	switch w.Sort {
	case sortCrushed:
		return api.Span{Lo: 1, Hi: api.MaxCrushed}
	case sortTop:
		// Without a slice below there would be no cut.
		return api.Span{Lo: 1, Hi: len(loaves[w.Kind]) - 1}
	}
	return api.Span{}
}

// want is something that is wanted, of one of the three sorts.
type want interface {
	// pays returns what is paid for it.
	pays() int
}

// wanted is what is said of a want of any sort.
type wanted struct{ api.Want }

type (
	// whole is a loaf that is sold as it is.
	whole struct{ wanted }
	// sugar is some pounds that are crushed.
	sugar struct{ wanted }
	// top is upper slices of a loaf.
	top struct{ wanted }
)

func (w wanted) pays() int {
	return w.Pay
}

// wantOf returns a valid want as one of its sort.
func wantOf(w api.Want) want {
	switch w.Sort {
	case sortWhole:
		return whole{wanted{w}}
	case sortCrushed:
		return sugar{wanted{w}}
	}
	return top{wanted{w}}
}

// needs is what a list of wants takes, and what its cuts leave.
type needs struct {
	loaves perKind // those that are sold, whole or the tops alone
	rests  perKind // crushed sugar of what is below the tops
	sugar  perKind // crushed sugar that has to be of this kind
	pounds int     // crushed sugar altogether
}

// needs returns what these wants take.
func (s *saw) needs(wants set) needs {
	var n needs
	for number := range wants.each {
		switch w := s.wants[number].(type) {
		case whole:
			n.loaves[w.Kind]++
		case top:
			n.loaves[w.Kind]++
			n.rests[w.Kind] += s.rest(w)
		case sugar:
			n.pounds += w.Amount
			if w.Kind != anyKind {
				n.sugar[w.Kind] += w.Amount
			}
		}
	}
	return n
}

// rest returns the crushed sugar of what is below a top.
func (s *saw) rest(w top) int {
	loaf := s.Loaves[w.Kind]
	return max(0, sum(loaf[:len(loaf)-w.Amount]...)-s.Kerf)
}
