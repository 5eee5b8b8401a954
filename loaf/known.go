package loaf

import "muscovado/api"

// known is what is known of a loaf.
type known interface {
	// lost returns what its stove and its cart have taken from it.
	lost(r rates) int
}

// travelled is a loaf that has been in a stove and on a cart.
type travelled struct{ api.Loaf }

type (
	// found is a loaf of which a merchant says what it weighs.
	found struct{ travelled }
	// unfound is one of which nobody does.
	unfound struct{ travelled }
)

func (t travelled) lost(r rates) int {
	var lost sum[int]
	if t.Stove >= 0 {
		lost.add(t.Days * r[ofStove(t.Stove)])
	}
	if t.Cart >= 0 {
		lost.add(t.Miles * r[ofCart(t.Cart)])
	}
	return lost.total
}

// anyWeight is what a loaf can weigh.
func anyWeight() api.Span {
	return api.Span{Lo: 0, Hi: api.MaxLoaf}
}

// left returns what can be left of a loaf, if its paper weighs so much; there may be nothing that can.
func left(k known, paper int) api.Span {
	weights := anyWeight()
	switch k := k.(type) {
	case found:
		weights = both(weights, about(k.Found-paper, k.Err))
	case unfound:
		// Nothing that was found cuts them.
	}
	return weights
}

// out returns what can have come out for a loaf of which so much can be left.
func out(k known, left api.Span, r rates) api.Span {
	lost := k.lost(r)
	return both(api.Span{Lo: left.Lo + lost, Hi: left.Hi + lost}, anyWeight())
}
