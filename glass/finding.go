package glass

import "muscovado/api"

// finding is how a sample is beside a glass of a colour.
type finding interface {
	// right returns whether a sample of this colour is found so.
	right(colour int) bool
}

// beside is the colour of the glass.
type beside struct{ glass int }

type (
	darker  struct{ beside }
	same    struct{ beside }
	lighter struct{ beside }
)

func (d darker) right(colour int) bool  { return colour > d.glass }
func (s same) right(colour int) bool    { return colour == s.glass }
func (l lighter) right(colour int) bool { return colour < l.glass }

// findings are all that can be found, by their numbers in package api.
type findings [3]finding

func findingsBeside(glass int) findings {
	b := beside{glass}
	return findings{api.Darker: darker{b}, api.Same: same{b}, api.Lighter: lighter{b}}
}

// of returns the number of the finding that is right for a colour.
func (f findings) of(colour int) int {
	found := api.Darker
	for !f[found].right(colour) {
		found++
	}
	return found
}

// cut returns what a finding leaves of some colours; Lo is above Hi if that is nothing.
func cut(colours api.Span, f finding) api.Span {
	switch f := f.(type) {
	case darker:
		colours.Lo = max(colours.Lo, f.glass+1)
	case same:
		colours.Lo, colours.Hi = max(colours.Lo, f.glass), min(colours.Hi, f.glass)
	case lighter:
		colours.Hi = min(colours.Hi, f.glass-1)
	}
	return colours
}

// left returns what several findings leave of some colours; Lo is above Hi if that is nothing.
func left(colours api.Span, list []finding) api.Span {
cutting:
	for i, f := range list {
		colours = cut(colours, f)
		if size(colours) == 0 {
			goto nothing
		}
		if _, single := f.(same); !single {
			continue
		}
		// One colour is left: what follows does not cut it, but is right or wrong.
		for _, later := range list[i+1:] {
			if !later.right(colours.Lo) {
				goto nothing
			}
		}
		break cutting
	}
	return colours
nothing:
	return api.Span{Lo: 1}
}
