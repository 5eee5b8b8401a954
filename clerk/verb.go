package clerk

import "muscovado/api"

// verb is what a line does.
type verb interface {
	// isEntry returns whether it can change the files.
	isEntry() bool
}

// entry and remark are embedded in the verbs of lines that are entries, and of those that are none.
type (
	entry  struct{}
	remark struct{}
)

func (entry) isEntry() bool { return true }

func (remark) isEntry() bool { return false }

type (
	proof struct {
		entry
		api.Proof
	}
	sight struct {
		entry
		api.Sight
	}
	want struct {
		entry
		api.Want
	}
	void struct {
		remark
		line int
	}
	when struct {
		remark
		pan int
	}
	duty struct {
		remark
		sample int
	}
	best struct{ remark }
)

// verbOf returns what a line does.
func verbOf(l api.Line) verb {
	n := l.Args
	switch l.Verb {
	case api.VerbProof:
		return proof{Proof: api.Proof{Pan: n[0], Tick: n[1], Thread: n[2]}}
	case api.VerbSight:
		return sight{Sight: api.Sight{Sample: n[0], Glass: n[1], Year: n[2], Found: n[3]}}
	case api.VerbWant:
		return want{Want: api.Want{Sort: n[0], Kind: n[1], Amount: n[2], Pay: n[3]}}
	case api.VerbVoid:
		return void{line: n[0]}
	case api.VerbWhen:
		return when{pan: n[0]}
	case api.VerbDuty:
		return duty{sample: n[0]}
	}
	return best{}
}

// verbsOf returns what lines do, if all are lines.
func verbsOf(lines []string) (verbs []verb, are bool) {
	for _, text := range lines {
		l, e := Parse(text)
		if e != api.OK {
			return nil, false
		}
		verbs = append(verbs, verbOf(l))
	}
	return verbs, true
}

// without returns lines of which some are left out.
func without(lines []verb, out set) []verb {
	left := make([]verb, len(lines))
	copy(left, lines)
	for line := range out.each {
		left[line] = best{}
	}
	return left
}
