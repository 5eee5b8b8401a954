package clerk

import (
	"strconv"

	"muscovado/api"
)

// words are those of the verbs, by their numbers.
var words = [...]string{
	api.VerbProof: "proof",
	api.VerbSight: "sight",
	api.VerbWant:  "want",
	api.VerbVoid:  "void",
	api.VerbWhen:  "when",
	api.VerbDuty:  "duty",
	api.VerbBest:  "best",
}

const (
	// anyWord can stand in place of the kind of a want, which is anyKind then.
	anyWord = "any"
	anyKind = -1

	// greatest is the greatest number that two digits can say.
	greatest = 99
)

// numbers returns how many of them a line with this verb has.
func numbers(verb int) int {
	n := 0
	switch verb {
	case api.VerbSight, api.VerbWant:
		n++
		fallthrough
	case api.VerbProof:
		n += 2
		fallthrough
	case api.VerbVoid, api.VerbWhen, api.VerbDuty:
		n++
	}
	return n
}

// canBeAny returns whether the word any can stand in place of a number.
func canBeAny(verb, number int) bool {
	return verb == api.VerbWant && number == 1
}

// state says where in a line its reader is.
type state int

const (
	inVerb       state = iota
	behindSpace        // a number has to begin, or the word any
	inNumber           // behind a digit that another one can follow
	behindNumber       // behind the last digit that it can have
	inAny
)

// reader reads a line, rune by rune.
type reader struct {
	api.Line
	text   string
	state  state
	begun  int // the byte with which the word began that is read
	number int
}

// noLine is what the reading of a text ends by that is no line.
type noLine struct{}

func need(right bool) {
	if !right {
		panic(noLine{})
	}
}

// Parse returns what a line says.
func Parse(line string) (l api.Line, e api.Errno) {
	defer func() {
		if _, is := recover().(noLine); is {
			l, e = api.Line{}, api.ErrWord
		}
	}()
	r := reader{text: line}
	for at, letter := range line {
		r.read(at, letter)
	}
	r.end(len(line))
	need(len(r.Args) == numbers(r.Verb))
	return r.Line, api.OK
}

// read goes on with the rune at a byte of the line.
func (r *reader) read(at int, letter rune) {
	switch {
	case letter == ' ':
		r.end(at)
		r.state, r.begun = behindSpace, at+1
	case '0' <= letter && letter <= '9':
		r.digit(int(letter - '0'))
	case r.state == behindSpace:
		r.state = inAny
	default:
		need(r.state == inVerb || r.state == inAny)
	}
}

// digit goes on with a digit. None can follow the second one, nor a 0 that is the first.
func (r *reader) digit(digit int) {
	need(r.state == behindSpace || r.state == inNumber)
	r.number = 10*r.number + digit
	if r.state == inNumber || digit == 0 {
		r.state = behindNumber
		return
	}
	r.state = inNumber
}

// end ends the word, or the number, that goes up to a byte of the line.
func (r *reader) end(at int) {
	switch r.state {
	case inVerb:
		r.Verb = verbNamed(r.text[:at])
	case inAny:
		need(r.text[r.begun:at] == anyWord && canBeAny(r.Verb, len(r.Args)))
		r.number = anyKind
		fallthrough
	case inNumber, behindNumber:
		// Asked before there are too many, as a text can be long.
		need(len(r.Args) < numbers(r.Verb))
		r.Args = append(r.Args, r.number)
		r.number = 0
	default:
		need(false)
	}
}

// verbNamed returns the number of the verb with this word.
func verbNamed(text string) int {
	for verb, word := range words {
		if word == text {
			return verb
		}
	}
	panic(noLine{})
}

// Write returns the line that says so.
func Write(l api.Line) (string, api.Errno) {
	if e := checkLine(l); e != api.OK {
		return "", e
	}
	text := words[l.Verb]
	for _, number := range l.Args {
		text += " " + wordOf(number)
	}
	return text, api.OK
}

func wordOf(number int) string {
	if number == anyKind {
		return anyWord
	}
	return strconv.Itoa(number)
}
