package clerk

import (
	"strings"

	"muscovado/api"
	"muscovado/glass"
	"muscovado/saw"
	"muscovado/thread"
)

// Check returns the first error of a book, otherwise OK.
func Check(b api.Book) api.Errno {
	return first(
		thread.Check(b.Boil),
		glass.Check(b.Row),
		saw.Check(b.Saw),
		checkLines(b.Lines),
		checkAnswers(b),
	)
}

func checkLines(lines []string) api.Errno {
	if len(lines) > api.MaxLines {
		return api.ErrExcess
	}
	for _, text := range lines {
		if !canBeLine(text) {
			return api.ErrWord
		}
	}
	return unless(len(marksOf(lines)) <= api.MaxTorn, api.ErrLength)
}

// canBeLine returns whether a text is a line, or a torn one. Wherever a digit can stand a 1 can, so no other one has to be tried.
func canBeLine(text string) bool {
	_, e := Parse(strings.ReplaceAll(text, api.Torn, "1"))
	return e == api.OK
}

func checkAnswers(b api.Book) api.Errno {
	if len(b.Answers) != len(b.Lines) {
		return api.ErrConflict
	}
	for _, answer := range b.Answers {
		if len(answer) > api.MaxAnswer {
			return api.ErrLength
		}
	}
	return api.OK
}

// checkLine asks for a verb with its numbers.
func checkLine(l api.Line) api.Errno {
	if !within(l.Verb, 0, len(words)-1) {
		return api.ErrValue
	}
	n := numbers(l.Verb)
	switch {
	case len(l.Args) < n:
		return api.ErrShortage
	case len(l.Args) > n:
		return api.ErrExcess
	}
	for i, number := range l.Args {
		if !within(number, 0, greatest) && !(number == anyKind && canBeAny(l.Verb, i)) {
			return api.ErrValue
		}
	}
	return api.OK
}

// needLine asks for the number of a line.
func needLine(b api.Book, line int) api.Errno {
	return unless(within(line, 0, len(b.Lines)-1), api.ErrMissing)
}

// needMark asks for the byte of a question mark in a line.
func needMark(b api.Book, line, at int) api.Errno {
	if e := needLine(b, line); e != api.OK {
		return e
	}
	text := b.Lines[line]
	return unless(within(at, 0, len(text)-1) && strings.HasPrefix(text[at:], api.Torn), api.ErrMissing)
}

// first returns the first of some errors that is one.
func first(errs ...api.Errno) api.Errno {
	for _, e := range errs {
		if e != api.OK {
			return e
		}
	}
	return api.OK
}

func unless(right bool, e api.Errno) api.Errno {
	if right {
		return api.OK
	}
	return e
}

func within(n, lo, hi int) bool {
	return lo <= n && n <= hi
}
