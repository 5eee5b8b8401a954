package clerk

import (
	"iter"
	"maps"
	"slices"
	"strconv"
	"sync"

	"muscovado/api"
)

// mark is where a question mark stands: a byte of a line.
type mark struct{ line, at int }

// marksOf returns all question marks, line by line, from left to right.
func marksOf(lines []string) []mark {
	var marks []mark
	for line, text := range lines {
		for at := range len(text) {
			if text[at:at+1] == api.Torn {
				marks = append(marks, mark{line, at})
			}
		}
	}
	return marks
}

// digits are what replaces the question marks of a book, in their order; 0 where there are fewer of these.
type digits [api.MaxTorn]int

func (d digits) compare(o digits) int {
	return slices.Compare(d[:], o[:])
}

// fill returns lines with digits in place of the question marks.
func (d digits) fill(lines []string, marks []mark) []string {
	filled := slices.Clone(lines)
	for i, m := range marks {
		text := filled[m.line]
		filled[m.line] = text[:m.at] + strconv.Itoa(d[i]) + text[m.at+1:]
	}
	return filled
}

// draft is the lines of a book with digits in place of the question marks, such that all are lines, and what these do.
type draft struct {
	digits digits
	texts  []string
	lines  []verb
}

// drafts goes through all drafts of a book.
func drafts(b api.Book) iter.Seq[draft] {
	marks := marksOf(b.Lines)
	return func(yield func(draft) bool) {
		var replace func(d digits, n int) bool
		replace = func(d digits, n int) bool {
			if n < len(marks) {
				for digit := range 10 {
					d[n] = digit
					if !replace(d, n+1) {
						return false
					}
				}
				return true
			}
			texts := d.fill(b.Lines, marks)
			lines, are := verbsOf(texts)
			return !are || yield(draft{d, texts, lines})
		}
		replace(digits{}, 0)
	}
}

// attempt is a draft that was worked: the lines whose answers are legible in the book, and others than those that were found, and the lines in effect.
type attempt struct {
	draft
	wrong, held set
}

// within returns whether no other answers than those to these lines are wrong.
func (a attempt) within(lines set) bool {
	return a.wrong.in(lines)
}

// try works a draft of a book.
func try(b api.Book, d draft) attempt {
	c := hire(b)
	c.work(d.lines)
	return attempt{d, c.differing(), c.files.held}
}

// attempts works all drafts of a book side by side, and returns them in the order of their digits.
func attempts(b api.Book) []attempt {
	sent := make(chan attempt)
	var tries sync.WaitGroup
	for d := range drafts(b) {
		tries.Go(func() { sent <- try(b, d) })
	}
	go func() {
		tries.Wait()
		close(sent)
	}()
	with := map[digits]attempt{}
	for {
		a, open := <-sent
		if !open {
			break
		}
		with[a.digits] = a
	}
	var all []attempt
	for _, d := range slices.SortedFunc(maps.Keys(with), digits.compare) {
		all = append(all, with[d])
	}
	return all
}

// readings returns the attempts whose answers are those of the book, unless the book or another argument is wrong.
func readings(b api.Book, arguments ...api.Errno) ([]attempt, api.Errno) {
	if e := first(Check(b), first(arguments...)); e != api.OK {
		return nil, e
	}
	return slices.DeleteFunc(attempts(b), func(a attempt) bool { return a.wrong != 0 }), api.OK
}

// someReadings is readings, but there has to be one.
func someReadings(b api.Book, arguments ...api.Errno) ([]attempt, api.Errno) {
	some, e := readings(b, arguments...)
	if e == api.OK && len(some) == 0 {
		return nil, api.ErrNothing
	}
	return some, e
}

// verdict returns whether a line is in effect in all of some readings, in none, or in some.
func verdict(all []attempt, line int) int {
	held := 0
	for _, r := range all {
		if r.held.has(line) {
			held++
		}
	}
	switch held {
	case 0:
		return api.No
	case len(all):
		return api.Yes
	}
	return api.Open
}
