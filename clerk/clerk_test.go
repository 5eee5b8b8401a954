package clerk_test

import (
	"math"
	"math/rand/v2"
	"reflect"
	"slices"
	"strconv"
	"strings"
	"sync"
	"testing"

	"muscovado/api"
	"muscovado/clerk"
	"muscovado/glass"
	"muscovado/saw"
	"muscovado/thread"
)

// answer is what a function returns: its results in a list, and its error.
type answer struct {
	name    string
	results []any
	e       api.Errno
}

// answers returns what all functions of a book but Check say.
func answers(b api.Book, line, at int) []answer {
	var list []answer
	add := func(name string, e api.Errno, results ...any) {
		list = append(list, answer{name, results, e})
	}
	w, e := clerk.Work(b)
	add("Work", e, w)
	boil, row, saw, e := clerk.Files(b)
	add("Files", e, boil, row, saw)
	l, e := clerk.Holds(b)
	add("Holds", e, l)
	l, e = clerk.Why(b, line)
	add("Why", e, l)
	l, e = clerk.Change(b, line)
	add("Change", e, l)
	w, e = clerk.Close(b)
	add("Close", e, w)
	l, e = clerk.Differ(b)
	add("Differ", e, l)
	n, e := clerk.Count(b)
	add("Count", e, n)
	r, e := clerk.Readings(b)
	add("Readings", e, r)
	w, e = clerk.Only(b)
	add("Only", e, w)
	l, e = clerk.Digits(b, line, at)
	add("Digits", e, l)
	n, e = clerk.Verdict(b, line)
	add("Verdict", e, n)
	l, e = clerk.Wrong(b)
	add("Wrong", e, l)
	return list
}

// The functions that need a whole book, and those that need the number of a line.
var (
	ofWhole = words{"Work", "Files", "Holds", "Why", "Change", "Close", "Differ"}
	ofLine  = words{"Why", "Change", "Digits", "Verdict"}
)

// zero returns whether a result is a zero value; an empty list is one, too.
func zero(x any) bool {
	v := reflect.ValueOf(x)
	return v.IsZero() || v.Kind() == reflect.Slice && v.Len() == 0
}

func sameResult(a, b any) bool {
	if x, is := a.([]words); is {
		return slices.EqualFunc(x, b.([]words), slices.Equal[words])
	}
	return reflect.DeepEqual(a, b) || zero(a) && zero(b)
}

func sameAnswer(a, b answer) bool {
	return a.name == b.name && a.e == b.e && slices.EqualFunc(a.results, b.results, sameResult)
}

// clean returns whether all other results are zero values wherever there is an error.
func clean(list []answer) bool {
	for _, x := range list {
		if x.e != api.OK && slices.ContainsFunc(x.results, func(r any) bool { return !zero(r) }) {
			return false
		}
	}
	return true
}

// fine returns the result of a function that has no error.
func fine[T any](t *testing.T, b api.Book) func(T, api.Errno) T {
	t.Helper()
	return func(x T, e api.Errno) T {
		t.Helper()
		if e != api.OK {
			t.Fatalf("%+v: %d", b, e)
		}
		return x
	}
}

func filesOf(t *testing.T, b api.Book) files {
	t.Helper()
	boil, row, saw, e := clerk.Files(b)
	if e != api.OK {
		t.Fatalf("%+v: Files: %d", b, e)
	}
	return files{boil, row, saw}
}

// same returns whether files are the same; nil and empty lists are.
func (f files) same(o files) bool {
	return slices.Equal(f.boil.Starts, o.boil.Starts) && slices.Equal(f.boil.Rates, o.boil.Rates) && slices.Equal(f.boil.Marks, o.boil.Marks) && slices.Equal(f.boil.Heats, o.boil.Heats) && slices.Equal(f.boil.Proofs, o.boil.Proofs) &&
		slices.Equal(f.row.Glasses, o.row.Glasses) && slices.Equal(f.row.Steps, o.row.Steps) && slices.Equal(f.row.Duties, o.row.Duties) && slices.Equal(f.row.Samples, o.row.Samples) && slices.Equal(f.row.Sights, o.row.Sights) &&
		slices.EqualFunc(f.saw.Loaves, o.saw.Loaves, slices.Equal[ints]) && slices.Equal(f.saw.Stock, o.saw.Stock) && f.saw.Kerf == o.saw.Kerf && slices.Equal(f.saw.Wants, o.saw.Wants)
}

// P12.1, and R1 and R3: the errors of a book, and their order.
func TestCheck(t *testing.T) {
	with := func(change func(b *api.Book)) api.Book { return but(exampleL(), change) }
	long := strings.Repeat("9", api.MaxAnswer+1)
	many := slices.Repeat(words{"x"}, api.MaxLines+1)
	for i, x := range []struct {
		b    api.Book
		want api.Errno
	}{
		{exampleL(), api.OK}, {exampleT(), api.OK}, {exampleX(), api.OK}, {exampleM(), api.OK}, {book(), api.OK}, {api.Book{}, api.ErrShortage},
		// The boil comes before the row, this before the saw, and this before the lines.
		{with(func(b *api.Book) { b.Boil.Starts, b.Row.Glasses = nil, make([]api.Glass, 5) }), api.ErrShortage},
		{with(func(b *api.Book) { b.Boil.Proofs[0].Thread, b.Row.Steps = 4, nil }), api.ErrSort},
		{with(func(b *api.Book) { b.Boil.Proofs, b.Saw.Kerf = make(proofs, 9), 4 }), api.ErrExcess},
		{with(func(b *api.Book) { b.Row.Steps, b.Saw.Kerf = ints{10, 10}, 4 }), api.ErrSequence},
		{with(func(b *api.Book) { b.Row.Sights[1].Year, b.Lines = 4, many }), api.ErrBarred},
		{with(func(b *api.Book) { b.Saw.Kerf, b.Lines = 4, many }), api.ErrValue},
		{with(func(b *api.Book) { b.Saw.Wants[0].Kind, b.Lines = -1, many }), api.ErrMissing},
		{with(func(b *api.Book) { b.Saw.Stock, b.Lines = nil, many }), api.ErrConflict},
		// That files contradict themselves, or that wants are too many, is no error of the book.
		{with(func(b *api.Book) {
			b.Boil.Proofs = append(b.Boil.Proofs, api.Proof{Thread: api.Long})
			b.Row.Sights = append(b.Row.Sights, api.Sight{Sample: 0, Glass: 2, Year: 6, Found: api.Lighter})
			b.Saw.Stock = ints{0, 0}
		}), api.OK},
		// How many lines there are comes before what they are, and this, line by line, before how many question marks.
		{with(func(b *api.Book) { b.Lines = many }), api.ErrExcess}, {withLines(book(), slices.Repeat(words{"best"}, 7)...), api.ErrExcess}, {withLines(book(), slices.Repeat(words{"best"}, 6)...), api.OK},
		{with(func(b *api.Book) { b.Lines[0], b.Lines[5], b.Answers = "proof ? ? ?", "x", nil }), api.ErrWord}, {with(func(b *api.Book) { b.Lines[5], b.Answers = "", nil }), api.ErrWord},
		{withLine(exampleL(), 1, "proof ? ? ?"), api.ErrLength}, {withLine(exampleL(), 1, "proof 1? ?? 1"), api.ErrLength}, {withLine(exampleT(), 5, "when ??"), api.ErrLength}, {withLine(exampleT(), 5, "when ?"), api.OK}, {withLine(exampleL(), 5, "sight ?? ?? ?? ??"), api.ErrLength}, {with(func(b *api.Book) { b.Lines[1], b.Answers = "proof ? ? ?", nil }), api.ErrLength},
		// How many answers there are comes before how long they are.
		{with(func(b *api.Book) { b.Answers = nil }), api.ErrConflict}, {with(func(b *api.Book) { b.Answers = slices.Repeat(words{long}, 5) }), api.ErrConflict}, {with(func(b *api.Book) { b.Answers = append(b.Answers, "?") }), api.ErrConflict}, {with(func(b *api.Book) { b.Lines = nil }), api.ErrConflict}, {answered(book(), "?"), api.ErrConflict},
		{withAnswer(exampleL(), 5, long), api.ErrLength}, {withAnswer(exampleL(), 0, long), api.ErrLength}, {withAnswer(exampleL(), 5, long[1:]), api.OK}, {withAnswer(exampleL(), 5, strings.Repeat("é", 20)), api.OK}, {withAnswer(exampleL(), 5, strings.Repeat("é", 20)+"e"), api.ErrLength}, {withAnswer(exampleL(), 5, "\xff\x00"), api.OK}, {withAnswer(exampleL(), 5, ""), api.OK},
	} {
		if e := clerk.Check(x.b); e != x.want {
			t.Errorf("%d: Check = %d, want %d", i, e, x.want)
		}
		if x.want == api.OK {
			continue
		}
		// Check's error comes before that of a line, and of a torn one, and alone.
		for _, line := range []int{0, -1, 9, math.MaxInt, math.MinInt} {
			list := answers(x.b, line, 0)
			for _, a := range list {
				if a.e != x.want || !clean(list) {
					t.Errorf("%d: %s(%d): %d, want %d", i, a.name, line, a.e, x.want)
				}
			}
		}
	}
}

// P12.1, P12.5 and P12.6, and R1 and R3: numbers of no line, books that are torn, bytes that are no question mark, and books without a reading.
func TestArguments(t *testing.T) {
	none := withLine(exampleL(), 1, "proof 1 3 ?")
	torn := withLine(exampleX(), 5, "when ?")
	for i, x := range []struct {
		b        api.Book
		line, at int
	}{
		{exampleL(), -1, 0}, {exampleL(), 6, 0}, {exampleL(), math.MaxInt, 0}, {exampleL(), math.MinInt, math.MinInt}, {exampleL(), 0, 0}, {exampleL(), 5, 5}, {book(), 0, 0}, {book(), -1, -1},
		{exampleT(), -1, 8}, {exampleT(), 6, 8}, {exampleT(), 0, 8}, {exampleT(), 1, 8}, {exampleT(), 1, 7}, {exampleT(), 1, 9}, {exampleT(), 1, -1}, {exampleT(), 1, 11}, {exampleT(), 1, 12}, {exampleT(), 1, math.MaxInt}, {exampleT(), 1, math.MinInt}, {exampleT(), 2, 0},
		{torn, 1, 8}, {torn, 5, 5}, {torn, 5, 4}, {torn, 5, 6}, {torn, 6, 5}, {none, 1, 10}, {none, 1, 9}, {none, 5, 5}, {none, 6, 10}, {none, -1, 10},
	} {
		isLine := 0 <= x.line && x.line < len(x.b.Lines)
		isMark := isLine && 0 <= x.at && x.at < len(x.b.Lines[x.line]) && x.b.Lines[x.line][x.at] == '?'
		list := answers(x.b, x.line, x.at)
		for _, a := range list {
			want := api.OK
			switch {
			case slices.Contains(ofLine, a.name) && !isLine, a.name == "Digits" && !isMark:
				want = api.ErrMissing
			case slices.Contains(ofWhole, a.name) && isTorn(x.b.Lines):
				want = api.ErrSort
			case a.name == "Why":
				_, want = why(x.b, x.line)
			case slices.Contains(words{"Only", "Digits", "Verdict"}, a.name):
				switch n := len(readingsOf(drafts(x.b), x.b.Answers)); {
				case n == 0:
					want = api.ErrNothing
				case n > 1 && a.name == "Only":
					want = api.ErrExcess
				}
			}
			if a.e != want || !clean(list) {
				t.Errorf("%d: %s(%d, %d): %d, want %d", i, a.name, x.line, x.at, a.e, want)
			}
		}
	}
}

// The table of the chapter.
func TestExamples(t *testing.T) {
	l, m, u, x := exampleL(), exampleM(), exampleT(), exampleX()
	ok3 := withAnswer(l, 3, "ok")
	none := ints(nil)
	for i, c := range []struct {
		b    api.Book
		want api.Errno
	}{{l, api.OK}, {withLine(l, 0, "when 01"), api.ErrWord}, {withLine(l, 1, "proof 1 ? ??"), api.ErrLength}, {answered(l), api.ErrConflict}} {
		if e := clerk.Check(c.b); e != c.want {
			t.Error(i, e)
		}
	}
	for i, c := range []struct {
		name     string
		b        api.Book
		line, at int
		e        api.Errno
		want     any
	}{
		{"Work", l, 0, 0, api.OK, l.Answers},
		{"Work", m, 0, 0, api.OK, words{"error 9", "5-8", "ok", "5-5", "0 1 2 3: 32"}},
		{"Holds", l, 0, 0, api.OK, none}, {"Holds", m, 0, 0, api.OK, ints{2}}, {"Holds", u, 0, 0, api.ErrSort, none},
		{"Why", l, 5, 0, api.OK, ints{4}}, {"Why", l, 3, 0, api.ErrNothing, none}, {"Why", l, 1, 0, api.ErrSort, none}, {"Change", l, 1, 0, api.OK, ints{2, 4}},
		{"Close", l, 0, 0, api.OK, words{"error 11", "error 11", "5-8", "3-5", "0 1 2 3: 32"}},
		{"Differ", l, 0, 0, api.OK, none}, {"Differ", ok3, 0, 0, api.OK, ints{3}},
		{"Count", u, 0, 0, api.OK, 1}, {"Count", x, 0, 0, api.OK, 2}, {"Count", l, 0, 0, api.OK, 1}, {"Only", u, 0, 0, api.OK, l.Lines}, {"Only", x, 0, 0, api.ErrExcess, words(nil)},
		{"Digits", x, 1, 8, api.OK, ints{0, 1}}, {"Digits", u, 1, 8, api.OK, ints{1}}, {"Digits", x, 1, 6, api.ErrMissing, none}, {"Verdict", x, 1, 0, api.OK, api.No},
		{"Wrong", l, 0, 0, api.OK, none}, {"Wrong", ok3, 0, 0, api.OK, ints{3}},
	} {
		for _, a := range answers(c.b, c.line, c.at) {
			if a.name == c.name && !sameAnswer(a, answer{c.name, []any{c.want}, c.e}) {
				t.Errorf("%d: %s = %v %d, want %v %d", i, a.name, a.results, a.e, c.want, c.e)
			}
		}
	}
	// The overview of the document.
	if held := fine[ints](t, l)(clerk.Holds(l)); len(held) > 0 {
		t.Error(held)
	}
}

// odd returns a text that is nearly a line.
func odd(dice *rand.Rand, text string) string {
	list := []byte(text)
	for range 1 + dice.IntN(2) {
		at := dice.IntN(len(list) + 1)
		switch dice.IntN(4) {
		case 0:
			list = slices.Insert(list, at, "0019 ?any\x00é-+"[dice.IntN(14)])
		case 1:
			list = slices.Delete(list, max(0, at-1), at)
		case 2:
			list = append(list, "  1 10"[dice.IntN(6)])
		case 3:
			if at < len(list) {
				list[at] = "0123456789 ?a"[dice.IntN(13)]
			}
		}
	}
	return string(list)
}

// P12.1 and P12.10: what is a line, and what it says.
func TestParse(t *testing.T) {
	verbs := map[string]int{"proof": api.VerbProof, "sight": api.VerbSight, "want": api.VerbWant, "void": api.VerbVoid, "when": api.VerbWhen, "duty": api.VerbDuty, "best": api.VerbBest}
	look := func(text string) {
		t.Helper()
		l, e := clerk.Parse(text)
		if !isLine(text) {
			if e != api.ErrWord || l.Verb != 0 || len(l.Args) > 0 {
				t.Fatalf("%q: %v %d", text, l, e)
			}
			return
		}
		word, n := said(text)
		if e != api.OK || l.Verb != verbs[word] || !slices.Equal(l.Args, n) {
			t.Fatalf("%q: %v %d", text, l, e)
		}
		if back, e := clerk.Write(l); e != api.OK || back != text {
			t.Fatalf("%q: %q %d", text, back, e)
		}
	}
	for _, text := range []string{
		"", " ", "?", "best", "best ", " best", "bes", "bestt", "Best", "BEST", "best 0", "best?", "proof", "proof ", "proof 1 1", "proof 1 1 ", "proof 1 1 1 ", "proof 1 1 1 1", "proof  1 1 1", "proof 1  1 1", " proof 1 1 1", "proof\t1 1 1", "proof 1 1 1\n", "proof 1,1,1", "proof1 1 1", "proof 1 1 1a",
		"when 0", "when 00", "when 01", "when 9", "when 10", "when 99", "when 100", "when 090", "when -1", "when +1", "when 1.", "when ?", "when 1?", "when any", "when ١", "when ９", "when 1\xff", "when \xff", "void any", "duty any", "duty 0x", "duty x",
		"want any 1 9 30", "want 1 any 9 30", "want 1 any any 30", "want 1 1 any 30", "want 1 1 9 any", "want 1 an 9 30", "want 1 anyy 9 30", "want 1 Any 9 30", "want 1 any9 30", "want 1 any  30", "want 1 any", "want 1 any 9", "want 1 any 9 30 1", "want 1 any 9 30 any", "want 1 a 9 30", "want 1  any 9 30", "want 1 1any 9 30", "want 1 any1 9 30", "want 1 -1 9 30", "sight 0 any 1 1", "proof 0 any 1", "any", "want", "want any",
		"void 0 ", "void 0", "void 99", "void", "voids 0", "whens", "need 0", "sight 1 2 3", "sight 1 2 3 4", "sight 1 2 3 4 5", "sight 10 20 30 40", "sight 0 0 0 0", "sight 00 0 0 0", "proof 99 99 99", "want 0 0 0 0", "want 99 99 99 99",
	} {
		look(text)
	}
	dice := rand.New(rand.NewPCG(1, 12))
	right, wrong := 0, 0
	for range 30000 {
		text := randomLine(dice, exampleL(), dice.IntN(6))
		look(text)
		text = odd(dice, text)
		look(text)
		if isLine(text) {
			right++
		} else {
			wrong++
		}
	}
	if right < 2500 || wrong < 2500 {
		t.Error(right, wrong)
	}
	// Texts that are long are no lines either.
	for _, text := range []string{strings.Repeat("best", 1<<18), "when " + strings.Repeat("1", 1<<20), "best" + strings.Repeat(" 1", 1<<19), "want 1 " + strings.Repeat("any", 1<<18), strings.Repeat(" ", 1<<20), "sight" + strings.Repeat(" 1", 1<<19)} {
		if l, e := clerk.Parse(text); e != api.ErrWord || len(l.Args) > 0 {
			t.Error(len(text), e)
		}
	}
}

// P12.1: torn lines are those that become lines with some digits.
func TestTorn(t *testing.T) {
	dice := rand.New(rand.NewPCG(2, 12))
	right, wrong := 0, 0
	look := func(text string) {
		t.Helper()
		if strings.Count(text, "?") > 3 {
			return
		}
		b := withLines(exampleL(), text)
		want := api.OK
		switch {
		case !canBeLine(text):
			want = api.ErrWord
			wrong++
		case strings.Count(text, "?") > api.MaxTorn:
			want = api.ErrLength
		default:
			right++
		}
		if e := clerk.Check(b); e != want {
			t.Fatalf("%q: %d, want %d", text, e, want)
		}
	}
	for _, text := range []string{"when ?", "when ??", "when ???", "when ?0", "when 0?", "when 1?", "when ?1", "when 1??", "when ?1?", "when ? ", "when  ?", "when ? ?", "wh?n 0", "?", "? 0", "best?", "best ?", "best ", "want 1 ?ny 9 30", "want 1 a?y 9 30", "want 1 ? 9 30", "want ? any 9 ?", "want 1 any ?? 30", "want 1 ?any 9 30", "want 1 any? 9 30", "proof ? ? ?", "proof ? ?0 1", "proof ? 0? 1", "proof??1 1", "proof 1?1 1", "proof 1 ? ?", "", "when \xff?"} {
		look(text)
	}
	for range 15000 {
		look(odd(dice, strings.Replace(randomLine(dice, exampleL(), 3), pick(dice, "1", "0", "2"), "?", 1+dice.IntN(2))))
	}
	if right < 1500 || wrong < 1500 {
		t.Error(right, wrong)
	}
	// Not all digits are tried: there can be eight question marks.
	if e := clerk.Check(withLines(exampleL(), "sight ?? ?? ?? ??", strings.Repeat("?", 1<<20))); e != api.ErrWord {
		t.Error(e)
	}
}

// P12.1 and P12.10: how a line is written.
func TestWrite(t *testing.T) {
	line := func(verb int, n ...int) api.Line { return api.Line{Verb: verb, Args: n} }
	for i, x := range []struct {
		l    api.Line
		want string
		e    api.Errno
	}{
		{line(api.VerbVoid, 7), "void 7", api.OK}, {line(api.VerbVoid, 7, 7), "", api.ErrExcess}, {line(api.VerbWhen, 100), "", api.ErrValue},
		{line(-1), "", api.ErrValue}, {line(7), "", api.ErrValue}, {line(math.MaxInt, 1), "", api.ErrValue}, {line(math.MinInt, 1), "", api.ErrValue},
		// How many numbers there are comes before what they are.
		{line(api.VerbProof, 100, 1), "", api.ErrShortage}, {line(api.VerbProof, 100, 1, 1, 1), "", api.ErrExcess}, {line(api.VerbProof, 100, 1, 1), "", api.ErrValue}, {line(api.VerbProof), "", api.ErrShortage}, {line(api.VerbProof, 0, 10, 99), "proof 0 10 99", api.OK},
		{line(api.VerbSight, 1, 2, 3), "", api.ErrShortage}, {line(api.VerbSight, 1, 2, 3, 4), "sight 1 2 3 4", api.OK}, {line(api.VerbSight, 1, 2, 3, 4, 5), "", api.ErrExcess}, {line(api.VerbSight, 1, -1, 3, 4), "", api.ErrValue}, {line(api.VerbSight, 1, 2, 3, math.MinInt), "", api.ErrValue},
		{line(api.VerbWant, 1, 2, 3), "", api.ErrShortage}, {line(api.VerbWant, 1, -1, 9, 30), "want 1 any 9 30", api.OK}, {line(api.VerbWant, 1, -2, 9, 30), "", api.ErrValue}, {line(api.VerbWant, -1, 1, 9, 30), "", api.ErrValue}, {line(api.VerbWant, 1, 1, -1, 30), "", api.ErrValue}, {line(api.VerbWant, 1, 1, 9, -1), "", api.ErrValue}, {line(api.VerbWant, 1, 100, 9, 30), "", api.ErrValue}, {line(api.VerbWant, 1, 99, 9, math.MaxInt), "", api.ErrValue}, {line(api.VerbWant, 1, -1, 9, 30, 0), "", api.ErrExcess},
		{line(api.VerbVoid, -1), "", api.ErrValue}, {line(api.VerbVoid), "", api.ErrShortage}, {line(api.VerbWhen), "", api.ErrShortage}, {line(api.VerbWhen, 1, 2), "", api.ErrExcess}, {line(api.VerbDuty, 99), "duty 99", api.OK}, {line(api.VerbDuty, -1), "", api.ErrValue}, {line(api.VerbDuty), "", api.ErrShortage}, {line(api.VerbDuty, 0, 0), "", api.ErrExcess}, {line(api.VerbBest), "best", api.OK}, {line(api.VerbBest, 0), "", api.ErrExcess}, {line(api.VerbBest, 100), "", api.ErrExcess}, {api.Line{Verb: api.VerbBest, Args: ints{}}, "best", api.OK},
	} {
		if text, e := clerk.Write(x.l); text != x.want || e != x.e {
			t.Errorf("%d: %q %d, want %q %d", i, text, e, x.want, x.e)
		}
	}
	// What can be written says so when it is read.
	dice := rand.New(rand.NewPCG(3, 12))
	for range 30000 {
		l := line(dice.IntN(7))
		for range dice.IntN(6) {
			l.Args = append(l.Args, dice.IntN(102)-1)
		}
		text, e := clerk.Write(l)
		if e != api.OK {
			if text != "" {
				t.Fatal(l, text, e)
			}
			continue
		}
		if back, e := clerk.Parse(text); !isLine(text) || e != api.OK || back.Verb != l.Verb || !slices.Equal(back.Args, l.Args) {
			t.Fatal(l, text, back, e)
		}
	}
}

// P12.2: the answers, the files behind the last line, and the entries that are in effect.
func TestWork(t *testing.T) {
	count := map[string]int{}
	later, nolonger, voided := 0, 0, 0
	samples(3000, 4, func(b api.Book, _ *rand.Rand) {
		o := work(b, b.Lines)
		if l := fine[words](t, b)(clerk.Work(b)); !slices.Equal(l, o.answers) {
			t.Fatalf("%+v: Work = %q, want %q", b, l, o.answers)
		}
		if f := filesOf(t, b); !f.same(o.files) {
			t.Fatalf("%+v: Files = %+v, want %+v", b, f, o.files)
		}
		held := fine[ints](t, b)(clerk.Holds(b))
		if !slices.Equal(held, o.held) {
			t.Fatalf("%+v: Holds = %v, want %v", b, held, o.held)
		}
		for n, line := range b.Lines {
			word, _ := said(line)
			if isError(o.answers[n]) {
				word += " " + o.answers[n]
			}
			count[word]++
			holds, isVoid := slices.Contains(held, n), slices.Contains(b.Lines, "void "+strconv.Itoa(n))
			switch {
			case holds && isError(o.answers[n]):
				later++
			case holds || !isEntry(line) || isError(o.answers[n]):
			case isVoid:
				voided++
			default:
				nolonger++
			}
		}
	})
	if later < 80 || nolonger < 10 || voided < 400 {
		t.Error(later, nolonger, voided)
	}
	for word, least := range map[string]int{
		"proof": 500, "proof error 9": 300, "proof error 3": 50, "proof error 6": 40, "proof error 8": 30, "sight": 200, "sight error 9": 100, "sight error 3": 20, "sight error 6": 20, "sight error 8": 20, "sight error 1": 20, "sight error 12": 20,
		"want": 200, "want error 9": 50, "want error 1": 10, "want error 3": 10, "want error 6": 50, "want error 8": 2, "void": 300, "void error 3": 50, "void error 4": 50, "void error 8": 50, "when": 50, "when error 11": 100, "when error 3": 10, "when error 9": 5, "duty": 200, "duty error 3": 10, "duty error 9": 3, "best": 300,
	} {
		if count[word] < least {
			t.Error(word, count[word])
		}
	}
}

// P12.2: books of which the terms name what they are about.
func TestWorked(t *testing.T) {
	open := but(book(), func(b *api.Book) { b.Boil.Proofs, b.Row.Sights, b.Saw.Wants = nil, nil, nil })
	for i, x := range []struct {
		b       api.Book
		answers words
		held    ints
	}{
		{book(), nil, nil},
		// A line that was refused is in effect later, and one that was not is so no more.
		{book("proof 1 2 3", "proof 1 1 1", "proof 1 2 2", "when 1", "void 0", "when 1"), words{"ok", "error 9", "error 9", "1", "ok", "2"}, ints{1, 2}},
		{withLines(open, "want 1 0 10 1", "want 1 0 11 2", "want 1 0 10 3", "best", "void 0", "best"), words{"ok", "error 9", "ok", "0 1: 4", "ok", "0: 2"}, ints{1}},
		{withLines(open, "proof 0 0 0", "proof 0 0 1", "proof 0 1 0", "void 0", "when 0"), words{"ok", "error 9", "ok", "ok", "error 11"}, ints{2}},
		// Only an entry that is before it is made void, and only once; a void line is not made void itself.
		{book("void 0"), words{"error 3"}, nil}, {book("void 1", "proof 1 1 1"), words{"error 3", "ok"}, ints{1}}, {book("proof 1 1 1", "void 0", "void 1"), words{"ok", "ok", "error 8"}, nil},
		{book("when 0", "duty 0", "best", "void 0", "void 1", "void 2"), words{"error 11", "5-8", "0 1 2 3: 32", "error 8", "error 8", "error 8"}, nil}, {book("proof 1 1 1", "void 0", "void 0", "void 0"), words{"ok", "ok", "error 4", "error 4"}, nil},
		{book("void 5", "proof 1 1 1", "void 1", "when 1", "void 1", "void 0"), words{"error 3", "ok", "ok", "error 11", "error 4", "error 8"}, nil},
		// An entry that was refused can be made void, too, and is not in effect then.
		{book("proof 1 0 2", "void 0", "proof 1 1 1", "when 1"), words{"error 9", "ok", "ok", "2"}, ints{2}},
		{book("proof 1 2 3", "proof 1 1 1", "void 1", "void 0", "when 1"), words{"ok", "error 9", "ok", "ok", "error 11"}, nil},
		// Two lines that are the same are two; what is made void is one of them.
		{book("proof 1 1 1", "proof 1 1 1", "void 0", "when 1", "void 1", "when 1"), words{"ok", "ok", "ok", "2", "ok", "error 11"}, nil},
		// Several times and no wants; the word any.
		{withLines(but(open, func(b *api.Book) { b.Boil.Heats = []api.Span{span(0, 0), span(0, 0)}; b.Boil.Starts[1] = span(12, 12) }), "when 1", "when 0", "best"), words{"0 1 2", "error 11", ": 0"}, nil},
		{withLines(open, "want 1 any 10 7", "want 0 any 0 1", "want 2 any 1 1", "want 1 1 6 30", "best"), words{"ok", "error 3", "error 3", "ok", "0 1: 37"}, ints{0, 3}},
		{withLines(open, "want 0 0 0 1", "best", "want 3 0 0 0", "want 0 2 0 0", "want 0 0 1 0", "want 0 0 0 31"), words{"ok", "0: 1", "error 8", "error 3", "error 1", "error 1"}, ints{0}},
		// Files that contradict themselves: nothing is surely so, and nothing is refused for it.
		{withLines(but(book(), func(b *api.Book) { b.Boil.Proofs = append(b.Boil.Proofs, api.Proof{Thread: api.Long}) }), "when 0", "proof 0 0 3", "when 9"), words{"error 9", "ok", "error 3"}, ints{1}},
		{withLines(but(book(), func(b *api.Book) {
			b.Row.Sights = append(b.Row.Sights, api.Sight{Glass: 2, Year: 6, Found: api.Lighter})
		}), "duty 0", "sight 0 2 6 1", "duty 2", "duty 1"), words{"error 9", "ok", "error 3", "error 9"}, ints{1}},
		{withLines(but(book(), func(b *api.Book) { b.Saw.Stock = ints{0, 0} }), "best", "want 0 0 0 30", "best"), words{": 0", "ok", ": 0"}, ints{1}},
	} {
		l, e := clerk.Work(x.b)
		held, f := clerk.Holds(x.b)
		if e != api.OK || f != api.OK || !slices.Equal(l, x.answers) || !slices.Equal(held, x.held) {
			t.Errorf("%d: %q %v, want %q %v", i, l, held, x.answers, x.held)
		}
	}
}

// P12.3 and P12.13: why a line was refused.
func TestWhy(t *testing.T) {
	count := map[string]int{}
	samples(1000, 5, func(b api.Book, _ *rand.Rand) {
		for n := range b.Lines {
			out, e := clerk.Why(b, n)
			want, f := why(b, n)
			if e != f || !slices.Equal(out, want) {
				t.Fatalf("%+v: Why(%d) = %v %d, want %v %d", b, n, out, e, want, f)
			}
			count[strconv.Itoa(int(e))+" "+strconv.Itoa(len(out))]++
			if e != api.OK {
				continue
			}
			left := fine[words](t, b)(clerk.Work(withLines(b, without(b.Lines, out...)...)))
			if isError(left[n]) || !isError(b.Answers[n]) {
				t.Fatalf("%+v: Why(%d) = %v, but then %q", b, n, out, left[n])
			}
			for _, list := range lists(n) {
				if slices.Equal(list, out) {
					break
				}
				if left := fine[words](t, b)(clerk.Work(withLines(b, without(b.Lines, list...)...))); !isError(left[n]) {
					t.Fatalf("%+v: Why(%d) = %v, but %v is enough", b, n, out, list)
				}
			}
		}
	})
	if count["8 0"] < 1000 || count["11 0"] < 1000 || count["0 1"] < 100 || count["0 2"] < 25 {
		t.Error(count)
	}
	for i, x := range []struct {
		b    api.Book
		line int
		want ints
		e    api.Errno
	}{
		// All lines before it are too many, as one that makes void needs an entry.
		{book("proof 1 1 1", "void 0", "void 0"), 2, ints{1}, api.OK}, {book("proof 1 1 1", "void 0", "void 0", "void 0"), 3, ints{1, 2}, api.OK}, {book("best", "void 0"), 1, nil, api.ErrNothing}, {book("void 0"), 0, nil, api.ErrNothing}, {book("void 1", "best"), 0, nil, api.ErrNothing},
		// Either of two lists, and the entry that one makes void.
		{book("proof 1 2 3", "proof 1 2 3", "proof 1 1 1"), 2, ints{0, 1}, api.OK}, {book("proof 1 1 1", "void 0", "when 1"), 2, ints{1}, api.OK}, {book("proof 1 1 1", "proof 1 1 1", "void 0", "void 1", "when 1"), 4, ints{2}, api.OK}, {book("proof 1 2 3", "void 0", "proof 1 2 2", "proof 1 2 3"), 3, ints{1}, api.OK},
		{book("when 9"), 0, nil, api.ErrNothing}, {book("best"), 0, nil, api.ErrSort}, {book("best", "proof 1 1 1"), 1, nil, api.ErrSort}, {book("want 2 1 1 2", "want 0 0 0 9"), 1, nil, api.ErrNothing},
	} {
		if out, e := clerk.Why(x.b, x.line); e != x.e || !slices.Equal(out, x.want) {
			t.Error(i, out, e)
		}
	}
}

// P12.3 and P12.14: what a line changes.
func TestChange(t *testing.T) {
	count := map[int]int{}
	samples(1000, 6, func(b api.Book, _ *rand.Rand) {
		now := fine[words](t, b)(clerk.Work(b))
		for n := range b.Lines {
			l := fine[ints](t, b)(clerk.Change(b, n))
			if want := changed(b, n); !slices.Equal(l, want) {
				t.Fatalf("%+v: Change(%d) = %v, want %v", b, n, l, want)
			}
			then := fine[words](t, b)(clerk.Work(withLines(b, without(b.Lines, n)...)))
			for other := range b.Lines {
				if is := slices.Contains(l, other); other != n && is != (now[other] != then[other]) || is && other <= n {
					t.Fatalf("%+v: Change(%d) = %v, but %q is %q then", b, n, l, now[other], then[other])
				}
			}
			count[len(l)]++
		}
	})
	if count[0] < 2000 || count[1] < 400 || count[2] < 70 || count[3] < 10 {
		t.Error(count)
	}
	// What stands beside the lines does not matter, nor is a line itself one of those that change.
	b := exampleL()
	for line, want := range []ints{nil, {2, 4}, nil, nil, {5}, nil} {
		for _, b := range []api.Book{b, blind(b)} {
			if l, e := clerk.Change(b, line); e != api.OK || !slices.Equal(l, want) {
				t.Error(line, l, e)
			}
		}
	}
}

// P12.4 and P12.15: the page with which a month is closed.
func TestClose(t *testing.T) {
	errs := 0
	samples(3000, 7, func(b api.Book, _ *rand.Rand) {
		page := fine[words](t, b)(clerk.Close(b))
		if want := closed(b); !slices.Equal(page, want) {
			t.Fatalf("%+v: Close = %q, want %q", b, page, want)
		}
		if slices.ContainsFunc(page, isError) {
			errs++
		}
		// As many of its lines are written behind the others as there is room for.
		lines, n := closing(b), len(b.Lines)
		for from := 0; from < len(lines) && n < api.MaxLines; from += api.MaxLines - n {
			some := lines[from:min(len(lines), from+api.MaxLines-n)]
			if all := fine[words](t, b)(clerk.Work(behind(b, some...))); !slices.Equal(all[n:], page[from:from+len(some)]) {
				t.Fatalf("%+v: Close = %q, but behind the others %q", b, page, all[n:])
			}
		}
	})
	if errs < 1000 {
		t.Error(errs)
	}
	// With as many pans and samples, and lines, as there can be.
	b := but(book(slices.Repeat(words{"best"}, 6)...), func(b *api.Book) {
		b.Boil.Starts, b.Boil.Rates = append(b.Boil.Starts, span(12, 12)), ints{1, 1, 1}
	})
	if page, e := clerk.Close(b); e != api.OK || !slices.Equal(page, words{"error 11", "3", "0 1", "5-8", "3-5", "0 1 2 3: 32"}) {
		t.Errorf("%q %d", page, e)
	}
}

// P12.4: the answers that are legible, and not those that are found.
func TestDiffer(t *testing.T) {
	some, none := 0, 0
	dice := rand.New(rand.NewPCG(8, 12))
	for range 1500 {
		b := randomTorn(dice, 0)
		l := fine[ints](t, b)(clerk.Differ(b))
		if want := differ(b.Answers, work(b, b.Lines).answers); !slices.Equal(l, want) {
			t.Fatalf("%+v: Differ = %v, want %v", b, l, want)
		}
		if len(l) > 0 {
			some++
		} else {
			none++
		}
		if wrong := fine[ints](t, b)(clerk.Wrong(b)); !slices.Equal(l, wrong) {
			t.Fatalf("%+v: Differ = %v, Wrong = %v", b, l, wrong)
		}
	}
	if some < 100 || none < 100 {
		t.Error(some, none)
	}
	// Only what is just a question mark is illegible.
	for i, x := range []struct {
		answer string
		want   ints
	}{{"?", nil}, {"ok", nil}, {"??", ints{1}}, {"", ints{1}}, {"? ", ints{1}}, {"o?", ints{1}}, {"OK", ints{1}}, {"ok ", ints{1}}, {"error", ints{1}}, {"error 9", ints{1}}, {"0", ints{1}}} {
		if l, e := clerk.Differ(withAnswer(exampleL(), 1, x.answer)); e != api.OK || !slices.Equal(l, x.want) {
			t.Error(i, l, e)
		}
	}
}

// linesOf returns those of some readings.
func linesOf(all []reading) (lines []words) {
	for _, r := range all {
		lines = append(lines, r.lines)
	}
	return lines
}

// P12.5, and P12.8: the readings of a book, each of which, worked again, has the answers that are legible.
func TestReadings(t *testing.T) {
	count := map[int]int{}
	tornSamples(700, 9, func(b api.Book, all []reading, _ *rand.Rand) {
		want := readingsOf(all, b.Answers)
		n := fine[int](t, b)(clerk.Count(b))
		if n != len(want) {
			t.Fatalf("%+v: Count = %d, want %d", b, n, len(want))
		}
		count[min(n, 3)]++
		due := api.OK
		if n > api.MaxFound {
			due, want = api.ErrExcess, nil
			count[api.MaxFound]++
		}
		l, e := clerk.Readings(b)
		if e != due || !slices.EqualFunc(l, linesOf(want), slices.Equal[words]) {
			t.Fatalf("%+v: Readings = %q %d, want %q %d", b, l, e, linesOf(want), due)
		}
		for _, lines := range l {
			found := fine[words](t, b)(clerk.Work(withLines(b, lines...)))
			for line, answer := range b.Answers {
				if answer != "?" && answer != found[line] {
					t.Fatalf("%+v: the reading %q has the answers %q", b, lines, found)
				}
			}
		}
		only, e := clerk.Only(b)
		switch {
		case n == 0 && e == api.ErrNothing && len(only) == 0:
		case n > 1 && e == api.ErrExcess && len(only) == 0:
		case n == 1 && e == api.OK && slices.Equal(only, want[0].lines):
		default:
			t.Fatalf("%+v: Only = %q %d", b, only, e)
		}
	})
	if count[0] < 80 || count[1] < 100 || count[2] < 30 || count[3] < 100 || count[api.MaxFound] < 5 {
		t.Error(count)
	}
}

// P12.5: as many readings as can be returned, and one more; and their order.
func TestMaxFound(t *testing.T) {
	many := but(withLines(book(), "want 1 any ?? 0"), func(b *api.Book) { b.Saw.Stock = ints{0, 0} })
	// 50 readings: any digit, and the five numbers that are those of no line before.
	fifty := book("best", "best", "best", "best", "when ?", "void ?")
	fifty.Answers[5] = "error 3"
	for i, x := range []struct {
		b api.Book
		n int
	}{{many, 90}, {answered(many, "ok"), 51}, {answered(many, "error 1"), 39}, {answered(many, "error 9"), 0}, {fifty, 50}, {withAnswer(fifty, 5, "error 8"), 50}, {withAnswer(fifty, 5, "?"), 100}, {withAnswer(fifty, 4, "error 3"), 40}, {book(), 1}, {book("when ?0"), 9}, {book("when 9?"), 10}} {
		if n, e := clerk.Count(x.b); n != x.n || e != api.OK {
			t.Error(i, n, e)
		}
		want, due := linesOf(readingsOf(drafts(x.b), x.b.Answers)), api.OK
		if x.n > 50 {
			want, due = nil, api.ErrExcess
		}
		if l, e := clerk.Readings(x.b); e != due || len(want) != len(l) || !slices.EqualFunc(l, want, slices.Equal[words]) {
			t.Error(i, l, e)
		}
	}
	// The digits of a line come before those behind it, from left to right.
	l, e := clerk.Readings(answered(book("duty ?", "when ?"), "3-5", "error 11"))
	if e != api.OK || !slices.EqualFunc(l, []words{{"duty 1", "when 0"}, {"duty 1", "when 1"}}, slices.Equal[words]) {
		t.Error(l, e)
	}
	l, e = clerk.Readings(answered(book("when ?", "duty ?"), "error 11", "?"))
	if e != api.OK || len(l) != 20 || !slices.Equal(l[1], words{"when 0", "duty 1"}) || !slices.Equal(l[10], words{"when 1", "duty 0"}) {
		t.Error(l, e)
	}
}

// P12.6 and P12.17: the digits of the readings.
func TestDigits(t *testing.T) {
	count := map[int]int{}
	tornSamples(700, 10, func(b api.Book, all []reading, _ *rand.Rand) {
		fit := readingsOf(all, b.Answers)
		for line, text := range b.Lines {
			for at := range len(text) + 1 {
				var want ints
				due := api.ErrMissing
				if at < len(text) && text[at] == '?' {
					due = api.ErrNothing
					if len(fit) > 0 {
						want, due = digits(fit, line, at), api.OK
					}
				}
				l, e := clerk.Digits(b, line, at)
				if e != due || !slices.Equal(l, want) {
					t.Fatalf("%+v: Digits(%d, %d) = %v %d, want %v %d", b, line, at, l, e, want, due)
				}
				if due != api.ErrMissing {
					count[len(l)]++
				}
			}
		}
	})
	if count[0] < 80 || count[1] < 50 || count[2] < 50 || count[3] < 30 || count[10] < 50 {
		t.Error(count)
	}
}

// P12.6 and P12.18, and P0: whether a line is in effect in the readings, as Holds says of each of them.
func TestVerdict(t *testing.T) {
	count := map[int]int{}
	tornSamples(600, 11, func(b api.Book, all []reading, _ *rand.Rand) {
		fit := readingsOf(all, b.Answers)
		var held []ints
		for _, r := range fit {
			held = append(held, fine[ints](t, b)(clerk.Holds(withLines(b, r.lines...))))
		}
		for line := range b.Lines {
			v, e := clerk.Verdict(b, line)
			want, due := 0, api.ErrNothing
			if len(fit) > 0 {
				want, due = verdict(fit, line), api.OK
			}
			if v != want || e != due {
				t.Fatalf("%+v: Verdict(%d) = %d %d, want %d %d", b, line, v, e, want, due)
			}
			count[v]++
			in := len(numbers(len(held), func(n int) bool { return slices.Contains(held[n], line) }))
			if e == api.OK && ((v == api.Yes) != (in == len(held)) || (v == api.No) != (in == 0)) {
				t.Fatalf("%+v: Verdict(%d) = %d, but Holds %v", b, line, v, held)
			}
			if !isEntry(b.Lines[line]) && e == api.OK && v != api.No {
				t.Fatalf("%+v: Verdict(%d) = %d of no entry", b, line, v)
			}
		}
	})
	if count[0] < 300 || count[api.Yes] < 200 || count[api.No] < 500 || count[api.Open] < 30 {
		t.Error(count)
	}
	// Lines that are no entries are never in effect, and an entry is or is not by the line that makes it void.
	b := book("proof 1 1 1", "void ?", "when 1", "best")
	for line, want := range []int{api.Open, api.No, api.No, api.No} {
		if v, e := clerk.Verdict(b, line); v != want || e != api.OK {
			t.Error(line, v, e)
		}
	}
	for answer, want := range map[string]int{"ok": api.No, "error 3": api.Yes, "?": api.Open, "error 8": 0} {
		if v, e := clerk.Verdict(withAnswer(b, 1, answer), 0); v != want || (e == api.OK) != (want != 0) {
			t.Error(answer, v, e)
		}
	}
}

// P12.7 and P12.19: the fewest answers that have to be taken as illegible.
func TestWrong(t *testing.T) {
	count := map[int]int{}
	tornSamples(600, 12, func(b api.Book, all []reading, dice *rand.Rand) {
		if dice.IntN(2) == 0 {
			// Answers of another book, so that many of them are wrong.
			copy(b.Answers, randomBook(dice).Answers)
			if clerk.Check(b) != api.OK {
				return
			}
		}
		l := fine[ints](t, b)(clerk.Wrong(b))
		if want := wrong(all, b.Answers); !slices.Equal(l, want) {
			t.Fatalf("%+v: Wrong = %v, want %v", b, l, want)
		}
		count[len(l)]++
		if n := fine[int](t, b)(clerk.Count(answered(b, illegible(b.Answers, l...)...))); n == 0 {
			t.Fatalf("%+v: Wrong = %v, but there is no reading without", b, l)
		}
		if strings.Count(strings.Join(b.Lines, ""), "?") == 2 {
			return
		}
		for _, list := range lists(len(b.Lines)) {
			if slices.Equal(list, l) {
				break
			}
			if n := fine[int](t, b)(clerk.Count(answered(b, illegible(b.Answers, list...)...))); n != 0 {
				t.Fatalf("%+v: Wrong = %v, but without %v there are %d readings", b, l, list, n)
			}
		}
	})
	if count[0] < 100 || count[1] < 50 || count[2] < 25 || count[3] < 30 {
		t.Error(count)
	}
	for i, x := range []struct {
		b    api.Book
		want ints
	}{
		// Of several lists that are as short the first one; and a line that is as it should be whatever the digit is.
		{answered(book("proof 1 ? 1", "when 1", "when 0"), "ok", "error 11", "error 11"), nil}, {answered(book("proof 1 1 ?", "when 1"), "error 9", "2"), ints{0}}, {answered(book("duty ?", "when ?"), "3-6", "9"), ints{0, 1}}, {answered(book("duty ?", "duty ?"), "3-5", "3-6"), ints{1}}, {book("when ?"), nil}, {book(), nil},
		{answered(book("void ?", "proof 1 ? 1"), "ok", "error 12"), ints{0, 1}},
	} {
		if l, e := clerk.Wrong(x.b); e != api.OK || !slices.Equal(l, x.want) {
			t.Error(i, l, e)
		}
	}
}

// P12.8: if the answers of Work are written into a book, it has just this one reading.
func TestAgain(t *testing.T) {
	samples(1000, 13, func(b api.Book, _ *rand.Rand) {
		again := answered(b, fine[words](t, b)(clerk.Work(b))...)
		if only := fine[words](t, b)(clerk.Only(again)); !slices.Equal(only, b.Lines) {
			t.Fatalf("%+v: Only = %q", again, only)
		}
		if n := fine[int](t, b)(clerk.Count(again)); n != 1 {
			t.Fatalf("%+v: Count = %d", again, n)
		}
		if l := fine[[]words](t, b)(clerk.Readings(again)); len(l) != 1 || !slices.Equal(l[0], b.Lines) {
			t.Fatalf("%+v: Readings = %q", again, l)
		}
		for line := range b.Lines {
			v := api.No
			if slices.Contains(fine[ints](t, b)(clerk.Holds(b)), line) {
				v = api.Yes
			}
			if got := fine[int](t, b)(clerk.Verdict(again, line)); got != v {
				t.Fatalf("%+v: Verdict(%d) = %d", again, line, got)
			}
			// With another answer there is none.
			other := withAnswer(again, line, again.Answers[line]+" ")
			if n := fine[int](t, b)(clerk.Count(other)); n != 0 {
				t.Fatalf("%+v: Count = %d", other, n)
			}
		}
	})
}

// P12.9 and P12.16: a book that was worked is among its readings, whatever becomes illegible, and no reading is lost if an answer does.
func TestTrue(t *testing.T) {
	more := 0
	samples(350, 14, func(whole api.Book, dice *rand.Rand) {
		b := answered(tear(dice, whole, pick(dice, 0, 1, 1, 1, 2)), whole.Answers...)
		is := func(lines words) bool {
			return slices.EqualFunc(lines, whole.Lines, func(a, b string) bool { return len(a) == len(b) })
		}
		if !is(b.Lines) {
			// There is a question mark for a digit that there was not.
			return
		}
		all := drafts(b)
		before := readingsOf(all, b.Answers)
		for _, line := range dice.Perm(len(b.Lines)) {
			b = withAnswer(b, line, "?")
			n := fine[int](t, b)(clerk.Count(b))
			if n < len(before) {
				t.Fatalf("%+v: Count = %d, and before %d", b, n, len(before))
			}
			l, e := clerk.Readings(b)
			if e == api.ErrExcess {
				break
			}
			for _, r := range before {
				if !slices.ContainsFunc(l, func(lines words) bool { return slices.Equal(lines, r.lines) }) {
					t.Fatalf("%+v: Readings = %q without %q", b, l, r.lines)
				}
			}
			if !slices.ContainsFunc(l, func(lines words) bool { return slices.Equal(lines, whole.Lines) }) {
				t.Fatalf("%+v: Readings = %q without %q", b, l, whole.Lines)
			}
			if n > len(before) {
				more++
			}
			before = readingsOf(all, b.Answers)
		}
	})
	if more < 100 {
		t.Error(more)
	}
}

// P12.11: if an entry is made void, the files are as if it had been left out.
func TestVoid(t *testing.T) {
	looked := 0
	samples(2000, 15, func(b api.Book, _ *rand.Rand) {
		if len(b.Lines) == api.MaxLines {
			b = withLines(b, b.Lines[:api.MaxLines-1]...)
		}
		for line, text := range b.Lines {
			if !isEntry(text) {
				continue
			}
			made := behind(b, "void "+strconv.Itoa(line))
			left := withLines(b, without(b.Lines, line)...)
			if f, g := filesOf(t, made), filesOf(t, left); !f.same(g) {
				t.Fatalf("%+v: without %d %+v, void %+v", b, line, g, f)
			}
			if l, k := fine[ints](t, b)(clerk.Holds(made)), fine[ints](t, b)(clerk.Holds(left)); !slices.Equal(l, k) {
				t.Fatalf("%+v: without %d %v, void %v", b, line, k, l)
			}
			looked++
		}
	})
	if looked < 2000 {
		t.Error(looked)
	}
}

// P12.12: the entries in effect, alone and in their order, make the same files, and each of them is accepted in its turn.
func TestHolds(t *testing.T) {
	looked := 0
	samples(3000, 16, func(b api.Book, _ *rand.Rand) {
		held := fine[ints](t, b)(clerk.Holds(b))
		f := files{b.Boil, b.Row, b.Saw}
		var alone words
		for _, line := range held {
			if e := f.enter(b.Lines[line]); !isEntry(b.Lines[line]) || e != api.OK {
				t.Fatalf("%+v: Holds = %v, but %d: %d", b, held, line, e)
			}
			alone = append(alone, b.Lines[line])
		}
		if got := filesOf(t, b); !got.same(f) {
			t.Fatalf("%+v: Holds = %v makes %+v, Files = %+v", b, held, f, got)
		}
		other := withLines(b, alone...)
		if got := filesOf(t, other); !got.same(f) || slices.ContainsFunc(fine[words](t, b)(clerk.Work(other)), isError) {
			t.Fatalf("%+v: %q alone makes %+v", b, alone, got)
		}
		looked += len(held)
	})
	if looked < 2000 {
		t.Error(looked)
	}
}

// T8: if the clerk writes down what is found with the glasses that settle a duty, the duty is a single one, that of the sample's true colour.
func TestSettled(t *testing.T) {
	dice := rand.New(rand.NewPCG(17, 12))
	looked, several := 0, 0
	for range 4000 {
		b := withLines(randomBook(dice))
		r := &b.Row
		r.Sights = nil
		// The true colour of each sample, and how each glass fades.
		var colours, fades ints
		for _, s := range r.Samples {
			colours = append(colours, s.Lo+dice.IntN(s.Hi-s.Lo+1))
		}
		for i := range r.Glasses {
			if dice.IntN(2) == 0 {
				r.Glasses[i].Colour, r.Glasses[i].Fade.Lo = r.Steps[dice.IntN(len(r.Steps))]-dice.IntN(2), 0
				r.Glasses[i].Fade.Hi = dice.IntN(2)
			}
			g := r.Glasses[i]
			fades = append(fades, g.Fade.Lo+dice.IntN(g.Fade.Hi-g.Fade.Lo+1))
		}
		found := func(sample, pane, year int) int {
			g := r.Glasses[pane]
			switch colour := max(0, g.Colour-fades[pane]*(year-g.Made)); {
			case colours[sample] > colour:
				return api.Darker
			case colours[sample] < colour:
				return api.Lighter
			}
			return api.Same
		}
		for range dice.IntN(4) {
			s := api.Sight{Sample: dice.IntN(len(colours)), Glass: dice.IntN(len(fades)), Year: 5 + dice.IntN(3)}
			s.Found = found(s.Sample, s.Glass, s.Year)
			r.Sights = append(r.Sights, s)
		}
		sample, year := dice.IntN(len(colours)), 5+dice.IntN(3)
		panes, e := glass.Keep(*r, sample, year)
		if e == api.ErrNothing {
			continue
		}
		if e != api.OK {
			t.Fatalf("%+v: Keep: %d", b, e)
		}
		for _, pane := range panes {
			b = behind(b, lineOf("sight", sample, pane, year, found(sample, pane, year)))
		}
		b = behind(b, lineOf("duty", sample))
		class := 0
		for _, step := range b.Row.Steps {
			if step <= colours[sample] {
				class++
			}
		}
		duty := strconv.Itoa(b.Row.Duties[class])
		want := append(slices.Repeat(words{"ok"}, len(panes)), duty+"-"+duty)
		if l := fine[words](t, b)(clerk.Work(b)); !slices.Equal(l, want) {
			t.Fatalf("%+v: %q, want %q", b, l, want)
		}
		if page := fine[words](t, b)(clerk.Close(b)); page[len(b.Boil.Starts)+sample] != duty+"-"+duty {
			t.Fatalf("%+v: %q, want %q", b, page, duty)
		}
		looked += len(panes)
		if len(panes) > 1 {
			several++
		}
	}
	if looked < 600 || several < 100 {
		t.Error(looked, several)
	}
}

// T9: if the clerk writes down proofs that are right, the times to strike are those of the boil with these proofs, and at each of them the thread is long.
func TestStruck(t *testing.T) {
	dice := rand.New(rand.NewPCG(18, 12))
	struck, more := 0, 0
	for range 3000 {
		b := withLines(randomBook(dice))
		b.Boil.Proofs = nil
		var starts, heats ints
		for _, s := range b.Boil.Starts {
			starts = append(starts, s.Lo+dice.IntN(s.Hi-s.Lo+1))
		}
		for _, s := range b.Boil.Heats {
			heats = append(heats, s.Lo+dice.IntN(s.Hi-s.Lo+1))
		}
		course, e := thread.Course(b.Boil, starts, heats)
		if e != api.OK {
			t.Fatalf("%+v: Course: %d", b, e)
		}
		threadAt := func(pan, time int) int {
			return len(numbers(3, func(n int) bool { return b.Boil.Marks[n] <= course[time][pan] }))
		}
		proved := b.Boil
		for range dice.IntN(api.MaxLines) {
			p := api.Proof{Pan: dice.IntN(len(starts)), Tick: dice.IntN(len(heats) + 1)}
			p.Thread = threadAt(p.Pan, p.Tick)
			proved.Proofs = append(proved.Proofs, p)
			b = behind(b, lineOf("proof", p.Pan, p.Tick, p.Thread))
		}
		pan := dice.IntN(len(starts))
		l := fine[words](t, b)(clerk.Work(behind(b, lineOf("when", pan))))
		times, e := thread.Strike(proved, pan)
		if want := append(slices.Repeat(words{"ok"}, len(b.Lines)), orError(spaced(times), e)); !slices.Equal(l, want) {
			t.Fatalf("%+v: %q, want %q", b, l, want)
		}
		for _, time := range times {
			if threadAt(pan, time) != api.Long || !strings.Contains(l[len(b.Lines)], strconv.Itoa(time)) {
				t.Fatalf("%+v: when %d: %q, but at %d it is %d", b, pan, l, time, threadAt(pan, time))
			}
			struck++
		}
		if before, _ := thread.Strike(b.Boil, pan); len(before) < len(times) {
			more++
		}
		if page := fine[words](t, b)(clerk.Close(b)); page[pan] != l[len(b.Lines)] {
			t.Fatalf("%+v: Close = %q, want %q", b, page, l)
		}
		if f := filesOf(t, b); !slices.Equal(f.boil.Proofs, proved.Proofs) {
			t.Fatalf("%+v: %v, want %v", b, f.boil.Proofs, proved.Proofs)
		}
	}
	if struck < 600 || more < 300 {
		t.Error(struck, more)
	}
}

// T10: wants that the clerk writes down are all taken just if they can all be served, in whatever order they are written.
func TestWanted(t *testing.T) {
	dice := rand.New(rand.NewPCG(19, 12))
	taken, refused := 0, 0
	for range 3000 {
		b := withLines(randomBook(dice))
		if _, _, e := saw.Fewest(b.Saw); e != api.OK {
			// Where not all can be served that are there, nothing is refused for that.
			b.Saw.Wants = nil
		}
		all := copiedSaw(b.Saw)
		var lines words
		for range dice.IntN(api.MaxWants - len(b.Saw.Wants) + 1) {
			w := randomWant(dice)
			w.Amount = min(w.Amount, 8)
			all.Wants = append(all.Wants, w)
			lines = append(lines, lineOf("want", w.Sort, w.Kind, w.Amount, w.Pay))
		}
		_, _, e := saw.Fewest(all)
		if e != api.OK && e != api.ErrNothing {
			t.Fatalf("%+v: %d", all, e)
		}
		for range 4 {
			dice.Shuffle(len(lines), func(i, j int) { lines[i], lines[j] = lines[j], lines[i] })
			b := withLines(b, lines...)
			l := fine[words](t, b)(clerk.Work(b))
			some := slices.Contains(l, "error 9")
			if some != (e != api.OK) || !some && slices.ContainsFunc(l, isError) {
				t.Fatalf("%+v: %q, but all together %d", b, l, e)
			}
			if held := fine[ints](t, b)(clerk.Holds(b)); (len(held) == len(lines)) == some {
				t.Fatalf("%+v: Holds = %v, but all together %d", b, held, e)
			}
		}
		if e == api.OK && len(lines) > 1 {
			taken++
		} else if e != api.OK {
			refused++
		}
	}
	if taken < 300 || refused < 300 {
		t.Error(taken, refused)
	}
}

// T11: if all entries of a book are made void, the files and the page of the month are as if nothing had been written.
func TestVoided(t *testing.T) {
	looked := 0
	samples(3000, 20, func(b api.Book, dice *rand.Rand) {
		entries := numbers(min(len(b.Lines), 3), func(n int) bool { return isEntry(b.Lines[n]) })
		lines := slices.Clone(b.Lines[:min(len(b.Lines), 3)])
		for n := range lines {
			// Other lines that are made void are so already, or none of them can be.
			if word, _ := said(lines[n]); word == "void" && dice.IntN(2) == 0 {
				lines[n] = "best"
			}
		}
		for _, n := range dice.Perm(len(entries)) {
			lines = append(lines, "void "+strconv.Itoa(entries[n]))
		}
		void, empty := withLines(b, lines...), withLines(b)
		if f := filesOf(t, void); !f.same(files{b.Boil, b.Row, b.Saw}) || !f.same(filesOf(t, empty)) {
			t.Fatalf("%+v: Files = %+v", void, f)
		}
		page, want := fine[words](t, b)(clerk.Close(void)), fine[words](t, b)(clerk.Close(empty))
		if !slices.Equal(page, want) || !slices.Equal(page, closed(empty)) {
			t.Fatalf("%+v: Close = %q, want %q", void, page, want)
		}
		if held := fine[ints](t, b)(clerk.Holds(void)); len(held) > 0 {
			t.Fatalf("%+v: Holds = %v", void, held)
		}
		looked += len(entries)
	})
	if looked < 2000 {
		t.Error(looked)
	}
}

// P12.2, P12.5 and R7: books as large as the limits let them be.
func TestLimits(t *testing.T) {
	wide := api.Boil{Starts: slices.Repeat([]api.Span{span(0, api.MaxThick)}, 3), Rates: ints{3, 3, 3}, Marks: ints{20, 40, 60}, Heats: slices.Repeat([]api.Span{span(0, api.MaxHeat)}, api.MaxTicks), Proofs: make(proofs, 6)}
	row := api.Row{Glasses: slices.Repeat([]api.Glass{{Colour: 40, Fade: span(0, 3)}}, 4), Steps: ints{10, 20, 30}, Duties: ints{99, 99, 99, 99}, Samples: []api.Span{span(0, 40), span(0, 40)}, Sights: slices.Repeat(sights{{Glass: 1, Year: 10, Found: api.Lighter}}, 7)}
	cut := api.Saw{Loaves: slices.Repeat([][]int{{9, 9, 9, 9}}, 3), Stock: ints{4, 4, 4}, Kerf: 3, Wants: slices.Repeat(wants{{Sort: api.Crushed, Kind: -1, Amount: 60, Pay: 30}}, 4)}
	b := blind(api.Book{Boil: wide, Row: row, Saw: cut, Lines: words{"proof ? 5 ?", "when 1", "sight 1 3 60 2", "want 1 2 60 30", "best", "duty 1"}})
	all := drafts(b)
	if n, e := clerk.Count(b); n != 100 || e != api.OK {
		t.Error(n, e)
	}
	for line := range b.Lines {
		if v, e := clerk.Verdict(b, line); e != api.OK || v != verdict(all, line) {
			t.Error(line, v, e)
		}
	}
	b = answered(b, "ok", "error 11", "ok", "error 9", "0 1 2 3: 120", "99-99")
	if l, e := clerk.Wrong(b); e != api.OK || !slices.Equal(l, wrong(all, b.Answers)) {
		t.Error(l, e)
	}
	if l, e := clerk.Readings(b); e != api.OK || !slices.EqualFunc(l, linesOf(readingsOf(all, b.Answers)), slices.Equal[words]) {
		t.Error(l, e)
	}
	whole := withLines(b, "proof 0 5 3", "proof 1 5 3", "proof 2 5 3", "void 0", "void 1", "proof 2 5 3")
	if l, e := clerk.Work(whole); e != api.OK || !slices.Equal(l, work(whole, whole.Lines).answers) {
		t.Error(l, e)
	}
	for line := range whole.Lines {
		l, e := clerk.Why(whole, line)
		if want, f := why(whole, line); e != f || !slices.Equal(l, want) {
			t.Error(line, l, e)
		}
	}
}

// P1, R3, R5 and R7: whatever the arguments are.
func TestAnyArguments(t *testing.T) {
	dice := rand.New(rand.NewPCG(21, 12))
	n := func() int {
		return pick(dice, 0, 0, 1, 1, 2, 3, 5, 8, -1, 99, 100, math.MaxInt, math.MinInt)
	}
	right, wrong := 0, map[api.Errno]int{}
	for i := range 3000 {
		b := randomTorn(dice, i%2)
		switch dice.IntN(12) {
		case 0:
			b.Boil.Proofs = append(slices.Clone(b.Boil.Proofs), api.Proof{Pan: n(), Tick: n(), Thread: n()})
		case 1:
			b.Row.Sights = append(slices.Clone(b.Row.Sights), api.Sight{Sample: n(), Glass: n(), Year: n(), Found: n()})
		case 2:
			b.Saw.Wants = append(slices.Clone(b.Saw.Wants), api.Want{Sort: n(), Kind: n(), Amount: n(), Pay: n()})
		case 3:
			b.Boil.Starts = append(slices.Clone(b.Boil.Starts), span(n(), n()))
		case 4:
			b.Lines, b.Answers = append(b.Lines, odd(dice, "proof 1 1 1")), append(b.Answers, "?")
		case 5:
			b.Answers = append(b.Answers, strings.Repeat("?", dice.IntN(60)))[dice.IntN(2):]
		case 6:
			b.Lines = append(b.Lines, string([]byte{byte(dice.IntN(256)), byte(dice.IntN(256))}))
		case 7:
			b = api.Book{Lines: b.Lines, Answers: b.Answers, Saw: b.Saw}
		}
		line, at := n(), n()
		list := answers(b, line, at)
		e := clerk.Check(b)
		for _, a := range list {
			isLine := 0 <= line && line < len(b.Lines)
			due := a.e
			switch {
			case e != api.OK:
				due = e
			case slices.Contains(ofLine, a.name) && !isLine:
				due = api.ErrMissing
			case slices.Contains(ofWhole, a.name) && isTorn(b.Lines):
				due = api.ErrSort
			case slices.Contains(ofWhole, a.name) && a.name != "Why" || a.name == "Count" || a.name == "Wrong":
				due = api.OK
			}
			if a.e != due || !clean(list) {
				t.Fatalf("%+v, %d, %d: %s: %d, want %d", b, line, at, a.name, a.e, due)
			}
		}
		l := api.Line{Verb: n(), Args: ints{n(), n(), n(), n(), n()}[dice.IntN(6):]}
		if text, e := clerk.Write(l); (e == api.OK) != isLine(text) {
			t.Fatalf("%+v: %q %d", l, text, e)
		}
		if e == api.OK {
			right++
		}
		wrong[e]++
	}
	if right < 700 || wrong[api.ErrValue] < 30 || wrong[api.ErrMissing] < 30 || wrong[api.ErrWord] < 30 || wrong[api.ErrConflict] < 100 || wrong[api.ErrExcess] < 50 || wrong[api.ErrLength] < 5 || wrong[api.ErrShortage] < 50 {
		t.Error(right, wrong)
	}
}

// roomy returns a list behind which there is room in which something stands.
func roomy[T any](list []T, something T) []T {
	return append(slices.Clone(list), something)[:len(list)]
}

// whole returns a list with what stands behind it.
func whole[T any](list []T) []T {
	return slices.Clone(list[:len(list)+1])
}

// R2, R4 and R6: no call changes an argument, nor memory behind it, and all calls of the same say the same, side by side too.
func TestNothingKept(t *testing.T) {
	dice := rand.New(rand.NewPCG(22, 12))
	for i := range 300 {
		b := randomTorn(dice, i%3%2)
		b.Boil.Proofs = roomy(b.Boil.Proofs, api.Proof{Pan: 7})
		b.Boil.Starts, b.Boil.Heats = roomy(b.Boil.Starts, span(7, 7)), roomy(b.Boil.Heats, span(7, 7))
		b.Row.Sights, b.Row.Samples = roomy(b.Row.Sights, api.Sight{Glass: 7}), roomy(b.Row.Samples, span(7, 7))
		b.Saw.Wants, b.Saw.Stock = roomy(b.Saw.Wants, api.Want{Pay: 7}), roomy(b.Saw.Stock, 7)
		b.Lines, b.Answers = roomy(b.Lines, "seven"), roomy(b.Answers, "seven")
		all := func() api.Book {
			c := copied(b)
			c.Boil.Proofs, c.Boil.Starts, c.Boil.Heats = whole(b.Boil.Proofs), whole(b.Boil.Starts), whole(b.Boil.Heats)
			c.Row.Sights, c.Row.Samples = whole(b.Row.Sights), whole(b.Row.Samples)
			c.Saw.Wants, c.Saw.Stock = whole(b.Saw.Wants), whole(b.Saw.Stock)
			c.Lines, c.Answers = whole(b.Lines), whole(b.Answers)
			return c
		}
		before := all()
		line, at := dice.IntN(api.MaxLines), 5+dice.IntN(6)
		want := answers(b, line, at)
		var calls sync.WaitGroup
		for range 4 {
			calls.Go(func() {
				if got := answers(b, line, at); !slices.EqualFunc(got, want, sameAnswer) {
					t.Errorf("%+v: %v, then %v", b, want, got)
				}
			})
		}
		calls.Wait()
		if after := all(); !reflect.DeepEqual(before, after) {
			t.Fatalf("%+v became %+v", before, after)
		}
	}
	// Nil and empty lists mean the same.
	none, empty := book(), answered(book())
	none.Lines, none.Answers, empty.Lines, empty.Answers = nil, nil, words{}, words{}
	none.Boil.Proofs, none.Row.Sights, none.Saw.Wants = nil, nil, nil
	empty.Boil.Proofs, empty.Row.Sights, empty.Saw.Wants = proofs{}, sights{}, wants{}
	if a, b := answers(none, 0, 0), answers(empty, 0, 0); !slices.EqualFunc(a[2:], b[2:], sameAnswer) || !filesOf(t, none).same(filesOf(t, empty)) {
		t.Error(a, b)
	}
}

// The results are new memory: who writes into them changes neither an argument nor another result.
func TestNewMemory(t *testing.T) {
	b := exampleX()
	for range 2 {
		l := fine[[]words](t, b)(clerk.Readings(b))
		for i := range l {
			for k := range l[i] {
				l[i][k] = strconv.Itoa(i)
			}
		}
		if l[0][0] != "0" || !reflect.DeepEqual(b, exampleX()) {
			t.Fatal(l)
		}
	}
	for _, b := range []api.Book{exampleL(), book(), exampleM()} {
		before := copied(b)
		f := filesOf(t, b)
		for _, list := range []ints{f.boil.Rates, f.boil.Marks, f.row.Steps, f.row.Duties, f.saw.Stock, f.saw.Loaves[0]} {
			list[0] = 77
		}
		f.boil.Starts[0], f.boil.Heats[0], f.boil.Proofs[0] = span(7, 7), span(7, 7), api.Proof{Pan: 7}
		f.row.Glasses[0], f.row.Samples[0], f.row.Sights[0] = api.Glass{}, span(7, 7), api.Sight{Glass: 7}
		f.saw.Wants[0], f.saw.Loaves[1] = api.Want{Pay: 7}, nil
		if !reflect.DeepEqual(b, before) {
			t.Errorf("%+v became %+v", before, b)
		}
	}
}
