package clerk_test

import (
	"math/rand/v2"
	"regexp"
	"slices"
	"strconv"
	"strings"

	"muscovado/api"
	"muscovado/glass"
	"muscovado/saw"
	"muscovado/thread"
)

// The reference knows lines by a regular expression, makes the files anew before each line, out of the entries that are not void then, goes through all digits and all lists, as the chapter's terms are worded, and knows nothing of how package clerk works. It asks the layers 2, 6 and 8, as the chapter does.

type (
	ints   = []int
	words  = []string
	proofs = []api.Proof
	sights = []api.Sight
	wants  = []api.Want
)

func span(lo, hi int) api.Span {
	return api.Span{Lo: lo, Hi: hi}
}

// book has the files S of chapter 2, G of chapter 6 and S of chapter 8, some lines, and illegible answers.
func book(lines ...string) api.Book {
	return blind(api.Book{Boil: exampleBoil(), Row: exampleRow(), Saw: exampleSaw(), Lines: lines})
}

func exampleBoil() api.Boil {
	return api.Boil{
		Starts: []api.Span{span(4, 6), span(8, 8)},
		Rates:  ints{1, 2},
		Marks:  ints{8, 12, 16},
		Heats:  []api.Span{span(1, 2), span(2, 2), span(1, 3)},
		Proofs: proofs{{Pan: 0, Tick: 2, Thread: api.Short}},
	}
}

func exampleRow() api.Row {
	return api.Row{
		Glasses: []api.Glass{{Made: 0, Colour: 20, Fade: span(0, 1)}, {Made: 0, Colour: 30, Fade: span(1, 2)}, {Made: 5, Colour: 12}},
		Steps:   ints{10, 18},
		Duties:  ints{3, 5, 8},
		Samples: []api.Span{span(8, 24), span(5, 15)},
		Sights:  sights{{Sample: 0, Glass: 0, Year: 4, Found: api.Lighter}, {Sample: 0, Glass: 2, Year: 5, Found: api.Darker}},
	}
}

func exampleSaw() api.Saw {
	return api.Saw{
		Loaves: [][]int{{5, 3, 2}, {4, 2}},
		Stock:  ints{2, 2},
		Kerf:   1,
		Wants:  wants{{Sort: api.Whole, Pay: 12}, {Sort: api.Top, Amount: 1, Pay: 6}, {Sort: api.Crushed, Kind: -1, Amount: 9, Pay: 9}, {Sort: api.Crushed, Kind: 1, Amount: 5, Pay: 5}},
	}
}

// The examples L, T, X and M of the chapter.
func exampleL() api.Book {
	return answered(book("when 1", "proof 1 1 1", "when 1", "proof 1 0 2", "void 1", "when 1"), "error 11", "ok", "2", "error 9", "ok", "error 11")
}

func exampleT() api.Book {
	return withLine(exampleL(), 1, "proof 1 ? 1")
}

func exampleX() api.Book {
	return withAnswer(exampleT(), 2, api.Torn)
}

func exampleM() api.Book {
	return book("want 0 0 0 2", "duty 0", "sight 0 0 5 1", "duty 0", "best")
}

// copied returns a book in memory of its own.
func copied(b api.Book) api.Book {
	b.Boil = copiedBoil(b.Boil)
	b.Row = copiedRow(b.Row)
	b.Saw = copiedSaw(b.Saw)
	b.Lines, b.Answers = slices.Clone(b.Lines), slices.Clone(b.Answers)
	return b
}

func copiedBoil(b api.Boil) api.Boil {
	b.Starts, b.Rates, b.Marks, b.Heats, b.Proofs = slices.Clone(b.Starts), slices.Clone(b.Rates), slices.Clone(b.Marks), slices.Clone(b.Heats), slices.Clone(b.Proofs)
	return b
}

func copiedRow(r api.Row) api.Row {
	r.Glasses, r.Steps, r.Duties, r.Samples, r.Sights = slices.Clone(r.Glasses), slices.Clone(r.Steps), slices.Clone(r.Duties), slices.Clone(r.Samples), slices.Clone(r.Sights)
	return r
}

func copiedSaw(s api.Saw) api.Saw {
	s.Loaves, s.Stock, s.Wants = slices.Clone(s.Loaves), slices.Clone(s.Stock), slices.Clone(s.Wants)
	for kind, loaf := range s.Loaves {
		s.Loaves[kind] = slices.Clone(loaf)
	}
	return s
}

// but returns a book with a change, and nothing else.
func but(b api.Book, change func(b *api.Book)) api.Book {
	b = copied(b)
	change(&b)
	return b
}

func answered(b api.Book, answers ...string) api.Book {
	return but(b, func(b *api.Book) { b.Answers = answers })
}

// blind returns a book all of whose answers are illegible.
func blind(b api.Book) api.Book {
	return answered(b, slices.Repeat(words{api.Torn}, len(b.Lines))...)
}

func withLine(b api.Book, line int, text string) api.Book {
	return but(b, func(b *api.Book) { b.Lines[line] = text })
}

func withAnswer(b api.Book, line int, answer string) api.Book {
	return but(b, func(b *api.Book) { b.Answers[line] = answer })
}

// withLines returns a book with other lines, and illegible answers.
func withLines(b api.Book, lines ...string) api.Book {
	return blind(but(b, func(b *api.Book) { b.Lines = slices.Clone(lines) }))
}

// behind returns a book with lines more, and illegible answers.
func behind(b api.Book, lines ...string) api.Book {
	return withLines(b, slices.Concat(b.Lines, lines)...)
}

// form is how a line looks.
var form = regexp.MustCompile(strings.ReplaceAll(`^(proof( N){3}|sight( N){4}|want N (N|any)( N){2}|(void|when|duty) N|best)$`, "N", `(0|[1-9][0-9]?)`))

func isLine(text string) bool {
	return form.MatchString(text)
}

func isTorn(lines words) bool {
	return strings.Contains(strings.Join(lines, ""), "?")
}

// said returns the word and the numbers of a line.
func said(line string) (word string, n ints) {
	list := strings.Split(line, " ")
	for _, x := range list[1:] {
		number, err := strconv.Atoi(x)
		if err != nil {
			number = -1
		}
		n = append(n, number)
	}
	return list[0], n
}

func isEntry(line string) bool {
	word, _ := said(line)
	return word == "proof" || word == "sight" || word == "want"
}

// files are a boil, a row and a saw.
type files struct {
	boil api.Boil
	row  api.Row
	saw  api.Saw
}

// enter does what an entry says, or nothing if there is an error.
func (f *files) enter(line string) (e api.Errno) {
	switch word, n := said(line); word {
	case "proof":
		more, e := thread.Add(f.boil, api.Proof{Pan: n[0], Tick: n[1], Thread: n[2]})
		if e == api.OK {
			f.boil = more
		}
		return e
	case "sight":
		more, e := glass.Add(f.row, api.Sight{Sample: n[0], Glass: n[1], Year: n[2], Found: n[3]})
		if e == api.OK {
			f.row = more
		}
		return e
	default:
		more, e := saw.Add(f.saw, api.Want{Sort: n[0], Kind: n[1], Amount: n[2], Pay: n[3]})
		if e == api.OK {
			f.saw = more
		}
		return e
	}
}

// asked returns what is answered to a line that is neither an entry nor makes one void.
func (f files) asked(line string) string {
	switch word, n := said(line); word {
	case "when":
		times, e := thread.Strike(f.boil, n[0])
		return orError(spaced(times), e)
	case "duty":
		d, e := glass.Duty(f.row, n[0])
		return orError(strconv.Itoa(d.Lo)+"-"+strconv.Itoa(d.Hi), e)
	}
	l, pay, e := saw.Best(f.saw)
	return orError(spaced(l)+": "+strconv.Itoa(pay), e)
}

func orError(answer string, e api.Errno) string {
	if e != api.OK {
		return "error " + strconv.Itoa(int(e))
	}
	return answer
}

func spaced(list ints) string {
	var texts words
	for _, n := range list {
		texts = append(texts, strconv.Itoa(n))
	}
	return strings.Join(texts, " ")
}

// made returns the files that some lines make, and the entries that have no error then.
func made(b api.Book, lines words, void map[int]bool) (f files, held ints) {
	f = files{b.Boil, b.Row, b.Saw}
	for i, line := range lines {
		if isEntry(line) && !void[i] && f.enter(line) == api.OK {
			held = append(held, i)
		}
	}
	return f, held
}

// outcome is what becomes of the files of a book with some lines.
type outcome struct {
	files
	answers words
	held    ints
}

func work(b api.Book, lines words) (o outcome) {
	void := map[int]bool{}
	for i, line := range lines {
		f, _ := made(b, lines[:i], void)
		answer := ""
		if word, n := said(line); word == "void" {
			answer = orError("ok", makeVoid(lines, i, n[0], void))
		} else if isEntry(line) {
			answer = orError("ok", f.enter(line))
		} else {
			answer = f.asked(line)
		}
		o.answers = append(o.answers, answer)
	}
	o.files, o.held = made(b, lines, void)
	return o
}

func makeVoid(lines words, now, line int, void map[int]bool) api.Errno {
	switch {
	case line >= now:
		return api.ErrMissing
	case !isEntry(lines[line]):
		return api.ErrSort
	case void[line]:
		return api.ErrAgain
	}
	void[line] = true
	return api.OK
}

func isError(answer string) bool {
	return strings.HasPrefix(answer, "error ")
}

// numbers returns all numbers below n that are as asked.
func numbers(n int, is func(int) bool) (list ints) {
	for i := range n {
		if is(i) {
			list = append(list, i)
		}
	}
	return list
}

// lists returns all ascending lists of numbers below n, in the order in which the fewest is looked for: the shorter ones first, then by their first difference.
func lists(n int) []ints {
	all := []ints{{}}
	for from := 0; from < len(all); from++ {
		next := 0
		if k := len(all[from]); k > 0 {
			next = all[from][k-1] + 1
		}
		for ; next < n; next++ {
			all = append(all, slices.Concat(all[from], ints{next}))
		}
	}
	return all
}

// without returns lines in place of some of which stands the line best.
func without(lines words, out ...int) words {
	left := slices.Clone(lines)
	for _, n := range out {
		left[n] = "best"
	}
	return left
}

// why returns the first list of lines before one without which its answer is no error.
func why(b api.Book, line int) (ints, api.Errno) {
	if !isError(work(b, b.Lines).answers[line]) {
		return nil, api.ErrSort
	}
	for _, out := range lists(line) {
		if !isError(work(b, without(b.Lines, out...)).answers[line]) {
			return out, api.OK
		}
	}
	return nil, api.ErrNothing
}

// changed returns the other lines whose answers are different without one.
func changed(b api.Book, line int) ints {
	now, then := work(b, b.Lines).answers, work(b, without(b.Lines, line)).answers
	return numbers(len(now), func(n int) bool { return n != line && now[n] != then[n] })
}

// closing returns the lines of the page with which a month is closed.
func closing(b api.Book) (lines words) {
	for pan := range b.Boil.Starts {
		lines = append(lines, "when "+strconv.Itoa(pan))
	}
	for sample := range b.Row.Samples {
		lines = append(lines, "duty "+strconv.Itoa(sample))
	}
	return append(lines, "best")
}

func closed(b api.Book) (page words) {
	f := work(b, b.Lines).files
	for _, line := range closing(b) {
		page = append(page, f.asked(line))
	}
	return page
}

// differ returns the lines whose answers are legible, and others than those that were found.
func differ(answers, found words) ints {
	return numbers(len(answers), func(n int) bool { return answers[n] != "?" && answers[n] != found[n] })
}

// fillings returns all lines with digits in place of all question marks, the first of which is replaced by 0 first.
func fillings(lines words) (all []words) {
	for i, line := range lines {
		if !strings.Contains(line, "?") {
			continue
		}
		for digit := range 10 {
			next := slices.Clone(lines)
			next[i] = strings.Replace(line, "?", strconv.Itoa(digit), 1)
			all = append(all, fillings(next)...)
		}
		return all
	}
	return []words{lines}
}

// reading is a filling of which all are lines, and what becomes of the files with it.
type reading struct {
	lines words
	outcome
}

// drafts returns all fillings of which all are lines, whatever the answers to them are.
func drafts(b api.Book) (all []reading) {
	for _, lines := range fillings(b.Lines) {
		if !slices.ContainsFunc(lines, func(text string) bool { return !isLine(text) }) {
			all = append(all, reading{lines, work(b, lines)})
		}
	}
	return all
}

// fits returns whether what is legible of some answers was found.
func (r reading) fits(answers words) bool {
	return len(differ(answers, r.answers)) == 0
}

// readingsOf returns the drafts that fit.
func readingsOf(all []reading, answers words) (fit []reading) {
	for _, r := range all {
		if r.fits(answers) {
			fit = append(fit, r)
		}
	}
	return fit
}

// illegible returns answers of which some more are illegible.
func illegible(answers words, more ...int) words {
	left := slices.Clone(answers)
	for _, n := range more {
		left[n] = "?"
	}
	return left
}

// wrong returns the first list of lines with whose answers illegible some draft fits.
func wrong(all []reading, answers words) ints {
	for _, list := range lists(len(answers)) {
		if len(readingsOf(all, illegible(answers, list...))) > 0 {
			return list
		}
	}
	panic("no reading without any answer")
}

// digits returns what replaces a byte of a line in some reading.
func digits(all []reading, line, at int) ints {
	return numbers(10, func(n int) bool {
		return slices.ContainsFunc(all, func(r reading) bool { return int(r.lines[line][at]-'0') == n })
	})
}

func verdict(all []reading, line int) int {
	n := 0
	for _, r := range all {
		if slices.Contains(r.held, line) {
			n++
		}
	}
	switch n {
	case len(all):
		return api.Yes
	case 0:
		return api.No
	}
	return api.Open
}

// pick returns one of some things.
func pick[T any](dice *rand.Rand, of ...T) T {
	return of[dice.IntN(len(of))]
}

// randomBoil returns a small boil; in some there is no truth, and some have room for few proofs more.
func randomBoil(dice *rand.Rand) api.Boil {
	b := exampleBoil()
	for pan := range b.Starts {
		lo := 2 + dice.IntN(8)
		b.Starts[pan] = span(lo, lo+dice.IntN(pick(dice, 1, 3, 9)))
	}
	if dice.IntN(3) == 0 {
		b.Starts, b.Rates = append(b.Starts, span(5, 9)), append(b.Rates, 1)
	}
	if dice.IntN(3) == 0 {
		b.Heats = b.Heats[:1+dice.IntN(2)]
	}
	b.Marks = ints{7 + dice.IntN(3), 11 + dice.IntN(3), 15 + dice.IntN(3)}
	b.Proofs = nil
	for range pick(dice, 0, 0, 1, 2, 7, 8, 12, 16) {
		p := api.Proof{Pan: dice.IntN(len(b.Starts)), Tick: dice.IntN(len(b.Heats) + 1), Thread: dice.IntN(4)}
		if more, e := thread.Add(b, p); e == api.OK {
			b = more
		} else if dice.IntN(40) == 0 && len(b.Proofs) < api.MaxProofs {
			b.Proofs = append(b.Proofs, p)
		}
	}
	return b
}

// randomRow returns a small row, as randomBoil does a boil.
func randomRow(dice *rand.Rand) api.Row {
	r := exampleRow()
	if dice.IntN(2) == 0 {
		r.Glasses = append(r.Glasses, api.Glass{Made: 5, Colour: 18})
	}
	if dice.IntN(3) == 0 {
		r.Samples = r.Samples[:1]
	}
	if dice.IntN(3) == 0 {
		r.Duties = ints{dice.IntN(20), dice.IntN(20), dice.IntN(20)}
	}
	r.Sights = nil
	for range pick(dice, 0, 0, 1, 2, 7, 8, 12) {
		s := api.Sight{Sample: dice.IntN(len(r.Samples)), Glass: dice.IntN(len(r.Glasses)), Year: 5 + dice.IntN(3), Found: dice.IntN(3)}
		if more, e := glass.Add(r, s); e == api.OK {
			r = more
		} else if dice.IntN(40) == 0 && len(r.Sights) < api.MaxSights {
			r.Sights = append(r.Sights, s)
		}
	}
	return r
}

func randomWant(dice *rand.Rand) api.Want {
	w := api.Want{Sort: dice.IntN(3), Kind: dice.IntN(2), Pay: dice.IntN(api.MaxPrice + 1)}
	switch w.Sort {
	case api.Crushed:
		w.Kind -= dice.IntN(w.Kind + 2)
		w.Amount = 1 + dice.IntN(pick(dice, 5, 15))
	case api.Top:
		w.Amount = 1
	}
	return w
}

func randomSaw(dice *rand.Rand) api.Saw {
	s := exampleSaw()
	s.Stock = ints{dice.IntN(4), dice.IntN(4)}
	s.Wants = nil
	for range pick(dice, 0, 0, 1, 2, 3, 5) {
		w := randomWant(dice)
		if more, e := saw.Add(s, w); e == api.OK {
			s = more
		} else if dice.IntN(10) == 0 && len(s.Wants) < api.MaxWants {
			s.Wants = append(s.Wants, w)
		}
	}
	return s
}

func lineOf(word string, n ...int) string {
	return strings.ReplaceAll(word+" "+spaced(n), "-1", "any")
}

// off returns a number; seldom one that is too great.
func off(dice *rand.Rand, n int) int {
	if dice.IntN(15) == 0 {
		return pick(dice, n, n+1, 10, 99)
	}
	return dice.IntN(n)
}

// theme is what most lines of a book are about, so that they contradict each other, and it matters which of them are void. Many of its entries are one of two.
type theme struct {
	entries, pan, tick, sample int
	two                        [2]string
}

func randomTheme(dice *rand.Rand, b api.Book) theme {
	x := theme{entries: dice.IntN(4), pan: dice.IntN(len(b.Boil.Starts)), tick: dice.IntN(len(b.Boil.Heats) + 1), sample: dice.IntN(len(b.Row.Samples))}
	x.two = [2]string{x.entry(dice, b), x.entry(dice, b)}
	if x.entries == 0 {
		x.two = [2]string{lineOf("proof", x.pan, x.tick, api.Short), lineOf("proof", x.pan, x.tick, api.Long)}
	}
	return x
}

// entry returns one about the theme.
func (x theme) entry(dice *rand.Rand, b api.Book) string {
	switch x.entries {
	case 0:
		return lineOf("proof", x.pan, pick(dice, x.tick, dice.IntN(len(b.Boil.Heats)+1)), pick(dice, 0, 1, 1, 2, 2, 3))
	case 1:
		return lineOf("sight", x.sample, dice.IntN(len(b.Row.Glasses)), pick(dice, 5, 6), pick(dice, 0, 0, 1, 2, 2))
	case 2:
		w := randomWant(dice)
		return lineOf("want", w.Sort, w.Kind, w.Amount, w.Pay)
	}
	return anyEntry(dice, b)
}

// clear leaves what the theme is about to the lines, in most books.
func (x theme) clear(dice *rand.Rand, b *api.Book) {
	if dice.IntN(4) == 0 {
		return
	}
	switch x.entries {
	case 0:
		b.Boil.Proofs = nil
	case 1:
		b.Row.Sights = nil
	case 2:
		b.Saw.Wants, b.Saw.Stock = nil, ints{1 + dice.IntN(2), dice.IntN(3)}
	}
}

// anyEntry returns one about anything; seldom about what there is not.
func anyEntry(dice *rand.Rand, b api.Book) string {
	switch dice.IntN(4) {
	case 0, 1:
		return lineOf("proof", off(dice, len(b.Boil.Starts)), off(dice, len(b.Boil.Heats)+1), off(dice, 4))
	case 2:
		return lineOf("sight", off(dice, len(b.Row.Samples)), off(dice, len(b.Row.Glasses)), pick(dice, 4, 5, 6, 10, 60, 61), off(dice, 3))
	}
	if dice.IntN(4) == 0 {
		return lineOf("want", off(dice, 3), pick(dice, -1, 0, 1, 2), pick(dice, 0, 1, 60, 61), pick(dice, 0, 30, 31))
	}
	w := randomWant(dice)
	return lineOf("want", w.Sort, w.Kind, w.Amount, w.Pay)
}

// line returns the line with a number.
func (x theme) line(dice *rand.Rand, b api.Book, number int) string {
	switch dice.IntN(16) {
	case 0, 1, 2, 3:
		return pick(dice, x.two[:]...)
	case 4, 5, 6:
		return x.entry(dice, b)
	case 7, 8:
		return anyEntry(dice, b)
	case 9, 10, 11:
		if number > 0 && dice.IntN(10) > 0 {
			return lineOf("void", dice.IntN(number))
		}
		return lineOf("void", pick(dice, number, 0, 9, 10, 99))
	case 12, 13:
		return lineOf("when", pick(dice, x.pan, off(dice, len(b.Boil.Starts))))
	case 14:
		return lineOf("duty", pick(dice, x.sample, off(dice, len(b.Row.Samples))))
	}
	return "best"
}

func randomLine(dice *rand.Rand, b api.Book, number int) string {
	return randomTheme(dice, b).line(dice, b, number)
}

// tangled returns lines of which the first ones contradict each other, and one of these is made void: what was refused is in effect then, or the other way round.
func (x theme) tangled(dice *rand.Rand, b api.Book) (lines words) {
	for range 3 {
		lines = append(lines, pick(dice, x.two[0], x.two[1], x.entry(dice, b)))
	}
	lines = append(lines, lineOf("void", dice.IntN(2)), x.line(dice, b, 4), x.line(dice, b, 5))
	if dice.IntN(2) == 0 {
		lines[5] = pick(dice, lineOf("when", x.pan), lineOf("duty", x.sample), "best")
	}
	return lines
}

// randomBook returns a book that is whole, with the answers that are right.
func randomBook(dice *rand.Rand) api.Book {
	b := api.Book{Boil: randomBoil(dice), Row: randomRow(dice), Saw: randomSaw(dice)}
	x := randomTheme(dice, b)
	x.clear(dice, &b)
	if dice.IntN(3) == 0 {
		b.Lines = x.tangled(dice, b)
	} else {
		for number := range pick(dice, 0, 1, 2, 3, 4, 5, 5, 6, 6, 6, 6, 6) {
			b.Lines = append(b.Lines, x.line(dice, b, number))
		}
	}
	b.Answers = work(b, b.Lines).answers
	return b
}

// tear returns a book in which some digits are replaced by question marks; seldom by two of them, as if there had been another digit.
func tear(dice *rand.Rand, b api.Book, marks int) api.Book {
	for range marks {
		var places [][2]int
		for line, text := range b.Lines {
			for at := range len(text) {
				if '0' <= text[at] && text[at] <= '9' {
					places = append(places, [2]int{line, at})
				}
			}
		}
		if len(places) == 0 {
			return b
		}
		p := pick(dice, places...)
		text := b.Lines[p[0]]
		b = withLine(b, p[0], text[:p[1]]+"?"+text[p[1]+1:])
	}
	for line, text := range b.Lines {
		if longer := strings.Replace(text, "?", "??", 1); marks == 1 && dice.IntN(12) == 0 && canBeLine(longer) {
			b = withLine(b, line, longer)
		}
	}
	return b
}

// canBeLine returns whether a text is a line with some digits in place of the question marks.
func canBeLine(text string) bool {
	return slices.ContainsFunc(fillings(words{text}), func(lines words) bool { return isLine(lines[0]) })
}

// randomTorn returns a book with at most so many torn digits, some of whose answers are illegible, and seldom some wrong.
func randomTorn(dice *rand.Rand, marks int) api.Book {
	b := tear(dice, randomBook(dice), marks)
	blur := pick(dice, 2, 3, 6, 100)
	for line := range b.Lines {
		if dice.IntN(blur) == 0 {
			b.Answers[line] = "?"
		} else if dice.IntN(14) == 0 {
			b.Answers[line] = pick(dice, "ok", "error 9", "error 3", "error 11", "2", "5-8", "", "ok ", "??", b.Answers[dice.IntN(line+1)])
		}
	}
	return b
}

// samples calls look with many books that are whole.
func samples(n int, seed uint64, look func(b api.Book, dice *rand.Rand)) {
	dice := rand.New(rand.NewPCG(seed, 12))
	for range n {
		look(randomBook(dice), dice)
	}
}

// tornSamples calls look with many books, most of which are torn, and with all their drafts.
func tornSamples(n int, seed uint64, look func(b api.Book, all []reading, dice *rand.Rand)) {
	dice := rand.New(rand.NewPCG(seed, 12))
	for i := range n {
		marks := pick(dice, 0, 1, 1, 1)
		if i%8 == 0 {
			marks = 2
		}
		b := randomTorn(dice, marks)
		look(b, drafts(b), dice)
	}
}
