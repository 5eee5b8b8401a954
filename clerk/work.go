package clerk

import (
	"errors"
	"slices"

	"muscovado/api"
)

// hands are how lines are done, a method for each verb: each one is answered, or there is an error.
type hands struct {
	proof func(proof) (string, error)
	sight func(sight) (string, error)
	want  func(want) (string, error)
	void  func(void) (string, error)
	when  func(when) (string, error)
	duty  func(duty) (string, error)
	best  func(best) (string, error)
}

// clerk is who works over the files of a book.
type clerk struct {
	api.Book
	hands hands
	files files
	lines []verb
	turn  int // the line whose turn it is
	voids set // the lines that are void now
	// The answers to the lines, and those of them that are errors.
	page    []string
	refused set
}

// hire returns a clerk for a valid book, who has worked nothing yet.
func hire(b api.Book) *clerk {
	c := &clerk{Book: b}
	f := &c.files
	c.hands = hands{f.enterProof, f.enterSight, f.enterWant, c.makeVoid, f.sayWhen, f.sayDuty, f.sayBest}
	return c
}

// worked returns a clerk who has worked the book, unless it or another argument is wrong, or a line is torn.
func worked(b api.Book, arguments ...api.Errno) (*clerk, api.Errno) {
	if e := first(Check(b), first(arguments...)); e != api.OK {
		return nil, e
	}
	lines, whole := verbsOf(b.Lines)
	if !whole {
		return nil, api.ErrSort
	}
	c := hire(b)
	c.work(lines)
	return c, api.OK
}

// work answers lines, one by one. The page is used again, so that what was on it has to be copied before.
func (c *clerk) work(lines []verb) {
	clear(c.page)
	c.page, c.refused = c.page[:0], 0
	c.lines, c.turn, c.voids = lines, 0, 0
	c.remake()
	for line, v := range lines {
		c.turn = line
		c.write(c.do(line, v))
	}
}

// write writes the answer to the line whose turn it is.
func (c *clerk) write(answer string, err error) {
	var r refusal
	if errors.As(err, &r) {
		answer = r.Error()
		c.refused = c.refused.with(c.turn)
	}
	c.page = append(c.page, answer)
}

// remake makes the files before the line whose turn it is.
func (c *clerk) remake() {
	c.files = files{boil: c.Boil, row: c.Row, saw: c.Saw}
	for line, v := range c.lines[:c.turn] {
		if v.isEntry() && !c.voids.has(line) {
			c.do(line, v)
		}
	}
}

// do does what a line says.
func (c *clerk) do(line int, v verb) (string, error) {
	answer, err := c.answer(v)
	if err == nil && v.isEntry() {
		c.files.held = c.files.held.with(line)
	}
	return answer, err
}

func (c *clerk) answer(v verb) (string, error) {
	switch v := v.(type) {
	case proof:
		return c.hands.proof(v)
	case sight:
		return c.hands.sight(v)
	case want:
		return c.hands.want(v)
	case void:
		return c.hands.void(v)
	case when:
		return c.hands.when(v)
	case duty:
		return c.hands.duty(v)
	}
	return c.hands.best(best{})
}

// makeVoid makes a line void. No other line changes what the files are made of, so they are made again here alone.
func (c *clerk) makeVoid(v void) (string, error) {
	switch {
	case v.line >= c.turn:
		return "", refusal{api.ErrMissing}
	case !c.lines[v.line].isEntry():
		return "", refusal{api.ErrSort}
	case c.voids.has(v.line):
		return "", refusal{api.ErrAgain}
	}
	c.voids = c.voids.with(v.line)
	c.remake()
	return "ok", nil
}

// why returns the fewest lines before one, without which its answer is no error, if there are some.
func (c *clerk) why(line int) (out set, some bool) {
	given := c.lines
	return fewest(lists(line), func(line int, out set) bool {
		c.work(without(given, out))
		return !c.refused.has(line)
	}, line)
}

// changed returns the other lines whose answers are different without one.
func (c *clerk) changed(line int) set {
	before := make([]string, len(c.page))
	copy(before, c.page)
	c.work(without(c.lines, set(0).with(line)))
	var changed set
	for other, answer := range c.page {
		if other != line && answer != before[other] {
			changed = changed.with(other)
		}
	}
	return changed
}

// differing returns the lines whose answers are legible in the book, and others than those on the page.
func (c *clerk) differing() set {
	var differing set
	for line, answer := range c.Answers {
		if answer != api.Torn && answer != c.page[line] {
			differing = differing.with(line)
		}
	}
	return differing
}

// closing returns the page with which a month is closed: what would be answered behind the last line.
func (c *clerk) closing() []string {
	n := len(c.lines)
	// The capacity is cut so that nothing is written behind the lines that were given.
	lines := c.lines[:n:n]
	for pan := range c.Boil.Starts {
		lines = append(lines, when{pan: pan})
	}
	for sample := range c.Row.Samples {
		lines = append(lines, duty{sample: sample})
	}
	c.work(append(lines, best{}))
	return slices.Clone(c.page[n:])
}
