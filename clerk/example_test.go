package clerk_test

import (
	"fmt"

	"muscovado/api"
	"muscovado/clerk"
)

// The example of README.md.
func ExampleOnly() {
	b := api.Book{
		Boil: api.Boil{
			Starts: []api.Span{{Lo: 8, Hi: 8}},
			Rates:  []int{2},
			Marks:  []int{8, 12, 16},
			Heats:  []api.Span{{Lo: 1, Hi: 2}, {Lo: 2, Hi: 2}},
		},
		Row: api.Row{
			Glasses: []api.Glass{{Made: 0, Colour: 20}},
			Steps:   []int{10},
			Duties:  []int{3, 5},
			Samples: []api.Span{{Lo: 8, Hi: 24}},
		},
		Saw: api.Saw{
			Loaves: [][]int{{5, 3, 2}},
			Stock:  []int{2},
		},
		Lines: []string{
			"proof 0 1 ?", // the thread of the pan 0 at the time 1 is illegible
			"when 0",
			"want 1 any 9 4", // 9 pounds of crushed sugar
			"void 0",
			"when 0",
		},
		Answers: []string{"ok", "2", "?", "ok", "error 11"},
	}
	lines, e := clerk.Only(b)
	fmt.Println(lines[0], e == api.OK)
	b.Lines = lines
	answers, e := clerk.Work(b)
	fmt.Println(answers[2], e == api.OK)
	entries, e := clerk.Holds(b)
	fmt.Println(entries, e == api.OK)
	others, e := clerk.Change(b, 3)
	fmt.Println(others, e == api.OK)
	page, e := clerk.Close(b)
	fmt.Println(page, e == api.OK)
	// Output:
	// proof 0 1 1 true
	// ok true
	// [2] true
	// [4] true
	// [error 11 3-5 0: 4] true
}
