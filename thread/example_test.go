package thread_test

import (
	"fmt"

	"muscovado/api"
	"muscovado/thread"
)

// The example of README.md.
func ExampleStrike() {
	b := api.Boil{
		Starts: []api.Span{{Lo: 8, Hi: 8}}, // a pan whose thickness is known
		Rates:  []int{2},                   // the fire makes it thicker by twice its heat
		Marks:  []int{8, 12, 16},           // short, long and burnt from these on
		Heats:  []api.Span{{Lo: 1, Hi: 2}, {Lo: 2, Hi: 2}},
		Proofs: []api.Proof{{Pan: 0, Tick: 1, Thread: api.Short}},
	}
	times, e := thread.Strike(b, 0)
	fmt.Println(times, e == api.OK)
	// Output: [2] true
}
