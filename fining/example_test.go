package fining_test

import (
	"fmt"

	"muscovado/api"
	"muscovado/fining"
)

// The example of README.md.
func ExampleBoth() {
	agents := []api.Agent{
		{Needs: 1, Takes: 1, Leaves: 2, Cost: 1},
		{Needs: 2, Not: 4, Takes: 2, Cost: 2}, // may not be put to a melt with the fault 4
		{Needs: 4, Takes: 4, Leaves: 1, Cost: 1},
		{Needs: 6, Not: 1, Takes: 6, Cost: 5},
	}
	way, e := fining.Shortest(agents, 7, 0) // the faults 1, 2 and 4; none is let pass
	fmt.Println(way, e == api.OK)
	way, cost, e := fining.Cheapest(agents, 7, 0)
	fmt.Println(way, cost, e == api.OK)
	way, e = fining.Both(agents, []int{1, 3}, 0)
	fmt.Println(way, e == api.OK)
	way, e = fining.Tells(agents, 2, 6)
	fmt.Println(way, e == api.OK)
	// Output:
	// [0 3] true
	// [2 0 1] 4 true
	// [0 1] true
	// [1] true
}
