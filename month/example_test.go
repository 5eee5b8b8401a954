package month_test

import (
	"fmt"

	"muscovado/api"
	"muscovado/month"
)

// The example of README.md.
func ExamplePlan() {
	m := api.Month{
		Agents: []api.Agent{
			{Needs: 1, Takes: 1, Leaves: 2, Cost: 1},
			{Needs: 2, Takes: 2, Cost: 2},
			{Needs: 1, Not: 2, Takes: 1, Cost: 3}, // clears the melt 1 at once
		},
		Pans:   []api.Pan{{Lo: 4, Hi: 9, Shift: -3}}, // takes a syrup back
		Rooms:  []int{3},
		Floors: []api.Floor{{Places: 4, Drip: api.Span{Lo: 2, Hi: 3}, Cool: 2}},
		Melts: []api.Melt{
			{Kinds: []int{1, 3}, Day: 0, Cones: 3, Quality: 3}, // it is not known which of both it is
			{Kinds: []int{0}, Day: 4, Cones: 3, Quality: 8},
		},
	}
	way, e := month.Way(m, 0)
	fmt.Println(way, e == api.OK)
	berths, loaves, e := month.Plan(m)
	fmt.Println(berths, loaves, e == api.OK)
	pans, pounds, e := month.Share(m)
	fmt.Println(pans, pounds, e == api.OK)
	worth, e := month.Worth(m, 0)
	fmt.Println(worth, e == api.OK)
	// Output:
	// [0 1] true
	// [{-1 0} {0 4}] 3 true
	// [-1 0] 3 true
	// {0 3} true
}
