package stove_test

import (
	"fmt"

	"muscovado/api"
	"muscovado/stove"
)

// The example of README.md.
func ExampleMost() {
	s := api.Stove{
		Shelves: []api.Shelf{{Room: 1}, {Lift: 2, Room: 1}}, // the second one is hotter by 2
		Cones: []api.Cone{
			{Wet: 6, Cold: 3, Jump: 1, Most: 5}, // cracks above 3 on its first day
			{Wet: 4, Cold: 4, Jump: 2, Most: 6},
		},
		Days: 3, Rise: 2, Top: 3, // cold at first; at most 2 hotter each day
	}
	plan, cones, e := stove.Most(s, []int{1, 2, 3})
	fmt.Println(plan, cones, e == api.OK)
	fate, day, e := stove.Fate(s, []int{1, 2, 3}, 0, plan[0])
	fmt.Println(fate == api.Dry, day, e == api.OK)
	heats, fuel, e := stove.Fire(s)
	fmt.Println(heats, fuel, e == api.OK)
	// Output:
	// [{0 0} {1 0}] 2 true
	// true 2 true
	// [1 1 2] 4 true
}
