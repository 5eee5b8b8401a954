package floor_test

import (
	"fmt"

	"muscovado/api"
	"muscovado/floor"
)

// The example of README.md.
func ExampleBest() {
	p := api.Plant{
		Floors: []api.Floor{
			{Places: 4, Drip: api.Span{Lo: 2, Hi: 3}, Cool: 1}, // cones stand on it for 2 or 3 days
		},
		Strikes: []api.Strike{
			{Day: 0, Cones: 3}, // cannot wait
			{Day: 2, Cones: 2, Wait: 2},
		},
	}
	plan, loaves, e := floor.Best(p)
	fmt.Println(plan, loaves, e == api.OK)
	places, e := floor.Need(p, 0)
	fmt.Println(places, e == api.OK)
	// Output:
	// [{0 0} {0 3}] 5 true
	// 3 true
}
