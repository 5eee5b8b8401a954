package syrup_test

import (
	"fmt"

	"muscovado/api"
	"muscovado/syrup"
)

// The example of README.md.
func ExampleShortest() {
	pans := []api.Pan{
		{Lo: 8, Hi: 12, Shift: -3}, // takes the qualities 8 to 12; what comes out is poorer by 3
		{Lo: 4, Hi: 9, Shift: -3},
		{Lo: 2, Hi: 5, Shift: 2}, // what comes out of this one goes back to the one before
	}
	way, e := syrup.Shortest(pans, 12)
	fmt.Println(way, e == api.OK)
	closed, e := syrup.Close(pans)
	fmt.Println(closed, e == api.OK)
	// Output:
	// [0 0 1 2 1 2 1] true
	// [1] true
}
