package char_test

import (
	"fmt"

	"muscovado/api"
	"muscovado/char"
)

// The example of README.md.
func ExampleFewest() {
	c := api.Char{
		Filters: []api.Filter{
			{Power: 3, Gain: 1, Now: 3}, // as strong as if it had just been burned
			{Power: 2, Gain: 1, Now: 1}, // tired; a washing gives it 1 more
		},
		Kiln: 1,              // burns one filter a day
		Days: []int{3, 2, 3}, // the sugar of each day
	}
	plan, fires, e := char.Fewest(c)
	fmt.Println(plan, fires, e == api.OK)
	kiln, e := char.Kiln(c)
	fmt.Println(kiln, e == api.OK)
	// Output:
	// [[0 2] [3 0] [0 0]] 1 true
	// 1 true
}
