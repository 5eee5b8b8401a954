package saw_test

import (
	"fmt"

	"muscovado/api"
	"muscovado/saw"
)

// The example of README.md.
func ExampleBest() {
	s := api.Saw{
		Loaves: [][]int{
			{5, 3, 2}, // the slices of a loaf, from the base up
			{4, 2},
		},
		Stock: []int{2, 1},
		Kerf:  1, // what a cut loses
		Wants: []api.Want{
			{Sort: api.Whole, Kind: 0, Pay: 12},
			{Sort: api.Top, Kind: 0, Amount: 1, Pay: 6},      // the rest of 8 pounds, less 1, is crushed
			{Sort: api.Crushed, Kind: -1, Amount: 9, Pay: 9}, // of any kinds
			{Sort: api.Crushed, Kind: 1, Amount: 5, Pay: 5},
		},
	}
	wants, pay, e := saw.Best(s)
	fmt.Println(wants, pay, e == api.OK)
	crushed, cones, e := saw.Crush(s, wants)
	fmt.Println(crushed, cones, e == api.OK)
	need, e := saw.Need(s, 1)
	fmt.Println(need, e == api.OK)
	// Output:
	// [0 1 2] 27 true
	// [0 1] 3 true
	// 1 true
}
