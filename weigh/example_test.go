package weigh_test

import (
	"fmt"

	"muscovado/api"
	"muscovado/weigh"
)

// The example of README.md.
func ExampleWeight() {
	w := api.Works{
		Vessels: []api.Vessel{
			{From: -1, Room: 40, Loss: api.Span{Lo: 1, Hi: 4}}, // a melt
			{From: 0, Room: 20}, // a pan filled out of it
		},
		Readings: []api.Reading{{Vessel: 0, Scale: 0, Shown: 20, Err: 1}},
	}
	pan, e := weigh.Weight(w, 1)
	fmt.Println(pan.Lo, pan.Hi, e == api.OK)
	// Output: 15 20 true
}
