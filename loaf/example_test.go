package loaf_test

import (
	"fmt"

	"muscovado/api"
	"muscovado/loaf"
)

// The example of README.md.
func ExampleShort() {
	b := api.Batch{
		Works: api.Works{
			Vessels:  []api.Vessel{{From: -1, Room: 40}},
			Readings: []api.Reading{{Vessel: 0, Scale: 0, Shown: 20, Err: 0}},
		},
		Vessel: 0,                          // all loaves came out of it
		Stoves: []api.Span{{Lo: 0, Hi: 2}}, // takes at most 2 from a loaf each day
		Paper:  1,
		Loaves: []api.Loaf{
			{Promise: 12, Stove: 0, Days: 2, Cart: -1, Found: 9, Err: 1}, // 7 to 9 are left of it
			{Promise: 9, Stove: 0, Days: 1, Cart: -1, Found: 9},          // 8 are left of it
		},
	}
	verdict, e := loaf.Short(b, 0)
	fmt.Println(verdict == api.Yes, e == api.OK)
	proof, e := loaf.Proof(b, 0)
	fmt.Println(proof, e == api.OK)
	owed, e := loaf.Owed(b)
	fmt.Println(owed, e == api.OK)
	// Output:
	// true true
	// [1] true
	// {1 1} true
}
