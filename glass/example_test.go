package glass_test

import (
	"fmt"

	"muscovado/api"
	"muscovado/glass"
)

// The example of README.md.
func ExampleDuty() {
	r := api.Row{
		Glasses: []api.Glass{
			{Made: 0, Colour: 20, Fade: api.Span{Lo: 0, Hi: 1}}, // fades by at most a degree a year
			{Made: 5, Colour: 12},                               // does not fade
			{Made: 5, Colour: 18},
		},
		Steps:   []int{10, 18},  // the colours from which on the next duty is paid
		Duties:  []int{3, 5, 8}, // for colours below 10, from 10 to 17, and from 18 on
		Samples: []api.Span{{Lo: 8, Hi: 24}},
		Sights: []api.Sight{
			{Sample: 0, Glass: 0, Year: 4, Found: api.Lighter},
			{Sample: 0, Glass: 1, Year: 5, Found: api.Darker},
		},
	}
	duty, e := glass.Duty(r, 0)
	fmt.Println(duty, e == api.OK)
	glasses, e := glass.Keep(r, 0, 5)
	fmt.Println(glasses, e == api.OK)
	// Output:
	// {5 8} true
	// [2] true
}
