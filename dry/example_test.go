package dry_test

import (
	"fmt"

	"turbary/api"
	"turbary/dry"
)

func Example() {
	y := api.Yard{Places: 2, Steps: []api.Step{
		{Take: []int{1, 0}, Give: []int{0, 1}},
		{Take: []int{0, 2}, Give: []int{1, 0}},
	}}
	end, count, e := dry.Run(y, []int{3, 0}, []int{0, 0, 1})
	fmt.Println(end, count, e)
	way, ok, e := dry.Way(y, []int{2, 0}, []int{1, 0}, 3)
	fmt.Println(way, ok, e)
	space, e := dry.Space(y)
	fmt.Println(space, e)
	trap, e := dry.Trap(y, []int{0, 1})
	fmt.Println(trap, e)
	// Output:
	// [2 0] 3 0
	// [0 0 1] true 0
	// 0 0
	// [0 1] 0
}
