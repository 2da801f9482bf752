package core_test

import (
	"fmt"

	"turbary/api"
	"turbary/core"
)

func Example() {
	c := api.Core{Layers: 3, Bounds: []api.Bound{
		{A: 0, B: 1, Most: 10},
		{A: 1, B: 2, Most: 5},
		{A: 0, B: 2, Most: 20},
	}}
	most, ok, e := core.Tightest(c, 0, 2)
	fmt.Println(most, ok, e)
	reduced, e := core.Reduce(c)
	fmt.Println(reduced.Bounds, e)
	later := api.Core{Layers: 3, Bounds: []api.Bound{{A: 2, B: 0, Most: -16}}}
	both, e := core.Both(reduced, later)
	fmt.Println(both.Bounds, e)
	round, ok, e := core.Clash(both)
	fmt.Println(core.CheckClash(both, round), ok, e)
	// Output:
	// 15 true 0
	// [{0 1 10} {1 2 5}] 0
	// [{0 1 10} {1 2 5} {2 0 -16}] 0
	// 0 true 0
}
