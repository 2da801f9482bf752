package drain_test

import (
	"fmt"

	"turbary/api"
	"turbary/drain"
)

func Example() {
	n := api.Net{Nodes: 3, From: 0, To: 2, Drains: []api.Drain{
		{From: 0, To: 1, Width: 3},
		{From: 0, To: 1, Width: 4},
		{From: 1, To: 2, Width: 5},
	}}
	most, e := drain.Most(n)
	fmt.Println(most, e)
	cut, e := drain.Least(n)
	fmt.Println(cut, e)
	flow, e := drain.Flow(n)
	fmt.Println(drain.CheckMost(n, flow, cut), e)
	// Output:
	// 5 0
	// [0 1] 0
	// 0 0
}
