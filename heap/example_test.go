package heap_test

import (
	"fmt"

	"turbary/api"
	"turbary/heap"
)

func Example() {
	h := api.Heaps{
		Links:  [][]int{{0, 1}, {1, 0}},
		Ground: []int{1, 1},
	}
	calm, topples, ground, e := heap.Settle(h, []int{3, 0})
	fmt.Println(calm, topples, ground, e)
	count, e := heap.Count(h)
	fmt.Println(count, e)
	zero, e := heap.Zero(h)
	fmt.Println(zero, e)
	script, are, e := heap.Script(h, []int{0, 0}, zero)
	fmt.Println(script, are, e)
	// Output:
	// [1 1] [1 0] 1 0
	// 3 0
	// [1 1] 0
	// [-1 -1] true 0
}
