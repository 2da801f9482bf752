package cut_test

import (
	"fmt"

	"turbary/api"
	"turbary/cut"
)

func Example() {
	b := api.Bog{Worth: [][]int{
		{-3, 5}, // from the top down
		{-1, -9},
		{2, -4},
	}}
	hollow, worth, e := cut.Best(b)
	fmt.Println(hollow, worth, e)
	proof, e := cut.Proof(b)
	fmt.Println(len(proof) <= api.MaxPasses, e)
	most, e := cut.CheckProof(b, proof)
	fmt.Println(most, e)
	order, e := cut.Order(b, hollow)
	fmt.Println(order, e)
	// Output:
	// [2 1 1] 3 0
	// true 0
	// 3 0
	// [0 1 0 2] 0
}
