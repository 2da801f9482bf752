package bulk_test

import (
	"fmt"

	"turbary/api"
	"turbary/bulk"
)

func Example() {
	t := api.Trade{
		Supply: []int{3, 4},
		Demand: []int{5, 2},
		Cost:   [][]int{{1, 2}, {3, 1}},
	}
	dear := [][]int{{1, 2}, {4, 0}}
	cost, e := bulk.Cost(t, dear)
	fmt.Println(cost, e)
	round, ok, e := bulk.Round(t, dear)
	fmt.Println(len(round), ok, e)
	cheap, amount, e := bulk.Along(t, dear, round)
	fmt.Println(cheap, amount, e)
	least, e := bulk.Least(t)
	fmt.Println(least, e)
	prices, e := bulk.Prove(t)
	fmt.Println(bulk.CheckPrices(t, prices), e)
	worth, e := bulk.Worth(t, prices)
	fmt.Println(worth, e)
	// Output:
	// 17 0
	// 4 true 0
	// [[3 0] [2 2]] 2 0
	// 11 0
	// 0 0
	// 11 0
}
