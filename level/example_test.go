package level_test

import (
	"fmt"

	"turbary/api"
	"turbary/level"
)

func Example() {
	s := api.Survey{Points: 2, Readings: []api.Reading{
		{From: 0, To: 1, Rise: 10, Weight: 1},
		{From: 0, To: 1, Rise: 13, Weight: 2},
	}}
	heights, e := level.Best(s)
	fmt.Println(heights, e)
	off, e := level.Error(s, 0, 1)
	fmt.Println(off, e)
	e = level.CheckBest(s, api.Table{Den: 1, Num: []int{0, 12}})
	fmt.Println(e)
	// Output:
	// [{0 1} {12 1}] 0
	// {1 3} 0
	// 0
}
