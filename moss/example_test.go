package moss_test

import (
	"fmt"

	"turbary/api"
	"turbary/moss"
)

func Example() {
	m := api.Meadow{Rows: 3, Columns: 3, Need: 2}
	end, steps, e := moss.Spread(m, 0b100_010_001)
	fmt.Println(end == 0b111_111_111, steps, e)
	order, e := moss.Order(m, 0b100_010_001)
	fmt.Println(order, e)
	core, e := moss.Core(m, 0b000_000_111)
	fmt.Println(core == 0b111_111_000, moss.CheckCore(m, core), e)
	count, set, e := moss.Fewest(m)
	fmt.Println(count, set == 0b001_000_101, e)
	text, e := moss.Format(m, set)
	fmt.Print(text, e)
	// Output:
	// true 2 0
	// [1 3 5 2 7 6] 0
	// true 0 0
	// 3 true 0
	// meadow 3 3 2
	// #.#
	// ...
	// #..
	// 0
}
