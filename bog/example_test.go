package bog_test

import (
	"fmt"

	"turbary/api"
	"turbary/bog"
)

func Example() {
	b := api.Bog{Worth: [][]int{{3, 5}, {-1, 2}}}
	h := api.Heaps{Links: [][]int{{0, 1}, {1, 0}}, Ground: []int{1, 1}}
	c, e := bog.New(b, h, 2)
	fmt.Println(c.Do("cut 0"), c.Do("cut 0"), c.Do("cut 1"), c.Do("load 1 1"), e)
	fmt.Println(c.Hollow(), c.Turves(), c.Money(), c.Audit())
	fmt.Print(c.Book())
	again, number, e := bog.Replay(b, h, 2, c.Book())
	fmt.Println(again.Money(), number, e)
	// Output:
	// 0 6 0 0 0
	// [1 1] [1 0] 3 true
	// 463569 cut 0
	// 723725 cut 1
	// 668313 load 1 1
	// 3 3 0
}
