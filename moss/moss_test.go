package moss_test

import (
	"slices"
	"testing"

	"turbary/api"
	"turbary/moss"
)

func TestValidate(t *testing.T) {
	for _, m := range wrongMeadows() {
		if e := moss.Validate(m); e != api.ErrArg {
			t.Errorf("P8.1: %v: %v", m, e)
		}
	}
	for _, m := range every() {
		if e := moss.Validate(m); e != api.OK {
			t.Errorf("P8.1: %v: %v", m, e)
		}
	}
}

func TestValidateOfAllNumbers(t *testing.T) {
	numbers := []int{lowest, -1, 0, 1, 2, 3, 4, 5, 6, 7, 8, highest}
	for _, rows := range numbers {
		for _, columns := range numbers {
			for _, need := range numbers {
				want := api.ErrArg
				if slices.Contains(every(), meadow(rows, columns, need)) {
					want = api.OK
				}
				if e := moss.Validate(meadow(rows, columns, need)); e != want {
					t.Errorf("P8.1: %d %d %d: %v, not %v", rows, columns, need, e, want)
				}
			}
		}
	}
}

func TestErrorsOfMeadowsComeFirst(t *testing.T) {
	for _, m := range wrongMeadows() {
		for _, x := range []arguments{{}, {set: 1}, {set: -1, square: -1, order: []int{-1}}, {set: highest, square: highest, order: make([]int, 1000)}, {square: 9, order: []int{9}}} {
			for name, got := range callAll(m, x) {
				if got != only(api.ErrArg) {
					t.Errorf("P8.1, R2, R3: %s of %v, %v: %v", name, m, x, got)
				}
			}
		}
	}
}

func TestErrorsOfSetsComeNext(t *testing.T) {
	for _, m := range every() {
		for _, set := range noSets(m) {
			for _, square := range []int{0, -1, m.Rows * m.Columns, highest} {
				for name, got := range callWithSet(m, arguments{set, square, []int{0, square}}) {
					if got != only(api.ErrArg) {
						t.Errorf("P8.1, R1, R3: %s of %d, %d in %v: %v", name, set, square, m, got)
					}
				}
			}
		}
	}
}

func TestErrorsOfSquaresComeLast(t *testing.T) {
	for _, m := range every() {
		for _, set := range []int{0, 1, full(m)} {
			for _, square := range noSquares(m) {
				for name, got := range map[string]result{
					"Neighbors": listed(moss.Neighbors(m, square)), "Day": found(moss.Day(m, set, square)), "CheckOrder": two(moss.CheckOrder(m, set, []int{square})),
					// The first element is not as said, but the whole list is examined for squares first.
					"CheckOrder, last": two(moss.CheckOrder(m, 1, []int{0, 0, square})),
				} {
					if got != only(api.ErrNone) {
						t.Errorf("P8.1, P8.3, R1, R3: %s of %d, %d in %v: %v", name, set, square, m, got)
					}
				}
			}
		}
	}
}

func TestNoErrors(t *testing.T) {
	for _, m := range every() {
		for _, set := range []int{0, full(m)} {
			for name, got := range callAll(m, arguments{set, m.Rows*m.Columns - 1, nil}) {
				isLarge := name == "Fewest" && m.Rows*m.Columns > api.MaxTry
				if got.e != api.OK && !isLarge {
					t.Errorf("P8.1: %s of %d in %v: %v", name, set, m, got)
				}
			}
		}
	}
}

func TestNeighborsOfExamples(t *testing.T) {
	for _, x := range []struct {
		m      api.Meadow
		square int
		want   []int
	}{
		{meadow(1, 1, 1), 0, nil}, {meadow(3, 3, 1), 4, []int{1, 3, 5, 7}}, {meadow(3, 3, 3), 0, []int{1, 3}}, {meadow(2, 3, 1), 2, []int{1, 5}}, {meadow(2, 3, 1), 3, []int{0, 4}},
		{meadow(1, 6, 2), 5, []int{4}}, {meadow(6, 1, 2), 3, []int{2, 4}}, {meadow(6, 6, 2), 35, []int{29, 34}}, {meadow(6, 6, 2), 11, []int{5, 10, 17}},
	} {
		if got, e := moss.Neighbors(x.m, x.square); !slices.Equal(got, x.want) || e != api.OK {
			t.Errorf("P8.1: neighbors of %d in %v: %v %v, not %v", x.square, x.m, got, e, x.want)
		}
	}
}

func TestNeighbors(t *testing.T) {
	for _, m := range every() {
		for square := range m.Rows * m.Columns {
			if got, e := moss.Neighbors(m, square); !slices.Equal(got, aroundOf(m, square)) || e != api.OK {
				t.Errorf("P8.1: neighbors of %d in %v: %v %v, not %v", square, m, got, e, aroundOf(m, square))
			}
		}
	}
}

// listsOf has all lists that functions give.
func listsOf(m api.Meadow, set int) [][]int {
	var lists [][]int
	for square := range m.Rows * m.Columns {
		neighbors, _ := moss.Neighbors(m, square)
		lists = append(lists, neighbors)
	}
	for range 2 {
		order, _ := moss.Order(m, set)
		needed, _ := moss.Needed(m, set)
		lists = append(lists, order, needed)
	}
	return lists
}

func TestMemory(t *testing.T) {
	for _, m := range every() {
		for _, set := range []int{0, 1, full(m), full(m) / 3} {
			lists := listsOf(m, set)
			for i, list := range lists {
				for k := range list {
					list[k] = -99 - i
				}
				_ = append(list, -99)
			}
			for i, list := range lists {
				if slices.ContainsFunc(list, func(square int) bool { return square != -99-i }) {
					t.Fatalf("R5: results share memory: %v, %d", m, set)
				}
			}
			order, _ := moss.Order(m, set)
			longer := append(slices.Clone(order), 0, 0)
			for length := range len(longer) + 1 {
				part := slices.Clone(longer[:length])
				moss.CheckOrder(m, set, part)
				if !slices.Equal(part, longer[:length]) {
					t.Fatalf("R5: an argument has changed: %v, %d: %v", m, set, part)
				}
			}
		}
	}
}

func TestEqualCalls(t *testing.T) {
	for _, m := range few() {
		for _, set := range []int{0, 1, full(m), full(m) / 3} {
			x := arguments{set, 0, []int{0}}
			all, lists := callAll(m, x), listsOf(m, set)
			for range 3 {
				if again := listsOf(m, set); !slices.EqualFunc(again, lists, slices.Equal[[]int]) {
					t.Errorf("R11: %v, %d: %v, then %v", m, set, lists, again)
				}
				for name, got := range callAll(m, x) {
					if got != all[name] {
						t.Errorf("R11: %s of %v, %v: %v, then %v", name, m, x, all[name], got)
					}
				}
			}
		}
	}
}
