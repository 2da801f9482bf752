package moss_test

import (
	"math/rand/v2"
	"slices"

	"turbary/api"
	"turbary/moss"
)

const (
	lowest  = -1 << 63
	highest = 1<<63 - 1
)

func meadow(rows, columns, need int) api.Meadow {
	return api.Meadow{Rows: rows, Columns: columns, Need: need}
}

// every gives all right meadows.
func every() []api.Meadow {
	var list []api.Meadow
	for rows := range api.MaxRows {
		for columns := range api.MaxRows {
			for need := range api.MaxNeed {
				list = append(list, meadow(rows+1, columns+1, need+1))
			}
		}
	}
	return list
}

// small gives all meadows with at most so many squares.
func small(most int) []api.Meadow {
	return slices.DeleteFunc(every(), func(m api.Meadow) bool { return m.Rows*m.Columns > most })
}

// few gives a meadow of each kind, and the greatest ones.
func few() []api.Meadow {
	return []api.Meadow{meadow(1, 1, 1), meadow(1, 4, 1), meadow(2, 2, 3), meadow(3, 2, 2), meadow(2, 5, 1), meadow(6, 1, 2), meadow(4, 5, 3), meadow(6, 6, 1), meadow(6, 6, 2), meadow(6, 6, 3)}
}

func full(m api.Meadow) int { return 1<<(m.Rows*m.Columns) - 1 }

// sets gives all sets of squares of a small meadow, and many of a greater one, the same ones in each run.
func sets(m api.Meadow) []int {
	var list []int
	if m.Rows*m.Columns <= 8 {
		for set := range full(m) + 1 {
			list = append(list, set)
		}
		return list
	}
	list = append(list, 0, full(m), 1, full(m)-1, 1<<(m.Rows*m.Columns-1), full(m)>>1)
	source := rand.New(rand.NewPCG(uint64(m.Rows), uint64(m.Columns)))
	for k := range 24 {
		list = append(list, randomSet(source, m, 1+k%8))
	}
	for slash := range 2 { // the diagonals
		set := 0
		for square := range m.Rows * m.Columns {
			row, column := square/m.Columns, square%m.Columns
			if (row+column)%2 == slash || row == column {
				set += 1 << square
			}
		}
		list = append(list, set)
	}
	return list
}

// randomSet has each square with a chance of so many in nine.
func randomSet(source *rand.Rand, m api.Meadow, chance int) int {
	set := 0
	for square := range m.Rows * m.Columns {
		if source.IntN(9) < chance {
			set += 1 << square
		}
	}
	return set
}

func isIn(set, square int) bool { return set>>square%2 == 1 }

func within(part, set int) bool { return part&set == part }

// listOf gives the squares of a set in ascending order.
func listOf(set int) []int {
	var list []int
	for square := range 36 {
		if isIn(set, square) {
			list = append(list, square)
		}
	}
	return list
}

func without(set, square int) int {
	if isIn(set, square) {
		return set - 1<<square
	}
	return set
}

// aroundOf gives the squares that are one row or one column away.
func aroundOf(m api.Meadow, square int) []int {
	var list []int
	for other := range m.Rows * m.Columns {
		rows, columns := other/m.Columns-square/m.Columns, other%m.Columns-square%m.Columns
		if rows*rows+columns*columns == 1 {
			list = append(list, other)
		}
	}
	return list
}

func besideOf(m api.Meadow, square, set int) int {
	count := 0
	for _, other := range aroundOf(m, square) {
		if isIn(set, other) {
			count++
		}
	}
	return count
}

func canWet(m api.Meadow, wet, square int) bool {
	return !isIn(wet, square) && besideOf(m, square, wet) >= m.Need
}

// stepOf goes by the definition.
func stepOf(m api.Meadow, wet int) int {
	after := wet
	for square := range m.Rows * m.Columns {
		if canWet(m, wet, square) {
			after += 1 << square
		}
	}
	return after
}

// daysOf gives the wet squares at first and after each step in which something changes.
func daysOf(m api.Meadow, wet int) []int {
	days := []int{wet}
	for {
		next := stepOf(m, wet)
		if next == wet {
			return days
		}
		days = append(days, next)
		wet = next
	}
}

func endOf(m api.Meadow, wet int) int {
	days := daysOf(m, wet)
	return days[len(days)-1]
}

// isCoreOf goes by the definition.
func isCoreOf(m api.Meadow, set int) bool {
	for _, square := range listOf(set) {
		if besideOf(m, square, full(m)-set) >= m.Need {
			return false
		}
	}
	return true
}

// edgeOf looks at each side of each square.
func edgeOf(m api.Meadow, set int) int {
	edge := 0
	for _, square := range listOf(set) {
		row, column := square/m.Columns, square%m.Columns
		for _, to := range [][2]int{{row - 1, column}, {row + 1, column}, {row, column - 1}, {row, column + 1}} {
			isOut := to[0] < 0 || to[0] == m.Rows || to[1] < 0 || to[1] == m.Columns
			if isOut || !isIn(set, to[0]*m.Columns+to[1]) {
				edge++
			}
		}
	}
	return edge
}

// wrongMeadows gives meadows that Validate refuses.
func wrongMeadows() []api.Meadow {
	list := []api.Meadow{{}, meadow(0, 0, 0), meadow(api.MaxNeed+1, 6, 4), meadow(7, 7, 3), meadow(lowest, lowest, lowest), meadow(highest, highest, highest), meadow(1<<32, 1<<32, 1), meadow(-1, -1, 1), meadow(8, 8, 1)}
	for _, number := range []int{lowest, -2, -1, 0, 7, 64, 1 << 32, highest} {
		list = append(list, meadow(number, 2, 2), meadow(2, number, 2), meadow(2, 2, number))
	}
	return append(list, meadow(1, 1, api.MaxNeed+1), meadow(6, 6, api.MaxNeed+1))
}

// noSets gives numbers that are no set of squares.
func noSets(m api.Meadow) []int {
	return []int{-1, full(m) + 1, full(m) + 2, -full(m), -full(m) - 1, 1 << 36, 1 << 62, lowest, lowest + 1, highest}
}

// noSquares gives numbers that are no square.
func noSquares(m api.Meadow) []int {
	return []int{-1, m.Rows * m.Columns, m.Rows*m.Columns + 1, -m.Columns, 36, 63, 64, 65, lowest, highest}
}

// result is what a function gave: true if all but the error were the zero value, and the error.
type result struct {
	zero bool
	e    api.Errno
}

func only(e api.Errno) result { return result{true, e} }

func number(x int, e api.Errno) result { return result{x == 0, e} }

func two(x, y int, e api.Errno) result { return result{x == 0 && y == 0, e} }

func truth(is bool, e api.Errno) result { return result{!is, e} }

func listed(x []int, e api.Errno) result { return result{len(x) == 0, e} }

func found(x int, ok bool, e api.Errno) result { return result{x == 0 && !ok, e} }

func text(x string, e api.Errno) result { return result{x == "", e} }

func meadows(m api.Meadow, x int, e api.Errno) result { return result{m == api.Meadow{} && x == 0, e} }

// arguments are those of all functions beside the meadow.
type arguments struct {
	set, square int
	order       []int
}

// callAll calls each function with a meadow.
func callAll(m api.Meadow, x arguments) map[string]result {
	all := callWithSet(m, x)
	all["Validate"] = only(moss.Validate(m))
	all["Neighbors"] = listed(moss.Neighbors(m, x.square))
	all["Fewest"] = two(moss.Fewest(m))
	return all
}

// callWithSet calls each function with a set of squares.
func callWithSet(m api.Meadow, x arguments) map[string]result {
	return map[string]result{
		"Step":       number(moss.Step(m, x.set)),
		"Spread":     two(moss.Spread(m, x.set)),
		"Fills":      truth(moss.Fills(m, x.set)),
		"Edge":       number(moss.Edge(m, x.set)),
		"Core":       number(moss.Core(m, x.set)),
		"CheckCore":  only(moss.CheckCore(m, x.set)),
		"CheckOrder": two(moss.CheckOrder(m, x.set, x.order)),
		"Order":      listed(moss.Order(m, x.set)),
		"Day":        found(moss.Day(m, x.set, x.square)),
		"Thin":       number(moss.Thin(m, x.set)),
		"Needed":     listed(moss.Needed(m, x.set)),
		"Turn":       meadows(moss.Turn(m, x.set)),
		"Mirror":     number(moss.Mirror(m, x.set)),
		"Format":     text(moss.Format(m, x.set)),
	}
}
