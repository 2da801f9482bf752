package cut_test

import (
	"math/rand/v2"
	"slices"

	"turbary/api"
	"turbary/cut"
)

const (
	lowest  = -1 << 63
	highest = 1<<63 - 1
)

func bog(columns ...[]int) api.Bog { return api.Bog{Worth: columns} }

func pass(column, row, to, amount int) api.Pass {
	return api.Pass{Column: column, Row: row, To: to, Amount: amount}
}

// flat is a bog in which all blocks have the same worth.
func flat(columns, depth, worth int) api.Bog {
	var b api.Bog
	for range columns {
		b.Worth = append(b.Worth, slices.Repeat([]int{worth}, depth))
	}
	return b
}

// single is the first example of the chapter, and the fourth one of DOC.md.
func single() api.Bog { return bog([]int{-3, 5}) }

// three has three columns, as the third example of the chapter, and its treasure below.
func three() api.Bog { return bog([]int{-3, 5}, []int{-1, -9}, []int{0, -50}) }

// even has hollows of the best worth that do not lie in each other.
func even() api.Bog { return bog([]int{-2, 2}, []int{0, -4}, []int{-3, 7}, []int{-4, -9}, []int{0, 0}) }

// rich has its worth at the bottom, and costs as much as possible above.
func rich() api.Bog {
	b := flat(api.MaxColumns, api.MaxDepth, api.MaxWorth)
	for _, column := range b.Worth {
		column[0] = -api.MaxWorth
	}
	return b
}

// buried has one treasure below that costs too much, and a smaller one beside it.
func buried() api.Bog {
	b := flat(api.MaxColumns, api.MaxDepth, -5)
	b.Worth[2][3], b.Worth[5][1], b.Worth[5][0] = 50, 20, 1
	return b
}

// some gives bogs of all sizes, the same ones in each run.
func some() []api.Bog {
	source := rand.New(rand.NewPCG(4, 4))
	list := []api.Bog{single(), three(), even(), rich(), buried(), flat(1, 1, 0), flat(3, 2, 0), flat(6, 1, 0), flat(6, 4, 0), flat(6, 4, -50), flat(6, 4, 50), flat(1, 4, 1)}
	for columns := range api.MaxColumns {
		for depth := range api.MaxDepth {
			for i, most := range []int{1, 1, 2, 2, 9, 50, 50} {
				list = append(list, random(source, columns+1, depth+1, most, i%2 == 0))
			}
		}
	}
	return list
}

// random has its worth more below than above if it is deep.
func random(source *rand.Rand, columns, depth, most int, deep bool) api.Bog {
	b := flat(columns, depth, 0)
	for _, column := range b.Worth {
		for r := range column {
			column[r] = source.IntN(2*most+1) - most
			if deep {
				column[r] = max(-most, min(most, column[r]+most*(2*r-depth+1)/depth/2))
			}
		}
	}
	return b
}

func depthOf(b api.Bog) int { return len(b.Worth[0]) }

func clone(b api.Bog) api.Bog {
	var c api.Bog
	for _, column := range b.Worth {
		c.Worth = append(c.Worth, slices.Clone(column))
	}
	return c
}

func same(a, b api.Bog) bool { return slices.EqualFunc(a.Worth, b.Worth, slices.Equal[[]int]) }

func isZero(b api.Bog) bool { return same(b, api.Bog{}) }

// lists gives all lists with a number from 0 to the depth for each column, in ascending order.
func lists(b api.Bog) [][]int {
	all := [][]int{nil}
	for range b.Worth {
		var longer [][]int
		for _, list := range all {
			for number := range depthOf(b) + 1 {
				longer = append(longer, append(slices.Clone(list), number))
			}
		}
		all = longer
	}
	return all
}

func isRight(list []int) bool {
	for c := 1; c < len(list); c++ {
		if max(list[c]-list[c-1], list[c-1]-list[c]) > 1 {
			return false
		}
	}
	return true
}

// hollows gives all right hollows, in ascending order.
func hollows(b api.Bog) [][]int {
	return slices.DeleteFunc(lists(b), func(list []int) bool { return !isRight(list) })
}

func worthOf(b api.Bog, h []int) int {
	sum := 0
	for c, column := range b.Worth {
		for r, worth := range column {
			if r < h[c] {
				sum += worth
			}
		}
	}
	return sum
}

// liesIn reports whether no number of the first list is greater.
func liesIn(h, k []int) bool {
	for c := range h {
		if h[c] > k[c] {
			return false
		}
	}
	return true
}

// lowestOf gives the one of the lists that lies in all others; there must be one.
func lowestOf(list [][]int) []int {
	for _, h := range list {
		if !slices.ContainsFunc(list, func(k []int) bool { return !liesIn(h, k) }) {
			return h
		}
	}
	panic("none lies in all others")
}

// greatestOf gives the one of the lists in which all others lie; there must be one.
func greatestOf(list [][]int) []int {
	for _, h := range list {
		if !slices.ContainsFunc(list, func(k []int) bool { return !liesIn(k, h) }) {
			return h
		}
	}
	panic("all others lie in none")
}

// bestOf gives the right hollows with the best worth, and this worth.
func bestOf(b api.Bog) ([][]int, int) {
	var list [][]int
	best := lowest
	for _, h := range hollows(b) {
		worth := worthOf(b, h)
		if worth > best {
			best, list = worth, nil
		}
		if worth == best {
			list = append(list, h)
		}
	}
	return list, best
}

// openIn gives the columns of which one more block can be cut, by the definition.
func openIn(b api.Bog, h []int) []int {
	var open []int
	for c := range h {
		next := slices.Clone(h)
		next[c]++
		if next[c] <= depthOf(b) && isRight(next) {
			open = append(open, c)
		}
	}
	return open
}

// passesOf gives all passes of the amount 1 that a bog allows.
func passesOf(b api.Bog) []api.Pass {
	var list []api.Pass
	for c := range b.Worth {
		for r := 1; r < depthOf(b); r++ {
			for to := c - 1; to <= c+1; to++ {
				if to >= 0 && to < len(b.Worth) {
					list = append(list, pass(c, r, to, 1))
				}
			}
		}
	}
	return list
}

// proved is what a proof proves, by the definition.
func proved(b api.Bog, proof []api.Pass) int {
	sum := 0
	for c, column := range b.Worth {
		for r, worth := range column {
			for _, p := range proof {
				if p.Column == c && p.Row == r {
					worth -= p.Amount
				}
				if p.To == c && p.Row == r+1 {
					worth += p.Amount
				}
			}
			if worth > 0 {
				sum += worth
			}
		}
	}
	return sum
}

// broken gives bogs that Validate refuses.
func broken() []api.Bog {
	list := []api.Bog{
		{}, bog(nil), bog([]int{}), bog([]int{}, []int{}), flat(api.MaxColumns+1, 1, 0), flat(40, 2, 0), flat(1, api.MaxDepth+1, 0), flat(6, 40, 0),
		bog([]int{1}, nil), bog(nil, []int{1}), bog([]int{1, 2}, []int{1}), bog([]int{1}, []int{1, 2}), bog([]int{1, 2}, []int{1, 2}, []int{1, 2, 3}),
		flat(1, 0, 0), flat(6, 0, 0),
	}
	for _, worth := range []int{api.MaxWorth + 1, -api.MaxWorth - 1, lowest, highest} {
		for _, at := range [][2]int{{0, 0}, {0, 1}, {2, 0}, {2, 1}} {
			b := flat(3, 2, 1)
			b.Worth[at[0]][at[1]] = worth
			list = append(list, b)
		}
	}
	return list
}

// noNumbers gives lists that are not a number from 0 to the depth for each column; many are not right, either.
func noNumbers(b api.Bog) [][]int {
	columns, depth := len(b.Worth), depthOf(b)
	list := [][]int{nil, make([]int, columns-1), make([]int, columns+1), make([]int, 1000), slices.Repeat([]int{depth, 0}, columns)}
	for _, number := range []int{-1, depth + 1, lowest, highest} {
		for c := range columns {
			h := make([]int, columns)
			h[c] = number
			list = append(list, h)
		}
		list = append(list, slices.Repeat([]int{number}, columns))
	}
	return list
}

// notRight gives lists with the right numbers that are not right.
func notRight(b api.Bog) [][]int { return slices.DeleteFunc(lists(b), isRight) }

// result is what a function gave: true if all but the error were the zero value, and the error.
type result struct {
	zero bool
	e    api.Errno
}

func only(e api.Errno) result { return result{true, e} }

func number(x int, e api.Errno) result { return result{x == 0, e} }

func listed[T any](x []T, e api.Errno) result { return result{len(x) == 0, e} }

func found(x []int, ok bool, e api.Errno) result { return result{len(x) == 0 && !ok, e} }

func measured(x []int, n int, e api.Errno) result { return result{len(x) == 0 && n == 0, e} }

func changed(b api.Bog, e api.Errno) result { return result{isZero(b), e} }

// callAll calls each function but Validate; h is each list of numbers but the second hollow, k.
func callAll(b api.Bog, h, k []int, n int, proof []api.Pass) map[string]result {
	all := callWithHollows(b, h, k)
	all["Best"] = measured(cut.Best(b))
	all["Deepest"] = measured(cut.Deepest(b))
	all["Under"] = listed(cut.Under(b, h))
	all["Over"] = found(cut.Over(b, h))
	all["Toll"] = changed(cut.Toll(b, n))
	all["Mirror"] = changed(cut.Mirror(b))
	all["Count"] = number(cut.Count(b))
	all["Unrank"] = listed(cut.Unrank(b, n))
	all["CheckOrder"] = measured(cut.CheckOrder(b, h))
	all["CheckProof"] = number(cut.CheckProof(b, proof))
	all["Proof"] = listed(cut.Proof(b))
	return all
}

// callWithHollows calls each function with a hollow.
func callWithHollows(b api.Bog, h, k []int) map[string]result {
	return map[string]result{
		"CheckHollow": only(cut.CheckHollow(b, h)),
		"Worth":       number(cut.Worth(b, h)),
		"Both":        listed(cut.Both(b, h, k)),
		"Either":      listed(cut.Either(b, h, k)),
		"Rank":        number(cut.Rank(b, h)),
		"Open":        listed(cut.Open(b, h)),
		"Order":       listed(cut.Order(b, h)),
	}
}
