package level

import "turbary/api"

// solve finds the heights, 0 at the smallest point of each part, by which, for each point, the sum of Weight
// times (its height minus that of the other end) over its readings is its load. The loads of a part add up to 0.
func solve(s api.Survey, loads []int) api.Table {
	rows := equations(s, loads)
	heights := api.Table{Den: eliminate(rows), Num: make([]int, s.Points)}
	for p := range rows {
		heights.Num[p] = rows[p][s.Points]
	}
	return heights
}

// equations has a row for each point; its last column is the right side.
func equations(s api.Survey, loads []int) [][]int {
	first := firsts(s)
	rows := make([][]int, s.Points)
	for p := range rows {
		rows[p] = make([]int, s.Points+1)
		// The equations of the points of a part follow from each other: one of them gives way to height 0.
		if p == first[p] {
			rows[p][p] = 1
		} else {
			rows[p][s.Points] = loads[p]
		}
	}
	for _, r := range s.Readings {
		if r.From != first[r.From] {
			rows[r.From][r.From] += r.Weight
			rows[r.From][r.To] -= r.Weight
		}
		if r.To != first[r.To] {
			rows[r.To][r.To] += r.Weight
			rows[r.To][r.From] -= r.Weight
		}
	}
	return rows
}

// eliminate changes the equations such that each is a common factor, which it returns, times one height.
// It needs no fractions: after each round all numbers are determinants of parts of the equations, so that the
// division by the pivot before leaves no remainder, and all products stay below 10^14. Nor does it look for a
// pivot: each is the determinant of the equations of some points that are all joined to others or have
// height 0, and that is above 0.
func eliminate(rows [][]int) int {
	before := 1
	for k := range rows {
		pivot := rows[k][k]
		for i := range rows {
			if i == k {
				continue
			}
			factor := rows[i][k]
			for j := range rows[i] {
				rows[i][j] = (pivot*rows[i][j] - factor*rows[k][j]) / before
			}
		}
		before = pivot
	}
	return before
}

func lowestAll(nums []int, den int) []api.Rat {
	list := make([]api.Rat, len(nums))
	for i, num := range nums {
		list[i] = lowest(num, den)
	}
	return list
}

// lowest is num / den in lowest terms; den is above 0.
func lowest(num, den int) api.Rat {
	a, b := max(num, -num), den
	for a != 0 {
		a, b = b%a, a
	}
	return api.Rat{Num: num / b, Den: den / b}
}
