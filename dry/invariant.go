package dry

import (
	"slices"

	"turbary/api"
)

// IsInvariant: see P6.4.
func IsInvariant(y api.Yard, weights []int) (bool, api.Errno) {
	if e := Validate(y); e != api.OK {
		return false, e
	}
	if !areWeights(y, weights) {
		return false, api.ErrArg
	}
	return !slices.ContainsFunc(y.Steps, func(s api.Step) bool { return weigh(weights, effect(s)) != 0 }), api.OK
}

// Weigh: see P6.4.
func Weigh(y api.Yard, weights, m []int) (int, api.Errno) {
	if e := validateFillings(y, m); e != api.OK {
		return 0, e
	}
	if !areWeights(y, weights) {
		return 0, api.ErrArg
	}
	return weigh(weights, m), api.OK
}

// Space: see P6.4.
func Space(y api.Yard) (int, api.Errno) {
	if e := Validate(y); e != api.OK {
		return 0, e
	}
	var rows [][]int
	for _, s := range y.Steps {
		rows = append(rows, effect(s))
	}
	return y.Places - rank(rows, y.Places), api.OK
}

func areWeights(y api.Yard, weights []int) bool {
	return areNumbers(weights, y.Places, -api.MaxInvar, api.MaxInvar)
}

func weigh(weights, turves []int) int {
	sum := 0
	for p, weight := range weights {
		sum += weight * turves[p]
	}
	return sum
}

// rank changes the rows. All their numbers stay determinants of parts of the first rows: so they stay small, and
// dividing by the pivot before leaves no remainder.
func rank(rows [][]int, columns int) int {
	done, before := 0, 1
	for c := range columns {
		k := slices.IndexFunc(rows[done:], func(row []int) bool { return row[c] != 0 })
		if k < 0 {
			continue
		}
		rows[done], rows[done+k] = rows[done+k], rows[done]
		pivot := rows[done]
		done++
		for _, row := range rows[done:] {
			factor := row[c]
			for j := range row {
				row[j] = (pivot[c]*row[j] - factor*pivot[j]) / before
			}
		}
		before = pivot[c]
	}
	return done
}
