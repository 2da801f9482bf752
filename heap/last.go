package heap

import (
	"slices"

	"turbary/api"
)

// Lasts: see P5.4.
func Lasts(h api.Heaps, turves []int) (bool, api.Errno) {
	if e := validateHeapings(h, turves); e != api.OK {
		return false, e
	}
	return lasts(h, turves), api.OK
}

// Burn: see P5.4.
func Burn(h api.Heaps, turves []int) ([]int, api.Errno) {
	if e := validateHeapings(h, turves); e != api.OK {
		return nil, e
	}
	return burn(h, turves), api.OK
}

// Count: see P5.4.
func Count(h api.Heaps) (int, api.Errno) {
	if e := Validate(h); e != api.OK {
		return 0, e
	}
	// Each pivot is the determinant for the first heaps alone, with the others as their ground: it is above 0,
	// and dividing by it leaves no remainder.
	rows, before := matrix(h), 1
	for k := range rows {
		for i := k + 1; i < len(rows); i++ {
			for j := k + 1; j < len(rows); j++ {
				rows[i][j] = (rows[k][k]*rows[i][j] - rows[i][k]*rows[k][j]) / before
			}
		}
		before = rows[k][k]
	}
	return before, api.OK
}

// Zero: see P5.5.
func Zero(h api.Heaps) ([]int, api.Errno) {
	if e := Validate(h); e != api.OK {
		return nil, e
	}
	return zero(h), api.OK
}

// Back: see P5.5.
func Back(h api.Heaps, turves []int) ([]int, api.Errno) {
	if e := validateLasting(h, turves); e != api.OK {
		return nil, e
	}
	return lasting(h, added(ample(h), turves, -1)), api.OK
}

// Lasting: see P5.5.
func Lasting(h api.Heaps, turves []int) ([]int, api.Errno) {
	if e := validateHeapings(h, turves); e != api.OK {
		return nil, e
	}
	return lasting(h, turves), api.OK
}

// Turns: see P5.5.
func Turns(h api.Heaps, turves []int) (int, api.Errno) {
	if e := validateLasting(h, turves); e != api.OK {
		return 0, e
	}
	end, turns := zero(h), 1
	for sum := turves; !slices.Equal(sum, end); turns++ {
		sum = add(h, sum, turves)
	}
	return turns, api.OK
}

// validateLasting returns the errors of the heaps, then those of a heaping that has to last.
func validateLasting(h api.Heaps, turves []int) api.Errno {
	if e := validateHeapings(h, turves); e != api.OK {
		return e
	}
	if !lasts(h, turves) {
		return api.ErrState
	}
	return api.OK
}

func lasts(h api.Heaps, turves []int) bool {
	return isCalm(h, turves) && len(burn(h, turves)) == len(turves)
}

// burn has the heaps that burn, round by round.
func burn(h api.Heaps, turves []int) []int {
	var burning []int
	for {
		var round []int
		for i := range turves {
			if !slices.Contains(burning, i) && turves[i] >= linksBeside(h, i, burning) {
				round = append(round, i)
			}
		}
		if len(round) == 0 {
			return burning
		}
		burning = append(burning, round...)
	}
}

// linksBeside is the sum of the links of a heap to heaps that are not in the list.
func linksBeside(h api.Heaps, i int, list []int) int {
	sum := 0
	for j, links := range h.Links[i] {
		if !slices.Contains(list, j) {
			sum += links
		}
	}
	return sum
}

// matrix has the limits on its diagonal and minus the links elsewhere.
func matrix(h api.Heaps) [][]int {
	rows := make([][]int, len(h.Links))
	for i := range rows {
		rows[i] = make([]int, len(rows))
		topple(h, rows[i], i, -1)
	}
	return rows
}

func limits(h api.Heaps) []int {
	list := make([]int, len(h.Ground))
	for i := range list {
		list[i] = limit(h, i)
	}
	return list
}

// ample has more than the limit of each heap, and is alike to no turves at all: it is two times the limits
// without the calm heaping to which these settle.
func ample(h api.Heaps) []int {
	twice := added(limits(h), limits(h), 1)
	calm, _ := settle(h, twice)
	return added(twice, calm, -1)
}

// lasting is the heaping that lasts and is alike: what is ample changes no likeness, and makes it last.
func lasting(h api.Heaps, turves []int) []int {
	return add(h, ample(h), turves)
}

func zero(h api.Heaps) []int {
	return lasting(h, make([]int, len(h.Ground)))
}
