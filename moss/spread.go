package moss

import "turbary/api"

// Step: see P8.2.
func Step(m api.Meadow, wet int) (int, api.Errno) {
	if e := validateSet(m, wet); e != api.OK {
		return 0, e
	}
	return wet | ready(m, wet), api.OK
}

// Spread: see P8.2.
func Spread(m api.Meadow, wet int) (int, int, api.Errno) {
	if e := validateSet(m, wet); e != api.OK {
		return 0, 0, e
	}
	end, steps := spread(m, wet)
	return end, steps, api.OK
}

// Fills: see P8.2.
func Fills(m api.Meadow, wet int) (bool, api.Errno) {
	if e := validateSet(m, wet); e != api.OK {
		return false, e
	}
	return endOf(m, wet) == all(m), api.OK
}

// Day: see P8.2.
func Day(m api.Meadow, wet, square int) (int, bool, api.Errno) {
	if e := validateSet(m, wet); e != api.OK {
		return 0, false, e
	}
	if !isSquare(m, square) {
		return 0, false, api.ErrNone
	}
	if !has(endOf(m, wet), square) {
		return 0, false, api.OK
	}
	day := 0
	for !has(wet, square) {
		wet |= ready(m, wet)
		day++
	}
	return day, true, api.OK
}

// ready is the set of the squares that become wet in a step.
func ready(m api.Meadow, wet int) int {
	set := 0
	for square := range squares(all(m) &^ wet) {
		if beside(m, square, wet) >= m.Need {
			set |= only(square)
		}
	}
	return set
}

// spread returns the wet squares at the end, and the number of steps in which something changed.
func spread(m api.Meadow, wet int) (int, int) {
	steps := 0
	for next := ready(m, wet); next != 0; next = ready(m, wet) {
		wet |= next
		steps++
	}
	return wet, steps
}

func endOf(m api.Meadow, wet int) int {
	wet, _ = spread(m, wet)
	return wet
}
