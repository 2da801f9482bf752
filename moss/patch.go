package moss

import (
	"slices"

	"turbary/api"
)

// Edge: see P8.4.
func Edge(m api.Meadow, wet int) (int, api.Errno) {
	if e := validateSet(m, wet); e != api.OK {
		return 0, e
	}
	edge := 0
	for square := range squares(wet) {
		edge += sides - beside(m, square, wet)
	}
	return edge, api.OK
}

// Thin: see P8.4.
func Thin(m api.Meadow, wet int) (int, api.Errno) {
	if e := validateSet(m, wet); e != api.OK {
		return 0, e
	}
	end, thin := endOf(m, wet), wet
	for _, square := range slices.Backward(listOf(squares(wet))) {
		without := thin &^ only(square)
		if endOf(m, without) == end {
			thin = without
		}
	}
	return thin, api.OK
}

// Fewest: see P8.4.
func Fewest(m api.Meadow) (int, int, api.Errno) {
	if e := Validate(m); e != api.OK {
		return 0, 0, e
	}
	if count(all(m)) > api.MaxTry {
		return 0, 0, api.ErrLarge
	}
	fewest := all(m)
	for set := range all(m) {
		if count(set) < count(fewest) && endOf(m, set) == all(m) {
			fewest = set
		}
	}
	return count(fewest), fewest, api.OK
}

// Needed: see P8.4.
func Needed(m api.Meadow, wet int) ([]int, api.Errno) {
	if e := validateSet(m, wet); e != api.OK {
		return nil, e
	}
	end, needed := endOf(m, wet), 0
	for square := range squares(wet) {
		// A smaller set spreads to no other squares, so if it ends with others, it ends with fewer.
		if endOf(m, wet&^only(square)) != end {
			needed |= only(square)
		}
	}
	return listOf(squares(needed)), api.OK
}
