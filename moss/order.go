package moss

import (
	"iter"
	"math/bits"
	"slices"

	"turbary/api"
)

// Core: see P8.3.
func Core(m api.Meadow, wet int) (int, api.Errno) {
	if e := validateSet(m, wet); e != api.OK {
		return 0, e
	}
	// What stays dry is a core, and no core without wet squares ever gets wet: its first wet square would have
	// enough wet neighbors outside it.
	return all(m) &^ endOf(m, wet), api.OK
}

// CheckCore: see P8.3.
func CheckCore(m api.Meadow, core int) api.Errno {
	if e := validateSet(m, core); e != api.OK {
		return e
	}
	// A square has enough neighbors outside the set just if it becomes wet when all of them are wet.
	if ready(m, all(m)&^core) != 0 {
		return api.ErrProof
	}
	return api.OK
}

// CheckOrder: see P8.3.
func CheckOrder(m api.Meadow, wet int, order []int) (int, int, api.Errno) {
	if e := validateSet(m, wet); e != api.OK {
		return 0, 0, e
	}
	if slices.ContainsFunc(order, func(square int) bool { return !isSquare(m, square) }) {
		return 0, 0, api.ErrNone
	}
	for k, square := range order {
		if !has(ready(m, wet), square) {
			return 0, k, api.ErrRule
		}
		wet |= only(square)
	}
	return wet, len(order), api.OK
}

// Order: see P8.3.
func Order(m api.Meadow, wet int) ([]int, api.Errno) {
	if e := validateSet(m, wet); e != api.OK {
		return nil, e
	}
	return listOf(smallestFirst(m, wet)), api.OK
}

// smallestFirst gives squares as they become wet one after another.
func smallestFirst(m api.Meadow, wet int) iter.Seq[int] {
	return func(yield func(int) bool) {
		now := wet
		for next := ready(m, now); next != 0; next = ready(m, now) {
			square := bits.TrailingZeros(uint(next))
			if !yield(square) {
				return
			}
			now |= only(square)
		}
	}
}
