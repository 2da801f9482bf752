package cut

import (
	"slices"

	"turbary/api"
)

// Count: see P4.4.
func Count(b api.Bog) (int, api.Errno) {
	if e := Validate(b); e != api.OK {
		return 0, e
	}
	return len(worths(b)), api.OK
}

// Rank: see P4.4.
func Rank(b api.Bog, h []int) (int, api.Errno) {
	if e := CheckHollow(b, h); e != api.OK {
		return 0, e
	}
	return slices.Index(ascending(b), hollowOf(h)), api.OK
}

// Unrank: see P4.4.
func Unrank(b api.Bog, rank int) ([]int, api.Errno) {
	if e := Validate(b); e != api.OK {
		return nil, e
	}
	list := ascending(b)
	if !isWithin(rank, 0, len(list)-1) {
		return nil, api.ErrNone
	}
	return list[rank].in(b), api.OK
}

// Open: see P4.4.
func Open(b api.Bog, h []int) ([]int, api.Errno) {
	if e := CheckHollow(b, h); e != api.OK {
		return nil, e
	}
	return open(b, hollowOf(h)), api.OK
}

// CheckOrder: see P4.4.
func CheckOrder(b api.Bog, order []int) ([]int, int, api.Errno) {
	if e := Validate(b); e != api.OK {
		return nil, 0, e
	}
	if len(order) > api.MaxColumns*api.MaxDepth {
		return nil, 0, api.ErrLarge
	}
	for _, c := range order {
		if !isColumn(b, c) {
			return nil, 0, api.ErrNone
		}
	}
	var h hollow
	for k, c := range order {
		if !slices.Contains(open(b, h), c) {
			return nil, k, api.ErrRule
		}
		h = h.deeper(c)
	}
	return h.in(b), len(order), api.OK
}

// Order: see P4.4.
func Order(b api.Bog, h []int) ([]int, api.Errno) {
	if e := CheckHollow(b, h); e != api.OK {
		return nil, e
	}
	var order []int
	goal, done := hollowOf(h), hollow{}
	for done != goal {
		// Whatever is cut first, the rest of a right hollow can follow: the highest block of the rest is open.
		for _, c := range open(b, done) {
			if done[c] < goal[c] {
				order = append(order, c)
				done = done.deeper(c)
				break
			}
		}
	}
	return order, api.OK
}
