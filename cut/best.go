package cut

import "turbary/api"

// Best: see P4.2.
func Best(b api.Bog) ([]int, int, api.Errno) {
	return joinBest(b, hollow.both)
}

// Deepest: see P4.2.
func Deepest(b api.Bog) ([]int, int, api.Errno) {
	return joinBest(b, hollow.either)
}

// Both: see P4.2.
func Both(b api.Bog, h, k []int) ([]int, api.Errno) {
	return joinTwo(b, h, k, hollow.both)
}

// Either: see P4.2.
func Either(b api.Bog, h, k []int) ([]int, api.Errno) {
	return joinTwo(b, h, k, hollow.either)
}

// joinBest joins all right hollows with the best worth. What they join to has the best worth itself: if what
// both of two have had a smaller one, what either has would have a greater one, and the other way round.
func joinBest(b api.Bog, join func(h, k hollow) hollow) ([]int, int, api.Errno) {
	if e := Validate(b); e != api.OK {
		return nil, 0, e
	}
	var best hollow
	most := 0
	for h, worth := range worths(b) {
		if worth > most {
			best, most = h, worth
		} else if worth == most {
			best = join(best, h)
		}
	}
	return best.in(b), most, api.OK
}

func joinTwo(b api.Bog, h, k []int, join func(h, k hollow) hollow) ([]int, api.Errno) {
	if e := CheckHollow(b, h); e != api.OK {
		return nil, e
	}
	if e := CheckHollow(b, k); e != api.OK {
		return nil, e
	}
	return join(hollowOf(h), hollowOf(k)).in(b), api.OK
}
