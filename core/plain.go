package core

import (
	"cmp"
	"slices"

	"turbary/api"
)

// bound is a bound that can be compared with another one.
type bound api.Bound

// compare is for the ascending order.
func (x bound) compare(y bound) int {
	return cmp.Or(cmp.Compare(x.A, y.A), cmp.Compare(x.B, y.B), cmp.Compare(x.Most, y.Most))
}

// isBeside reports whether both are from the same layer to the same layer.
func (x bound) isBeside(y bound) bool {
	return x.A == y.A && x.B == y.B
}

// plainOf is plain, after the errors of the core, that of layers, and ErrClash.
func plainOf(c api.Core, layers ...int) ([]bound, api.Errno) {
	if e := validateLayers(c, layers...); e != api.OK {
		return nil, e
	}
	if possible, _ := IsPossible(c); !possible {
		return nil, api.ErrClash
	}
	return plain(c), api.OK
}

// plain has the tightest bound that follows from each layer to each other one, if there is one, in ascending
// order. It is for a core that does not clash: there the tightest bounds are sums along bounds that come to no
// layer twice, so that going on by one bound as many times as there are layers is enough.
func plain(c api.Core) []bound {
	var given []bound
	for _, x := range c.Bounds {
		given = append(given, bound(x))
	}
	given = tightest(given)
	list := given
	for range c.Layers {
		list = tightest(slices.Concat(list, sums(list, given)))
	}
	return list
}

// tightest puts the list in order; of bounds beside each other the first one is the tightest then, and stays.
func tightest(list []bound) []bound {
	slices.SortFunc(list, bound.compare)
	return slices.CompactFunc(list, bound.isBeside)
}

// sums has what follows from a bound of the list and one of those that go on from it.
func sums(list, next []bound) []bound {
	var longer []bound
	for _, x := range list {
		for _, y := range next {
			if x.B == y.A && x.A != y.B {
				longer = append(longer, bound{x.A, y.B, x.Most + y.Most})
			}
		}
	}
	return longer
}

// find is Tightest in the result of plain.
func find(list []bound, a, b int) (int, bool) {
	if a == b {
		return 0, true
	}
	i := slices.IndexFunc(list, bound{A: a, B: b}.isBeside)
	if i < 0 {
		return 0, false
	}
	return list[i].Most, true
}

// fixed is Fixed in the result of plain.
func fixed(list []bound, a, b int) (int, bool) {
	there, hasThere := find(list, a, b)
	back, hasBack := find(list, b, a)
	if !hasThere || !hasBack || there != -back {
		return 0, false
	}
	return there, true
}

// follows is Follows in the result of plain.
func follows(list []bound, x api.Bound) bool {
	most, ok := find(list, x.A, x.B)
	return ok && most <= x.Most
}
