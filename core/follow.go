package core

import (
	"slices"

	"turbary/api"
)

// Tightest: see P3.3.
func Tightest(c api.Core, a, b int) (int, bool, api.Errno) {
	list, e := plainOf(c, a, b)
	if e != api.OK {
		return 0, false, e
	}
	most, ok := find(list, a, b)
	return most, ok, api.OK
}

// Follows: see P3.3.
func Follows(c api.Core, x api.Bound) (bool, api.Errno) {
	if e := validateLayers(c, x.A, x.B); e != api.OK {
		return false, e
	}
	if !isBound(x) {
		return false, api.ErrArg
	}
	list, e := plainOf(c)
	if e != api.OK {
		return false, e
	}
	return follows(list, x), api.OK
}

// Latest: see P3.3.
func Latest(c api.Core, a int) ([]api.Mark, api.Errno) {
	list, e := plainOf(c, a)
	if e != api.OK {
		return nil, e
	}
	marks := make([]api.Mark, c.Layers)
	for b := range marks {
		most, ok := find(list, a, b)
		marks[b] = api.Mark{Known: ok, Date: most}
	}
	return marks, api.OK
}

// Earliest: see P3.3.
func Earliest(c api.Core, a int) ([]api.Mark, api.Errno) {
	turned, e := Turn(c)
	if e != api.OK {
		return nil, e
	}
	// The dates that keep the turned core are the opposite numbers of those that keep the core.
	marks, e := Latest(turned, a)
	for b := range marks {
		marks[b].Date = -marks[b].Date
	}
	return marks, e
}

// Fixed: see P3.4.
func Fixed(c api.Core, a, b int) (int, bool, api.Errno) {
	list, e := plainOf(c, a, b)
	if e != api.OK {
		return 0, false, e
	}
	difference, ok := fixed(list, a, b)
	return difference, ok, api.OK
}

// Groups: see P3.4.
func Groups(c api.Core) ([][]int, api.Errno) {
	list, e := plainOf(c)
	if e != api.OK {
		return nil, e
	}
	var groups [][]int
	for a := range c.Layers {
		var group []int
		for b := range c.Layers {
			if _, ok := fixed(list, a, b); ok {
				group = append(group, b)
			}
		}
		// Each layer of a group finds all of it: the first one gives it.
		if group[0] == a {
			groups = append(groups, group)
		}
	}
	return groups, api.OK
}

// Plain: see P3.4.
func Plain(c api.Core) ([]api.Bound, api.Errno) {
	list, e := plainOf(c)
	if e != api.OK {
		return nil, e
	}
	var bounds []api.Bound
	for _, x := range list {
		bounds = append(bounds, api.Bound(x))
	}
	return bounds, api.OK
}

// Same: see P3.4.
func Same(c, d api.Core) (bool, api.Errno) {
	if e := validatePair(c, d); e != api.OK {
		return false, e
	}
	one, e := plainOf(c)
	if e != api.OK {
		return false, e
	}
	other, e := plainOf(d)
	if e != api.OK {
		return false, e
	}
	return slices.Equal(one, other), api.OK
}

// Reduce: see P3.4.
func Reduce(c api.Core) (api.Core, api.Errno) {
	if _, e := plainOf(c); e != api.OK {
		return api.Core{}, e
	}
	reduced := copied(c)
	for k, x := range slices.Backward(c.Bounds) {
		without := copied(reduced)
		without.Bounds = slices.Delete(without.Bounds, k, k+1)
		if follows(plain(without), x) {
			reduced = without
		}
	}
	return reduced, api.OK
}
