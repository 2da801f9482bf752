package heap

import (
	"slices"

	"turbary/api"
)

// Script: see P5.6.
func Script(h api.Heaps, a, b []int) ([]int, bool, api.Errno) {
	if e := validateHeapings(h, a, b); e != api.OK {
		return nil, false, e
	}
	// With its limit more on each heap, each of the two settles to a heaping that lasts. If they are alike, both
	// come to the same one, and one way there, with the other one back, leads from a to b.
	fromA, there := settle(h, added(a, limits(h), 1))
	fromB, back := settle(h, added(b, limits(h), 1))
	if !slices.Equal(fromA, fromB) {
		return nil, false, api.OK
	}
	return added(there, back, -1), true, api.OK
}

// CheckScript: see P5.6.
func CheckScript(h api.Heaps, a, b, script []int) api.Errno {
	if e := validateHeapings(h, a, b); e != api.OK {
		return e
	}
	if !isScript(h, script) {
		return api.ErrArg
	}
	after := copied(a)
	for i, times := range script {
		topple(h, after, i, times)
	}
	if !slices.Equal(after, b) {
		return api.ErrProof
	}
	return api.OK
}

// Alike: see P5.6.
func Alike(h api.Heaps, a, b []int) (bool, api.Errno) {
	_, are, e := Script(h, a, b)
	return are, e
}

func isScript(h api.Heaps, script []int) bool {
	return len(script) == len(h.Ground) && !slices.ContainsFunc(script, func(times int) bool {
		return times < -api.MaxScript || times > api.MaxScript
	})
}
