package cut

import (
	"maps"
	"slices"

	"turbary/api"
)

// hollow is a right hollow as a key of a map. Columns that the bog does not have are 0, so that they do not
// matter where hollows of one bog are compared.
type hollow [api.MaxColumns]int

func hollowOf(h []int) hollow {
	var key hollow
	copy(key[:], h)
	return key
}

func (h hollow) in(b api.Bog) []int {
	return slices.Clone(h[:len(b.Worth)])
}

// compare is for the ascending order.
func (h hollow) compare(k hollow) int {
	return slices.Compare(h[:], k[:])
}

func (h hollow) both(k hollow) hollow {
	for c := range h {
		h[c] = min(h[c], k[c])
	}
	return h
}

func (h hollow) either(k hollow) hollow {
	for c := range h {
		h[c] = max(h[c], k[c])
	}
	return h
}

// deeper has the next block of a column cut.
func (h hollow) deeper(c int) hollow {
	h[c]++
	return h
}

// open has the columns of which the next block can be cut.
func open(b api.Bog, h hollow) []int {
	var list []int
columns:
	for c := range b.Worth {
		if h[c] == depth(b) {
			continue
		}
		for _, d := range near(b, c) {
			if h[d] < h[c] {
				continue columns
			}
		}
		list = append(list, c)
	}
	return list
}

// worths has the worth of each right hollow. It comes to all of them by cutting open blocks, as a right hollow
// stays right without one of its blocks that lie deepest.
func worths(b api.Bog) map[hollow]int {
	found := map[hollow]int{{}: 0}
	list := []hollow{{}}
	for len(list) > 0 {
		h := list[len(list)-1]
		list = list[:len(list)-1]
		for _, c := range open(b, h) {
			next := h.deeper(c)
			if _, is := found[next]; !is {
				found[next] = found[h] + b.Worth[c][h[c]]
				list = append(list, next)
			}
		}
	}
	return found
}

// ascending has all right hollows in ascending order.
func ascending(b api.Bog) []hollow {
	return slices.SortedFunc(maps.Keys(worths(b)), hollow.compare)
}
