package drain

import (
	"slices"

	"turbary/api"
)

// nowhere is the goal of a search that shall go through all it can reach.
const nowhere = -1

// Least: see P2.3.
func Least(n api.Net) ([]int, api.Errno) {
	flow, e := Flow(n)
	if e != api.OK {
		return nil, e
	}
	// No cut whose width is the most lets more go out of it, so each has all nodes to which more can go.
	s := newSearch(n, restsOf(n, flow), nowhere)
	s.visit(n.From, way{room: api.MaxWidth})
	var least []int
	for node, seen := range s.seen {
		if seen {
			least = append(least, node)
		}
	}
	return least, api.OK
}

// Greatest: see P2.3.
func Greatest(n api.Net) ([]int, api.Errno) {
	reversed, e := Reverse(n)
	if e != api.OK {
		return nil, e
	}
	// The cuts of the reversed net are the nodes that those of the net leave over, with the same widths.
	beyond, _ := Least(reversed)
	var greatest []int
	for node := range n.Nodes {
		if !slices.Contains(beyond, node) {
			greatest = append(greatest, node)
		}
	}
	return greatest, api.OK
}

// Critical: see P2.3.
func Critical(n api.Net) ([]int, api.Errno) {
	most, e := Most(n)
	if e != api.OK {
		return nil, e
	}
	var critical []int
	for k, d := range n.Drains {
		if d.Width > 0 && mostIfNarrower(n, k, 1) < most {
			critical = append(critical, k)
		}
	}
	return critical, api.OK
}

// Wanted: see P2.3.
func Wanted(n api.Net) ([]int, api.Errno) {
	if e := Validate(n); e != api.OK {
		return nil, e
	}
	least, _ := Least(n)
	greatest, _ := Greatest(n)
	var wanted []int
	for k, d := range n.Drains {
		// A drain that does not go out of all cuts whose width is the most leaves one of them as it is.
		if slices.Contains(least, d.From) && !slices.Contains(greatest, d.To) {
			wanted = append(wanted, k)
		}
	}
	return wanted, api.OK
}

// Needless: see P2.3.
func Needless(n api.Net) ([]int, api.Errno) {
	most, e := Most(n)
	if e != api.OK {
		return nil, e
	}
	var needless []int
	for k, d := range n.Drains {
		if mostIfNarrower(n, k, d.Width) == most {
			needless = append(needless, k)
		}
	}
	return needless, api.OK
}

// mostIfNarrower is for a valid net and a drain of at least this width, so that no error can come.
func mostIfNarrower(n api.Net, k, by int) int {
	narrower, _ := Widen(n, k, -by)
	most, _ := Most(narrower)
	return most
}
