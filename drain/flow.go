package drain

import (
	"slices"

	"turbary/api"
)

// CheckFlow: see P2.2.
func CheckFlow(n api.Net, flow []int) (int, api.Errno) {
	if e := Validate(n); e != api.OK {
		return 0, e
	}
	if len(flow) != len(n.Drains) {
		return 0, api.ErrArg
	}
	for k, d := range n.Drains {
		if flow[k] < 0 || flow[k] > d.Width {
			return 0, api.ErrRule
		}
	}
	out := outflows(n, flow)
	for node, amount := range out {
		if node != n.From && node != n.To && amount != 0 {
			return 0, api.ErrProof
		}
	}
	return out[n.From], api.OK
}

// Most: see P2.2.
func Most(n api.Net) (int, api.Errno) {
	flow, e := Flow(n)
	if e != api.OK {
		return 0, e
	}
	return CheckFlow(n, flow)
}

// Flow: see P2.2.
func Flow(n api.Net) ([]int, api.Errno) {
	if e := Validate(n); e != api.OK {
		return nil, e
	}
	rests := restsOf(n, make([]int, len(n.Drains)))
	find := func() (found way) {
		defer func() { found, _ = recover().(way) }()
		newSearch(n, rests, n.To).visit(n.From, way{room: api.MaxWidth})
		return way{}
	}
	for w := find(); w.room > 0; w = find() {
		fill(rests, n.From, w)
	}
	return amounts(rests), api.OK
}

// Across: see P2.2.
func Across(n api.Net, cut []int) (int, api.Errno) {
	if e := Validate(n); e != api.OK {
		return 0, e
	}
	if !isCut(n, cut) {
		return 0, api.ErrArg
	}
	width := 0
	for _, d := range n.Drains {
		if slices.Contains(cut, d.From) && !slices.Contains(cut, d.To) {
			width += d.Width
		}
	}
	return width, api.OK
}

// CheckMost: see P2.2.
func CheckMost(n api.Net, flow, cut []int) api.Errno {
	value, e := CheckFlow(n, flow)
	if e != api.OK {
		return e
	}
	width, e := Across(n, cut)
	if e != api.OK {
		return e
	}
	if value != width {
		return api.ErrProof
	}
	return api.OK
}

// outflows has for each node what goes out minus what comes in.
func outflows(n api.Net, flow []int) []int {
	out := make([]int, n.Nodes)
	for k, d := range n.Drains {
		out[d.From] += flow[k]
		out[d.To] -= flow[k]
	}
	return out
}

func isCut(n api.Net, cut []int) bool {
	for i, node := range cut {
		if !isNode(n, node) || i > 0 && node <= cut[i-1] {
			return false
		}
	}
	return slices.Contains(cut, n.From) && !slices.Contains(cut, n.To)
}
