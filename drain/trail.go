package drain

import (
	"slices"

	"turbary/api"
)

// Split: see P2.5.
func Split(n api.Net, flow []int) ([]api.Trail, api.Errno) {
	value, e := CheckFlow(n, flow)
	if e != api.OK {
		return nil, e
	}
	if value < 0 {
		return nil, api.ErrState
	}
	// One more drain that takes the value back makes each way a round. Each round that is taken out empties
	// a drain, and the last one all of its drains, so they are not more than the drains of the net.
	back := len(flow)
	rests := append(restsOf(n, flow), rest{api.Drain{From: n.To, To: n.From, Width: value}, value})
	var trails []api.Trail
	for round := roundOf(rests); len(round) > 0; round = roundOf(rests) {
		amount := takeOut(rests, round)
		if i := slices.Index(round, back); i >= 0 {
			round = slices.Concat(round[i+1:], round[:i])
		}
		trails = append(trails, api.Trail{Drains: round, Amount: amount})
	}
	return trails, api.OK
}

// Sum: see P2.5.
func Sum(n api.Net, trails []api.Trail) ([]int, api.Errno) {
	if e := Validate(n); e != api.OK {
		return nil, e
	}
	if len(trails) > api.MaxTrails {
		return nil, api.ErrLarge
	}
	sums := make([]int, len(n.Drains))
	for _, t := range trails {
		if !isTrail(n, t) || !isWay(n, t) && !isRound(n, t) {
			return nil, api.ErrArg
		}
		for _, k := range t.Drains {
			sums[k] += t.Amount
		}
	}
	return sums, api.OK
}

// roundOf finds a round along drains in which something runs, none if nothing runs any more. As much goes
// out of each node as comes in, so that what goes along can always go on, until it comes to a node again.
func roundOf(rests []rest) []int {
	first := slices.IndexFunc(rests, func(r rest) bool { return r.runs > 0 })
	if first < 0 {
		return nil
	}
	walk := []int{first}
	for {
		at := rests[walk[len(walk)-1]].To
		if i := slices.IndexFunc(walk, func(k int) bool { return rests[k].From == at }); i >= 0 {
			return walk[i:]
		}
		walk = append(walk, slices.IndexFunc(rests, func(r rest) bool { return r.From == at && r.runs > 0 }))
	}
}

// takeOut takes as much as possible out of a round, and returns how much that is.
func takeOut(rests []rest, round []int) int {
	amount := rests[round[0]].runs
	for _, k := range round {
		amount = min(amount, rests[k].runs)
	}
	for _, k := range round {
		rests[k].runs -= amount
	}
	return amount
}

func isTrail(n api.Net, t api.Trail) bool {
	if len(t.Drains) == 0 || t.Amount < 1 || t.Amount > api.MaxWidth {
		return false
	}
	had := make([]bool, len(n.Drains))
	for i, k := range t.Drains {
		if !isDrain(n, k) || had[k] || i > 0 && n.Drains[k].From != n.Drains[t.Drains[i-1]].To {
			return false
		}
		had[k] = true
	}
	return true
}

func isWay(n api.Net, t api.Trail) bool {
	from, to := ends(n, t)
	return from == n.From && to == n.To
}

func isRound(n api.Net, t api.Trail) bool {
	from, to := ends(n, t)
	return from == to
}

func ends(n api.Net, t api.Trail) (from, to int) {
	return n.Drains[t.Drains[0]].From, n.Drains[t.Drains[len(t.Drains)-1]].To
}
