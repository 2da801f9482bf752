package drain

import "turbary/api"

// rest is what is left of a drain in which some runs already.
type rest struct {
	api.Drain
	runs int
}

// way is the drains that a search went along, forward or backward, and how much more can run along all of them.
type way struct {
	drains []int
	room   int
}

// search goes through what is left, from node to node; it is over as soon as it comes to its goal.
type search struct {
	rests []rest
	goal  int
	seen  []bool
}

func restsOf(n api.Net, flow []int) []rest {
	rests := make([]rest, len(flow))
	for k, d := range n.Drains {
		rests[k] = rest{d, flow[k]}
	}
	return rests
}

// onward is where the drain leads from a node, and how much more can go there. Against the drain that is
// what runs in it, as this can be taken back.
func (r *rest) onward(node int) (next, room int) {
	switch node {
	case r.From:
		return r.To, r.Width - r.runs
	case r.To:
		return r.From, r.runs
	}
	return node, 0
}

// send lets more go onward from a node.
func (r *rest) send(node, amount int) {
	if node == r.From {
		r.runs += amount
	} else {
		r.runs -= amount
	}
}

func newSearch(n api.Net, rests []rest, goal int) search {
	return search{rests, goal, make([]bool, n.Nodes)}
}

// visit panics with the way to the goal, however deep in its calls it finds it. If it returns, there is none,
// and all nodes to which something can go from here have been seen.
func (s search) visit(node int, behind way) {
	if node == s.goal {
		panic(behind)
	}
	s.seen[node] = true
	for k := range s.rests {
		next, room := s.rests[k].onward(node)
		if room > 0 && !s.seen[next] {
			// The next drain of this loop may write over the list: nobody has it any more, as there was no panic.
			s.visit(next, way{append(behind.drains, k), min(behind.room, room)})
		}
	}
}

func fill(rests []rest, from int, w way) {
	node := from
	for _, k := range w.drains {
		next, _ := rests[k].onward(node)
		rests[k].send(node, w.room)
		node = next
	}
}

func amounts(rests []rest) []int {
	flow := make([]int, len(rests))
	for k, r := range rests {
		flow[k] = r.runs
	}
	return flow
}
