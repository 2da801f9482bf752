package drain_test

import (
	"math/rand/v2"
	"slices"
	"testing"

	"turbary/api"
	"turbary/drain"
)

// isGood follows P2.5: a trail that is a way or a round.
func isGood(n api.Net, x api.Trail) bool {
	if len(x.Drains) == 0 || x.Amount < 1 || x.Amount > api.MaxWidth {
		return false
	}
	for i, k := range x.Drains {
		if k < 0 || k >= len(n.Drains) || slices.Contains(x.Drains[:i], k) {
			return false
		}
	}
	nodes := nodesAlong(n, x)
	for i, k := range x.Drains {
		if n.Drains[k].From != nodes[i] {
			return false
		}
	}
	first, last := nodes[0], nodes[len(nodes)-1]
	return first == last || first == n.From && last == n.To
}

// nodesAlong has the first node of a trail, and then the end of each drain.
func nodesAlong(n api.Net, x api.Trail) []int {
	nodes := []int{n.Drains[x.Drains[0]].From}
	for _, k := range x.Drains {
		nodes = append(nodes, n.Drains[k].To)
	}
	return nodes
}

// isSimple is true if no node is passed twice, but that a round ends where it began.
func isSimple(n api.Net, x api.Trail) bool {
	nodes := nodesAlong(n, x)
	if nodes[0] == nodes[len(nodes)-1] {
		nodes = nodes[1:]
	}
	for i, node := range nodes {
		if slices.Contains(nodes[:i], node) {
			return false
		}
	}
	return true
}

// checkSplit is for a flow whose value is not below 0.
func checkSplit(t *testing.T, n api.Net, flow []int) {
	t.Helper()
	trails, e := drain.Split(n, flow)
	if e != api.OK || len(trails) > len(n.Drains) {
		t.Fatalf("P2.5: split %v of %v: %v %v", flow, n, trails, e)
	}
	sums, value := make([]int, len(n.Drains)), 0
	for _, x := range trails {
		if !isGood(n, x) || !isSimple(n, x) {
			t.Fatalf("P2.5: split %v of %v: %v in %v", flow, n, x, trails)
		}
		for _, k := range x.Drains {
			sums[k] += x.Amount
		}
		if nodes := nodesAlong(n, x); nodes[0] != nodes[len(nodes)-1] {
			value += x.Amount
		}
	}
	if !slices.Equal(sums, flow) || value != outOf(n, flow, n.From) {
		t.Fatalf("P2.5: split %v of %v: %v, whose sum is %v with the value %d", flow, n, trails, sums, value)
	}
	if got, e := drain.Sum(n, trails); !slices.Equal(got, flow) || e != api.OK {
		t.Fatalf("P2.5: sum of %v of %v: %v %v", trails, n, got, e)
	}
}

func TestSplit(t *testing.T) {
	for _, n := range small() {
		for flow := range grid(n) {
			want := api.OK
			switch {
			case !isFlow(n, flow):
				want = api.ErrProof
			case outOf(n, flow, n.From) < 0:
				want = api.ErrState
			}
			if want == api.OK {
				checkSplit(t, n, flow)
			} else if trails, e := drain.Split(n, flow); trails != nil || e != want {
				t.Errorf("P2.5: split %v of %v: %v %v", flow, n, trails, e)
			}
		}
	}
}

// stir adds rounds to a flow, found by walks along drains that are not full yet.
func stir(source *rand.Rand, n api.Net, flow []int) {
	for range 60 {
		at := source.IntN(n.Nodes)
		been, walk := []int{at}, []int{}
		for {
			var open []int
			for k, d := range n.Drains {
				if d.From == at && flow[k] < d.Width {
					open = append(open, k)
				}
			}
			if len(open) == 0 {
				break
			}
			k := open[source.IntN(len(open))]
			at = n.Drains[k].To
			walk = append(walk, k)
			if i := slices.Index(been, at); i >= 0 {
				for _, k := range walk[i:] {
					flow[k]++
				}
				break
			}
			been = append(been, at)
		}
	}
}

func TestSplitOfLargeFlows(t *testing.T) {
	source := rand.New(rand.NewPCG(4, 27))
	rounds := 0
	for _, n := range some() {
		flow, _ := drain.Flow(n)
		checkSplit(t, n, flow)
		before := slices.Clone(flow)
		stir(source, n, flow)
		checkSplit(t, n, flow)
		if !slices.Equal(flow, before) {
			rounds++
		}
		checkSplit(t, n, make([]int, len(n.Drains)))
	}
	if rounds < 100 {
		t.Error("P2.5: only so many flows had rounds:", rounds)
	}
}

func TestSplitRefuses(t *testing.T) {
	back := net(2, pipe(0, 1, 3), pipe(1, 0, 3))
	for _, c := range []struct {
		n    api.Net
		flow []int
		e    api.Errno
	}{
		{back, []int{1, 2}, api.ErrState}, {back, []int{0, 3}, api.ErrState}, {back, []int{2, 2}, api.OK}, {back, []int{3, 2}, api.OK},
		{beside(), []int{1, 4}, api.ErrArg}, {beside(), []int{4, 1, 4}, api.ErrRule}, {beside(), []int{1, 1, 1}, api.ErrProof},
		{net(3, pipe(1, 0, 3), pipe(2, 1, 3)), []int{1, 2}, api.ErrProof}, {net(3, pipe(1, 0, 3), pipe(2, 1, 3)), []int{2, 2}, api.ErrState},
	} {
		trails, e := drain.Split(c.n, c.flow)
		if e != c.e || e != api.OK && trails != nil {
			t.Errorf("P2.5: split %v of %v: %v %v", c.flow, c.n, trails, e)
		}
	}
}

// lists gives the lists of up to most numbers from -1 to one too many.
func lists(drains, most int) [][]int {
	all, last := [][]int{nil}, [][]int{nil}
	for range most {
		var longer [][]int
		for _, short := range last {
			for k := -1; k <= drains; k++ {
				longer = append(longer, append(slices.Clone(short), k))
			}
		}
		all, last = append(all, longer...), longer
	}
	return all
}

func TestSumOfSingleTrails(t *testing.T) {
	for _, n := range []api.Net{crossed(), net(2, pipe(0, 1, 3), pipe(1, 0, 2), pipe(0, 1, 0)), between(3, 1, 0, pipe(0, 1, 1), pipe(1, 2, 1), pipe(2, 0, 1), pipe(2, 1, 1))} {
		for _, drains := range lists(len(n.Drains), 5) {
			x := api.Trail{Drains: drains, Amount: 1 + len(drains)%api.MaxWidth}
			got, e := drain.Sum(n, []api.Trail{x})
			if !isGood(n, x) {
				if got != nil || e != api.ErrArg {
					t.Errorf("P2.5: sum of %v of %v: %v %v", x, n, got, e)
				}
				continue
			}
			want := make([]int, len(n.Drains))
			for _, k := range drains {
				want[k] = x.Amount
			}
			if !slices.Equal(got, want) || e != api.OK {
				t.Errorf("P2.5: sum of %v of %v: %v %v", x, n, got, e)
			}
		}
	}
}

func TestSum(t *testing.T) {
	way := api.Trail{Drains: []int{0, 2}, Amount: api.MaxWidth}
	long := api.Trail{Drains: []int{0, 2, 3, 4}, Amount: 1} // twisted: 2 1 3 1 and, by no drain, 3 0
	winding := api.Trail{Drains: []int{0, 1, 7, 2, 4}, Amount: 2}
	beyond := api.Trail{Drains: []int{0, 2, 4, 5, 7, 6}, Amount: 3}
	round := api.Trail{Drains: []int{4, 5, 0, 2}, Amount: 5}
	for _, c := range []struct {
		n      api.Net
		trails []api.Trail
		sums   []int
		e      api.Errno
	}{
		{beside(), nil, []int{0, 0, 0}, api.OK}, {net(3), nil, nil, api.OK},
		{beside(), []api.Trail{way, way, {Drains: []int{1, 2}, Amount: 1}}, []int{40, 1, 41}, api.OK},
		{beside(), slices.Repeat([]api.Trail{way}, api.MaxTrails), []int{800, 0, 800}, api.OK},
		{beside(), slices.Repeat([]api.Trail{way}, api.MaxTrails+1), nil, api.ErrLarge},
		{beside(), make([]api.Trail, api.MaxTrails+1), nil, api.ErrLarge}, {beside(), make([]api.Trail, api.MaxTrails), nil, api.ErrArg},
		{twisted(), []api.Trail{winding, beyond, round}, []int{10, 2, 10, 0, 10, 8, 3, 5}, api.OK},
		{twisted(), []api.Trail{winding, long}, nil, api.ErrArg},
		{twisted(), []api.Trail{{Drains: []int{5}, Amount: 1}}, nil, api.ErrArg},
		{twisted(), []api.Trail{{Drains: []int{5, 0, 2, 4, 6}, Amount: 1}}, nil, api.ErrArg},
		{net(2), []api.Trail{{Drains: []int{0}, Amount: 1}}, nil, api.ErrArg},
		{beside(), []api.Trail{way, {Drains: slices.Repeat([]int{0}, 1000), Amount: 1}}, nil, api.ErrArg},
	} {
		if got, e := drain.Sum(c.n, c.trails); !slices.Equal(got, c.sums) || e != c.e {
			t.Errorf("P2.5: sum of %v of %v: %v %v", c.trails, c.n, got, e)
		}
	}
	for _, amount := range []int{0, -1, api.MaxWidth + 1, lowest, highest} {
		if got, e := drain.Sum(beside(), []api.Trail{way, {Drains: []int{0, 2}, Amount: amount}}); got != nil || e != api.ErrArg {
			t.Errorf("P2.5: amount %d: %v %v", amount, got, e)
		}
	}
	for _, k := range []int{-1, 3, lowest, highest} {
		if got, e := drain.Sum(beside(), []api.Trail{{Drains: []int{0, k}, Amount: 1}, way}); got != nil || e != api.ErrArg {
			t.Errorf("P2.5: drain %d: %v %v", k, got, e)
		}
	}
}
