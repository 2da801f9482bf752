package drain_test

import (
	"reflect"
	"slices"
	"testing"

	"turbary/api"
	"turbary/drain"
)

func TestValidate(t *testing.T) {
	for want, list := range broken() {
		for i, n := range list {
			if e := drain.Validate(n); e != want {
				t.Errorf("P2.1: %v of %d: %v", want, i, e)
			}
		}
	}
	right := append(some(), net(2), net(api.MaxNodes), between(2, 1, 0, pipe(0, 1, api.MaxWidth), pipe(1, 0, 0)))
	right = append(right, net(2, slices.Repeat([]api.Drain{pipe(0, 1, 1)}, api.MaxDrains)...))
	for _, n := range right {
		if e := drain.Validate(n); e != api.OK {
			t.Errorf("P2.1: %v: %v", n, e)
		}
	}
}

// result is what a function gave: its results as they are, true if all but the error were the zero value, and the error.
type result struct {
	all  any
	zero bool
	e    api.Errno
}

func number(x int, e api.Errno) result { return result{x, x == 0, e} }

func list(x []int, e api.Errno) result { return result{x, x == nil, e} }

func changed(x api.Net, e api.Errno) result { return result{x, isZero(x), e} }

// callAll calls each function but Validate.
func callAll(n api.Net, k, j int, flow, cut []int, trails []api.Trail) map[string]result {
	split, e := drain.Split(n, flow)
	return map[string]result{
		"CheckFlow": number(drain.CheckFlow(n, flow)),
		"Most":      number(drain.Most(n)),
		"Flow":      list(drain.Flow(n)),
		"Across":    number(drain.Across(n, cut)),
		"CheckMost": {nil, true, drain.CheckMost(n, flow, cut)},
		"Least":     list(drain.Least(n)),
		"Greatest":  list(drain.Greatest(n)),
		"Critical":  list(drain.Critical(n)),
		"Wanted":    list(drain.Wanted(n)),
		"Needless":  list(drain.Needless(n)),
		"Widen":     changed(drain.Widen(n, k, j)),
		"Reverse":   changed(drain.Reverse(n)),
		"Join":      changed(drain.Join(n, k, j)),
		"Split":     {split, split == nil, e},
		"Sum":       list(drain.Sum(n, trails)),
	}
}

func TestErrorsOfNetsComeFirst(t *testing.T) {
	for want, nets := range broken() {
		for i, n := range nets {
			for name, got := range callAll(n, -1, highest, []int{-1}, []int{-1}, make([]api.Trail, api.MaxTrails+1)) {
				if got.e != want || !got.zero {
					t.Errorf("P2.1, R2, R3: %s of %v of %d: %v", name, want, i, got)
				}
			}
		}
	}
}

func TestNoSuchDrainOrNode(t *testing.T) {
	for _, k := range []int{-1, 3, lowest, highest} {
		for _, by := range []int{0, 1, 99, lowest, highest} {
			if n, e := drain.Widen(beside(), k, by); !isZero(n) || e != api.ErrNone {
				t.Errorf("P2.1: the drain %d widened by %d: %v %v", k, by, n, e)
			}
		}
		for _, pair := range [][2]int{{k, 0}, {0, k}, {2, k}, {k, 2}, {k, k}} {
			if n, e := drain.Join(beside(), pair[0], pair[1]); !isZero(n) || e != api.ErrNone {
				t.Errorf("P2.1: %v joined: %v %v", pair, n, e)
			}
		}
	}
	if n, e := drain.Widen(net(2), 0, 0); !isZero(n) || e != api.ErrNone {
		t.Error("P2.1: there is no drain at all:", n, e)
	}
}

func TestWiden(t *testing.T) {
	steps := []int{lowest, lowest + 1, lowest + 20, highest, highest - 1, highest - 20}
	for by := -api.MaxWidth - 2; by <= api.MaxWidth+2; by++ {
		steps = append(steps, by)
	}
	for _, n := range some()[:200] {
		for k := range n.Drains {
			for _, by := range steps {
				want := clone(n)
				want.Drains[k].Width += by
				width := want.Drains[k].Width
				got, e := drain.Widen(n, k, by)
				// Sums of so great numbers wrap around, and are out of range anyway.
				if fits := by > -100 && by < 100 && width >= 0 && width <= api.MaxWidth; !fits {
					if !isZero(got) || e != api.ErrArg {
						t.Errorf("P2.4: %v, %d widened by %d: %v %v", n, k, by, got, e)
					}
				} else if !same(got, want) || e != api.OK {
					t.Errorf("P2.4: %v, %d widened by %d: %v %v", n, k, by, got, e)
				}
			}
		}
	}
}

func TestReverse(t *testing.T) {
	for _, n := range some() {
		want := between(n.Nodes, n.To, n.From)
		for _, d := range n.Drains {
			want.Drains = append(want.Drains, pipe(d.To, d.From, d.Width))
		}
		got, e := drain.Reverse(n)
		if !same(got, want) || e != api.OK {
			t.Errorf("P2.4: %v reversed: %v %v", n, got, e)
		}
		before, _ := drain.Most(n)
		if after, e := drain.Most(got); before != after || e != api.OK {
			t.Errorf("P2.4: the most of %v reversed is %d, not %d: %v", n, after, before, e)
		}
	}
}

// joined follows P2.4 by the list of the nodes that stay.
func joined(n api.Net, i, j int) api.Net {
	var stay []int
	for node := range n.Nodes {
		if node != j {
			stay = append(stay, node)
		}
	}
	number := func(node int) int {
		if node == j {
			return slices.Index(stay, i)
		}
		return slices.Index(stay, node)
	}
	want := between(len(stay), number(n.From), number(n.To))
	for _, d := range n.Drains {
		if ends := [2]int{number(d.From), number(d.To)}; ends[0] != ends[1] {
			want.Drains = append(want.Drains, pipe(ends[0], ends[1], d.Width))
		}
	}
	return want
}

func TestJoin(t *testing.T) {
	for _, n := range some() {
		before, _ := drain.Most(n)
		for i := range n.Nodes {
			for j := range n.Nodes {
				got, e := drain.Join(n, i, j)
				if i == j || i == n.From && j == n.To || i == n.To && j == n.From {
					if !isZero(got) || e != api.ErrArg {
						t.Errorf("P2.4: %v, %d and %d joined: %v %v", n, i, j, got, e)
					}
					continue
				}
				if !same(got, joined(n, i, j)) || e != api.OK {
					t.Errorf("P2.4: %v, %d and %d joined: %v %v", n, i, j, got, e)
				}
				if after, e := drain.Most(got); after < before || e != api.OK {
					t.Errorf("P2.4: the most of %v with %d and %d joined is %d, not %d: %v", n, i, j, after, before, e)
				}
			}
		}
	}
}

func TestJoinOfSingleNets(t *testing.T) {
	for _, c := range []struct {
		i, j int
		want api.Net
	}{
		{1, 3, between(3, 2, 0, pipe(2, 1, 2), pipe(1, 2, 1), pipe(1, 0, 1), pipe(0, 2, 2), pipe(1, 0, 0), pipe(2, 1, 1))},
		{3, 1, between(3, 1, 0, pipe(1, 2, 2), pipe(2, 1, 1), pipe(2, 0, 1), pipe(0, 1, 2), pipe(2, 0, 0), pipe(1, 2, 1))},
		{1, 2, between(3, 1, 0, pipe(1, 2, 2), pipe(2, 1, 2), pipe(2, 0, 1), pipe(0, 1, 2), pipe(1, 0, 0))},
		{1, 0, between(3, 1, 0, pipe(1, 0, 2), pipe(0, 1, 1), pipe(0, 2, 2), pipe(2, 0, 2), pipe(2, 0, 1), pipe(0, 1, 2), pipe(1, 0, 1))},
	} {
		if got, e := drain.Join(twisted(), c.i, c.j); !same(got, c.want) || e != api.OK {
			t.Errorf("P2.4: %d and %d joined: %v %v", c.i, c.j, got, e)
		}
	}
}

func TestMemory(t *testing.T) {
	n := twisted()
	widened, _ := drain.Widen(n, 1, 1)
	reversed, _ := drain.Reverse(n)
	with, _ := drain.Join(n, 1, 3)
	for _, x := range []api.Net{widened, reversed, with} {
		if len(x.Drains) == 0 {
			t.Fatal("P2.4: no drains:", x)
		}
		clear(x.Drains)
		if !same(n, twisted()) {
			t.Fatal("R5: the argument has changed:", n)
		}
	}
	flow := []int{2, 1, 2, 1, 1, 0, 0, 0}
	trails, e := drain.Split(n, flow)
	if e != api.OK || len(trails) != 3 {
		t.Fatal("P2.5:", trails, e)
	}
	for i, x := range trails {
		_ = append(x.Drains, 99)
		clear(x.Drains)
		for _, later := range trails[i+1:] {
			if slices.Contains(later.Drains, 99) || later.Drains[0] == later.Drains[1] {
				t.Error("R5: two trails share memory:", later)
			}
		}
	}
	if !slices.Equal(flow, []int{2, 1, 2, 1, 1, 0, 0, 0}) {
		t.Error("R5: the flow has changed:", flow)
	}
}

func TestArgumentsStayAndEqualCallsAgree(t *testing.T) {
	for _, n := range some() {
		flow, _ := drain.Flow(n)
		cut, _ := drain.Least(n)
		trails, _ := drain.Split(n, flow)
		kept, keptFlow, keptCut, keptTrails := clone(n), slices.Clone(flow), slices.Clone(cut), slices.Clone(trails)
		for i, x := range trails {
			keptTrails[i].Drains = slices.Clone(x.Drains)
		}
		first := callAll(n, 1, 0, flow, cut, trails)
		for name, second := range callAll(kept, 1, 0, keptFlow, keptCut, keptTrails) {
			if !reflect.DeepEqual(first[name], second) {
				t.Errorf("R11: %s of %v: %v %v", name, n, first[name], second)
			}
		}
		if !same(n, kept) || !slices.Equal(flow, keptFlow) || !slices.Equal(cut, keptCut) || !reflect.DeepEqual(trails, keptTrails) {
			t.Errorf("R5: %v, %v, %v and %v have become %v, %v, %v and %v", kept, keptFlow, keptCut, keptTrails, n, flow, cut, trails)
		}
	}
}

func TestNilIsEmpty(t *testing.T) {
	n := api.Net{Nodes: 3, To: 1}
	m := api.Net{Nodes: 3, To: 1, Drains: []api.Drain{}}
	first := callAll(n, 2, 1, nil, nil, nil)
	for name, second := range callAll(m, 2, 1, []int{}, []int{}, []api.Trail{}) {
		if first[name].e != second.e {
			t.Errorf("R4: %s: %v %v", name, first[name], second)
		}
	}
	if value, e := drain.CheckFlow(n, nil); value != 0 || e != api.OK {
		t.Error("R4: CheckFlow:", value, e)
	}
}
