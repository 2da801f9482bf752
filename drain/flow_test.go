package drain_test

import (
	"slices"
	"testing"

	"turbary/api"
	"turbary/drain"
)

func TestFlowsOfExamples(t *testing.T) {
	for _, c := range []struct {
		n    api.Net
		most int
	}{
		{beside(), 5}, {row(), 2}, {net(3), 0}, {net(2), 0}, {crossed(), 2}, {twisted(), 1}, {net(2, pipe(1, 0, 20)), 0},
		{net(2, slices.Repeat([]api.Drain{pipe(0, 1, api.MaxWidth)}, api.MaxDrains)...), 320},
		{between(3, 2, 0, pipe(1, 0, 9), pipe(2, 1, 7)), 7}, {net(4, pipe(0, 1, 5), pipe(2, 3, 5)), 0},
	} {
		if most, e := drain.Most(c.n); most != c.most || e != api.OK {
			t.Errorf("P2.2: most of %v: %d %v", c.n, most, e)
		}
	}
	if e := drain.CheckMost(beside(), []int{2, 3, 5}, []int{0, 1}); e != api.OK {
		t.Error("DOC.md, example 2:", e)
	}
}

func TestCheckFlow(t *testing.T) {
	for _, n := range small() {
		for flow := range grid(n) {
			value, e := drain.CheckFlow(n, flow)
			if !isFlow(n, flow) {
				if value != 0 || e != api.ErrProof {
					t.Errorf("P2.2: %v of %v: %d %v", flow, n, value, e)
				}
			} else if value != outOf(n, flow, n.From) || e != api.OK {
				t.Errorf("P2.2: %v of %v: %d %v", flow, n, value, e)
			}
		}
	}
}

func TestCheckFlowOfSingleFlows(t *testing.T) {
	for _, c := range []struct {
		n     api.Net
		flow  []int
		value int
		e     api.Errno
	}{
		{beside(), []int{3, 2, 5}, 5, api.OK}, {beside(), []int{0, 0, 0}, 0, api.OK}, {twisted(), []int{2, 1, 2, 1, 1, 0, 0, 0}, 1, api.OK},
		{net(3, pipe(0, 1, 9), pipe(2, 0, 9)), []int{0, 9}, -9, api.OK}, {net(3, pipe(2, 1, 4), pipe(1, 0, 4)), []int{3, 3}, -3, api.OK},
		{beside(), nil, 0, api.ErrArg}, {beside(), []int{3, 2}, 0, api.ErrArg}, {beside(), []int{3, 2, 5, 0}, 0, api.ErrArg}, {beside(), []int{-1, 99}, 0, api.ErrArg}, {net(3), []int{0}, 0, api.ErrArg},
		{beside(), []int{4, 1, 5}, 0, api.ErrRule}, {beside(), []int{3, 5, 5}, 0, api.ErrRule}, {beside(), []int{-1, 1, 0}, 0, api.ErrRule}, {beside(), []int{1, 1, 6}, 0, api.ErrRule},
		{beside(), []int{highest, highest, 2}, 0, api.ErrRule}, {beside(), []int{lowest, lowest, 0}, 0, api.ErrRule}, {beside(), []int{0, 0, highest}, 0, api.ErrRule},
		{beside(), []int{3, 2, 4}, 0, api.ErrProof}, {beside(), []int{1, 1, 3}, 0, api.ErrProof}, {net(4, pipe(0, 1, 2), pipe(2, 3, 2)), []int{1, 1}, 0, api.ErrProof},
	} {
		if value, e := drain.CheckFlow(c.n, c.flow); value != c.value || e != c.e {
			t.Errorf("P2.2: %v of %v: %d %v", c.flow, c.n, value, e)
		}
	}
}

func TestFlowIsTheGreatest(t *testing.T) {
	for _, n := range small() {
		greatest := 0
		for flow := range grid(n) {
			if isFlow(n, flow) {
				greatest = max(greatest, outOf(n, flow, n.From))
			}
		}
		if most, e := drain.Most(n); most != greatest || e != api.OK {
			t.Errorf("P2.2: most of %v: %d, not %d: %v", n, most, greatest, e)
		}
	}
}

func TestFlowAndCutAgree(t *testing.T) {
	for _, n := range some() {
		sets, width := narrowest(n)
		most, e := drain.Most(n)
		if most != width || e != api.OK {
			t.Errorf("P2.2, S2: most of %v: %d, not %d: %v", n, most, width, e)
		}
		flow, e := drain.Flow(n)
		if len(flow) != len(n.Drains) || !isFlow(n, flow) || outOf(n, flow, n.From) != width || e != api.OK {
			t.Errorf("P2.2, S2: flow of %v: %v %v", n, flow, e)
		}
		for k, d := range n.Drains {
			if flow[k] < 0 || flow[k] > d.Width {
				t.Errorf("P2.2: flow of %v: %v", n, flow)
			}
		}
		for _, set := range cuts(n) {
			want := api.ErrProof
			if slices.Contains(sets, set) {
				want = api.OK
			}
			if e := drain.CheckMost(n, flow, nodesOf(set)); e != want {
				t.Errorf("P2.2, S2: %v and %v of %v: %v", flow, nodesOf(set), n, e)
			}
			if width, e := drain.Across(n, nodesOf(set)); width != widthOf(n, set) || width < most || e != api.OK {
				t.Errorf("P2.2, S2: across %v of %v: %d %v", nodesOf(set), n, width, e)
			}
		}
	}
}

func TestNoFlowIsAboveACut(t *testing.T) {
	for _, n := range small()[:60] {
		sets := cuts(n)
		for flow := range grid(n) {
			value, e := drain.CheckFlow(n, flow)
			for _, set := range sets {
				want := e
				if e == api.OK && value != widthOf(n, set) {
					want = api.ErrProof
				}
				if got := drain.CheckMost(n, flow, nodesOf(set)); got != want || e == api.OK && value > widthOf(n, set) {
					t.Errorf("P2.2, S2: %v and %v of %v: %v", flow, nodesOf(set), n, got)
				}
			}
		}
	}
}

func TestAcrossRefuses(t *testing.T) {
	square := between(4, 1, 2, pipe(1, 0, 3), pipe(0, 2, 5), pipe(2, 1, 7))
	for _, c := range []struct {
		cut   []int
		width int
		e     api.Errno
	}{
		{[]int{1}, 3, api.OK}, {[]int{0, 1}, 5, api.OK}, {[]int{0, 1, 3}, 5, api.OK}, {[]int{1, 3}, 3, api.OK},
		{nil, 0, api.ErrArg}, {[]int{0}, 0, api.ErrArg}, {[]int{0, 3}, 0, api.ErrArg}, {[]int{2}, 0, api.ErrArg}, {[]int{1, 2}, 0, api.ErrArg}, {[]int{0, 1, 2, 3}, 0, api.ErrArg},
		{[]int{1, 0}, 0, api.ErrArg}, {[]int{1, 1}, 0, api.ErrArg}, {[]int{0, 1, 1}, 0, api.ErrArg}, {[]int{0, 0, 1}, 0, api.ErrArg}, {[]int{0, 3, 1}, 0, api.ErrArg},
		{[]int{-1, 1}, 0, api.ErrArg}, {[]int{1, 4}, 0, api.ErrArg}, {[]int{lowest, 1}, 0, api.ErrArg}, {[]int{1, highest}, 0, api.ErrArg}, {slices.Repeat([]int{1}, 100), 0, api.ErrArg},
	} {
		if width, e := drain.Across(square, c.cut); width != c.width || e != c.e {
			t.Errorf("P2.2: across %v: %d %v", c.cut, width, e)
		}
	}
}

func TestCheckMostRefuses(t *testing.T) {
	for _, c := range []struct {
		flow, cut []int
		e         api.Errno
	}{
		{[]int{1, 4, 5}, []int{0, 1}, api.OK}, {[]int{1, 4, 5}, []int{0}, api.ErrProof}, {[]int{0, 4, 4}, []int{0, 1}, api.ErrProof}, {[]int{0, 0, 0}, []int{0, 1}, api.ErrProof},
		{[]int{1, 4}, []int{2}, api.ErrArg}, {[]int{1, 5, 5}, []int{2}, api.ErrRule}, {[]int{1, 4, 4}, []int{2}, api.ErrProof}, {[]int{1, 4, 5}, []int{2}, api.ErrArg}, {[]int{1, 3, 4}, nil, api.ErrArg},
		{[]int{1, 4, 5}, []int{0, 1, 2}, api.ErrArg}, {[]int{1, 4, 5}, []int{1, 0}, api.ErrArg},
	} {
		if e := drain.CheckMost(beside(), c.flow, c.cut); e != c.e {
			t.Errorf("P2.2: %v and %v: %v", c.flow, c.cut, e)
		}
	}
}
