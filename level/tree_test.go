package level_test

import (
	"slices"
	"testing"

	"turbary/api"
	"turbary/level"
)

func TestTreesOfExamples(t *testing.T) {
	for i, x := range []struct {
		s              api.Survey
		parts          [][]int
		tree, by, gaps []int
		isTrue         bool
	}{
		{double(), [][]int{{0, 1}}, []int{0}, []int{0, 10}, []int{0, 3}, false},
		{triangle(), [][]int{{0, 1, 2}}, []int{0, 1}, []int{0, 5, 8}, []int{0, 0, 1}, false},
		{scattered(), [][]int{{0, 3}, {1, 2, 4}}, []int{0, 2, 3}, []int{0, 0, 8, -7, 2}, []int{0, 1, 0, 0, 9}, false},
		{survey(1), [][]int{{0}}, nil, []int{0}, nil, true},
		{apart(), [][]int{{0}, {1}, {2}, {3}}, nil, []int{0, 0, 0, 0}, nil, true},
		{survey(3, reading(2, 1, 4, 1)), [][]int{{0}, {1, 2}}, []int{0}, []int{0, 0, -4}, []int{0}, true},
		{survey(3, reading(1, 0, 4, 1), reading(2, 1, -1, 1), reading(0, 2, -3, 2)), [][]int{{0, 1, 2}}, []int{0, 1}, []int{0, -4, -3}, []int{0, 0, 0}, true},
		{survey(5, reading(4, 3, 1, 1), reading(3, 2, 1, 1), reading(2, 1, 1, 1), reading(1, 0, 1, 1), reading(4, 0, 5, 1)), [][]int{{0, 1, 2, 3, 4}},
			[]int{0, 1, 2, 3}, []int{0, -1, -2, -3, -4}, []int{0, 0, 0, 0, 1}, false},
	} {
		if got, e := level.Parts(x.s); !slices.EqualFunc(got, x.parts, slices.Equal) || e != api.OK {
			t.Errorf("P1.2: parts of %d: %v %v", i, got, e)
		}
		if got, e := level.Tree(x.s); !slices.Equal(got, x.tree) || e != api.OK {
			t.Errorf("P1.2: tree of %d: %v %v", i, got, e)
		}
		if got, e := level.ByTree(x.s); !slices.Equal(got, x.by) || e != api.OK {
			t.Errorf("P1.2: heights by the tree of %d: %v %v", i, got, e)
		}
		if got, e := level.Closures(x.s); !slices.Equal(got, x.gaps) || e != api.OK {
			t.Errorf("P1.2: closures of %d: %v %v", i, got, e)
		}
		if got, e := level.IsTrue(x.s); got != x.isTrue || e != api.OK {
			t.Errorf("P1.2: truth of %d: %v %v", i, got, e)
		}
	}
}

func TestParts(t *testing.T) {
	for _, s := range some(300) {
		first := smallest(s, all(s))
		got, e := level.Parts(s)
		if e != api.OK || len(got) != count(first) || !slices.IsSortedFunc(got, slices.Compare) {
			t.Fatalf("P1.2: parts of %v: %v %v", s, got, e)
		}
		points := 0
		for _, part := range got {
			points += len(part)
			for n, p := range part {
				if first[p] != part[0] || n > 0 && part[n-1] >= p {
					t.Errorf("P1.2: parts of %v: %v", s, got)
				}
			}
		}
		if points != s.Points {
			t.Errorf("P1.2: parts of %v: %v", s, got)
		}
	}
}

func TestTree(t *testing.T) {
	for _, s := range some(300) {
		var tree, gaps []int
		set := uint(0)
		for k := range s.Readings {
			if isForest(s, set|1<<k) {
				tree = append(tree, k)
				set |= 1 << k
			}
		}
		heights := heightsBy(s, set)
		for _, r := range s.Readings {
			gaps = append(gaps, r.Rise-(heights[r.To]-heights[r.From]))
		}
		if got, e := level.Tree(s); !slices.Equal(got, tree) || e != api.OK {
			t.Errorf("P1.2: tree of %v: %v %v", s, got, e)
		}
		if got, e := level.ByTree(s); !slices.Equal(got, heights) || e != api.OK {
			t.Errorf("P1.2: heights by the tree of %v: %v %v", s, got, e)
		}
		if got, e := level.Closures(s); !slices.Equal(got, gaps) || e != api.OK {
			t.Errorf("P1.2: closures of %v: %v %v", s, got, e)
		}
	}
}

// TestIsTrue goes along all rounds without a point twice; each walk that ends where it began consists of them.
func TestIsTrue(t *testing.T) {
	truths := 0
	for _, s := range some(300) {
		want := true
		for p := range s.Points {
			want = want && !isLiftedRound(t, s, p, nil, 1<<p)
		}
		got, e := level.IsTrue(s)
		if got != want || e != api.OK {
			t.Errorf("P1.2: truth of %v: %v %v", s, got, e)
		}
		if got && len(s.Readings) > 2 {
			truths++
		}
	}
	if truths < 3 {
		t.Error("too few surveys with rounds are true:", truths)
	}
}

// isLiftedRound reports whether some round from a point, with this beginning, does not rise by 0.
func isLiftedRound(t *testing.T, s api.Survey, from int, walk []int, been uint) bool {
	at, rise, e := level.Walk(s, from, walk)
	if e != api.OK {
		t.Fatalf("P1.2: walk %v from %d of %v: %v", walk, from, s, e)
	}
	if len(walk) > 0 && at == from {
		return rise != 0
	}
	for k, r := range s.Readings {
		for _, leg := range [][3]int{{k + 1, r.From, r.To}, {-(k + 1), r.To, r.From}} {
			if leg[1] != at || leg[2] != from && been>>leg[2]&1 == 1 {
				continue
			}
			if isLiftedRound(t, s, from, append(slices.Clone(walk), leg[0]), been|1<<leg[2]) {
				return true
			}
		}
	}
	return false
}

func TestWalk(t *testing.T) {
	for i, x := range []struct {
		from      int
		walk      []int
		end, rise int
		want      api.Errno
	}{
		{0, []int{1, 2, -3}, 0, -1, api.OK},
		{1, nil, 1, 0, api.OK}, {1, []int{}, 1, 0, api.OK},
		{0, []int{3, -2, -1}, 0, 1, api.OK}, {2, []int{-3, 1}, 1, -4, api.OK}, {2, []int{-2, -1}, 0, -8, api.OK},
		{0, slices.Repeat([]int{1, -1}, 10), 0, 0, api.OK}, {1, slices.Repeat([]int{2, -3, 1, -1, 1}, 4), 1, -4, api.OK},
		{0, slices.Repeat([]int{1}, 21), 0, 0, api.ErrLarge}, {0, make([]int, 21), 0, 0, api.ErrLarge},
		{0, []int{0}, 0, 0, api.ErrNone}, {0, []int{4}, 0, 0, api.ErrNone}, {0, []int{-4}, 0, 0, api.ErrNone},
		{0, []int{least}, 0, 0, api.ErrNone}, {0, []int{greatest}, 0, 0, api.ErrNone}, {0, []int{least + 1}, 0, 0, api.ErrNone},
		{0, []int{2, 4}, 0, 0, api.ErrNone}, {0, []int{1, 1, 0}, 0, 0, api.ErrNone},
		{0, []int{2}, 0, 0, api.ErrApart}, {0, []int{-1}, 0, 0, api.ErrApart}, {0, []int{1, 1}, 0, 0, api.ErrApart}, {0, []int{1, 3}, 0, 0, api.ErrApart}, {0, []int{1, 2, 3}, 0, 0, api.ErrApart},
	} {
		if end, rise, e := level.Walk(triangle(), x.from, x.walk); end != x.end || rise != x.rise || e != x.want {
			t.Errorf("P1.2: %d: %d %d %v", i, end, rise, e)
		}
	}
	if _, _, e := level.Walk(apart(), 0, []int{1}); e != api.ErrNone {
		t.Error("P1.2: there is no reading at all:", e)
	}
	walk := []int{1, 2, -3}
	if level.Walk(triangle(), 0, walk); !slices.Equal(walk, []int{1, 2, -3}) {
		t.Error("R5: the walk has changed:", walk)
	}
}
