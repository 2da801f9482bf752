package cut_test

import (
	"slices"
	"testing"

	"turbary/api"
	"turbary/cut"
)

func TestBestOfExamples(t *testing.T) {
	for _, x := range []struct {
		b             api.Bog
		best, deepest []int
		worth         int
	}{
		{single(), []int{2}, []int{2}, 2}, {three(), []int{2, 1, 0}, []int{2, 1, 1}, 1}, {even(), []int{0, 0, 0, 0, 0}, []int{2, 1, 2, 1, 2}, 0},
		{bog([]int{-3, 3}), []int{0}, []int{2}, 0}, {bog([]int{-3, 2}), []int{0}, []int{0}, 0}, {bog([]int{0}), []int{0}, []int{1}, 0},
		{bog([]int{4, -4}, []int{0, 0}, []int{-1, 1}), []int{1, 0, 0}, []int{1, 2, 2}, 4},
		{rich(), []int{4, 4, 4, 4, 4, 4}, []int{4, 4, 4, 4, 4, 4}, 600}, {buried(), []int{0, 0, 0, 0, 1, 2}, []int{0, 0, 0, 0, 1, 2}, 16},
		{flat(6, 4, 0), make([]int, 6), []int{4, 4, 4, 4, 4, 4}, 0}, {flat(6, 4, -50), make([]int, 6), make([]int, 6), 0},
		{flat(6, 4, 50), []int{4, 4, 4, 4, 4, 4}, []int{4, 4, 4, 4, 4, 4}, 1200},
	} {
		if h, worth, e := cut.Best(x.b); !slices.Equal(h, x.best) || worth != x.worth || e != api.OK {
			t.Errorf("P4.2: best of %v: %v %d %v", x.b, h, worth, e)
		}
		if h, worth, e := cut.Deepest(x.b); !slices.Equal(h, x.deepest) || worth != x.worth || e != api.OK {
			t.Errorf("P4.2: deepest of %v: %v %d %v", x.b, h, worth, e)
		}
	}
}

func TestBestByAllHollows(t *testing.T) {
	severalBest := 0
	for _, b := range some() {
		list, worth := bestOf(b)
		if len(list) > 2 {
			severalBest++
		}
		if h, got, e := cut.Best(b); !slices.Equal(h, lowestOf(list)) || got != worth || e != api.OK {
			t.Errorf("P4.2, S4: best of %v: %v %d, not %v %d: %v", b, h, got, lowestOf(list), worth, e)
		}
		if h, got, e := cut.Deepest(b); !slices.Equal(h, greatestOf(list)) || got != worth || e != api.OK {
			t.Errorf("P4.2, S4: deepest of %v: %v %d, not %v %d: %v", b, h, got, greatestOf(list), worth, e)
		}
	}
	if severalBest < 20 {
		t.Error("few bogs have several hollows with the best worth:", severalBest)
	}
}

func TestWorth(t *testing.T) {
	for _, x := range []struct {
		h    []int
		want int
	}{{[]int{0, 0, 0}, 0}, {[]int{1, 0, 0}, -3}, {[]int{2, 1, 0}, 1}, {[]int{2, 2, 1}, -8}, {[]int{0, 1, 1}, -1}, {[]int{0, 1, 2}, -51}} {
		if got, e := cut.Worth(three(), x.h); got != x.want || e != api.OK {
			t.Errorf("P4.2: worth of %v: %d %v", x.h, got, e)
		}
	}
	for _, b := range some() {
		for _, h := range hollows(b) {
			if got, e := cut.Worth(b, h); got != worthOf(b, h) || e != api.OK {
				t.Errorf("P4.2: worth of %v in %v: %d %v", h, b, got, e)
			}
		}
	}
}

func TestBothAndEither(t *testing.T) {
	for _, b := range []api.Bog{single(), three(), even(), flat(2, 4, 3), bog([]int{9, -8, 7}, []int{1, 2, -4}, []int{-16, 32, 50}), flat(6, 1, -50)} {
		all := hollows(b)
		for _, h := range all {
			for _, k := range all {
				checkBothAndEither(t, b, h, k)
			}
		}
	}
}

func checkBothAndEither(t *testing.T, b api.Bog, h, k []int) {
	t.Helper()
	var smaller, greater []int
	for c := range h {
		smaller, greater = append(smaller, min(h[c], k[c])), append(greater, max(h[c], k[c]))
	}
	both, e := cut.Both(b, h, k)
	if !slices.Equal(both, smaller) || e != api.OK {
		t.Errorf("P4.2: both of %v and %v: %v %v", h, k, both, e)
	}
	either, e := cut.Either(b, h, k)
	if !slices.Equal(either, greater) || e != api.OK {
		t.Errorf("P4.2: either of %v and %v: %v %v", h, k, either, e)
	}
	sum := 0
	for i, x := range [][]int{h, k, both, either} {
		worth, e := cut.Worth(b, x)
		if e != api.OK {
			t.Errorf("P4.2, S4: %v is not right: %v", x, e)
		}
		sum += []int{1, 1, -1, -1}[i] * worth
	}
	if sum != 0 {
		t.Errorf("S4: %v and %v in %v are worth %d more than what both and either have", h, k, b, sum)
	}
}
