package cut_test

import (
	"slices"
	"testing"

	"turbary/api"
	"turbary/cut"
)

func TestValidate(t *testing.T) {
	for i, b := range broken() {
		if e := cut.Validate(b); e != api.ErrArg {
			t.Errorf("P4.1: %d, %v: %v", i, b, e)
		}
	}
	right := append(some(), flat(1, 1, api.MaxWorth), flat(api.MaxColumns, api.MaxDepth, -api.MaxWorth))
	for _, b := range right {
		if e := cut.Validate(b); e != api.OK {
			t.Errorf("P4.1: %v: %v", b, e)
		}
	}
}

func TestErrorsOfBogsComeFirst(t *testing.T) {
	for i, b := range broken() {
		for _, h := range [][]int{nil, {0, 5, 9}, {0, 0, 0}, make([]int, 25), {-1, 9}} {
			for _, n := range []int{0, 60, -1, highest} {
				for name, got := range callAll(b, h, h, n, make([]api.Pass, 61)) {
					if got.e != api.ErrArg || !got.zero {
						t.Errorf("P4.1, R2, R3: %s of %d, %v: %v", name, i, b, got)
					}
				}
				for name, got := range callAll(b, h, h, n, nil) {
					if got.e != api.ErrArg || !got.zero {
						t.Errorf("P4.1, R2, R3: %s of %d, %v: %v", name, i, b, got)
					}
				}
			}
		}
	}
}

func TestCheckHollow(t *testing.T) {
	for _, b := range []api.Bog{single(), three(), flat(1, 1, 0), flat(4, 1, 3), flat(4, 3, 0), flat(2, 4, -1), even()} {
		for _, h := range lists(b) {
			want := api.OK
			if !isRight(h) {
				want = api.ErrRule
			}
			if e := cut.CheckHollow(b, h); e != want {
				t.Errorf("P4.1: %v in %v: %v", h, b, e)
			}
		}
	}
}

func TestErrorsOfHollows(t *testing.T) {
	for _, b := range []api.Bog{single(), three(), flat(2, 4, 1), flat(6, 3, -2), flat(6, 1, 0)} {
		zero := make([]int, len(b.Worth))
		for want, list := range map[api.Errno][][]int{api.ErrArg: noNumbers(b), api.ErrRule: notRight(b)} {
			for _, h := range list {
				for name, got := range callWithHollows(b, h, zero) {
					if got.e != want || !got.zero {
						t.Errorf("P4.1: %s of %v in %v: %v", name, h, b, got)
					}
				}
				for name, got := range map[string]result{"Both": listed(cut.Both(b, zero, h)), "Either": listed(cut.Either(b, zero, h))} {
					if got.e != want || !got.zero {
						t.Errorf("P4.1: %s of %v as the second one in %v: %v", name, h, b, got)
					}
				}
			}
		}
	}
}

func TestErrorsOfTheFirstHollowComeFirst(t *testing.T) {
	b := three()
	for _, pair := range []struct {
		h, k []int
		want api.Errno
	}{
		{[]int{0, 2, 0}, nil, api.ErrRule}, {[]int{2, 0, 0}, []int{3, 3, 3}, api.ErrRule}, {[]int{0}, []int{0, 2, 0}, api.ErrArg},
		{[]int{0, 0, -1}, []int{2, 0, 0}, api.ErrArg}, {[]int{0, 9, 0}, []int{2, 0, 0}, api.ErrArg},
	} {
		if got := listed(cut.Both(b, pair.h, pair.k)); got.e != pair.want || !got.zero {
			t.Errorf("P4.1: both of %v: %v", pair, got)
		}
		if got := listed(cut.Either(b, pair.h, pair.k)); got.e != pair.want || !got.zero {
			t.Errorf("P4.1: either of %v: %v", pair, got)
		}
	}
}

func TestErrorsOfLimits(t *testing.T) {
	for _, b := range []api.Bog{single(), three(), flat(2, 4, 1), flat(6, 3, -2), flat(6, 1, 0)} {
		for _, list := range noNumbers(b) {
			if got := listed(cut.Under(b, list)); got.e != api.ErrArg || !got.zero {
				t.Errorf("P4.3: under %v in %v: %v", list, b, got)
			}
			if got := found(cut.Over(b, list)); got.e != api.ErrArg || !got.zero {
				t.Errorf("P4.3: over %v in %v: %v", list, b, got)
			}
		}
	}
}

func TestUnderAndOver(t *testing.T) {
	for _, b := range []api.Bog{single(), three(), flat(1, 4, 0), flat(2, 4, 1), flat(3, 3, 0), flat(4, 2, -1), flat(6, 1, 0), flat(4, 4, 0)} {
		all := hollows(b)
		for _, list := range lists(b) {
			under := greatestOf(slices.DeleteFunc(slices.Clone(all), func(h []int) bool { return !liesIn(h, list) }))
			if got, e := cut.Under(b, list); !slices.Equal(got, under) || e != api.OK {
				t.Errorf("P4.3: under %v in %v: %v, not %v: %v", list, b, got, under, e)
			}
			over := lowestOf(slices.DeleteFunc(slices.Clone(all), func(h []int) bool { return !liesIn(list, h) }))
			if got, ok, e := cut.Over(b, list); !slices.Equal(got, over) || !ok || e != api.OK {
				t.Errorf("P4.3: over %v in %v: %v, not %v: %v %v", list, b, got, over, ok, e)
			}
		}
	}
}

func TestUnderAndOverOfAllColumns(t *testing.T) {
	b := flat(6, 4, 0)
	for _, x := range []struct{ list, under, over []int }{
		{[]int{0, 4, 4, 4, 4, 4}, []int{0, 1, 2, 3, 4, 4}, []int{3, 4, 4, 4, 4, 4}},
		{[]int{4, 4, 4, 4, 4, 0}, []int{4, 4, 3, 2, 1, 0}, []int{4, 4, 4, 4, 4, 3}},
		{[]int{4, 0, 0, 0, 0, 0}, []int{1, 0, 0, 0, 0, 0}, []int{4, 3, 2, 1, 0, 0}},
		{[]int{0, 0, 4, 1, 0, 3}, []int{0, 0, 1, 1, 0, 1}, []int{2, 3, 4, 3, 2, 3}},
		{[]int{2, 3, 4, 3, 2, 3}, []int{2, 3, 4, 3, 2, 3}, []int{2, 3, 4, 3, 2, 3}},
	} {
		if got, e := cut.Under(b, x.list); !slices.Equal(got, x.under) || e != api.OK {
			t.Errorf("P4.3: under %v: %v %v", x.list, got, e)
		}
		if got, ok, e := cut.Over(b, x.list); !slices.Equal(got, x.over) || !ok || e != api.OK {
			t.Errorf("P4.3: over %v: %v %v %v", x.list, got, ok, e)
		}
	}
}

func TestToll(t *testing.T) {
	for _, b := range some() {
		for by := -api.MaxWorth; by <= api.MaxWorth; by++ {
			want, fits := clone(b), true
			for _, column := range want.Worth {
				for r := range column {
					column[r] -= by
					fits = fits && column[r] <= api.MaxWorth && column[r] >= -api.MaxWorth
				}
			}
			got, e := cut.Toll(b, by)
			if fits && (!same(got, want) || e != api.OK) || !fits && (!isZero(got) || e != api.ErrLarge) {
				t.Errorf("P4.3: %v with the toll %d: %v %v", b, by, got, e)
			}
		}
		for _, by := range []int{api.MaxWorth + 1, -api.MaxWorth - 1, lowest, highest} {
			if got := changed(cut.Toll(b, by)); got.e != api.ErrArg || !got.zero {
				t.Errorf("P4.3: %v with the toll %d: %v", b, by, got)
			}
		}
	}
}

func TestTollToTheLimits(t *testing.T) {
	b := bog([]int{-10, 0}, []int{3, 20})
	for by, want := range map[int]api.Errno{40: api.OK, 41: api.ErrLarge, -30: api.OK, -31: api.ErrLarge, 50: api.ErrLarge, -50: api.ErrLarge, 51: api.ErrArg, -51: api.ErrArg} {
		if got := changed(cut.Toll(b, by)); got.e != want || got.zero != (want != api.OK) {
			t.Errorf("P4.3: the toll %d: %v", by, got)
		}
	}
	if got, e := cut.Toll(b, 2); !same(got, bog([]int{-12, -2}, []int{1, 18})) || e != api.OK {
		t.Error("P4.3:", got, e)
	}
}

func TestTollMakesHollowsSmaller(t *testing.T) {
	for _, b := range some() {
		for _, by := range []int{0, 1, 3, 10, 50} {
			tolled, e := cut.Toll(b, by)
			if e != api.OK {
				continue
			}
			less, _, _ := cut.Best(tolled)
			best, _, _ := cut.Best(b)
			if !liesIn(less, best) {
				t.Errorf("P4.3: best of %v with the toll %d: %v, not in %v", b, by, less, best)
			}
			less, _, _ = cut.Deepest(tolled)
			deepest, _, _ := cut.Deepest(b)
			if !liesIn(less, deepest) {
				t.Errorf("P4.3: deepest of %v with the toll %d: %v, not in %v", b, by, less, deepest)
			}
		}
	}
}

func TestMirror(t *testing.T) {
	if got, e := cut.Mirror(bog([]int{1, 2}, []int{3, 4}, []int{5, 6})); !same(got, bog([]int{5, 6}, []int{3, 4}, []int{1, 2})) || e != api.OK {
		t.Error("P4.3:", got, e)
	}
	for _, b := range some() {
		want := clone(b)
		slices.Reverse(want.Worth)
		got, e := cut.Mirror(b)
		if !same(got, want) || e != api.OK {
			t.Errorf("P4.3: mirror of %v: %v %v", b, got, e)
		}
		best, worth, _ := cut.Best(got)
		slices.Reverse(best)
		if h, w, _ := cut.Best(b); !slices.Equal(h, best) || w != worth {
			t.Errorf("P4.3: best of the mirror of %v: %v %d, not %v %d", b, best, worth, h, w)
		}
	}
}
