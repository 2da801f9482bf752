package level_test

import (
	"math/big"
	"slices"
	"testing"

	"turbary/api"
	"turbary/level"
)

func TestBestOfExamples(t *testing.T) {
	for i, x := range []struct {
		s               api.Survey
		best, residuals []api.Rat
		misfit          api.Rat
	}{
		{double(), []api.Rat{rat(0, 1), rat(12, 1)}, []api.Rat{rat(-2, 1), rat(1, 1)}, rat(6, 1)},
		{triangle(), []api.Rat{rat(0, 1), rat(16, 3), rat(26, 3)}, []api.Rat{rat(-1, 3), rat(-1, 3), rat(1, 3)}, rat(1, 3)},
		{survey(1), []api.Rat{rat(0, 1)}, nil, rat(0, 1)},
		{survey(2), []api.Rat{rat(0, 1), rat(0, 1)}, nil, rat(0, 1)},
		{survey(3, reading(2, 1, -4, 3)), []api.Rat{rat(0, 1), rat(0, 1), rat(4, 1)}, []api.Rat{rat(0, 1)}, rat(0, 1)},
		{survey(4, reading(1, 0, 3, 1), reading(0, 1, 0, 1), reading(3, 2, 2, 1), reading(2, 3, 0, 3)),
			[]api.Rat{rat(0, 1), rat(-3, 2), rat(0, 1), rat(-1, 2)}, []api.Rat{rat(3, 2), rat(3, 2), rat(3, 2), rat(1, 2)}, rat(15, 2)},
	} {
		if got, e := level.Best(x.s); !slices.Equal(got, x.best) || e != api.OK {
			t.Errorf("P1.3: best of %d: %v %v", i, got, e)
		}
		if got, e := level.Residuals(x.s); !slices.Equal(got, x.residuals) || e != api.OK {
			t.Errorf("P1.3: residuals of %d: %v %v", i, got, e)
		}
		if got, e := level.Misfit(x.s); got != x.misfit || e != api.OK {
			t.Errorf("P1.3: misfit of %d: %v %v", i, got, e)
		}
	}
}

func TestBest(t *testing.T) {
	for _, s := range some(600) {
		want := meanHeights(s)
		got, e := level.Best(s)
		if !slices.Equal(got, want) || e != api.OK {
			t.Errorf("P1.3: best of %v: %v %v, not %v", s, got, e, want)
		}
		residuals, e := level.Residuals(s)
		if len(residuals) != len(s.Readings) || e != api.OK {
			t.Fatalf("P1.3: residuals of %v: %v %v", s, residuals, e)
		}
		for k, r := range s.Readings {
			gap := new(big.Rat).Sub(bigRat(want[r.From]), bigRat(want[r.To]))
			if residuals[k] != ratOf(gap.Add(gap, big.NewRat(int64(r.Rise), 1))) {
				t.Errorf("P1.3: residuals of %v: %v", s, residuals)
			}
		}
		if misfit, e := level.Misfit(s); misfit != ratOf(misfitOf(s, want)) || e != api.OK {
			t.Errorf("P1.3: misfit of %v: %v %v", s, misfit, e)
		}
	}
}

// TestMisfitIsSmallest moves one point, or two of them, a little.
func TestMisfitIsSmallest(t *testing.T) {
	for _, s := range some(100) {
		heights, _ := level.Best(s)
		misfit, _ := level.Misfit(s)
		first := smallest(s, all(s))
		for i := range s.Points {
			for j := range s.Points {
				for _, by := range []*big.Rat{big.NewRat(1, 97), big.NewRat(-1, 89)} {
					moved := slices.Clone(heights)
					for _, p := range []int{i, j} {
						if p != first[p] {
							moved[p] = ratOf(new(big.Rat).Add(bigRat(moved[p]), by))
						}
					}
					if !slices.Equal(moved, heights) && misfitOf(s, moved).Cmp(bigRat(misfit)) <= 0 {
						t.Errorf("P1.3: misfit of %v: %v, by %v not greater", s, misfit, moved)
					}
				}
			}
		}
	}
}

// claim writes heights over their common denominator times a factor.
func claim(heights []api.Rat, factor int) api.Table {
	den := factor
	for _, h := range heights {
		for before := den; den%h.Den != 0; {
			den += before
		}
	}
	table := api.Table{Den: den}
	for _, h := range heights {
		table.Num = append(table.Num, h.Num*(den/h.Den))
	}
	return table
}

func TestCheckBest(t *testing.T) {
	for _, s := range some(300) {
		best, _ := level.Best(s)
		for _, factor := range []int{1, 2, 35} {
			table := claim(best, factor)
			if e := level.CheckBest(s, table); e != api.OK {
				t.Errorf("P1.3: claim %v of %v: %v", table, s, e)
			}
			for p := range table.Num {
				for _, by := range []int{-1, 1, factor} {
					table.Num[p] += by
					if e := level.CheckBest(s, table); e != api.ErrProof {
						t.Errorf("P1.3: claim %v of %v: %v", table, s, e)
					}
					table.Num[p] -= by
				}
			}
			for p := range table.Num {
				table.Num[p]++
			}
			if e := level.CheckBest(s, table); e != api.ErrProof {
				t.Errorf("P1.3: lifted claim %v of %v: %v", table, s, e)
			}
		}
	}
}

func TestCheckBestRefuses(t *testing.T) {
	up, down := survey(2, reading(0, 1, 1000, 3)), survey(2, reading(0, 1, -1000, 3))
	great := survey(3, reading(0, 1, 1000, 1), reading(1, 2, 1000, 1))
	for i, x := range []struct {
		s    api.Survey
		t    api.Table
		want api.Errno
	}{
		{up, api.Table{Den: 1000000, Num: []int{0, 1000000000}}, api.OK}, {down, api.Table{Den: 1000000, Num: []int{0, -1000000000}}, api.OK},
		{up, api.Table{Den: 1000001, Num: []int{0, 1000001000}}, api.ErrArg}, {up, api.Table{Den: 1000001, Num: []int{0, 1000}}, api.ErrArg},
		{up, api.Table{Den: 1000000, Num: []int{0, 1000000001}}, api.ErrArg}, {down, api.Table{Den: 1000000, Num: []int{0, -1000000001}}, api.ErrArg},
		{up, api.Table{Den: 1000000, Num: []int{0, -1000000000}}, api.ErrProof}, {up, api.Table{Den: 1000000, Num: []int{-1000000000, 0}}, api.ErrProof},
		{great, api.Table{Den: 500000, Num: []int{0, 500000000, 1000000000}}, api.OK}, {great, api.Table{Den: 1000000, Num: []int{0, 1000000000, 2000000000}}, api.ErrArg},
		{up, api.Table{Den: 1, Num: []int{0, 1000}}, api.OK}, {up, api.Table{Den: 0, Num: []int{0, 1000}}, api.ErrArg}, {up, api.Table{Den: 0, Num: []int{0, 0}}, api.ErrArg},
		{up, api.Table{Den: -1, Num: []int{0, -1000}}, api.ErrArg}, {up, api.Table{Den: least, Num: []int{0, 0}}, api.ErrArg}, {up, api.Table{Den: greatest, Num: []int{0, 0}}, api.ErrArg},
		{up, api.Table{Den: 1, Num: []int{0, least}}, api.ErrArg}, {up, api.Table{Den: 1, Num: []int{greatest, 0}}, api.ErrArg},
		{up, api.Table{Den: 1}, api.ErrArg}, {up, api.Table{Den: 1, Num: []int{0}}, api.ErrArg}, {up, api.Table{Den: 1, Num: []int{0, 1000, 0}}, api.ErrArg},
		{up, api.Table{Den: 1, Num: []int{1, 1001}}, api.ErrProof}, {survey(1), api.Table{Den: 7, Num: []int{0}}, api.OK}, {survey(1), api.Table{Den: 7, Num: []int{1}}, api.ErrProof},
		{apart(), api.Table{Den: 1, Num: []int{0, 0, 0, 0}}, api.OK}, {apart(), api.Table{Den: 1, Num: []int{0, 0, 1, 0}}, api.ErrProof},
		{triangle(), api.Table{Den: 3, Num: []int{0, 16, 26}}, api.OK}, {triangle(), api.Table{Den: 1, Num: []int{0, 5, 8}}, api.ErrProof},
	} {
		if e := level.CheckBest(x.s, x.t); e != x.want {
			t.Errorf("P1.3: %d: %v", i, e)
		}
	}
}
