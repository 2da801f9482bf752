package level_test

import (
	"math/big"
	"testing"

	"turbary/api"
	"turbary/level"
)

func TestErrorOfExamples(t *testing.T) {
	chain := survey(3, reading(0, 1, 0, 2), reading(2, 1, 0, 3))
	for i, x := range []struct {
		s    api.Survey
		i, j int
		want api.Rat
		e    api.Errno
	}{
		{double(), 0, 1, rat(1, 3), api.OK}, {double(), 1, 0, rat(1, 3), api.OK}, {double(), 1, 1, rat(0, 1), api.OK},
		{triangle(), 0, 1, rat(2, 3), api.OK}, {triangle(), 0, 2, rat(2, 3), api.OK}, {triangle(), 2, 1, rat(2, 3), api.OK},
		{chain, 0, 2, rat(5, 6), api.OK}, {chain, 0, 1, rat(1, 2), api.OK}, {chain, 2, 1, rat(1, 3), api.OK},
		{apart(), 0, 3, api.Rat{}, api.ErrApart}, {apart(), 3, 3, rat(0, 1), api.OK}, {survey(1), 0, 0, rat(0, 1), api.OK},
		{scattered(), 0, 3, rat(1, 3), api.OK}, {scattered(), 3, 4, api.Rat{}, api.ErrApart}, {scattered(), 1, 2, rat(4, 15), api.OK},
	} {
		if got, e := level.Error(x.s, x.i, x.j); got != x.want || e != x.e {
			t.Errorf("P1.4: %d: %v %v", i, got, e)
		}
	}
	for k, want := range []api.Rat{rat(1, 3), rat(2, 3)} {
		if got, e := level.Share(double(), k); got != want || e != api.OK {
			t.Errorf("P1.4: share of %d: %v %v", k, got, e)
		}
	}
}

func TestError(t *testing.T) {
	for _, s := range some(300) {
		first := smallest(s, all(s))
		for i := range s.Points {
			for j := range s.Points {
				got, e := level.Error(s, i, j)
				if first[i] != first[j] {
					if got != (api.Rat{}) || e != api.ErrApart {
						t.Errorf("P1.4: error of %d and %d of %v: %v %v", i, j, s, got, e)
					}
					continue
				}
				if want := forestError(s, i, j); got != want || e != api.OK {
					t.Errorf("P1.4: error of %d and %d of %v: %v %v, not %v", i, j, s, got, e, want)
				}
			}
		}
	}
}

func TestErrorIsDistance(t *testing.T) {
	for _, s := range some(150) {
		first := smallest(s, all(s))
		for i := range s.Points {
			for j := range s.Points {
				for k := range s.Points {
					if first[i] != first[j] || first[i] != first[k] {
						continue
					}
					way := new(big.Rat).Add(bigRat(errorOf(s, i, k)), bigRat(errorOf(s, k, j)))
					if bigRat(errorOf(s, i, j)).Cmp(way) > 0 || errorOf(s, i, j) != errorOf(s, j, i) {
						t.Errorf("P1.4: errors of %v: %d %d %d", s, i, j, k)
					}
				}
			}
		}
	}
}

func TestMoreReadingsAddNoError(t *testing.T) {
	for _, s := range some(100) {
		if len(s.Readings) == api.MaxReadings || s.Points == 1 {
			continue
		}
		first := smallest(s, all(s))
		more, e := level.With(s, reading(s.Points-1, 0, 5, 1+len(s.Readings)%3))
		if e != api.OK {
			t.Fatal(e)
		}
		for i := range s.Points {
			for j := range s.Points {
				if first[i] == first[j] && bigRat(errorOf(more, i, j)).Cmp(bigRat(errorOf(s, i, j))) > 0 {
					t.Errorf("S1: error of %d and %d of %v: %v, not %v", i, j, more, errorOf(more, i, j), errorOf(s, i, j))
				}
			}
		}
	}
}

func TestShares(t *testing.T) {
	bridges := 0
	for _, s := range some(300) {
		parts := count(smallest(s, all(s)))
		sum := new(big.Rat)
		for k, r := range s.Readings {
			share, e := level.Share(s, k)
			want := new(big.Rat).Mul(big.NewRat(int64(r.Weight), 1), bigRat(forestError(s, r.From, r.To)))
			if share != ratOf(want) || e != api.OK {
				t.Fatalf("P1.4: share of %d of %v: %v %v", k, s, share, e)
			}
			sum.Add(sum, bigRat(share))
			is, e := level.IsBridge(s, k)
			if is != (count(smallest(s, all(s)&^(1<<k))) > parts) || e != api.OK || is != (share == rat(1, 1)) {
				t.Errorf("P1.4: bridge %d of %v: %v %v", k, s, is, e)
			}
			if is {
				bridges++
			}
		}
		if ratOf(sum) != rat(s.Points-parts, 1) {
			t.Errorf("S1: shares of %v: %v", s, sum)
		}
	}
	if bridges < 10 {
		t.Error("too few bridges:", bridges)
	}
}
