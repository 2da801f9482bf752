package drain_test

import (
	"slices"
	"testing"

	"turbary/api"
	"turbary/drain"
)

func TestCutsOfExamples(t *testing.T) {
	for _, c := range []struct {
		n                                           api.Net
		least, greatest, critical, wanted, needless []int
	}{
		{beside(), []int{0, 1}, []int{0, 1}, []int{2}, []int{2}, nil},
		{row(), []int{0}, []int{0, 1}, []int{0, 1}, nil, nil},
		{net(3), []int{0}, []int{0, 1}, nil, nil, nil},
		{crossed(), []int{0}, []int{0, 1, 2}, []int{0, 2, 3, 4}, nil, []int{1}},
		{twisted(), []int{1, 2, 3}, []int{1, 2, 3}, []int{4}, []int{4, 6}, []int{0, 1, 3, 5, 6, 7}},
		{net(2, pipe(0, 1, api.MaxWidth)), []int{0}, []int{0}, []int{0}, []int{0}, nil},
		{net(2, pipe(0, 1, 0), pipe(1, 0, 3)), []int{0}, []int{0}, nil, []int{0}, []int{0, 1}},
		{net(4, pipe(1, 2, 2)), []int{0}, []int{0, 1, 2}, nil, nil, []int{0}},
	} {
		for _, x := range []struct {
			name string
			f    func(api.Net) ([]int, api.Errno)
			want []int
		}{
			{"Least", drain.Least, c.least}, {"Greatest", drain.Greatest, c.greatest}, {"Critical", drain.Critical, c.critical},
			{"Wanted", drain.Wanted, c.wanted}, {"Needless", drain.Needless, c.needless},
		} {
			if got, e := x.f(c.n); !slices.Equal(got, x.want) || e != api.OK {
				t.Errorf("P2.3: %s of %v: %v %v", x.name, c.n, got, e)
			}
		}
	}
}

func TestLeastAndGreatest(t *testing.T) {
	for _, n := range some() {
		sets, _ := narrowest(n)
		both, either := sets[0], sets[0]
		for _, a := range sets {
			both, either = both&a, either|a
			for _, b := range sets {
				if !slices.Contains(sets, a&b) || !slices.Contains(sets, a|b) {
					t.Errorf("P2.3: %v: %b and %b", n, a, b)
				}
			}
		}
		flow, _ := drain.Flow(n)
		least, e := drain.Least(n)
		if !slices.Equal(least, nodesOf(both)) || e != api.OK || drain.CheckMost(n, flow, least) != api.OK {
			t.Errorf("P2.3: least of %v: %v, not %v: %v", n, least, nodesOf(both), e)
		}
		greatest, e := drain.Greatest(n)
		if !slices.Equal(greatest, nodesOf(either)) || e != api.OK || drain.CheckMost(n, flow, greatest) != api.OK {
			t.Errorf("P2.3: greatest of %v: %v, not %v: %v", n, greatest, nodesOf(either), e)
		}
	}
}

func TestCriticalWantedAndNeedless(t *testing.T) {
	for _, n := range some() {
		_, most := narrowest(n)
		var critical, wanted, needless []int
		for k, d := range n.Drains {
			if d.Width > 0 && mostWith(n, k, d.Width-1) < most {
				critical = append(critical, k)
			}
			if mostWith(n, k, d.Width+1) > most {
				wanted = append(wanted, k)
			}
			if mostWith(n, k, 0) == most {
				needless = append(needless, k)
			}
		}
		if got, e := drain.Critical(n); !slices.Equal(got, critical) || e != api.OK {
			t.Errorf("P2.3: critical of %v: %v, not %v: %v", n, got, critical, e)
		}
		if got, e := drain.Wanted(n); !slices.Equal(got, wanted) || e != api.OK {
			t.Errorf("P2.3: wanted of %v: %v, not %v: %v", n, got, wanted, e)
		}
		if got, e := drain.Needless(n); !slices.Equal(got, needless) || e != api.OK {
			t.Errorf("P2.3: needless of %v: %v, not %v: %v", n, got, needless, e)
		}
	}
}

// goesOut says that a drain goes out of a cut.
func goesOut(d api.Drain, set uint) bool { return set>>d.From&1 == 1 && set>>d.To&1 == 0 }

func TestCriticalAndWantedGoOutOfCuts(t *testing.T) {
	for _, n := range some() {
		sets, _ := narrowest(n)
		critical, _ := drain.Critical(n)
		wanted, _ := drain.Wanted(n)
		for k, d := range n.Drains {
			some, all := false, true
			for _, set := range sets {
				some = some || goesOut(d, set)
				all = all && goesOut(d, set)
			}
			if slices.Contains(critical, k) != (some && d.Width > 0) || slices.Contains(wanted, k) != all {
				t.Errorf("P2.3: drain %d of %v: %v %v", k, n, critical, wanted)
			}
		}
	}
}
