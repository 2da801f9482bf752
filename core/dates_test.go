package core_test

import (
	"slices"
	"testing"

	"turbary/api"
	"turbary/core"
)

func TestCheckDates(t *testing.T) {
	for _, x := range []struct {
		c     api.Core
		dates []int
		want  api.Errno
	}{
		{chain(), []int{0, 10, 15}, api.OK}, {chain(), []int{0, 10, 16}, api.ErrProof}, {chain(), []int{0, 11, 11}, api.ErrProof},
		{chain(), []int{7, -100, -1000}, api.OK}, {tied(), []int{-3, 4}, api.OK}, {tied(), []int{-3, 5}, api.ErrProof}, {tied(), []int{-3, 3}, api.ErrProof},
		{clashing(), []int{0, 10}, api.ErrProof}, {clashing(), []int{0, 11}, api.ErrProof}, {of(1), []int{api.MaxDate}, api.OK}, {of(1), []int{-api.MaxDate}, api.OK},
		{of(2, bound(0, 1, api.MaxYears)), []int{-api.MaxDate, api.MaxDate}, api.ErrProof}, {of(2, bound(0, 1, -api.MaxYears)), []int{api.MaxDate, -api.MaxDate}, api.OK},
		{chain(), []int{1, 2, 10, 3}, api.ErrArg}, {chain(), []int{0, 100, api.MaxDate + 1}, api.ErrArg},
	} {
		if e := core.CheckDates(x.c, x.dates); e != x.want {
			t.Errorf("P3.2: %v of %v: %v", x.dates, x.c, e)
		}
	}
	for _, c := range small() {
		for dates := range grid(of(c.Layers)) {
			want := api.OK
			if !keep(c, dates) {
				want = api.ErrProof
			}
			if e := core.CheckDates(c, dates); e != want {
				t.Fatalf("P3.2: %v of %v: %v", dates, c, e)
			}
		}
	}
}

// TestDatesOrClash holds both kinds of results against the definitions themselves: there are dates, or there is
// a round, and never both.
func TestDatesOrClash(t *testing.T) {
	count := [2]int{}
	for _, c := range some() {
		is, e := core.IsPossible(c)
		dates, hasDates, f := core.Dates(c)
		round, hasRound, g := core.Clash(c)
		if e != api.OK || f != api.OK || g != api.OK || is != hasDates || is == hasRound {
			t.Fatalf("P3.2, S3: %v: %v %v, %v %v %v, %v %v %v", c, is, e, dates, hasDates, f, round, hasRound, g)
		}
		if is {
			count[0]++
			if len(dates) != c.Layers || !keep(c, dates) || core.CheckDates(c, dates) != api.OK || len(round) > 0 {
				t.Errorf("P3.2, S3: %v: %v %v", c, dates, round)
			}
		} else {
			count[1]++
			if !provesClash(c, round) || core.CheckClash(c, round) != api.OK || len(dates) > 0 {
				t.Errorf("P3.2, S3: %v: %v %v", c, dates, round)
			}
		}
	}
	if count[0] <= 100 || count[1] <= 100 {
		t.Error("too few of a kind:", count)
	}
}

// provesClash is for numbers of bounds.
func provesClash(c api.Core, round []int) bool {
	sum := 0
	for i, k := range round {
		before := round[(i+len(round)-1)%len(round)]
		if c.Bounds[before].B != c.Bounds[k].A {
			return false
		}
		sum += c.Bounds[k].Most
	}
	return sum < 0
}

func TestIsPossibleByAllDates(t *testing.T) {
	for _, c := range small() {
		_, want := greatest(c)
		if is, e := core.IsPossible(c); is != want || e != api.OK {
			t.Errorf("P3.2: %v: %v %v", c, is, e)
		}
	}
}

func TestCheckClash(t *testing.T) {
	twisted := of(4, bound(0, 1, 3), bound(1, 0, -4), bound(1, 2, 5), bound(2, 1, -5), bound(2, 0, -9), bound(3, 0, -8))
	many := slices.Repeat([]int{0, 1}, api.MaxBounds)
	for _, x := range []struct {
		c     api.Core
		round []int
		want  api.Errno
	}{
		{clashing(), []int{0, 1}, api.OK}, {clashing(), []int{1, 0}, api.OK}, {clashing(), many[:api.MaxBounds], api.OK},
		{clashing(), many[:api.MaxBounds-1], api.ErrProof}, {clashing(), many[:api.MaxBounds+1], api.ErrLarge}, {clashing(), many, api.ErrLarge},
		{clashing(), slices.Repeat([]int{-1}, api.MaxBounds+1), api.ErrLarge}, {clashing(), make([]int, api.MaxBounds), api.ErrProof},
		{clashing(), nil, api.ErrProof}, {clashing(), []int{}, api.ErrProof}, {clashing(), []int{0}, api.ErrProof}, {clashing(), []int{1}, api.ErrProof},
		{clashing(), []int{0, 0, 2}, api.ErrNone}, {clashing(), []int{-1}, api.ErrNone}, {clashing(), []int{lowest}, api.ErrNone}, {clashing(), []int{0, 1, highest}, api.ErrNone},
		{of(3), []int{0}, api.ErrNone}, {of(3), nil, api.ErrProof}, {chain(), []int{0, 1}, api.ErrProof}, {tied(), []int{0, 1}, api.ErrProof},
		{twisted, []int{0, 1}, api.OK}, {twisted, []int{0, 2, 4}, api.OK}, {twisted, []int{2, 4, 0}, api.OK}, {twisted, []int{4, 2, 0}, api.ErrProof},
		{twisted, []int{2, 3}, api.ErrProof}, {twisted, []int{1, 2, 3, 0}, api.ErrProof}, {twisted, []int{1, 0, 2, 3}, api.OK}, {twisted, []int{5, 0, 1}, api.ErrProof},
		{twisted, []int{0, 1, 5}, api.ErrProof}, {twisted, []int{2, 3, 2, 3}, api.ErrProof}, {twisted, []int{0, 2, 3, 1}, api.OK},
	} {
		if e := core.CheckClash(x.c, x.round); e != x.want {
			t.Errorf("P3.2: %v of %v: %v", x.round, x.c, e)
		}
	}
}

// TestCheckClashOfAllLists goes through all short lists of numbers.
func TestCheckClashOfAllLists(t *testing.T) {
	for _, c := range small() {
		for list := range grid(of(4)) {
			for length := range 5 {
				round := list[:length]
				if slices.ContainsFunc(list[length:], func(k int) bool { return k > 0 }) {
					continue // it comes with nothing behind it, too
				}
				want := api.ErrProof
				if slices.ContainsFunc(round, func(k int) bool { return k >= len(c.Bounds) }) {
					want = api.ErrNone
				} else if provesClash(c, round) {
					want = api.OK
				}
				if e := core.CheckClash(c, round); e != want {
					t.Fatalf("P3.2: %v of %v: %v", round, c, e)
				}
			}
		}
	}
}

func TestClashOfExamples(t *testing.T) {
	if round, ok, e := core.Clash(clashing()); !slices.Equal(round, []int{0, 1}) && !slices.Equal(round, []int{1, 0}) || !ok || e != api.OK {
		t.Error("P3.2:", round, ok, e)
	}
	if round, ok, e := core.Clash(spiral()); len(round) < api.MaxLayers || !ok || e != api.OK {
		t.Error("P3.2:", round, ok, e)
	}
	for _, c := range []api.Core{of(1), tied(), chain(), woven(), farthest()} {
		if round, ok, e := core.Clash(c); len(round) > 0 || ok || e != api.OK {
			t.Error("P3.2:", c, round, ok, e)
		}
	}
}
