package core_test

import (
	"slices"
	"testing"

	"turbary/api"
	"turbary/core"
)

func TestValidate(t *testing.T) {
	for want, list := range broken() {
		for i, c := range list {
			if e := core.Validate(c); e != want {
				t.Errorf("P3.1: %v of %d: %v", want, i, e)
			}
		}
	}
	right := append(some(), of(1), of(api.MaxLayers), of(2, bound(0, 1, api.MaxYears), bound(1, 0, -api.MaxYears)))
	right = append(right, of(2, slices.Repeat([]api.Bound{bound(1, 0, 1)}, api.MaxBounds)...))
	for _, c := range right {
		if e := core.Validate(c); e != api.OK {
			t.Errorf("P3.1: %v: %v", c, e)
		}
	}
}

func TestErrorsOfCoresComeFirst(t *testing.T) {
	for want, list := range broken() {
		for i, c := range list {
			for name, got := range callAll(c, api.Core{}, -1, -1, highest, make([]int, api.MaxBounds+1)) {
				if got.e != want || !got.zero {
					t.Errorf("P3.1, R2, R3: %s of %v of %d: %v", name, want, i, got)
				}
			}
		}
	}
}

func TestErrorsOfTheSecondCore(t *testing.T) {
	for want, list := range broken() {
		for i, d := range list {
			for _, c := range []api.Core{clashing(), of(5), of(2, slices.Repeat([]api.Bound{bound(0, 1, 1)}, api.MaxBounds)...)} {
				if got := truth(core.Same(c, d)); got.e != want || !got.zero {
					t.Errorf("P3.1, R2: Same of %v and %v of %d: %v", c, want, i, got)
				}
				if got := changed(core.Both(c, d)); got.e != want || !got.zero {
					t.Errorf("P3.1, R2: Both of %v and %v of %d: %v", c, want, i, got)
				}
			}
		}
	}
}

func TestNoSuchLayer(t *testing.T) {
	for _, c := range []api.Core{tied(), clashing()} {
		for _, none := range []int{-1, 2, lowest, highest} {
			for _, pair := range [][2]int{{none, 0}, {0, none}, {none, none}, {none, 1}} {
				for _, most := range []int{0, api.MaxYears + 1, lowest, highest} {
					all := callAll(c, c, pair[0], pair[1], most, nil)
					for _, name := range []string{"Tightest", "Follows", "Fixed"} {
						if got := all[name]; got.e != api.ErrNone || !got.zero {
							t.Errorf("P3.1: %s of %v and %v: %v", name, c, pair, got)
						}
					}
				}
			}
			all := callAll(c, c, none, 0, 0, nil)
			for _, name := range []string{"Latest", "Earliest"} {
				if got := all[name]; got.e != api.ErrNone || !got.zero {
					t.Errorf("P3.1: %s of %v and %d: %v", name, c, none, got)
				}
			}
		}
	}
}

func TestWrongDates(t *testing.T) {
	lists := [][]int{nil, {0}, {0, 1, 2}, {0, api.MaxDate + 1}, {-api.MaxDate - 1, 0}, {lowest, 0}, {0, highest}, {highest, lowest}}
	for _, c := range []api.Core{tied(), clashing(), of(2)} {
		for _, dates := range lists {
			if e := core.CheckDates(c, dates); e != api.ErrArg {
				t.Errorf("P3.1: %v checked with %v: %v", c, dates, e)
			}
			if got := changed(core.Shift(c, dates)); got.e != api.ErrArg || !got.zero {
				t.Errorf("P3.1: %v shifted by %v: %v", c, dates, got)
			}
		}
	}
}

func TestBoth(t *testing.T) {
	for _, pair := range [][2]api.Core{{tied(), clashing()}, {clashing(), of(2)}, {of(2), tied()}, {of(1), of(1)}, {spiral(), farthest()}} {
		want := append(clone(pair[0]).Bounds, pair[1].Bounds...)
		got, e := core.Both(pair[0], pair[1])
		if len(want) > api.MaxBounds {
			if e != api.ErrLarge || !isZero(got) {
				t.Errorf("P3.5: both of %v: %v %v", pair, got, e)
			}
		} else if !same(got, of(pair[0].Layers, want...)) || e != api.OK {
			t.Errorf("P3.5: both of %v: %v %v", pair, got, e)
		}
	}
	twelve := of(3, slices.Repeat([]api.Bound{bound(0, 1, 1)}, 12)...)
	if c, e := core.Both(twelve, of(3, twelve.Bounds[:8]...)); len(c.Bounds) != api.MaxBounds || e != api.OK {
		t.Error("P3.5:", c, e)
	}
	if c, e := core.Both(twelve, of(3, twelve.Bounds[:9]...)); !isZero(c) || e != api.ErrLarge {
		t.Error("P3.5:", c, e)
	}
	if c, e := core.Both(twelve, of(4, twelve.Bounds...)); !isZero(c) || e != api.ErrArg {
		t.Error("P3.5: ErrArg comes first:", c, e)
	}
}

func TestDatesOfBoth(t *testing.T) {
	list := slices.DeleteFunc(small(), func(c api.Core) bool { return c.Layers != 3 })
	for i, c := range list {
		d := list[(i+1)%len(list)]
		both, _ := core.Both(c, d)
		for dates := range grid(of(3)) {
			one, other, all := core.CheckDates(c, dates), core.CheckDates(d, dates), core.CheckDates(both, dates)
			if (all == api.OK) != (one == api.OK && other == api.OK) {
				t.Fatalf("P3.5: %v keep %v and %v: %v %v %v", dates, c, d, one, other, all)
			}
		}
	}
}

func TestTurn(t *testing.T) {
	for _, c := range some() {
		want := of(c.Layers)
		for _, x := range c.Bounds {
			want.Bounds = append(want.Bounds, bound(x.B, x.A, x.Most))
		}
		got, e := core.Turn(c)
		if !same(got, want) || e != api.OK {
			t.Errorf("P3.5: %v turned: %v %v", c, got, e)
		}
		before, _ := core.IsPossible(c)
		if after, _ := core.IsPossible(got); after != before {
			t.Errorf("P3.5: %v turned: %v, not %v", c, after, before)
		}
		dates, ok, _ := core.Dates(c)
		for a := range dates {
			dates[a] = -dates[a]
		}
		if ok && core.CheckDates(got, dates) != api.OK {
			t.Errorf("P3.5: %v turned is not kept by %v", c, dates)
		}
	}
}

func TestShift(t *testing.T) {
	for i, c := range some() {
		by := make([]int, c.Layers)
		for a := range by {
			by[a] = (a*a + i) % 7 * []int{1, 300, api.MaxDate / 7}[i%3]
		}
		want, fits := clone(c), true
		for k, x := range c.Bounds {
			want.Bounds[k].Most = x.Most + by[x.B] - by[x.A]
			fits = fits && max(want.Bounds[k].Most, -want.Bounds[k].Most) <= api.MaxYears
		}
		got, e := core.Shift(c, by)
		if !fits {
			if !isZero(got) || e != api.ErrArg {
				t.Errorf("P3.5: %v shifted by %v: %v %v", c, by, got, e)
			}
			continue
		}
		if !same(got, want) || e != api.OK {
			t.Errorf("P3.5: %v shifted by %v: %v %v", c, by, got, e)
		}
		before, _ := core.IsPossible(c)
		if after, _ := core.IsPossible(got); after != before {
			t.Errorf("P3.5: %v shifted: %v, not %v", c, after, before)
		}
		dates, ok, _ := core.Dates(c)
		for a := range dates {
			dates[a] += by[a]
		}
		if ok && core.CheckDates(got, dates) != api.OK {
			t.Errorf("P3.5: %v shifted by %v is not kept by %v", c, by, dates)
		}
	}
}

func TestShiftToTheLimits(t *testing.T) {
	for _, x := range []struct {
		dates []int
		want  api.Errno
	}{
		{[]int{0, api.MaxYears - 11}, api.OK}, {[]int{0, api.MaxYears - 10}, api.ErrArg}, {[]int{api.MaxYears + 10, 0}, api.OK},
		{[]int{api.MaxYears + 11, 0}, api.ErrArg}, {[]int{0, 2 * api.MaxYears}, api.ErrArg}, {[]int{api.MaxDate, -api.MaxDate}, api.ErrArg},
		{[]int{api.MaxDate, api.MaxDate}, api.OK}, {[]int{-api.MaxDate, -api.MaxDate}, api.OK},
	} {
		if c, e := core.Shift(clashing(), x.dates); e != x.want || e != api.OK && !isZero(c) {
			t.Errorf("P3.5: shifted by %v: %v %v", x.dates, c, e)
		}
	}
}

func TestMemory(t *testing.T) {
	// What lies behind the lists of the arguments must stay, too.
	behind := append(woven().Bounds, bound(1, 2, 3))
	c, d := of(6, behind[:len(behind)-1]...), of(6, bound(1, 2, 4))
	dates := []int{1, 2, 3, 4, 5, 6}
	both, _ := core.Both(c, d)
	first, _ := core.Both(of(6), c)
	last, _ := core.Both(c, of(6))
	turned, _ := core.Turn(c)
	shifted, _ := core.Shift(c, dates)
	reduced, _ := core.Reduce(c)
	plain, _ := core.Plain(c)
	_, _ = core.Same(c, d)
	for _, bounds := range [][]api.Bound{both.Bounds, first.Bounds, last.Bounds, turned.Bounds, shifted.Bounds, reduced.Bounds, plain} {
		if len(bounds) == 0 {
			t.Fatal("P3.5: no bounds")
		}
		clear(bounds)
	}
	if !same(c, woven()) || !same(d, of(6, bound(1, 2, 4))) || behind[len(behind)-1] != bound(1, 2, 3) || !slices.Equal(dates, []int{1, 2, 3, 4, 5, 6}) {
		t.Error("R5: an argument has changed:", c, d, behind, dates)
	}
	whole := tied()
	if reduced, _ := core.Reduce(whole); len(reduced.Bounds) != 2 {
		t.Fatal("P3.4:", reduced)
	} else if clear(reduced.Bounds); !same(whole, tied()) {
		t.Error("R5: a core that nothing is left out of shares memory:", whole)
	}
	groups, e := core.Groups(c)
	if e != api.OK || len(groups) != 3 {
		t.Fatal("P3.4:", groups, e)
	}
	for _, group := range groups {
		_ = append(group, 99)
	}
	if again, _ := core.Groups(c); !slices.EqualFunc(groups, again, slices.Equal[[]int]) {
		t.Error("R5: groups share memory:", groups)
	}
}

func TestNothingChangesAnArgument(t *testing.T) {
	for _, c := range some() {
		before := clone(c)
		list := make([]int, c.Layers)
		first := callAll(c, c, 0, c.Layers-1, 1, list)
		if !same(c, before) || !slices.Equal(list, make([]int, c.Layers)) {
			t.Errorf("R5: %v has become %v, %v", before, c, list)
		}
		for name, got := range callAll(before, before, 0, c.Layers-1, 1, list) {
			if got != first[name] {
				t.Errorf("R11: %s of %v: %v, then %v", name, c, first[name], got)
			}
		}
	}
}
