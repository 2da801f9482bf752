package core_test

import (
	"slices"
	"testing"

	"turbary/api"
	"turbary/core"
)

func TestClashIsTheLastError(t *testing.T) {
	for _, c := range []api.Core{clashing(), clashingWith(bound(0, 1, 3)), of(2, bound(1, 0, 2), bound(0, 1, -3))} {
		all := callAll(c, tied(), 0, 1, 0, nil)
		for _, name := range []string{"Tightest", "Follows", "Latest", "Earliest", "Fixed", "Groups", "Plain", "Same", "Reduce"} {
			if got := all[name]; got.e != api.ErrClash || !got.zero {
				t.Errorf("P3.3: %s of %v: %v", name, c, got)
			}
		}
		if got := truth(core.Same(tied(), c)); got.e != api.ErrClash || !got.zero {
			t.Errorf("P3.3: Same of %v as the second one: %v", c, got)
		}
		if got := truth(core.Same(c, c)); got.e != api.ErrClash || !got.zero {
			t.Errorf("P3.3: Same of %v twice: %v", c, got)
		}
		for _, pair := range [][2]api.Core{{c, of(3)}, {of(1), c}, {c, spiral()}} {
			if got := truth(core.Same(pair[0], pair[1])); got.e != api.ErrArg || !got.zero {
				t.Errorf("P3.4: Same of %v: %v", pair, got)
			}
		}
		for _, x := range []api.Bound{bound(1, 1, 0), bound(0, 1, api.MaxYears+1), bound(0, 1, -api.MaxYears-1), bound(0, 0, highest), bound(1, 0, lowest)} {
			if got := truth(core.Follows(c, x)); got.e != api.ErrArg || !got.zero {
				t.Errorf("P3.3: Follows of %v and %v: %v", c, x, got)
			}
		}
		for name, got := range callAll(c, c, 0, 0, 0, []int{0, 0}) {
			if (name == "Both" || name == "Turn" || name == "Shift") && (got.e != api.OK || got.zero) {
				t.Errorf("P3.5: %s of %v: %v", name, c, got)
			}
		}
	}
}

func TestTightestOfExamples(t *testing.T) {
	for _, x := range []struct {
		c          api.Core
		a, b, want int
		ok         bool
	}{
		{chain(), 0, 2, 15, true}, {chain(), 0, 1, 10, true}, {chain(), 2, 0, 0, false}, {chain(), 1, 1, 0, true}, {tied(), 1, 0, -7, true},
		{woven(), 0, 4, 13, true}, {woven(), 5, 4, 1, true}, {woven(), 4, 5, 0, false}, {of(1), 0, 0, 0, true},
		{farthest(), 0, 7, 7 * api.MaxYears, true}, {farthest(), 7, 0, -7 * api.MaxYears, true},
	} {
		if got, ok, e := core.Tightest(x.c, x.a, x.b); got != x.want || ok != x.ok || e != api.OK {
			t.Errorf("P3.3: tightest of %v, %d, %d: %d %v %v", x.c, x.a, x.b, got, ok, e)
		}
	}
}

func TestTightestByAllDates(t *testing.T) {
	for _, c := range small() {
		want, some := greatest(c)
		if !some {
			continue
		}
		for a := range c.Layers {
			for b := range c.Layers {
				got, ok, e := core.Tightest(c, a, b)
				if e != api.OK || ok == isFar(want[a][b]) || ok && got != want[a][b] {
					t.Errorf("P3.3: tightest of %v, %d, %d: %d %v %v, not %d", c, a, b, got, ok, e, want[a][b])
				}
			}
		}
	}
}

// mark is the date of a table of distances, 0 if there is none.
func mark(distance, sign int) api.Mark {
	if isFar(distance) {
		return api.Mark{}
	}
	return api.Mark{Known: true, Date: sign * distance}
}

func TestTightestLatestAndEarliest(t *testing.T) {
	for _, c := range possible() {
		table := distances(c)
		for a := range c.Layers {
			latest, e := core.Latest(c, a)
			earliest, f := core.Earliest(c, a)
			if len(latest) != c.Layers || len(earliest) != c.Layers || e != api.OK || f != api.OK {
				t.Fatalf("P3.3: %v from %d: %v %v, %v %v", c, a, latest, e, earliest, f)
			}
			for b := range c.Layers {
				got, ok, e := core.Tightest(c, a, b)
				if want := mark(table[a][b], 1); want != (api.Mark{Known: ok, Date: got}) || e != api.OK || latest[b] != want {
					t.Errorf("P3.3: %v, %d, %d: %d %v %v, %v, not %v", c, a, b, got, ok, e, latest[b], want)
				}
				if want := mark(table[b][a], -1); earliest[b] != want {
					t.Errorf("P3.3: %v, %d, %d: %v, not %v", c, a, b, earliest[b], want)
				}
			}
		}
	}
}

func TestLatestAreDates(t *testing.T) {
	for _, c := range possible() {
		for a := range c.Layers {
			for _, f := range []func(api.Core, int) ([]api.Mark, api.Errno){core.Latest, core.Earliest} {
				marks, _ := f(c, a)
				dates := make([]int, c.Layers)
				known := true
				for b, m := range marks {
					dates[b] = m.Date
					known = known && m.Known
				}
				if known && core.CheckDates(c, dates) != api.OK || dates[a] != 0 {
					t.Errorf("P3.3: %v from %d: %v", c, a, marks)
				}
			}
		}
	}
}

func TestFollows(t *testing.T) {
	for _, c := range possible() {
		table := distances(c)
		for a := range c.Layers {
			for b := range c.Layers {
				mosts := []int{-api.MaxYears, -1, 0, 1, api.MaxYears}
				if !isFar(table[a][b]) {
					mosts = append(mosts, table[a][b]-1, table[a][b], table[a][b]+1)
				}
				for _, most := range mosts {
					is, e := core.Follows(c, bound(a, b, most))
					if a == b || max(most, -most) > api.MaxYears {
						if is || e != api.ErrArg {
							t.Errorf("P3.3: %v, %d %d %d: %v %v", c, a, b, most, is, e)
						}
					} else if is != (table[a][b] <= most) || e != api.OK {
						t.Errorf("P3.3: %v, %d %d %d: %v %v", c, a, b, most, is, e)
					}
				}
			}
		}
	}
}

func TestFollowsOfExamples(t *testing.T) {
	for _, x := range []struct {
		c     api.Core
		bound api.Bound
		want  bool
	}{
		{chain(), chain().Bounds[2], true}, {chain(), bound(0, 2, 15), true}, {chain(), bound(0, 2, 14), false}, {chain(), bound(2, 0, api.MaxYears), false},
		{farthest(), bound(7, 0, -api.MaxYears), true}, {farthest(), bound(0, 7, api.MaxYears), false}, {of(2), bound(0, 1, api.MaxYears), false},
	} {
		if is, e := core.Follows(x.c, x.bound); is != x.want || e != api.OK {
			t.Errorf("P3.3: %v of %v: %v %v", x.bound, x.c, is, e)
		}
	}
}

func TestFixedByAllDates(t *testing.T) {
	for _, c := range small() {
		for a := range c.Layers {
			for b := range c.Layers {
				differences := map[int]bool{}
				for dates := range grid(c) {
					differences[dates[b]-dates[a]] = true
				}
				got, ok, e := core.Fixed(c, a, b)
				if len(differences) == 0 {
					if e != api.ErrClash || got != 0 || ok {
						t.Errorf("P3.4: %v, %d, %d: %d %v %v", c, a, b, got, ok, e)
					}
				} else if ok != (len(differences) == 1) || ok && !differences[got] || !ok && got != 0 || e != api.OK {
					t.Errorf("P3.4: %v, %d, %d: %d %v %v, of %v", c, a, b, got, ok, e, differences)
				}
			}
		}
	}
}

func TestFixedAndGroups(t *testing.T) {
	for _, c := range possible() {
		table := distances(c)
		var groups [][]int
		for a := range c.Layers {
			var group []int
			for b := range c.Layers {
				together := table[a][b]+table[b][a] == 0
				if together {
					group = append(group, b)
				}
				want := 0
				if together {
					want = table[a][b]
				}
				if got, ok, e := core.Fixed(c, a, b); got != want || ok != together || e != api.OK {
					t.Errorf("P3.4: %v, %d, %d: %d %v %v", c, a, b, got, ok, e)
				}
			}
			groups = append(groups, group)
		}
		slices.SortFunc(groups, slices.Compare[[]int])
		groups = slices.CompactFunc(groups, slices.Equal[[]int])
		if got, e := core.Groups(c); !slices.EqualFunc(got, groups, slices.Equal[[]int]) || e != api.OK {
			t.Errorf("P3.4: groups of %v: %v, not %v: %v", c, got, groups, e)
		}
	}
}

func TestGroupsOfExamples(t *testing.T) {
	for _, x := range []struct {
		c    api.Core
		want [][]int
	}{
		{tied(), [][]int{{0, 1}}}, {chain(), [][]int{{0}, {1}, {2}}}, {woven(), [][]int{{0, 3}, {1, 2, 4}, {5}}}, {of(1), [][]int{{0}}},
		{of(3, bound(0, 2, 7), bound(2, 0, -7)), [][]int{{0, 2}, {1}}}, {farthest(), [][]int{{0, 1, 2, 3, 4, 5, 6, 7}}},
	} {
		if got, e := core.Groups(x.c); !slices.EqualFunc(got, x.want, slices.Equal[[]int]) || e != api.OK {
			t.Errorf("P3.4: groups of %v: %v %v", x.c, got, e)
		}
	}
	if got, ok, e := core.Fixed(tied(), 0, 1); got != 7 || !ok || e != api.OK {
		t.Error("P3.4:", got, ok, e)
	}
}

func TestPlain(t *testing.T) {
	for _, c := range possible() {
		var want []api.Bound
		for a, row := range distances(c) {
			for b, most := range row {
				if a != b && !isFar(most) {
					want = append(want, bound(a, b, most))
				}
			}
		}
		if got, e := core.Plain(c); !slices.Equal(got, want) || e != api.OK {
			t.Errorf("P3.4: plain of %v: %v, not %v: %v", c, got, want, e)
		}
	}
	want := []api.Bound{bound(0, 1, 10), bound(0, 2, 15), bound(1, 2, 5)}
	if got, e := core.Plain(chain()); !slices.Equal(got, want) || e != api.OK {
		t.Error("P3.4:", got, e)
	}
}

func TestSame(t *testing.T) {
	list := possible()
	for i, c := range list {
		plain, _ := core.Plain(c)
		for j := i; j < len(list); j += 1 + j%11 {
			d := list[j]
			other, _ := core.Plain(d)
			is, e := core.Same(c, d)
			if c.Layers != d.Layers {
				if is || e != api.ErrArg {
					t.Errorf("P3.4: %v and %v: %v %v", c, d, is, e)
				}
			} else if is != slices.Equal(plain, other) || e != api.OK {
				t.Errorf("P3.4: %v and %v: %v %v", c, d, is, e)
			}
		}
	}
}

func TestSameByAllDates(t *testing.T) {
	list := slices.DeleteFunc(small(), func(c api.Core) bool {
		_, some := greatest(c)
		return !some || c.Layers > 2
	})
	for _, c := range list {
		for _, d := range list {
			if c.Layers != d.Layers {
				continue
			}
			want := true
			for dates := range grid(of(c.Layers)) {
				want = want && keep(c, dates) == keep(d, dates)
			}
			if is, e := core.Same(c, d); is != want || e != api.OK {
				t.Errorf("P3.4: %v and %v: %v %v", c, d, is, e)
			}
		}
	}
}

// reduced follows the words of P3.4 for a bound at a time.
func reduced(c api.Core) api.Core {
	left := slices.Clone(c.Bounds)
	for k := len(left) - 1; k >= 0; k-- {
		without := slices.Concat(left[:k], left[k+1:])
		if x := left[k]; distances(of(c.Layers, without...))[x.A][x.B] <= x.Most {
			left = without
		}
	}
	return of(c.Layers, left...)
}

func TestReduce(t *testing.T) {
	for _, c := range possible() {
		got, e := core.Reduce(c)
		if !same(got, reduced(c)) || e != api.OK {
			t.Errorf("P3.4: %v reduced: %v, not %v: %v", c, got, reduced(c), e)
		}
		if is, e := core.Same(got, c); !is || e != api.OK {
			t.Errorf("P3.4: %v reduced: %v: %v %v", c, got, is, e)
		}
		if again, e := core.Reduce(got); !same(again, got) || e != api.OK {
			t.Errorf("P3.4: %v reduced again: %v %v", got, again, e)
		}
	}
}

func TestReduceOfExamples(t *testing.T) {
	for _, x := range []struct {
		c    api.Core
		want []int
	}{
		{chain(), []int{0, 1}}, {tied(), []int{0, 1}}, {of(4), nil}, {of(2, bound(0, 1, 3), bound(0, 1, 3)), []int{0}},
		{of(2, bound(0, 1, 3), bound(0, 1, 2), bound(0, 1, 4)), []int{1}}, {of(3, bound(0, 2, 15), bound(0, 1, 10), bound(1, 2, 5)), []int{1, 2}},
		{woven(), []int{0, 2, 3, 4, 5, 8, 10}},
	} {
		want := of(x.c.Layers)
		for _, k := range x.want {
			want.Bounds = append(want.Bounds, x.c.Bounds[k])
		}
		if got, e := core.Reduce(x.c); !same(got, want) || e != api.OK {
			t.Errorf("P3.4: %v reduced: %v %v", x.c, got, e)
		}
	}
}
