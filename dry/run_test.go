package dry_test

import (
	"math/rand/v2"
	"slices"
	"testing"

	"turbary/api"
	"turbary/dry"
)

func TestRunOfExamples(t *testing.T) {
	for _, x := range []struct {
		y            api.Yard
		m, list, end []int
		n            int
		want         api.Errno
	}{
		{pair(), []int{3, 0}, []int{0, 0, 1}, []int{2, 0}, 3, api.OK}, {pair(), []int{3, 0}, nil, []int{3, 0}, 0, api.OK}, {bare(1), []int{50}, []int{}, []int{50}, 0, api.OK},
		{pair(), []int{3, 0}, []int{1, 0}, nil, 0, api.ErrRule}, {pair(), []int{3, 0}, []int{0, 1}, nil, 1, api.ErrRule}, {pair(), []int{2, 0}, []int{0, 0, 0}, nil, 2, api.ErrRule},
		{pair(), []int{2, 50}, []int{0, 0}, nil, 0, api.ErrLarge}, {pair(), []int{2, 49}, []int{0, 0}, nil, 1, api.ErrLarge}, {pair(), []int{2, 48}, []int{0, 0}, []int{0, 50}, 2, api.OK},
		// A step can take and give back the last turves that a place holds.
		{flood(), []int{50, 0, 0}, []int{3}, []int{50, 2, 0}, 1, api.OK}, {flood(), []int{50, 50, 0}, []int{3}, nil, 0, api.ErrLarge}, {flood(), []int{50, 50, 0}, []int{1, 1, 3}, []int{50, 50, 0}, 3, api.OK},
		{flood(), []int{48, 0, 0}, []int{2, 0}, nil, 1, api.ErrLarge}, {flood(), []int{2, 50, 0}, []int{3}, nil, 0, api.ErrRule}, {flood(), []int{50, 50, 50}, slices.Repeat([]int{2}, 40), []int{50, 50, 50}, 40, api.OK},
		{ring(1), []int{50}, slices.Repeat([]int{0}, 40), []int{50}, 40, api.OK}, {ring(1), []int{0}, slices.Repeat([]int{0}, 40), nil, 0, api.ErrRule}, {one(), []int{39, 0}, slices.Repeat([]int{0}, 40), nil, 39, api.ErrRule},
	} {
		if end, n, e := dry.Run(x.y, x.m, x.list); !slices.Equal(end, x.end) || n != x.n || e != x.want {
			t.Errorf("P6.2: %v from %v in %v: %v %d %v", x.list, x.m, x.y, end, n, e)
		}
	}
}

func TestDo(t *testing.T) {
	source := rand.New(rand.NewPCG(3, 6))
	seen := map[api.Errno]int{}
	for _, y := range some() {
		for _, m := range fillings(source, y) {
			for k := range y.Steps {
				if is, e := dry.CanDo(y, m, k); is != allowed(y, m, k) || e != api.OK {
					t.Errorf("P6.2: the step %d can be done in %v of %v: %v %v", k, m, y, is, e)
				}
				want, wanted := done(y, m, k)
				if after, e := dry.Do(y, m, k); !slices.Equal(after, want) || e != wanted {
					t.Errorf("P6.2: %v after the step %d of %v: %v %v, not %v %v", m, k, y, after, e, want, wanted)
				}
				seen[wanted]++
			}
		}
	}
	if min(seen[api.OK], seen[api.ErrRule], seen[api.ErrLarge]) < 50 {
		t.Error("few cases:", seen)
	}
}

func TestDoOfAllFillings(t *testing.T) {
	y := api.Yard{Places: 2, Steps: []api.Step{step([]int{3, 1}, []int{1, 3}), step([]int{2, 2}, []int{2, 3})}}
	for _, m := range lists(0, []int{51, 51}) {
		stuck := true
		for k := range y.Steps {
			is, e := dry.CanDo(y, m, k)
			if is != allowed(y, m, k) || e != api.OK {
				t.Errorf("P6.2: the step %d can be done in %v: %v %v", k, m, is, e)
			}
			want, wanted := done(y, m, k)
			if after, e := dry.Do(y, m, k); !slices.Equal(after, want) || e != wanted {
				t.Errorf("P6.2: %v after the step %d: %v %v, not %v %v", m, k, after, e, want, wanted)
			}
			stuck = stuck && !is
		}
		if is, e := dry.IsStuck(y, m); is != stuck || e != api.OK {
			t.Errorf("P6.2: %v is stuck: %v %v", m, is, e)
		}
	}
}

func TestIsStuck(t *testing.T) {
	source := rand.New(rand.NewPCG(4, 6))
	stuck := 0
	for _, y := range some() {
		for _, m := range fillings(source, y) {
			want := true
			for k := range y.Steps {
				want = want && !allowed(y, m, k)
			}
			if is, e := dry.IsStuck(y, m); is != want || e != api.OK {
				t.Errorf("P6.2: %v is stuck in %v: %v %v", m, y, is, e)
			}
			if want && len(y.Steps) > 0 {
				stuck++
			}
		}
	}
	if stuck < 50 {
		t.Error("few fillings are stuck:", stuck)
	}
	// There is a step that can be done, but none that Do would do.
	if is, e := dry.IsStuck(one(), []int{1, 50}); is || e != api.OK {
		t.Error("P6.2:", is, e)
	}
}

func TestRun(t *testing.T) {
	source := rand.New(rand.NewPCG(5, 6))
	seen := map[api.Errno]int{}
	for _, y := range some() {
		for _, m := range fillings(source, y) {
			if len(y.Steps) == 0 {
				continue
			}
			list := randomList(source, y, m, source.IntN(41))
			for _, list := range [][]int{list, append(slices.Clone(list[:len(list)/2]), source.IntN(len(y.Steps)))} {
				want, wantN, wanted := ran(y, m, list)
				end, n, e := dry.Run(y, m, list)
				if !slices.Equal(end, want) || n != wantN || e != wanted {
					t.Errorf("P6.2: %v from %v in %v: %v %d %v, not %v %d %v", list, m, y, end, n, e, want, wantN, wanted)
				}
				seen[e]++
				checkEffect(t, y, m, end, list)
			}
		}
	}
	if min(seen[api.OK], seen[api.ErrRule], seen[api.ErrLarge]) < 50 {
		t.Error("few cases:", seen)
	}
}

// checkEffect is for any list, and for its end if it has one.
func checkEffect(t *testing.T, y api.Yard, m, end, list []int) {
	t.Helper()
	counts, e := dry.Counts(y, list)
	if !slices.Equal(counts, countsOf(y, list)) || e != api.OK {
		t.Errorf("P6.2: counts of %v in %v: %v %v", list, y, counts, e)
	}
	effect, e := dry.Effect(y, counts)
	if len(effect) != y.Places || e != api.OK {
		t.Fatalf("P6.2: effect of %v in %v: %v %v", counts, y, effect, e)
	}
	if end != nil && !slices.Equal(plus(m, effect), end) {
		t.Errorf("P6.2, S6: %v from %v in %v ends with %v, but its effect is %v", list, m, y, end, effect)
	}
}

func TestEffect(t *testing.T) {
	source := rand.New(rand.NewPCG(6, 6))
	for _, x := range []struct {
		y            api.Yard
		counts, want []int
	}{{pair(), []int{2, 1}, []int{-1, 0}}, {pair(), []int{0, 40}, []int{40, -80}}, {bare(3), nil, []int{0, 0, 0}}, {flood(), []int{1, 3, 40, 1, 2}, []int{3, -3, 4}}, {full(), []int{40, 40, 40, 40, 40, 40}, slices.Repeat([]int{-480}, 6)}} {
		if got, e := dry.Effect(x.y, x.counts); !slices.Equal(got, x.want) || e != api.OK {
			t.Errorf("P6.2: effect of %v in %v: %v %v", x.counts, x.y, got, e)
		}
	}
	for _, y := range some() {
		for range 10 {
			counts, want := make([]int, len(y.Steps)), make([]int, y.Places)
			for k := range counts {
				counts[k] = source.IntN(api.MaxList + 1)
				for p := range want {
					want[p] += counts[k]*y.Steps[k].Give[p] - counts[k]*y.Steps[k].Take[p]
				}
			}
			if got, e := dry.Effect(y, counts); !slices.Equal(got, want) || e != api.OK {
				t.Errorf("P6.2: effect of %v in %v: %v %v, not %v", counts, y, got, e, want)
			}
		}
	}
}

func TestCounts(t *testing.T) {
	for _, x := range []struct {
		y          api.Yard
		list, want []int
	}{{pair(), []int{1, 0, 1}, []int{1, 2}}, {pair(), nil, []int{0, 0}}, {bare(3), nil, nil}, {ring(3), slices.Repeat([]int{2}, 40), []int{0, 0, 40}}, {full(), []int{5, 0, 5, 3}, []int{1, 0, 0, 1, 0, 2}}} {
		if got, e := dry.Counts(x.y, x.list); !slices.Equal(got, x.want) || e != api.OK {
			t.Errorf("P6.2: counts of %v in %v: %v %v", x.list, x.y, got, e)
		}
	}
}

func TestListsWithTheSameCountsEndAlike(t *testing.T) {
	alike := 0
	for _, y := range []api.Yard{pair(), ring(3), flood()} {
		for _, m := range [][]int{{3, 2, 1}, {0, 2, 3}, {48, 0, 50}} {
			ends := map[[5]int][]int{}
			for _, list := range listsOf(y, 4) {
				counts, _ := dry.Counts(y, list)
				end, _, e := dry.Run(y, m[:y.Places], list)
				if e != api.OK {
					continue
				}
				key := [5]int{}
				copy(key[:], counts)
				if other, ok := ends[key]; ok && !slices.Equal(end, other) {
					t.Errorf("P6.2, S6: lists with the counts %v from %v in %v end with %v and %v", counts, m, y, end, other)
				} else if ok {
					alike++
				}
				ends[key] = end
			}
		}
	}
	if alike < 100 {
		t.Error("few lists have the same counts:", alike)
	}
}

func TestMoreTurvesAllowMore(t *testing.T) {
	source := rand.New(rand.NewPCG(7, 6))
	for _, y := range some() {
		for _, m := range fillings(source, y) {
			if len(y.Steps) == 0 {
				continue
			}
			list, more := randomList(source, y, m, 10), slices.Clone(m)
			for p := range more {
				more[p] += source.IntN(api.MaxHold + 1 - more[p])
			}
			if _, n, e := dry.Run(y, more, list); e != api.ErrLarge && (e != api.OK || n != len(list)) {
				t.Errorf("P6.2, S6: %v can be done in %v of %v, but not in %v: %d %v", list, m, y, more, n, e)
			}
		}
	}
}
