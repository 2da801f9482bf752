package dry_test

import (
	"math/rand/v2"
	"slices"
	"testing"

	"turbary/api"
	"turbary/dry"
)

func TestOrderOfExamples(t *testing.T) {
	for _, x := range []struct {
		y               api.Yard
		m, counts, want []int
		ok              bool
		e               api.Errno
	}{
		{pair(), []int{3, 0}, []int{2, 1}, []int{0, 0, 1}, true, api.OK}, {pair(), []int{1, 2}, []int{2, 1}, []int{0, 1, 0}, true, api.OK}, {pair(), []int{0, 2}, []int{1, 1}, []int{1, 0}, true, api.OK},
		{pair(), []int{1, 0}, []int{2, 1}, nil, false, api.OK}, {pair(), []int{0, 0}, []int{0, 0}, nil, true, api.OK}, {bare(2), []int{50, 0}, nil, nil, true, api.OK}, {pair(), []int{1, 50}, []int{1, 1}, []int{1, 0}, true, api.OK},
		{pair(), []int{50, 0}, []int{8, 0}, slices.Repeat([]int{0}, 8), true, api.OK}, {pair(), []int{50, 0}, []int{9, 0}, nil, false, api.ErrLarge}, {pair(), []int{0, 0}, []int{4, 5}, nil, false, api.ErrLarge}, {pair(), []int{0, 0}, []int{40, 40}, nil, false, api.ErrLarge},
		{pair(), []int{0, 0}, []int{4, 4}, nil, false, api.OK}, {one(), []int{7, 0}, []int{8}, nil, false, api.OK}, {one(), []int{8, 42}, []int{8}, slices.Repeat([]int{0}, 8), true, api.OK}, {one(), []int{8, 43}, []int{8}, nil, false, api.OK},
		{ring(6), []int{0, 0, 0, 0, 0, 1}, []int{1, 1, 1, 1, 2, 2}, nil, false, api.OK}, {ring(6), []int{0, 0, 0, 0, 1, 0}, []int{1, 1, 1, 1, 2, 2}, []int{4, 5, 0, 1, 2, 3, 4, 5}, true, api.OK},
		{flood(), []int{45, 0, 0}, []int{1, 2, 1, 1, 0}, []int{0, 2, 3, 1, 1}, true, api.OK}, {full(), slices.Repeat([]int{50}, 6), []int{2, 2, 1, 1, 1, 1}, nil, false, api.OK},
	} {
		if got, ok, e := dry.Order(x.y, x.m, x.counts); !slices.Equal(got, x.want) || ok != x.ok || e != x.e {
			t.Errorf("P6.3: %v from %v in %v: %v %v %v", x.counts, x.m, x.y, got, ok, e)
		}
	}
}

func TestOrder(t *testing.T) {
	source := rand.New(rand.NewPCG(8, 6))
	seen := map[bool]int{}
	for _, y := range some() {
		if len(y.Steps) == 0 {
			continue
		}
		length := min(8, []int{0, 8, 8, 6, 5, 4, 4}[len(y.Steps)])
		all := listsOf(y, length)
		for range 4 {
			m := randomFilling(source, y)
			list := randomList(source, y, m, length)
			for len(list) < length {
				list = append(list, source.IntN(len(y.Steps)))
			}
			counts := countsOf(y, list)
			at := slices.IndexFunc(all, func(list []int) bool { return slices.Equal(countsOf(y, list), counts) && leads(y, m, list) })
			var want []int
			if at >= 0 {
				want = all[at]
			}
			if got, ok, e := dry.Order(y, m, counts); !slices.Equal(got, want) || ok != (at >= 0) || e != api.OK {
				t.Errorf("P6.3: %v from %v in %v: %v %v %v, not %v", counts, m, y, got, ok, e, want)
			}
			seen[at >= 0]++
		}
	}
	if min(seen[true], seen[false]) < 50 {
		t.Error("few cases:", seen)
	}
}

func TestWayOfExamples(t *testing.T) {
	twins := api.Yard{Places: 2, Steps: []api.Step{step([]int{0, 0}, []int{0, 1}), step([]int{2, 0}, []int{0, 0}), step([]int{1, 0}, []int{0, 0}), step([]int{1, 0}, []int{0, 0})}}
	for _, x := range []struct {
		y       api.Yard
		m, goal []int
		most    int
		want    []int
		ok      bool
	}{
		{pair(), []int{2, 0}, []int{1, 0}, 3, []int{0, 0, 1}, true}, {pair(), []int{2, 0}, []int{1, 0}, 5, []int{0, 0, 1}, true}, {pair(), []int{2, 0}, []int{1, 0}, 2, nil, false}, {pair(), []int{2, 0}, []int{2, 0}, 0, nil, true},
		{pair(), []int{2, 0}, []int{2, 0}, 5, nil, true}, {pair(), []int{2, 0}, []int{1, 1}, 0, nil, false}, {pair(), []int{2, 0}, []int{0, 1}, 5, []int{0, 0, 1, 0}, true}, {pair(), []int{0, 1}, []int{1, 0}, 5, nil, false},
		{ring(6), []int{1, 0, 0, 0, 0, 0}, []int{0, 0, 0, 0, 0, 1}, 5, []int{0, 1, 2, 3, 4}, true}, {ring(6), []int{1, 0, 0, 0, 0, 0}, []int{0, 0, 0, 0, 0, 1}, 4, nil, false}, {one(), []int{1, 50}, []int{0, 50}, 5, nil, false},
		// The shortest list comes before the first one, and of two of a length the first one counts.
		{twins, []int{2, 0}, []int{0, 0}, 5, []int{1}, true}, {twins, []int{3, 0}, []int{0, 0}, 5, []int{1, 2}, true}, {twins, []int{1, 0}, []int{0, 1}, 5, []int{0, 2}, true}, {twins, []int{5, 1}, []int{0, 2}, 5, []int{0, 1, 1, 2}, true},
		{bare(1), []int{3}, []int{3}, 5, nil, true}, {bare(1), []int{3}, []int{2}, 5, nil, false}, {pair(), []int{1, 50}, []int{1, 49}, 2, []int{1, 0}, true},
	} {
		if got, ok, e := dry.Way(x.y, x.m, x.goal, x.most); !slices.Equal(got, x.want) || ok != x.ok || e != api.OK {
			t.Errorf("P6.3: %v to %v in %v with %d: %v %v %v", x.m, x.goal, x.y, x.most, got, ok, e)
		}
	}
}

// longest is how many steps a list may have where a test goes through all lists.
func longest(y api.Yard) int { return []int{5, 5, 5, 5, 4, 3, 3}[len(y.Steps)] }

func TestWay(t *testing.T) {
	source := rand.New(rand.NewPCG(9, 6))
	seen := map[bool]int{}
	for _, y := range some() {
		for range 6 {
			m := randomFilling(source, y)
			most := source.IntN(longest(y) + 1)
			goal := randomFilling(source, y)
			if len(y.Steps) > 0 {
				goal, _, _ = ran(y, m, randomList(source, y, m, longest(y)))
			}
			want, wanted := wayOf(y, m, goal, most)
			if got, ok, e := dry.Way(y, m, goal, most); !slices.Equal(got, want) || ok != wanted || e != api.OK {
				t.Errorf("P6.3: %v to %v in %v with %d: %v %v %v, not %v %v", m, goal, y, most, got, ok, e, want, wanted)
			}
			seen[wanted]++
		}
	}
	if min(seen[true], seen[false]) < 50 {
		t.Error("few cases:", seen)
	}
}

// wayOf goes through all lists, from the shortest ones on.
func wayOf(y api.Yard, m, goal []int, most int) ([]int, bool) {
	for length := range most + 1 {
		for _, list := range listsOf(y, length) {
			if end, _, e := ran(y, m, list); e == api.OK && slices.Equal(end, goal) {
				return list, true
			}
		}
	}
	return nil, false
}

func TestReach(t *testing.T) {
	for _, x := range []struct {
		y          api.Yard
		m          []int
		most, want int
	}{
		{pair(), []int{2, 0}, 0, 1}, {pair(), []int{2, 0}, 2, 3}, {pair(), []int{2, 0}, 5, 5}, {bare(1), []int{3}, 5, 1}, {ring(1), []int{3}, 5, 1}, {ring(3), []int{1, 0, 0}, 5, 3}, {ring(3), []int{1, 0, 0}, 1, 2},
		{flood(), []int{0, 0, 0}, 1, 2}, {flood(), []int{0, 0, 0}, 5, 22}, {one(), []int{2, 50}, 5, 1}, {one(), []int{2, 49}, 5, 2}, {one(), []int{9, 0}, 5, 6},
	} {
		if got, e := dry.Reach(x.y, x.m, x.most); got != x.want || e != api.OK {
			t.Errorf("P6.3: %v with %d in %v: %d %v, not %d", x.m, x.most, x.y, got, e, x.want)
		}
	}
	source := rand.New(rand.NewPCG(10, 6))
	for _, y := range some() {
		for range 4 {
			m, ends := randomFilling(source, y), map[[6]int]bool{}
			for length := range longest(y) + 1 {
				for _, list := range listsOf(y, length) {
					if end, _, e := ran(y, m, list); e == api.OK {
						key := [6]int{}
						copy(key[:], end)
						ends[key] = true
					}
				}
				if got, e := dry.Reach(y, m, length); got != len(ends) || e != api.OK {
					t.Errorf("P6.3: %v with %d in %v: %d %v, not %d", m, length, y, got, e, len(ends))
				}
			}
		}
	}
}
