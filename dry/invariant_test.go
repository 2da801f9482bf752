package dry_test

import (
	"math/rand/v2"
	"slices"
	"testing"

	"turbary/api"
	"turbary/dry"
)

func TestIsInvariant(t *testing.T) {
	kept := 0
	for _, y := range some() {
		if y.Places > 4 {
			continue
		}
		for _, weights := range lists(-3, slices.Repeat([]int{4}, y.Places)) {
			want := keepsWeight(y, weights)
			if is, e := dry.IsInvariant(y, weights); is != want || e != api.OK {
				t.Errorf("P6.4: %v are an invariant of %v: %v %v", weights, y, is, e)
			}
			if want && slices.Max(weights) > 0 {
				kept++
			}
		}
	}
	if kept < 50 {
		t.Error("few invariants:", kept)
	}
}

func TestIsInvariantOfExamples(t *testing.T) {
	for _, x := range []struct {
		y       api.Yard
		weights []int
		want    bool
	}{
		{pair(), []int{1, 1}, false}, {pair(), []int{0, 0}, true}, {pair(), []int{2, 1}, false}, {one(), []int{1, 1}, true}, {one(), []int{-20, -20}, true}, {one(), []int{20, -20}, false}, {one(), []int{20, 19}, false},
		{bare(2), []int{20, -20}, true}, {ring(6), slices.Repeat([]int{20}, 6), true}, {ring(6), []int{1, 1, 1, 1, 1, 0}, false}, {flood(), []int{0, 0, 1}, false}, {flood(), []int{0, 2, 1}, false},
		{api.Yard{Places: 2, Steps: pair().Steps[1:]}, []int{2, 1}, true}, {api.Yard{Places: 2, Steps: []api.Step{step([]int{3, 3}, []int{0, 0})}}, []int{1, -1}, true}, {api.Yard{Places: 1, Steps: []api.Step{step([]int{2}, []int{2})}}, []int{7}, true},
	} {
		if is, e := dry.IsInvariant(x.y, x.weights); is != x.want || e != api.OK {
			t.Errorf("P6.4: %v are an invariant of %v: %v %v", x.weights, x.y, is, e)
		}
	}
}

func TestWeigh(t *testing.T) {
	for _, x := range []struct {
		y          api.Yard
		weights, m []int
		want       int
	}{{pair(), []int{1, 1}, []int{3, 4}, 7}, {pair(), []int{-2, 5}, []int{10, 1}, -15}, {full(), slices.Repeat([]int{20}, 6), slices.Repeat([]int{50}, 6), 6000}, {full(), slices.Repeat([]int{-20}, 6), slices.Repeat([]int{50}, 6), -6000}, {bare(3), []int{1, 2, 3}, []int{3, 2, 1}, 10}, {bare(1), []int{20}, []int{0}, 0}} {
		if got, e := dry.Weigh(x.y, x.weights, x.m); got != x.want || e != api.OK {
			t.Errorf("P6.4: %v weigh %v in %v: %d %v", x.weights, x.m, x.y, got, e)
		}
	}
}

func TestInvariantsNeverChange(t *testing.T) {
	source := rand.New(rand.NewPCG(11, 6))
	kept := 0
	for _, y := range some() {
		if y.Places > 4 || len(y.Steps) == 0 {
			continue
		}
		for _, weights := range lists(-2, slices.Repeat([]int{3}, y.Places)) {
			if is, _ := dry.IsInvariant(y, weights); !is || slices.Max(weights) < 1 {
				continue
			}
			for _, m := range fillings(source, y) {
				list := randomList(source, y, m, 20)
				end, _, e := dry.Run(y, m, list)
				before, _ := dry.Weigh(y, weights, m)
				after, _ := dry.Weigh(y, weights, end)
				if before != after || e != api.OK {
					t.Errorf("S6, P6.4: %v from %v in %v: %v weigh %d before and %d after: %v", list, m, y, weights, before, after, e)
				}
				kept += len(list)
			}
		}
	}
	if kept < 100 {
		t.Error("few steps:", kept)
	}
}

// TestNumberOfTurves is the sixth example of DOC.md.
func TestNumberOfTurves(t *testing.T) {
	y, weights := ring(3), []int{1, 1, 1}
	for _, m := range lists(0, []int{3, 3, 3}) {
		for k := range y.Steps {
			after, e := dry.Do(y, m, k)
			if e == api.ErrRule {
				continue
			}
			if got, e := dry.Weigh(y, weights, after); got != sumOf(m) || e != api.OK {
				t.Errorf("S6, P6.4: %v after the step %d: %v weigh %d %v", m, k, after, got, e)
			}
		}
	}
}

func TestSpace(t *testing.T) {
	for _, x := range []struct {
		y    api.Yard
		want int
	}{
		{pair(), 0}, {one(), 1}, {bare(1), 1}, {bare(6), 6}, {ring(1), 1}, {ring(3), 1}, {ring(6), 1}, {flood(), 0}, {full(), 0},
		{api.Yard{Places: 3, Steps: slices.Repeat(ring(3).Steps[:1], 6)}, 2}, {api.Yard{Places: 3, Steps: ring(3).Steps[1:2]}, 2}, {api.Yard{Places: 6, Steps: ring(6).Steps[3:]}, 3},
	} {
		if got, e := dry.Space(x.y); got != x.want || e != api.OK {
			t.Errorf("P6.4: space of %v: %d %v, not %d", x.y, got, e, x.want)
		}
	}
	seen := map[int]int{}
	for _, y := range some() {
		want := spaceOf(y)
		if got, e := dry.Space(y); got != want || e != api.OK {
			t.Errorf("P6.4: space of %v: %d %v, not %d", y, got, e, want)
		}
		seen[want]++
	}
	if len(seen) < 6 {
		t.Error("few cases:", seen)
	}
}

func TestSpaceOfStepsThatFollowFromOthers(t *testing.T) {
	source := rand.New(rand.NewPCG(12, 6))
	seen := map[int]int{}
	for range 600 {
		y := random(source, 1+source.IntN(6), 2+source.IntN(5))
		for range source.IntN(5) {
			mix(source, y)
		}
		want := spaceOf(y)
		if got, e := dry.Space(y); got != want || e != api.OK {
			t.Errorf("P6.4: space of %v: %d %v, not %d", y, got, e, want)
		}
		seen[want-max(0, y.Places-len(y.Steps))]++
	}
	if len(seen) < 4 {
		t.Error("few steps follow from others:", seen)
	}
}

// mix makes the effect of a step the sum or the difference of those of two steps, where that is possible.
func mix(source *rand.Rand, y api.Yard) {
	a, b, c := source.IntN(len(y.Steps)), source.IntN(len(y.Steps)), source.IntN(len(y.Steps))
	sign := 1 - 2*source.IntN(2)
	s := step(make([]int, y.Places), make([]int, y.Places))
	for p := range y.Places {
		change := y.Steps[a].Give[p] - y.Steps[a].Take[p] + sign*(y.Steps[b].Give[p]-y.Steps[b].Take[p])
		if change < -api.MaxArc || change > api.MaxArc {
			return
		}
		s.Take[p], s.Give[p] = max(0, -change), max(0, change)
	}
	y.Steps[c] = s
}

// TestSpaceOfTheGreatestNumbers has effects of -3 and 3 only, and of as great determinants as possible.
func TestSpaceOfTheGreatestNumbers(t *testing.T) {
	source := rand.New(rand.NewPCG(13, 6))
	for range 300 {
		y := full()
		for _, s := range y.Steps {
			for p := range y.Places {
				s.Take[p] = api.MaxArc * source.IntN(2)
				s.Give[p] = api.MaxArc - s.Take[p]
			}
		}
		if got, e := dry.Space(y); got != spaceOf(y) || e != api.OK {
			t.Errorf("P6.4: space of %v: %d %v, not %d", y, got, e, spaceOf(y))
		}
	}
}
