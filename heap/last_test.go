package heap_test

import (
	"math/rand/v2"
	"slices"
	"testing"

	"turbary/api"
	"turbary/heap"
)

func TestLasts(t *testing.T) {
	for _, h := range few() {
		all := lastingOf(h)
		for _, turves := range calmHeapings(h) {
			if is, e := heap.Lasts(h, turves); is != holds(all, turves) || e != api.OK {
				t.Errorf("P5.4: %v lasts in %v: %v %v", turves, h, is, e)
			}
			burning, e := heap.Burn(h, turves)
			if (len(burning) == len(turves)) != holds(all, turves) || e != api.OK {
				t.Errorf("P5.4: of %v in %v burn %v: %v", turves, h, burning, e)
			}
		}
	}
}

func TestLastsIfNotCalm(t *testing.T) {
	source := rand.New(rand.NewPCG(1, 5))
	for _, h := range some() {
		for _, turves := range append(heapings(source, h), limitsOf(h)) {
			if is, e := heap.Lasts(h, turves); is && !calmOf(h, turves) || e != api.OK {
				t.Errorf("P5.4: %v lasts in %v: %v %v", turves, h, is, e)
			}
		}
		for i := range h.Ground {
			turves, _ := heap.Lasting(h, make([]int, len(h.Ground)))
			turves[i] = limitOf(h, i)
			if is, e := heap.Lasts(h, turves); is || e != api.OK {
				t.Errorf("P5.4: %v lasts in %v: %v %v", turves, h, is, e)
			}
		}
	}
}

func TestBurnOfExamples(t *testing.T) {
	for _, x := range []struct {
		h            api.Heaps
		turves, want []int
	}{
		{pair(), []int{0, 0}, nil}, {pair(), []int{0, 1}, []int{1, 0}}, {pair(), []int{1, 0}, []int{0, 1}}, {pair(), []int{1, 1}, []int{0, 1}}, {pair(), []int{30, 0}, []int{0, 1}},
		{row(), []int{0, 1, 1, 1, 1}, []int{4, 3, 2, 1, 0}}, {row(), []int{0, 0, 1, 1, 1}, []int{4, 3, 2}}, {row(), []int{1, 0, 0, 0, 0}, []int{0}}, {row(), []int{1, 0, 0, 2, 0}, []int{0, 3, 4}},
		{ring(), []int{1, 3, 1, 1}, []int{1, 0, 2, 3}}, {ring(), []int{0, 3, 1, 1}, []int{1, 2, 3, 0}}, {ring(), []int{1, 3, 2, 0}, []int{1, 0, 2, 3}},
		{ring(), []int{1, 2, 2, 1}, nil}, {ring(), []int{0, 3, 0, 1}, []int{1}}, {single(2), []int{0}, []int{0}},
		{joined([]int{0, 1, 0}, [3]int{0, 1, 1}, [3]int{1, 2, 1}), []int{0, 2, 1}, []int{1, 2, 0}},
	} {
		if got, e := heap.Burn(x.h, x.turves); !slices.Equal(got, x.want) || e != api.OK {
			t.Errorf("P5.4: of %v in %v burn %v: %v", x.turves, x.h, got, e)
		}
	}
}

func TestBurn(t *testing.T) {
	source := rand.New(rand.NewPCG(2, 5))
	rounds := 0
	for _, h := range some() {
		list := heapings(source, h)
		for range 30 {
			list = append(list, randomCalm(source, h))
		}
		for _, turves := range list {
			want, count := burnt(h, turves)
			rounds = max(rounds, count)
			if got, e := heap.Burn(h, turves); !slices.Equal(got, want) || e != api.OK {
				t.Errorf("P5.4: of %v in %v burn %v, not %v: %v", turves, h, got, want, e)
			}
		}
	}
	if rounds < 4 {
		t.Error("no fire has many rounds:", rounds)
	}
}

// burnt has the number of the round in which each heap burns, and reads the order off it.
func burnt(h api.Heaps, turves []int) ([]int, int) {
	in := make([]int, len(turves))
	for round := 1; round <= len(turves); round++ {
		for i := range turves {
			safe := 0
			for j, links := range h.Links[i] {
				if in[j] == 0 || in[j] == round {
					safe += links
				}
			}
			if in[i] == 0 && turves[i] >= safe {
				in[i] = round
			}
		}
	}
	var order []int
	for round := 1; round <= len(turves); round++ {
		for i := range in {
			if in[i] == round {
				order = append(order, i)
			}
		}
	}
	return order, slices.Max(in)
}

func TestCount(t *testing.T) {
	for _, x := range []struct {
		h    api.Heaps
		want int
	}{{pair(), 3}, {row(), 1}, {single(1), 1}, {single(2), 2}, {ring(), 14}, {full(2), 12}, {full(5), 41472}, {dense(), 15805}} {
		if got, e := heap.Count(x.h); got != x.want || e != api.OK {
			t.Errorf("P5.4: count of %v: %d %v", x.h, got, e)
		}
	}
	for _, h := range some() {
		if got, e := heap.Count(h); got != determinant(matrixOf(h)) || e != api.OK {
			t.Errorf("P5.4: count of %v: %d %v", h, got, e)
		}
	}
	for _, h := range few() {
		if got, e := heap.Count(h); got != len(lastingOf(h)) || e != api.OK {
			t.Errorf("P5.4: count of %v: %d %v", h, got, e)
		}
	}
}

func TestZeroOfExamples(t *testing.T) {
	for _, x := range []struct {
		h    api.Heaps
		want []int
	}{{pair(), []int{1, 1}}, {row(), []int{0, 1, 1, 1, 1}}, {single(1), []int{0}}, {single(2), []int{0}}, {full(2), []int{2, 2}}} {
		if got, e := heap.Zero(x.h); !slices.Equal(got, x.want) || e != api.OK {
			t.Errorf("P5.5: zero of %v: %v %v", x.h, got, e)
		}
	}
}

func TestZeroAndBack(t *testing.T) {
	for _, h := range few() {
		all := lastingOf(h)
		zero, e := heap.Zero(h)
		if !holds(all, zero) || e != api.OK {
			t.Errorf("P5.5: zero of %v: %v %v", h, zero, e)
		}
		for _, turves := range all {
			if got := calmFrom(h, plus(turves, zero)); !slices.Equal(got, turves) {
				t.Errorf("P5.5: zero of %v: %v, but with %v it is %v", h, zero, turves, got)
			}
			back, e := heap.Back(h, turves)
			if !holds(all, back) || e != api.OK {
				t.Errorf("P5.5: back of %v in %v: %v %v", turves, h, back, e)
			}
			if got := calmFrom(h, plus(turves, back)); !slices.Equal(got, zero) {
				t.Errorf("P5.5: back of %v in %v: %v, which gives %v", turves, h, back, got)
			}
			for _, other := range all {
				if sum, e := heap.Add(h, turves, other); !holds(all, sum) || e != api.OK {
					t.Errorf("P5.5: %v and %v in %v: %v does not last: %v", turves, other, h, sum, e)
				}
			}
		}
	}
}

func TestZeroAndBackOfLargeHeaps(t *testing.T) {
	source := rand.New(rand.NewPCG(3, 5))
	for _, h := range some() {
		zero, e := heap.Zero(h)
		if is, _ := heap.Lasts(h, zero); !is || e != api.OK {
			t.Errorf("P5.5: zero of %v: %v %v", h, zero, e)
		}
		for _, turves := range heapings(source, h) {
			last := calmFrom(h, plus(turves, limitsOf(h)))
			if got := calmFrom(h, plus(last, zero)); !slices.Equal(got, last) {
				t.Errorf("P5.5: zero of %v: %v, but with %v it is %v", h, zero, last, got)
			}
			back, e := heap.Back(h, last)
			if is, _ := heap.Lasts(h, back); !is || e != api.OK || !slices.Equal(calmFrom(h, plus(last, back)), zero) {
				t.Errorf("P5.5: back of %v in %v: %v %v", last, h, back, e)
			}
		}
	}
}

func TestOfWhatDoesNotLast(t *testing.T) {
	source := rand.New(rand.NewPCG(4, 5))
	for _, h := range some() {
		for _, turves := range append(heapings(source, h), limitsOf(h)) {
			order, _ := burnt(h, turves)
			want := api.OK
			if !calmOf(h, turves) || len(order) < len(turves) {
				want = api.ErrState
			}
			if got := listed(heap.Back(h, turves)); got.e != want || got.zero != (want != api.OK) {
				t.Errorf("P5.5: back of %v in %v: %v", turves, h, got)
			}
			if got := number(heap.Turns(h, turves)); got.e != want || got.zero != (want != api.OK) {
				t.Errorf("P5.5: turns of %v in %v: %v", turves, h, got)
			}
		}
	}
}

func TestLasting(t *testing.T) {
	for _, x := range []struct {
		h            api.Heaps
		turves, want []int
	}{{pair(), []int{0, 0}, []int{1, 1}}, {pair(), []int{1, 0}, []int{1, 0}}, {pair(), []int{3, 0}, []int{1, 1}}, {pair(), []int{0, 30}, []int{1, 1}}, {pair(), []int{30, 29}, []int{1, 0}}, {single(2), []int{29}, []int{1}}} {
		if got, e := heap.Lasting(x.h, x.turves); !slices.Equal(got, x.want) || e != api.OK {
			t.Errorf("P5.5: lasting of %v in %v: %v %v", x.turves, x.h, got, e)
		}
	}
	source := rand.New(rand.NewPCG(5, 5))
	for _, h := range some() {
		for _, turves := range heapings(source, h) {
			got, e := heap.Lasting(h, turves)
			order, _ := burnt(h, got)
			if !calmOf(h, got) || len(order) < len(got) || e != api.OK {
				t.Errorf("P5.5: lasting of %v in %v: %v %v", turves, h, got, e)
			}
			if _, are := scriptOf(h, turves, got); !are {
				t.Errorf("P5.5: lasting of %v in %v: %v is not alike", turves, h, got)
			}
		}
	}
}

func TestThereIsOneLastingHeapingThatIsAlike(t *testing.T) {
	for _, h := range few() {
		all := lastingOf(h)
		for _, turves := range calmHeapings(h) {
			want := slices.DeleteFunc(slices.Clone(all), func(x []int) bool {
				_, are := scriptOf(h, turves, x)
				return !are
			})
			if got, e := heap.Lasting(h, turves); len(want) != 1 || !slices.Equal(got, want[0]) || e != api.OK {
				t.Errorf("P5.5: lasting of %v in %v: %v, not %v: %v", turves, h, got, want, e)
			}
		}
	}
}

func TestTurns(t *testing.T) {
	most := 0
	for _, h := range few() {
		all := lastingOf(h)
		zero, _ := heap.Zero(h)
		for _, turves := range all {
			want, sum := 1, turves
			for !slices.Equal(sum, zero) {
				want, sum = want+1, calmFrom(h, plus(sum, turves))
			}
			most = max(most, want)
			if got, e := heap.Turns(h, turves); got != want || len(all)%got != 0 || e != api.OK {
				t.Errorf("P5.5: turns of %v in %v: %d, not %d: %v", turves, h, got, want, e)
			}
		}
	}
	if most < 20 {
		t.Error("all have few turns:", most)
	}
}

func TestTurnsOfExamples(t *testing.T) {
	for _, x := range []struct {
		h      api.Heaps
		turves []int
		want   int
	}{
		{pair(), []int{1, 1}, 1}, {pair(), []int{0, 1}, 3}, {row(), []int{0, 1, 1, 1, 1}, 1}, {single(1), []int{0}, 1}, {single(2), []int{0}, 1}, {single(2), []int{1}, 2},
		{full(2), []int{2, 2}, 1}, {full(2), []int{3, 2}, 6}, {full(2), []int{3, 3}, 2},
		{dense(), []int{8, 4, 7, 6, 2}, 15805},
	} {
		if got, e := heap.Turns(x.h, x.turves); got != x.want || e != api.OK {
			t.Errorf("P5.5: turns of %v in %v: %d %v", x.turves, x.h, got, e)
		}
	}
}

func TestTurnsOfLargeHeaps(t *testing.T) {
	source := rand.New(rand.NewPCG(6, 5))
	most := 0
	for _, h := range some() {
		last, _ := heap.Lasting(h, randomHeaping(source, h))
		want := turnsOf(h, last)
		most = max(most, want)
		got, e := heap.Turns(h, last)
		if got != want || e != api.OK {
			t.Errorf("P5.5: turns of %v in %v: %d, not %d: %v", last, h, got, want, e)
		}
		if count, _ := heap.Count(h); count%got != 0 {
			t.Errorf("P5.5: turns of %v in %v: %d of %d", last, h, got, count)
		}
	}
	if most < 1000 {
		t.Error("all have few turns:", most)
	}
}

// turnsOf is the first number of times by which a heaping becomes alike to no turves at all.
func turnsOf(h api.Heaps, turves []int) int {
	parts, all := cramer(h, turves)
	times := 1
	for slices.ContainsFunc(parts, func(part int) bool { return times*part%all != 0 }) {
		times++
	}
	return times
}
