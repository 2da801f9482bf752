package heap_test

import (
	"math/rand/v2"
	"slices"
	"testing"

	"turbary/api"
	"turbary/heap"
)

func TestSettleOfExamples(t *testing.T) {
	for _, x := range []struct {
		h                     api.Heaps
		turves, calm, topples []int
		ground                int
	}{
		{pair(), []int{3, 0}, []int{1, 1}, []int{1, 0}, 1}, {pair(), []int{1, 1}, []int{1, 1}, []int{0, 0}, 0}, {pair(), []int{2, 1}, []int{1, 0}, []int{1, 1}, 2},
		{single(1), []int{30}, []int{0}, []int{30}, 30}, {single(2), []int{29}, []int{1}, []int{14}, 28}, {ring(), []int{0, 0, 0, 2}, []int{1, 0, 1, 0}, []int{0, 0, 0, 1}, 0},
		{row(), []int{1, 0, 0, 0, 0}, []int{0, 1, 0, 0, 0}, []int{1, 0, 0, 0, 0}, 0}, {row(), []int{0, 0, 0, 0, 2}, []int{0, 0, 0, 1, 0}, []int{0, 0, 0, 0, 1}, 1},
		{row(), []int{1, 1, 1, 1, 1}, []int{0, 1, 1, 1, 1}, []int{5, 4, 3, 2, 1}, 1}, {full(5), []int{10, 9, 9, 9, 9}, []int{8, 7, 7, 7, 7}, []int{1, 1, 1, 1, 1}, 10},
	} {
		calm, topples, ground, e := heap.Settle(x.h, x.turves)
		if !slices.Equal(calm, x.calm) || !slices.Equal(topples, x.topples) || ground != x.ground || e != api.OK {
			t.Errorf("P5.2: %v in %v settles to %v %v %d %v", x.turves, x.h, calm, topples, ground, e)
		}
	}
}

func TestSettle(t *testing.T) {
	source := rand.New(rand.NewPCG(2, 5))
	for _, h := range some() {
		for _, turves := range heapings(source, h) {
			wantCalm, wantTopples, wantGround := settled(h, turves)
			calm, topples, ground, e := heap.Settle(h, turves)
			if !slices.Equal(calm, wantCalm) || !slices.Equal(topples, wantTopples) || ground != wantGround || e != api.OK {
				t.Errorf("P5.2, S5: %v in %v settles to %v %v %d, not %v %v %d: %v", turves, h, calm, topples, ground, wantCalm, wantTopples, wantGround, e)
			}
			if is, e := heap.IsCalm(h, calm); !is || e != api.OK {
				t.Errorf("P5.2: %v in %v settles to %v, which is not calm", turves, h, calm)
			}
			if sumOf(turves) != sumOf(calm)+ground {
				t.Errorf("P5.2: %v in %v settles to %v, and %d are on the ground", turves, h, calm, ground)
			}
		}
	}
}

func TestSettleInAnyOrder(t *testing.T) {
	source := rand.New(rand.NewPCG(3, 5))
	for _, h := range some() {
		// So few turves that none of the heaps comes to have more than MaxTurves.
		turves := plus(randomCalm(source, h), randomCalm(source, h))
		calm, topples, _, _ := heap.Settle(h, turves)
		for range 5 {
			now, count := slices.Clone(turves), make([]int, len(turves))
			for !calmOf(h, now) {
				i := source.IntN(len(now))
				next, e := heap.Topple(h, now, i)
				if e == api.OK {
					now = next
					count[i]++
				} else if e != api.ErrRule {
					t.Fatalf("P5.2: %v with %d toppled in %v: %v", now, i, h, e)
				}
			}
			if !slices.Equal(now, calm) || !slices.Equal(count, topples) {
				t.Errorf("S5: %v in %v settles to %v %v, and in another order to %v %v", turves, h, calm, topples, now, count)
			}
		}
	}
}

func TestDrop(t *testing.T) {
	if calm, count, e := heap.Drop(row(), []int{0, 1, 1, 1, 1}, 0); !slices.Equal(calm, []int{0, 1, 1, 1, 1}) || count != 15 || e != api.OK {
		t.Error("P5.3:", calm, count, e)
	}
	if calm, count, e := heap.Drop(single(1), []int{30}, 0); !slices.Equal(calm, []int{0}) || count != 31 || e != api.OK {
		t.Error("P5.3:", calm, count, e)
	}
	source := rand.New(rand.NewPCG(4, 5))
	for _, h := range some() {
		for _, turves := range heapings(source, h) {
			for i := range turves {
				more := slices.Clone(turves)
				more[i]++
				want, topples, _ := settled(h, more)
				if calm, count, e := heap.Drop(h, turves, i); !slices.Equal(calm, want) || count != sumOf(topples) || e != api.OK {
					t.Errorf("P5.3: a turf on %d of %v in %v: %v %d, not %v %d: %v", i, turves, h, calm, count, want, sumOf(topples), e)
				}
			}
		}
	}
}

func TestDropInTheOtherOrder(t *testing.T) {
	source := rand.New(rand.NewPCG(5, 5))
	for _, h := range some() {
		for _, turves := range heapings(source, h) {
			i, j := source.IntN(len(turves)), source.IntN(len(turves))
			one, countOne, _ := heap.Drop(h, turves, i)
			one, countTwo, _ := heap.Drop(h, one, j)
			other, countOther, _ := heap.Drop(h, turves, j)
			other, countLast, e := heap.Drop(h, other, i)
			if !slices.Equal(one, other) || countOne+countTwo != countOther+countLast || e != api.OK {
				t.Errorf("P5.3, S5: turves on %d and %d of %v in %v: %v %v", i, j, turves, h, one, other)
			}
		}
	}
}

func TestAdd(t *testing.T) {
	source := rand.New(rand.NewPCG(6, 5))
	for _, h := range some() {
		list := heapings(source, h)
		for _, a := range list {
			for _, b := range list {
				want := calmFrom(h, plus(a, b))
				if got, e := heap.Add(h, a, b); !slices.Equal(got, want) || e != api.OK {
					t.Errorf("P5.3: %v and %v in %v: %v, not %v: %v", a, b, h, got, want, e)
				}
			}
			c, d := list[source.IntN(len(list))], list[source.IntN(len(list))]
			if left, right := addAll(h, a, c, d), addAll(h, d, c, a); !slices.Equal(left, right) {
				t.Errorf("P5.3: %v, %v and %v in %v: %v or %v", a, c, d, h, left, right)
			}
			ac, _ := heap.Add(h, a, c)
			dd, _ := heap.Add(h, d, d)
			if left, right := addAll(h, ac, dd), addAll(h, d, a, d, c); !slices.Equal(left, right) {
				t.Errorf("P5.3: %v, %v and two times %v in %v: %v or %v", a, c, d, h, left, right)
			}
		}
	}
}

// addAll adds each heaping to the ones before.
func addAll(h api.Heaps, first []int, more ...[]int) []int {
	for _, turves := range more {
		first, _ = heap.Add(h, first, turves)
	}
	return first
}
