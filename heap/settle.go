package heap

import "turbary/api"

// Settle: see P5.2.
func Settle(h api.Heaps, turves []int) (calm, topples []int, ground int, e api.Errno) {
	if e := validateHeapings(h, turves); e != api.OK {
		return nil, nil, 0, e
	}
	calm, topples = settle(h, turves)
	for i, times := range topples {
		ground += times * h.Ground[i]
	}
	return calm, topples, ground, api.OK
}

// Drop: see P5.3.
func Drop(h api.Heaps, turves []int, i int) (calm []int, count int, e api.Errno) {
	if e := validateHeap(h, turves, i); e != api.OK {
		return nil, 0, e
	}
	dropped := copied(turves)
	dropped[i]++
	calm, topples := settle(h, dropped)
	for _, times := range topples {
		count += times
	}
	return calm, count, api.OK
}

// Add: see P5.3.
func Add(h api.Heaps, a, b []int) ([]int, api.Errno) {
	if e := validateHeapings(h, a, b); e != api.OK {
		return nil, e
	}
	return add(h, a, b), api.OK
}

// settle returns the calm heaping, and how often each heap has toppled. It ends as turves can get from each heap
// to the ground; a heap that topples several times at once could as well do so one time after another.
func settle(h api.Heaps, turves []int) (calm, topples []int) {
	calm, topples = copied(turves), make([]int, len(turves))
again:
	for i := range calm {
		if times := calm[i] / limit(h, i); times > 0 {
			topple(h, calm, i, times)
			topples[i] += times
			goto again
		}
	}
	return calm, topples
}

// add settles the sums of two heapings.
func add(h api.Heaps, a, b []int) []int {
	calm, _ := settle(h, added(a, b, 1))
	return calm
}
