package heap_test

import (
	"math/rand/v2"
	"slices"
	"testing"

	"turbary/api"
	"turbary/heap"
)

func TestScriptOfExamples(t *testing.T) {
	for _, x := range []struct {
		h            api.Heaps
		a, b, script []int
		are          bool
	}{
		{pair(), []int{0, 0}, []int{1, 1}, []int{-1, -1}, true}, {pair(), []int{3, 0}, []int{1, 1}, []int{1, 0}, true}, {pair(), []int{1, 1}, []int{3, 0}, []int{-1, 0}, true},
		{pair(), []int{0, 0}, []int{0, 1}, nil, false}, {pair(), []int{7, 7}, []int{7, 7}, []int{0, 0}, true}, {pair(), []int{0, 0}, []int{2, 0}, nil, false}, {pair(), []int{0, 0}, []int{3, 0}, []int{-2, -1}, true},
		{single(2), []int{0}, []int{30}, []int{-15}, true}, {single(2), []int{0}, []int{29}, nil, false}, {single(1), []int{30}, []int{1}, []int{29}, true},
		{row(), []int{30, 30, 30, 30, 30}, []int{0, 0, 0, 0, 0}, []int{450, 420, 360, 270, 150}, true}, {row(), []int{0, 0, 0, 0, 0}, []int{30, 30, 30, 30, 30}, []int{-450, -420, -360, -270, -150}, true},
		{full(2), []int{0, 0}, []int{2, 2}, []int{-1, -1}, true}, {full(2), []int{0, 0}, []int{1, 1}, nil, false},
	} {
		if script, are, e := heap.Script(x.h, x.a, x.b); !slices.Equal(script, x.script) || are != x.are || e != api.OK {
			t.Errorf("P5.6: script of %v and %v in %v: %v %v %v", x.a, x.b, x.h, script, are, e)
		}
		if are, e := heap.Alike(x.h, x.a, x.b); are != x.are || e != api.OK {
			t.Errorf("P5.6: %v and %v in %v are alike: %v %v", x.a, x.b, x.h, are, e)
		}
	}
}

func TestScript(t *testing.T) {
	source := rand.New(rand.NewPCG(1, 5))
	for _, h := range some() {
		zero := make([]int, len(h.Ground))
		for _, a := range heapings(source, h) {
			checkScript(t, h, a, zero)
			checkScript(t, h, a, calmFrom(h, a))
			checkScript(t, h, a, randomHeaping(source, h))
		}
	}
	alike := 0
	for _, h := range []api.Heaps{pair(), full(2), single(2), joined([]int{1, 0, 0}, [3]int{0, 1, 1}, [3]int{1, 2, 2})} {
		for _, a := range lists(0, slices.Repeat([]int{5}, len(h.Ground))) {
			for _, b := range lists(0, slices.Repeat([]int{5}, len(h.Ground))) {
				if checkScript(t, h, a, b) {
					alike++
				}
			}
		}
	}
	if alike < 100 {
		t.Error("few heapings are alike:", alike)
	}
}

// checkScript reports whether two heapings are alike.
func checkScript(t *testing.T, h api.Heaps, a, b []int) bool {
	t.Helper()
	want, alike := scriptOf(h, a, b)
	script, are, e := heap.Script(h, a, b)
	if !slices.Equal(script, want) || are != alike || e != api.OK {
		t.Errorf("P5.6: script of %v and %v in %v: %v %v, not %v %v: %v", a, b, h, script, are, want, alike, e)
	}
	if are, e := heap.Alike(h, a, b); are != alike || e != api.OK {
		t.Errorf("P5.6: %v and %v in %v are alike: %v %v", a, b, h, are, e)
	}
	if !are {
		return false
	}
	if !slices.Equal(byScript(h, a, script), b) {
		t.Errorf("P5.6: %v and %v in %v do not differ by %v", a, b, h, script)
	}
	if e := heap.CheckScript(h, a, b, script); e != api.OK {
		t.Errorf("P5.6: script %v of %v and %v in %v: %v", script, a, b, h, e)
	}
	return true
}

func TestScriptOfSettling(t *testing.T) {
	source := rand.New(rand.NewPCG(2, 5))
	for _, h := range some() {
		for _, turves := range heapings(source, h) {
			calm, topples, _, _ := heap.Settle(h, turves)
			if e := heap.CheckScript(h, turves, calm, topples); e != api.OK {
				t.Errorf("P5.6: %v settles to %v in %v, with %v: %v", turves, calm, h, topples, e)
			}
			if script, are, e := heap.Script(h, turves, calm); !slices.Equal(script, topples) || !are || e != api.OK {
				t.Errorf("P5.6: %v settles to %v in %v, with %v, not %v: %v", turves, calm, h, topples, script, e)
			}
		}
	}
}

func TestCheckScriptByAllScripts(t *testing.T) {
	for _, h := range []api.Heaps{pair(), full(2), joined([]int{1, 0, 0}, [3]int{0, 1, 1}, [3]int{1, 2, 2}), joined([]int{0, 2}, [3]int{0, 1, 2})} {
		for _, a := range [][]int{{5, 4, 3}, {0, 0, 0}, {7, 0, 2}} {
			a = a[:len(h.Ground)]
			kept := 0
			for _, script := range lists(-3, slices.Repeat([]int{4}, len(a))) {
				b := byScript(h, a, script)
				if slices.Min(b) < 0 || slices.Max(b) > api.MaxTurves {
					continue
				}
				kept++
				for _, other := range lists(-3, slices.Repeat([]int{4}, len(a))) {
					want := api.ErrProof
					if slices.Equal(script, other) {
						want = api.OK
					}
					if e := heap.CheckScript(h, a, b, other); e != want {
						t.Fatalf("P5.6: script %v of %v and %v in %v: %v, not %v", other, a, b, h, e, want)
					}
				}
			}
			if kept < 2 {
				t.Error("few scripts lead to heapings:", h, a)
			}
		}
	}
}

func TestErrorsOfScripts(t *testing.T) {
	zero := []int{0, 0, 0, 0, 0}
	for _, x := range []struct {
		a, b, script []int
		want         api.Errno
	}{
		{zero, zero, zero, api.OK}, {zero, zero, []int{0, 0, 0, 0, 1000}, api.ErrProof}, {zero, zero, []int{-1000, 0, 0, 0, 0}, api.ErrProof},
		{zero, zero, []int{0, 0, 0, 0, 1001}, api.ErrArg}, {zero, zero, []int{-1001, 0, 0, 0, 0}, api.ErrArg}, {zero, zero, []int{0, 0, lowest, 0, 0}, api.ErrArg}, {zero, zero, []int{0, highest, 0, 0, 0}, api.ErrArg},
		{zero, zero, nil, api.ErrArg}, {zero, zero, []int{0, 0, 0, 0}, api.ErrArg}, {zero, zero, []int{0, 0, 0, 0, 0, 0}, api.ErrArg}, {zero, zero, make([]int, 1000), api.ErrArg},
		{zero, zero, []int{1000, 1000, 1000, 1000, 1000}, api.ErrProof}, {zero, zero, []int{-1000, 1000, -1000, 1000, -1000}, api.ErrProof},
		{[]int{1, 0, 0, 0, 0}, []int{0, 1, 0, 0, 0}, []int{1, 0, 0, 0, 0}, api.OK}, {[]int{1, 0, 0, 0, 0}, []int{0, 1, 0, 0, 1}, []int{1, 0, 0, 0, 0}, api.ErrProof},
		{[]int{0, 0, 0, 0, 30}, zero, []int{30, 30, 30, 30, 30}, api.OK}, {zero, []int{0, 0, 0, 0, 30}, []int{-30, -30, -30, -30, -30}, api.OK}, {zero, []int{0, 0, 0, 0, 30}, []int{30, 30, 30, 30, 30}, api.ErrProof},
	} {
		if e := heap.CheckScript(row(), x.a, x.b, x.script); e != x.want {
			t.Errorf("P5.6: script %v of %v and %v: %v", x.script, x.a, x.b, e)
		}
	}
}

func TestMemory(t *testing.T) {
	source := rand.New(rand.NewPCG(3, 5))
	for _, h := range some() {
		before := clone(h)
		zero, _ := heap.Zero(h)
		for _, a := range append(heapings(source, h), zero) {
			b, list := randomCalm(source, h), make([]int, len(a))
			aBefore, bBefore := slices.Clone(a), slices.Clone(b)
			for _, result := range resultsOf(h, a, b, list) {
				for i := range result {
					result[i] = -99
				}
				_ = append(result, -99)
			}
			callAll(h, a, b, 0, list)
			if !same(h, before) || !slices.Equal(a, aBefore) || !slices.Equal(b, bBefore) || slices.Max(list) != 0 || slices.Min(list) != 0 {
				t.Fatalf("R5: an argument has changed: %v, %v, %v, %v", h, a, b, list)
			}
		}
		if again, _ := heap.Zero(h); !slices.Equal(again, zero) {
			t.Errorf("R5: zero of %v: %v, then %v", h, zero, again)
		}
	}
}

// resultsOf has all lists that functions give for these arguments.
func resultsOf(h api.Heaps, a, b, list []int) [][]int {
	var results [][]int
	keep := func(list []int, _ api.Errno) { results = append(results, list) }
	calm, topples, _, e := heap.Settle(h, a)
	keep(calm, e)
	keep(topples, e)
	keep(heap.Topple(h, a, 0))
	dropped, _, e := heap.Drop(h, a, 0)
	keep(dropped, e)
	ended, _, e := heap.CheckList(h, a, list)
	keep(ended, e)
	ended, _, e = heap.CheckList(h, a, nil)
	keep(ended, e)
	keep(heap.Add(h, a, b))
	keep(heap.Burn(h, a))
	zero, e := heap.Zero(h)
	keep(zero, e)
	keep(heap.Back(h, a))
	keep(heap.Lasting(h, a))
	script, _, e := heap.Script(h, a, calmFrom(h, a))
	keep(script, e)
	return results
}

func TestEqualCalls(t *testing.T) {
	source := rand.New(rand.NewPCG(4, 5))
	for _, h := range some() {
		for _, a := range heapings(source, h) {
			b := randomCalm(source, h)
			first := resultsOf(h, a, b, []int{0})
			for range 2 {
				again := resultsOf(clone(h), slices.Clone(a), slices.Clone(b), []int{0})
				if !slices.EqualFunc(first, again, slices.Equal[[]int]) {
					t.Errorf("R11: %v, %v in %v: %v, then %v", a, b, h, first, again)
				}
			}
		}
	}
}
