package heap_test

import (
	"math/rand/v2"
	"slices"
	"testing"

	"turbary/api"
	"turbary/heap"
)

func TestValidate(t *testing.T) {
	for i, h := range broken() {
		if e := heap.Validate(h); e != api.ErrArg {
			t.Errorf("P5.1: %d, %v: %v", i, h, e)
		}
	}
	for i, h := range apart() {
		if e := heap.Validate(h); e != api.ErrApart {
			t.Errorf("P5.1: %d, %v: %v", i, h, e)
		}
	}
	for i, h := range some() {
		if e := heap.Validate(h); e != api.OK {
			t.Errorf("P5.1: %d, %v: %v", i, h, e)
		}
	}
}

func TestValidateOfAllNumbers(t *testing.T) {
	for _, x := range lists(-1, []int{4, 4, 4, 4, 4, 4}) {
		h := api.Heaps{Links: [][]int{{x[0], x[1]}, {x[2], x[3]}}, Ground: []int{x[4], x[5]}}
		want := api.ErrArg
		if isRight(h) {
			want = api.OK
		} else if x[0] == 0 && x[3] == 0 && x[1] == x[2] && slices.Min(x) >= 0 && slices.Max(x) <= 2 {
			want = api.ErrApart
		}
		if e := heap.Validate(h); e != want {
			t.Fatalf("P5.1: %v: %v, not %v", h, e, want)
		}
	}
}

func TestValidateOfAllWaysToTheGround(t *testing.T) {
	for _, x := range lists(0, slices.Repeat([]int{2}, 15)) {
		h := joined(slices.Clone(x[:5]))
		at := 5
		for i := range 5 {
			for j := range i {
				h.Links[i][j], h.Links[j][i] = x[at], x[at]
				at++
			}
		}
		want := api.ErrApart
		if isRight(h) {
			want = api.OK
		}
		if e := heap.Validate(h); e != want {
			t.Fatalf("P5.1: %v: %v, not %v", h, e, want)
		}
	}
}

func TestErrorsOfHeapsComeFirst(t *testing.T) {
	for want, list := range map[api.Errno][]api.Heaps{api.ErrArg: broken(), api.ErrApart: apart()} {
		for _, h := range list {
			right := make([]int, len(h.Ground))
			for _, turves := range [][]int{nil, right, {31, 0}, {-1}, make([]int, 300)} {
				for _, i := range []int{0, -1, 6, highest} {
					for name, got := range callAll(h, turves, turves, i, turves) {
						if got.e != want || !got.zero {
							t.Errorf("P5.1, R2, R3: %s of %v, %v: %v", name, h, turves, got)
						}
					}
				}
			}
		}
	}
}

func TestErrorsOfHeapings(t *testing.T) {
	for _, h := range []api.Heaps{pair(), row(), ring(), full(5), single(2)} {
		right := make([]int, len(h.Ground))
		for _, turves := range noHeapings(h) {
			for _, i := range []int{0, -1, 5, highest} {
				for _, list := range [][]int{right, nil, {-1}, make([]int, 201)} {
					for name, got := range callWithHeapings(h, turves, right, i, list) {
						if got != only(api.ErrArg) {
							t.Errorf("P5.1: %s of %v in %v: %v", name, turves, h, got)
						}
					}
					for name, got := range callWithTwo(h, right, turves, list) {
						if got != only(api.ErrArg) {
							t.Errorf("P5.1: %s of %v as the second one in %v: %v", name, turves, h, got)
						}
					}
				}
			}
		}
	}
}

func TestNoErrorsOfHeapings(t *testing.T) {
	for _, h := range some() {
		for _, turves := range [][]int{make([]int, len(h.Ground)), slices.Repeat([]int{api.MaxTurves}, len(h.Ground))} {
			for name, got := range callAll(h, turves, turves, 0, make([]int, len(h.Ground))) {
				isWanted := got.e == api.OK || name == "Topple" && got.e == api.ErrRule || name == "CheckList" && got.e == api.ErrRule ||
					(name == "Back" || name == "Turns") && got.e == api.ErrState
				if !isWanted {
					t.Errorf("P5.1: %s of %v in %v: %v", name, turves, h, got)
				}
			}
		}
	}
}

func TestNoHeap(t *testing.T) {
	for _, h := range some() {
		for _, i := range []int{-1, len(h.Ground), len(h.Ground) + 1, lowest, highest} {
			for _, turves := range [][]int{make([]int, len(h.Ground)), slices.Repeat([]int{api.MaxTurves}, len(h.Ground))} {
				for name, got := range map[string]result{
					"Limit": number(heap.Limit(h, i)), "Topple": listed(heap.Topple(h, turves, i)), "Drop": measured(heap.Drop(h, turves, i)), "CheckList": measured(heap.CheckList(h, turves, []int{0, i})),
				} {
					if got != only(api.ErrNone) {
						t.Errorf("P5.1: %s with the heap %d in %v: %v", name, i, h, got)
					}
				}
			}
		}
	}
}

func TestLimit(t *testing.T) {
	for _, x := range []struct {
		h    api.Heaps
		want []int
	}{{pair(), []int{2, 2}}, {row(), []int{1, 2, 2, 2, 2}}, {ring(), []int{2, 5, 3, 2}}, {full(5), []int{10, 10, 10, 10, 10}}, {single(1), []int{1}}} {
		for i, want := range x.want {
			if got, e := heap.Limit(x.h, i); got != want || e != api.OK {
				t.Errorf("P5.2: limit of %d in %v: %d %v", i, x.h, got, e)
			}
		}
	}
	for _, h := range some() {
		for i := range h.Ground {
			if got, e := heap.Limit(h, i); got != limitOf(h, i) || e != api.OK {
				t.Errorf("P5.2: limit of %d in %v: %d %v", i, h, got, e)
			}
		}
	}
}

func TestIsCalm(t *testing.T) {
	for _, h := range some() {
		for i := range h.Ground {
			turves := limitsOf(h)
			for k := range turves {
				turves[k]--
			}
			if is, e := heap.IsCalm(h, turves); !is || e != api.OK {
				t.Errorf("P5.2: %v in %v: %v %v", turves, h, is, e)
			}
			for _, more := range []int{1, 2, api.MaxTurves - turves[i]} {
				loud := slices.Clone(turves)
				loud[i] += more
				if is, e := heap.IsCalm(h, loud); is || e != api.OK {
					t.Errorf("P5.2: %v in %v: %v %v", loud, h, is, e)
				}
			}
		}
	}
}

func TestTopple(t *testing.T) {
	if got, e := heap.Topple(ring(), []int{30, 5, 30, 30}, 1); !slices.Equal(got, []int{31, 0, 32, 30}) || e != api.OK {
		t.Error("P5.2:", got, e)
	}
	source := rand.New(rand.NewPCG(1, 5))
	for _, h := range some() {
		for _, turves := range heapings(source, h) {
			for i := range turves {
				var want []int
				wanted := api.ErrRule
				if turves[i] >= limitOf(h, i) {
					want, wanted = toppled(h, turves, i), api.OK
				}
				if got, e := heap.Topple(h, turves, i); !slices.Equal(got, want) || e != wanted {
					t.Errorf("P5.2: %v with %d toppled in %v: %v %v, not %v", turves, i, h, got, e, want)
				}
			}
		}
	}
}

func TestCheckListByAllLists(t *testing.T) {
	for _, x := range []struct {
		h      api.Heaps
		turves []int
	}{{pair(), []int{3, 1}}, {pair(), []int{4, 3}}, {single(2), []int{7}}, {joined([]int{1, 0, 0}, [3]int{0, 1, 1}, [3]int{1, 2, 1}), []int{0, 2, 1}}, {joined([]int{0, 2}, [3]int{0, 1, 1}), []int{2, 1}}} {
		_, most, _, _ := heap.Settle(x.h, x.turves)
		for length := range 7 {
			for _, list := range lists(0, slices.Repeat([]int{len(x.h.Ground)}, length)) {
				wantEnd, wantN, want := runList(x.h, x.turves, list)
				end, n, e := heap.CheckList(x.h, x.turves, list)
				if !slices.Equal(end, wantEnd) || n != wantN || e != want {
					t.Fatalf("P5.2: %v of %v in %v: %v %d %v, not %v %d %v", list, x.turves, x.h, end, n, e, wantEnd, wantN, want)
				}
				for i, times := range most {
					if e == api.OK && len(slices.DeleteFunc(slices.Clone(list), func(k int) bool { return k != i })) > times {
						t.Errorf("P5.2, S5: %v of %v in %v has %d more often than %d times", list, x.turves, x.h, i, times)
					}
				}
			}
		}
	}
}

// runList is CheckList for a list of heaps, by the definition.
func runList(h api.Heaps, turves, list []int) ([]int, int, api.Errno) {
	for k, i := range list {
		if turves[i] < limitOf(h, i) {
			return nil, k, api.ErrRule
		}
		turves = toppled(h, turves, i)
	}
	return turves, len(list), api.OK
}

func TestErrorsOfCheckList(t *testing.T) {
	most := slices.Repeat([]int{api.MaxTurves}, 5)
	for _, x := range []struct {
		turves, list []int
		n            int
		want         api.Errno
	}{
		{most, slices.Repeat([]int{0}, 30), 30, api.OK}, {most, slices.Repeat([]int{0}, 31), 30, api.ErrRule}, {most, slices.Repeat([]int{0, 1}, 100), 61, api.ErrRule},
		{most, slices.Repeat([]int{0}, api.MaxTopples), 30, api.ErrRule}, {most, slices.Repeat([]int{0}, api.MaxTopples+1), 0, api.ErrLarge},
		{most, slices.Repeat([]int{9}, api.MaxTopples), 0, api.ErrNone}, {most, slices.Repeat([]int{9}, api.MaxTopples+1), 0, api.ErrLarge},
		{make([]int, 5), []int{0, -1}, 0, api.ErrNone}, {make([]int, 5), []int{0, 5}, 0, api.ErrNone}, {make([]int, 5), []int{0, 4}, 0, api.ErrRule}, {make([]int, 5), nil, 0, api.OK},
		{most, []int{4, 3, lowest}, 0, api.ErrNone}, {most, []int{highest}, 0, api.ErrNone}, {[]int{1, 1, 0, 0, 0}, []int{0, 1, 0, 1, 2}, 3, api.ErrRule},
	} {
		if end, n, e := heap.CheckList(row(), x.turves, x.list); n != x.n || e != x.want || e != api.OK && end != nil {
			t.Errorf("P5.2: %v of %v: %v %d %v", x.list, x.turves, end, n, e)
		}
	}
}

func TestCheckListToTheLimit(t *testing.T) {
	h, turves := row(), []int{30, 30, 30, 30, 30}
	var list []int
	for now := turves; len(list) < api.MaxTopples; {
		i := 4
		for now[i] < limitOf(h, i) {
			i--
		}
		list = append(list, i)
		now = toppled(h, now, i)
	}
	want, _, _ := runList(h, turves, list)
	if end, n, e := heap.CheckList(h, turves, list); !slices.Equal(end, want) || n != api.MaxTopples || e != api.OK {
		t.Error("P5.2:", end, n, e)
	}
}
