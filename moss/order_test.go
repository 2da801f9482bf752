package moss_test

import (
	"math/rand/v2"
	"slices"
	"testing"

	"turbary/api"
	"turbary/moss"
)

func TestCheckCoreOfExamples(t *testing.T) {
	for _, x := range []struct {
		m    api.Meadow
		core int
		want api.Errno
	}{
		{meadow(2, 2, 2), 0, api.OK}, {meadow(2, 2, 2), 15, api.OK}, {meadow(2, 2, 2), 12, api.OK}, {meadow(2, 2, 2), 8, api.ErrProof}, {meadow(2, 2, 2), 9, api.ErrProof}, {meadow(2, 2, 3), 8, api.OK}, {meadow(2, 2, 3), 9, api.OK},
		{meadow(2, 2, 1), 15, api.OK}, {meadow(2, 2, 1), 14, api.ErrProof}, {meadow(1, 4, 2), 2, api.ErrProof}, {meadow(1, 4, 2), 6, api.OK}, {meadow(1, 4, 2), 8, api.OK}, {meadow(1, 1, 1), 1, api.OK}, {meadow(6, 6, 1), 1<<36 - 1, api.OK}, {meadow(6, 6, 1), 1<<36 - 2, api.ErrProof},
		{meadow(3, 3, 3), 1 << 4, api.ErrProof}, {meadow(3, 3, 3), 1<<4 | 1<<5, api.ErrProof}, {meadow(3, 3, 3), 0b000_111_000, api.OK}, {meadow(3, 3, 3), 0b000_111_000 | 1, api.OK},
	} {
		if e := moss.CheckCore(x.m, x.core); e != x.want {
			t.Errorf("P8.3: core %b of %v: %v, not %v", x.core, x.m, e, x.want)
		}
	}
}

func TestCheckCore(t *testing.T) {
	seen := map[bool]int{}
	for _, m := range every() {
		for _, set := range sets(m) {
			want := api.ErrProof
			if isCoreOf(m, set) {
				want = api.OK
			}
			if e := moss.CheckCore(m, set); e != want {
				t.Errorf("P8.3: core %b of %v: %v, not %v", set, m, e, want)
			}
			seen[want == api.OK]++
		}
	}
	if min(seen[true], seen[false]) < 500 {
		t.Error("few cases:", seen)
	}
}

func TestCoreHasAllCores(t *testing.T) {
	for _, m := range small(8) {
		var cores []int
		for _, set := range sets(m) {
			if isCoreOf(m, set) {
				cores = append(cores, set)
			}
		}
		for _, wet := range sets(m) {
			want := 0
			for _, core := range cores {
				if core&wet == 0 {
					want |= core
				}
			}
			if !isCoreOf(m, want) {
				t.Errorf("P8.3: %b with %b in %v is no core", want, wet, m)
			}
			if got, e := moss.Core(m, wet); got != want || e != api.OK {
				t.Errorf("P8.3: core with %b in %v: %b %v, not %b", wet, m, got, e, want)
			}
			if end, _, e := moss.Spread(m, wet); end&want != 0 || e != api.OK {
				t.Errorf("P8.3: %b in %v spreads to %b, into the core %b: %v", wet, m, end, want, e)
			}
		}
	}
}

func TestCore(t *testing.T) {
	for _, m := range every() {
		for _, wet := range sets(m) {
			core, e := moss.Core(m, wet)
			if core != full(m)-endOf(m, wet) || e != api.OK {
				t.Errorf("P8.3: core with %b in %v: %b %v, not %b", wet, m, core, e, full(m)-endOf(m, wet))
			}
			if e := moss.CheckCore(m, core); e != api.OK || core&wet != 0 {
				t.Errorf("P8.3: core with %b in %v: %b, %v", wet, m, core, e)
			}
		}
	}
}

// runOrder is CheckOrder for a list of squares, by the definition.
func runOrder(m api.Meadow, wet int, order []int) (int, int, api.Errno) {
	for k, square := range order {
		if !canWet(m, wet, square) {
			return 0, k, api.ErrRule
		}
		wet += 1 << square
	}
	return wet, len(order), api.OK
}

// lists gives all lists of at most so many numbers below a limit.
func lists(below, most int) [][]int {
	all, last := [][]int{nil}, [][]int{nil}
	for range most {
		var longer [][]int
		for _, list := range last {
			for number := range below {
				longer = append(longer, append(slices.Clone(list), number))
			}
		}
		all = append(all, longer...)
		last = longer
	}
	return all
}

func TestCheckOrderByAllLists(t *testing.T) {
	seen := map[api.Errno]int{}
	for _, m := range small(5) {
		for _, wet := range sets(m) {
			for _, order := range lists(m.Rows*m.Columns, 4) {
				wantEnd, wantN, want := runOrder(m, wet, order)
				if end, n, e := moss.CheckOrder(m, wet, order); end != wantEnd || n != wantN || e != want {
					t.Fatalf("P8.3: %v with %b in %v: %b %d %v, not %b %d %v", order, wet, m, end, n, e, wantEnd, wantN, want)
				}
				seen[want]++
			}
		}
	}
	if min(seen[api.OK], seen[api.ErrRule]) < 500 {
		t.Error("few cases:", seen)
	}
}

func TestErrorsOfCheckOrder(t *testing.T) {
	for _, x := range []struct {
		order  []int
		end, n int
		want   api.Errno
	}{
		{nil, 1, 0, api.OK}, {[]int{}, 1, 0, api.OK}, {[]int{1}, 3, 1, api.OK}, {[]int{1, 2, 3}, 15, 3, api.OK}, {[]int{0}, 0, 0, api.ErrRule}, {[]int{2}, 0, 0, api.ErrRule}, {[]int{1, 3}, 0, 1, api.ErrRule}, {[]int{1, 2, 1}, 0, 2, api.ErrRule}, {[]int{1, 2, 3, 3}, 0, 3, api.ErrRule},
		{[]int{4}, 0, 0, api.ErrNone}, {[]int{-1}, 0, 0, api.ErrNone}, {[]int{1, 2, 4}, 0, 0, api.ErrNone}, {[]int{0, 4}, 0, 0, api.ErrNone}, {[]int{3, 2, lowest}, 0, 0, api.ErrNone}, {[]int{highest, 0}, 0, 0, api.ErrNone}, {[]int{1, 64}, 0, 0, api.ErrNone},
		{make([]int, 1000), 0, 0, api.ErrRule}, {append([]int{1, 2}, make([]int, 1000)...), 0, 2, api.ErrRule}, {append(make([]int, 1000), 4), 0, 0, api.ErrNone},
	} {
		if end, n, e := moss.CheckOrder(meadow(1, 4, 1), 1, x.order); end != x.end || n != x.n || e != x.want {
			t.Errorf("P8.3: %v: %b %d %v, not %b %d %v", x.order, end, n, e, x.end, x.n, x.want)
		}
	}
}

func TestSpreadInAnyOrder(t *testing.T) {
	source := rand.New(rand.NewPCG(1, 8))
	for _, m := range every() {
		for _, wet := range sets(m) {
			want, _, _ := moss.Spread(m, wet)
			now, order := wet, []int{}
			for {
				next := slices.DeleteFunc(listOf(full(m)), func(square int) bool { return !canWet(m, now, square) })
				if len(next) == 0 {
					break
				}
				square := next[source.IntN(len(next))]
				order = append(order, square)
				now += 1 << square
			}
			if end, n, e := moss.CheckOrder(m, wet, order); end != want || n != len(order) || e != api.OK {
				t.Errorf("S8, P8.3: %b in %v spreads to %b, and by %v to %b after %d: %v", wet, m, want, order, end, n, e)
			}
		}
	}
}

func TestOrderOfExamples(t *testing.T) {
	for _, x := range []struct {
		m    api.Meadow
		wet  int
		want []int
	}{
		{meadow(1, 4, 1), 1, []int{1, 2, 3}}, {meadow(1, 4, 1), 8, []int{2, 1, 0}}, {meadow(1, 4, 1), 4, []int{1, 0, 3}}, {meadow(1, 4, 1), 0, nil}, {meadow(1, 4, 1), 15, nil}, {meadow(2, 2, 2), 9, []int{1, 2}}, {meadow(2, 2, 3), 7, nil}, {meadow(1, 1, 1), 0, nil},
		// A square that becomes wet later goes first once it can, if its number is smaller.
		{meadow(3, 3, 1), 1 << 4, []int{1, 0, 2, 3, 5, 6, 7, 8}}, {meadow(3, 3, 2), 1<<2 | 1<<4 | 1<<6, []int{1, 3, 0, 5, 7, 8}},
	} {
		if got, e := moss.Order(x.m, x.wet); !slices.Equal(got, x.want) || e != api.OK {
			t.Errorf("P8.3: order of %b in %v: %v %v, not %v", x.wet, x.m, got, e, x.want)
		}
	}
}

func TestOrder(t *testing.T) {
	for _, m := range every() {
		for _, wet := range sets(m) {
			now, want := wet, []int{}
			for square := 0; square < m.Rows*m.Columns; square++ {
				if canWet(m, now, square) {
					want = append(want, square)
					now += 1 << square
					square = -1
				}
			}
			order, e := moss.Order(m, wet)
			if !slices.Equal(order, want) || e != api.OK {
				t.Errorf("P8.3: order of %b in %v: %v %v, not %v", wet, m, order, e, want)
			}
			end, _, _ := moss.Spread(m, wet)
			if got, n, e := moss.CheckOrder(m, wet, order); got != end || n != len(order) || e != api.OK {
				t.Errorf("P8.3, S8: order %v of %b in %v ends with %b after %d, not %b: %v", order, wet, m, got, n, end, e)
			}
		}
	}
}
