package cut_test

import (
	"slices"
	"testing"

	"turbary/api"
	"turbary/cut"
)

func TestRankOfExamples(t *testing.T) {
	if n, e := cut.Count(flat(2, 2, 7)); n != 7 || e != api.OK {
		t.Error("P4.4:", n, e)
	}
	for rank, h := range [][]int{{0, 0}, {0, 1}, {1, 0}, {1, 1}, {1, 2}, {2, 1}, {2, 2}} {
		if got, e := cut.Rank(flat(2, 2, 7), h); got != rank || e != api.OK {
			t.Errorf("P4.4: rank of %v: %d %v", h, got, e)
		}
		if got, e := cut.Unrank(flat(2, 2, 7), rank); !slices.Equal(got, h) || e != api.OK {
			t.Errorf("P4.4: the hollow %d: %v %v", rank, got, e)
		}
	}
}

func TestRankByAllHollows(t *testing.T) {
	for columns := range api.MaxColumns {
		for depth := range api.MaxDepth {
			b := flat(columns+1, depth+1, depth-1)
			all := hollows(b)
			if n, e := cut.Count(b); n != len(all) || e != api.OK {
				t.Errorf("P4.4: count of %v: %d, not %d: %v", b, n, len(all), e)
			}
			for rank, h := range all {
				if got, e := cut.Rank(b, h); got != rank || e != api.OK {
					t.Errorf("P4.4: rank of %v: %d, not %d: %v", h, got, rank, e)
				}
				if got, e := cut.Unrank(b, rank); !slices.Equal(got, h) || e != api.OK {
					t.Errorf("P4.4: the hollow %d: %v, not %v: %v", rank, got, h, e)
				}
			}
			for _, rank := range []int{-1, len(all), len(all) + 1, lowest, highest} {
				if got := listed(cut.Unrank(b, rank)); got.e != api.ErrNone || !got.zero {
					t.Errorf("P4.4: the hollow %d of %v: %v", rank, b, got)
				}
			}
		}
	}
}

func TestOpen(t *testing.T) {
	for _, x := range [][2][]int{{{0, 0, 0}, {0, 1, 2}}, {{1, 0, 0}, {1, 2}}, {{1, 1, 0}, {0, 2}}, {{2, 1, 0}, {2}}, {{1, 2, 2}, {0}}, {{2, 2, 2}, nil}} {
		if got, e := cut.Open(three(), x[0]); !slices.Equal(got, x[1]) || e != api.OK {
			t.Errorf("P4.4: open of %v: %v %v", x[0], got, e)
		}
	}
	for columns := range api.MaxColumns {
		for depth := range api.MaxDepth {
			b := flat(columns+1, depth+1, 0)
			for _, h := range hollows(b) {
				if got, e := cut.Open(b, h); !slices.Equal(got, openIn(b, h)) || e != api.OK {
					t.Errorf("P4.4: open of %v, depth %d: %v, not %v: %v", h, depth+1, got, openIn(b, h), e)
				}
			}
		}
	}
}

// DOC.md's ninth example: a block below others can't be cut first.
func TestCheckOrderOfExamples(t *testing.T) {
	long := slices.Repeat([]int{0, 1, 2}, 8)
	for _, x := range []struct {
		order, h []int
		n        int
		want     api.Errno
	}{
		{nil, []int{0, 0, 0}, 0, api.OK}, {[]int{2}, []int{0, 0, 1}, 1, api.OK}, {[]int{0, 1, 2, 1}, []int{1, 2, 1}, 4, api.OK},
		{[]int{2, 1, 0, 1, 2, 0}, []int{2, 2, 2}, 6, api.OK}, {[]int{0, 0}, nil, 1, api.ErrRule}, {[]int{1, 1}, nil, 1, api.ErrRule},
		{[]int{0, 1, 1}, nil, 2, api.ErrRule}, {[]int{2, 1, 2, 2}, nil, 3, api.ErrRule}, {[]int{0, 1, 0, 0, 0}, nil, 3, api.ErrRule},
		{[]int{0, 0, 3}, nil, 0, api.ErrNone}, {[]int{0, 0, -1}, nil, 0, api.ErrNone}, {[]int{lowest}, nil, 0, api.ErrNone}, {[]int{1, highest}, nil, 0, api.ErrNone},
		{long, nil, 6, api.ErrRule}, {append(long, 0), nil, 0, api.ErrLarge}, {slices.Repeat([]int{9}, 25), nil, 0, api.ErrLarge}, {slices.Repeat([]int{9}, 24), nil, 0, api.ErrNone},
	} {
		if h, n, e := cut.CheckOrder(three(), x.order); !slices.Equal(h, x.h) || n != x.n || e != x.want {
			t.Errorf("P4.4: order %v: %v %d %v", x.order, h, n, e)
		}
	}
	full := flat(6, 4, 0)
	long = slices.Repeat([]int{0, 1, 2, 3, 4, 5}, 4)
	if h, n, e := cut.CheckOrder(full, long); !slices.Equal(h, []int{4, 4, 4, 4, 4, 4}) || n != 24 || e != api.OK {
		t.Error("P4.4:", h, n, e)
	}
	if h, n, e := cut.CheckOrder(full, append(long, 0)); h != nil || n != 0 || e != api.ErrLarge {
		t.Error("P4.4:", h, n, e)
	}
}

func TestCheckOrderByAllOrders(t *testing.T) {
	for _, b := range []api.Bog{flat(1, 3, 0), flat(2, 2, 0), flat(3, 2, 0), flat(4, 1, 0)} {
		orders := [][]int{nil}
		for range 6 {
			for _, order := range orders {
				h, n, e := cut.CheckOrder(b, order)
				wantH, wantN, want := runOrder(b, order)
				if !slices.Equal(h, wantH) || n != wantN || e != want {
					t.Fatalf("P4.4: order %v: %v %d %v, not %v %d %v", order, h, n, e, wantH, wantN, want)
				}
			}
			orders = longer(b, orders)
		}
	}
}

// longer gives each order with each column behind it.
func longer(b api.Bog, orders [][]int) [][]int {
	var list [][]int
	for _, order := range orders {
		for c := range b.Worth {
			list = append(list, append(slices.Clone(order), c))
		}
	}
	return list
}

// runOrder is CheckOrder for a list of columns, by the definition.
func runOrder(b api.Bog, order []int) ([]int, int, api.Errno) {
	h := make([]int, len(b.Worth))
	for k, c := range order {
		if !slices.Contains(openIn(b, h), c) {
			return nil, k, api.ErrRule
		}
		h[c]++
	}
	return h, len(order), api.OK
}

func TestOrderOfExamples(t *testing.T) {
	for _, x := range [][2][]int{
		{{0, 0, 0}, nil}, {{0, 0, 1}, {2}}, {{1, 2, 1}, {0, 1, 2, 1}}, {{2, 2, 2}, {0, 1, 0, 2, 1, 2}}, {{2, 1, 0}, {0, 1, 0}}, {{0, 1, 2}, {1, 2, 2}},
	} {
		if got, e := cut.Order(three(), x[0]); !slices.Equal(got, x[1]) || e != api.OK {
			t.Errorf("P4.4: order of %v: %v %v", x[0], got, e)
		}
	}
}

func TestOrderIsTheFirst(t *testing.T) {
	for _, b := range []api.Bog{flat(1, 4, 0), flat(2, 3, 0), flat(3, 2, 0), flat(5, 1, 0), flat(2, 4, 0)} {
		for _, h := range hollows(b) {
			want := firstOrder(b, make([]int, len(h)), h)
			if got, e := cut.Order(b, h); !slices.Equal(got, want) || e != api.OK {
				t.Errorf("P4.4: order of %v: %v, not %v: %v", h, got, want, e)
			}
		}
	}
}

// firstOrder goes through all orders that lead from a hollow to another one, and gives the first one.
func firstOrder(b api.Bog, from, to []int) []int {
	var first []int
	for _, c := range openIn(b, from) {
		next := slices.Clone(from)
		next[c]++
		if !liesIn(next, to) {
			continue
		}
		order := append([]int{c}, firstOrder(b, next, to)...)
		if first == nil || slices.Compare(order, first) < 0 {
			first = order
		}
	}
	return first
}

func TestThereIsAnOrderForEachHollow(t *testing.T) {
	for _, b := range []api.Bog{flat(6, 4, 0), flat(5, 3, 0), flat(6, 1, 0)} {
		for _, h := range hollows(b) {
			order, e := cut.Order(b, h)
			if e != api.OK {
				t.Errorf("P4.4: order of %v: %v", h, e)
			}
			if got, n, e := cut.CheckOrder(b, order); !slices.Equal(got, h) || n != len(order) || e != api.OK {
				t.Errorf("P4.4: order %v of %v leads to %v %d %v", order, h, got, n, e)
			}
		}
	}
}
