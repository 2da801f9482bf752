package bulk_test

import (
	"math/rand/v2"
	"slices"
	"testing"

	"turbary/api"
	"turbary/bulk"
)

func least(t *testing.T, x api.Trade) int {
	n, e := bulk.Least(x)
	if e != api.OK {
		t.Fatal("P7.2:", x, e)
	}
	return n
}

func TestToll(t *testing.T) {
	for _, x := range []struct {
		store, by int
		want      [][]int
		e         api.Errno
	}{
		{1, 5, [][]int{{1, 2}, {8, 6}}, api.OK}, {0, 97, [][]int{{98, 99}, {3, 1}}, api.OK}, {0, 98, nil, api.ErrArg}, {0, -1, [][]int{{0, 1}, {3, 1}}, api.OK}, {0, -2, nil, api.ErrArg}, {1, -1, [][]int{{1, 2}, {2, 0}}, api.OK}, {1, -2, nil, api.ErrArg}, {1, 96, [][]int{{1, 2}, {99, 97}}, api.OK}, {1, 97, nil, api.ErrArg},
		{1, 0, [][]int{{1, 2}, {3, 1}}, api.OK}, {0, highest, nil, api.ErrArg}, {0, lowest, nil, api.ErrArg}, {1, highest - 2, nil, api.ErrArg}, {2, 0, nil, api.ErrNone}, {-1, 0, nil, api.ErrNone}, {2, 500, nil, api.ErrNone}, {-1, lowest, nil, api.ErrNone}, {highest, 1, nil, api.ErrNone}, {lowest, 1, nil, api.ErrNone},
	} {
		want := trade([]int{3, 4}, []int{5, 2}, x.want...)
		if x.e != api.OK {
			want = api.Trade{}
		}
		if got, e := bulk.Toll(example(), x.store, x.by); !same(got, want) || e != x.e {
			t.Errorf("P7.5: toll %d at %d: %v %v, not %v %v", x.by, x.store, got, e, want, x.e)
		}
	}
	if got := trades(bulk.Toll(alone(), 1, 1)); got != only(api.ErrNone) {
		t.Error("P7.5: a toll at a buyer:", got)
	}
}

func TestLeastOfToll(t *testing.T) {
	for _, x := range some() {
		for i, row := range x.Cost {
			for _, by := range []int{-slices.Min(row), -1, 1, 7, api.MaxCost - slices.Max(row)} {
				tolled, e := bulk.Toll(x, i, by)
				if by < -slices.Min(row) || by > api.MaxCost-slices.Max(row) {
					if e != api.ErrArg || !same(tolled, api.Trade{}) {
						t.Errorf("P7.5: toll %d at %d of %v: %v %v", by, i, x, tolled, e)
					}
					continue
				}
				want := clone(x)
				for j := range row {
					want.Cost[i][j] += by
				}
				if e != api.OK || !same(tolled, want) || least(t, tolled) != least(t, x)+by*x.Supply[i] {
					t.Errorf("P7.5: toll %d at %d of %v: %v %v", by, i, x, tolled, e)
				}
			}
		}
	}
}

func TestTurn(t *testing.T) {
	if got, e := bulk.Turn(alone()); !same(got, trade([]int{2, 3}, []int{5}, []int{7}, []int{9})) || e != api.OK {
		t.Error("P7.5:", got, e)
	}
	if got, e := bulk.Turn(example()); !same(got, trade([]int{5, 2}, []int{3, 4}, []int{1, 3}, []int{2, 1})) || e != api.OK {
		t.Error("P7.5:", got, e)
	}
	for _, x := range some() {
		turned, e := bulk.Turn(x)
		if e != api.OK || !slices.Equal(turned.Supply, x.Demand) || !slices.Equal(turned.Demand, x.Supply) || bulk.Validate(turned) != api.OK {
			t.Fatalf("P7.5: turn of %v: %v %v", x, turned, e)
		}
		for i, row := range x.Cost {
			for j, cost := range row {
				if turned.Cost[j][i] != cost {
					t.Errorf("P7.5: turn of %v: %v", x, turned)
				}
			}
		}
		if least(t, turned) != least(t, x) {
			t.Errorf("P7.5: least of %v: %d, of its turn: %d", x, least(t, x), least(t, turned))
		}
		if again, e := bulk.Turn(turned); !same(again, x) || e != api.OK {
			t.Errorf("P7.5: turn of the turn of %v: %v %v", x, again, e)
		}
	}
}

func TestAddOfExamples(t *testing.T) {
	more := trade([]int{27, 1}, []int{0, 28}, example().Cost...)
	tooMuch := trade([]int{28, 2}, []int{2, 28}, example().Cost...)
	tooDear := trade([]int{27, 1}, []int{3, 25}, []int{1, 2}, []int{3, 2})
	bought := trade([]int{2, 26}, []int{26, 2}, example().Cost...)
	for _, x := range []struct {
		a, b, want api.Trade
		e          api.Errno
	}{
		{example(), example(), trade([]int{6, 8}, []int{10, 4}, example().Cost...), api.OK}, {example(), more, trade([]int{30, 5}, []int{5, 30}, example().Cost...), api.OK}, {example(), tooMuch, api.Trade{}, api.ErrLarge}, {tooMuch, example(), api.Trade{}, api.ErrLarge},
		{example(), tooDear, api.Trade{}, api.ErrArg}, {tooDear, tooMuch, api.Trade{}, api.ErrArg}, {example(), bought, api.Trade{}, api.ErrLarge}, {full(), full(), api.Trade{}, api.ErrLarge}, {full(), crossed(), api.Trade{}, api.ErrArg}, {none(), none(), none(), api.OK},
		{trade([]int{30}, []int{30}, []int{1}), trade([]int{30}, []int{15, 15}, []int{1, 1}), api.Trade{}, api.ErrArg}, {trade([]int{30}, []int{30}, []int{1}), trade([]int{15, 15}, []int{30}, []int{1}, []int{1}), api.Trade{}, api.ErrArg},
		{trade([]int{15, 15}, []int{30}, []int{1}, []int{1}), trade([]int{30}, []int{30}, []int{1}), api.Trade{}, api.ErrArg}, {trade([]int{30}, []int{15, 15}, []int{1, 1}), trade([]int{30}, []int{30}, []int{1}), api.Trade{}, api.ErrArg}, {trade([]int{30}, []int{30}, []int{1}), trade([]int{1}, []int{1}, []int{1}), api.Trade{}, api.ErrLarge},
	} {
		if got, e := bulk.Add(x.a, x.b); !same(got, x.want) || e != x.e {
			t.Errorf("P7.5: %v and %v: %v %v, not %v %v", x.a, x.b, got, e, x.want, x.e)
		}
	}
}

func TestAdd(t *testing.T) {
	source := rand.New(rand.NewPCG(16, 7))
	seen := map[api.Errno]int{}
	for _, x := range some() {
		for range 4 {
			o := random(source, len(x.Supply), len(x.Demand), source.IntN(30), 0)
			o.Cost = cloneGrid(x.Cost)
			want := clone(x)
			for i := range want.Supply {
				want.Supply[i] += o.Supply[i]
			}
			for j := range want.Demand {
				want.Demand[j] += o.Demand[j]
			}
			e := api.OK
			if max(slices.Max(want.Supply), slices.Max(want.Demand)) > 30 {
				want, e = api.Trade{}, api.ErrLarge
			}
			got, f := bulk.Add(x, o)
			if !same(got, want) || f != e {
				t.Errorf("P7.5: %v and %v: %v %v, not %v %v", x, o, got, f, want, e)
			}
			if e == api.OK && least(t, got) > least(t, x)+least(t, o) {
				t.Errorf("P7.5: least of %v and %v: %d, of the sum: %d", least(t, x), least(t, o), x, least(t, got))
			}
			o.Cost[source.IntN(len(o.Cost))][source.IntN(len(o.Demand))] ^= 1
			if got := trades(bulk.Add(x, o)); got != only(api.ErrArg) && bulk.Validate(o) == api.OK {
				t.Errorf("P7.5: %v and %v: %v", x, o, got)
			}
			seen[e]++
		}
	}
	if min(seen[api.OK], seen[api.ErrLarge]) < 100 {
		t.Error("few cases:", seen)
	}
}

func TestMergeOfExamples(t *testing.T) {
	four := trade([]int{1, 2, 3, 28}, []int{30, 4}, []int{1, 9}, []int{2, 8}, []int{3, 1}, []int{4, 0})
	for _, x := range []struct {
		t    api.Trade
		i, j int
		want api.Trade
		e    api.Errno
	}{
		{example(), 1, 0, trade([]int{7}, []int{5, 2}, []int{1, 1}), api.OK}, {example(), 0, 1, trade([]int{7}, []int{5, 2}, []int{1, 1}), api.OK}, {example(), 0, 0, api.Trade{}, api.ErrArg}, {example(), 2, 2, api.Trade{}, api.ErrNone}, {example(), 0, 2, api.Trade{}, api.ErrNone}, {example(), 2, 0, api.Trade{}, api.ErrNone},
		{example(), -1, 0, api.Trade{}, api.ErrNone}, {example(), 0, -1, api.Trade{}, api.ErrNone}, {example(), lowest, highest, api.Trade{}, api.ErrNone}, {alone(), 0, 0, api.Trade{}, api.ErrArg}, {alone(), 0, 1, api.Trade{}, api.ErrNone},
		{four, 0, 2, trade([]int{4, 2, 28}, []int{30, 4}, []int{1, 1}, []int{2, 8}, []int{4, 0}), api.OK}, {four, 2, 0, trade([]int{2, 4, 28}, []int{30, 4}, []int{2, 8}, []int{1, 1}, []int{4, 0}), api.OK}, {four, 1, 3, trade([]int{1, 30, 3}, []int{30, 4}, []int{1, 9}, []int{2, 0}, []int{3, 1}), api.OK},
		{four, 3, 1, trade([]int{1, 3, 30}, []int{30, 4}, []int{1, 9}, []int{3, 1}, []int{2, 0}), api.OK}, {four, 2, 3, api.Trade{}, api.ErrLarge}, {four, 3, 2, api.Trade{}, api.ErrLarge}, {four, 3, 3, api.Trade{}, api.ErrArg}, {full(), 0, 1, api.Trade{}, api.ErrLarge}, {full(), 1, 1, api.Trade{}, api.ErrArg}, {full(), 1, 4, api.Trade{}, api.ErrNone},
	} {
		if got, e := bulk.Merge(x.t, x.i, x.j); !same(got, x.want) || e != x.e {
			t.Errorf("P7.5: merge of %d and %d of %v: %v %v, not %v %v", x.i, x.j, x.t, got, e, x.want, x.e)
		}
	}
}

func TestMerge(t *testing.T) {
	seen := map[api.Errno]int{}
	for _, x := range some() {
		for i := range x.Supply {
			for j := range x.Supply {
				want, e := mergeOf(x, i, j)
				got, f := bulk.Merge(x, i, j)
				if !same(got, want) || f != e {
					t.Errorf("P7.5: merge of %d and %d of %v: %v %v, not %v %v", i, j, x, got, f, want, e)
				}
				if e == api.OK && (bulk.Validate(got) != api.OK || least(t, got) > least(t, x)) {
					t.Errorf("P7.5: least of %v: %d, of %v: %d", x, least(t, x), got, least(t, got))
				}
				seen[e]++
			}
		}
	}
	if min(seen[api.OK], seen[api.ErrLarge], seen[api.ErrArg]) < 50 {
		t.Error("few cases:", seen)
	}
}

// mergeOf takes the stores one by one, for two stores that there are.
func mergeOf(t api.Trade, i, j int) (api.Trade, api.Errno) {
	if i == j {
		return api.Trade{}, api.ErrArg
	}
	if t.Supply[i]+t.Supply[j] > 30 {
		return api.Trade{}, api.ErrLarge
	}
	merged := trade(nil, t.Demand)
	for k, row := range t.Cost {
		if k == j {
			continue
		}
		tons, costs := t.Supply[k], slices.Clone(row)
		if k == i {
			tons += t.Supply[j]
			for b := range costs {
				costs[b] = min(costs[b], t.Cost[j][b])
			}
		}
		merged.Supply, merged.Cost = append(merged.Supply, tons), append(merged.Cost, costs)
	}
	return merged, api.OK
}
