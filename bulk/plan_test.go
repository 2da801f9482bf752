package bulk_test

import (
	"math/rand/v2"
	"testing"

	"turbary/api"
	"turbary/bulk"
)

func TestCornerOfExamples(t *testing.T) {
	for _, x := range []struct {
		t    api.Trade
		want [][]int
	}{
		{example(), [][]int{{3, 0}, {2, 2}}}, {alone(), [][]int{{2, 3}}}, {none(), [][]int{{0, 0, 0}, {0, 0, 0}}}, {full(), [][]int{{30, 0, 0, 0}, {0, 30, 0, 0}, {0, 0, 30, 0}, {0, 0, 0, 30}}},
		{trade([]int{4, 0, 3}, []int{0, 2, 5}, grid(3, 3, 1)...), [][]int{{0, 2, 2}, {0, 0, 0}, {0, 0, 3}}},
		{trade([]int{20, 0, 17, 9}, []int{12, 30, 4}, grid(4, 3, 1)...), [][]int{{12, 8, 0}, {0, 0, 0}, {0, 17, 0}, {0, 5, 4}}},
	} {
		if got, e := bulk.Corner(x.t); !sameGrid(got, x.want) || e != api.OK {
			t.Errorf("P7.2: corner of %v: %v %v, not %v", x.t, got, e, x.want)
		}
	}
}

// cornerOf lays all stores and all buyers along one line: each ton goes from the store to the buyer at its place.
func cornerOf(t api.Trade) [][]int {
	plan := grid(len(t.Supply), len(t.Demand), 0)
	var buyers []int
	for j, tons := range t.Demand {
		for range tons {
			buyers = append(buyers, j)
		}
	}
	at := 0
	for i, tons := range t.Supply {
		for range tons {
			plan[i][buyers[at]]++
			at++
		}
	}
	return plan
}

func TestCorner(t *testing.T) {
	for _, x := range some() {
		got, e := bulk.Corner(x)
		if want := cornerOf(x); !sameGrid(got, want) || !isPlan(x, got) || e != api.OK {
			t.Errorf("P7.2: corner of %v: %v %v, not %v", x, got, e, want)
		}
	}
}

func TestLeastAndBestOfExamples(t *testing.T) {
	for _, x := range []struct {
		t    api.Trade
		want int
	}{
		{example(), 11}, {alone(), 41}, {none(), 0}, {full(), 120 * 99}, {crossed(), 0}, {stairs(), 0},
		{trade([]int{20, 0, 17, 9}, []int{12, 30, 4}, []int{9, 2, 40}, []int{1, 1, 1}, []int{7, 8, 3}, []int{99, 0, 5}), 144},
		{trade([]int{1, 1, 1}, []int{1, 1, 1}, []int{1, 5, 9}, []int{5, 9, 1}, []int{9, 1, 5}), 3},
		// The cheapest pair of all is not in the best plan.
		{trade([]int{2, 3}, []int{2, 3}, []int{1, 2}, []int{3, 90}), 2*2 + 2*3 + 90}, {trade([]int{2, 2}, []int{2, 2}, []int{1, 2}, []int{3, 90}), 10},
	} {
		if got, e := bulk.Least(x.t); got != x.want || e != api.OK {
			t.Errorf("P7.2: least of %v: %v %v, not %v", x.t, got, e, x.want)
		}
		if plan, e := bulk.Best(x.t); !isPlan(x.t, plan) || costOf(x.t, plan) != x.want || e != api.OK {
			t.Errorf("P7.2: best of %v: %v %v, which does not cost %v", x.t, plan, e, x.want)
		}
	}
}

func TestLeastAndBest(t *testing.T) {
	for _, x := range tiny() {
		want := leastOf(x)
		if got, e := bulk.Least(x); got != want || e != api.OK {
			t.Errorf("P7.2: least of %v: %v %v, not %v", x, got, e, want)
		}
		if plan, e := bulk.Best(x); !isPlan(x, plan) || costOf(x, plan) != want || e != api.OK {
			t.Errorf("P7.2: best of %v: %v %v, which does not cost %v", x, plan, e, want)
		}
	}
	source := rand.New(rand.NewPCG(7, 7))
	for _, x := range some() {
		least, e := bulk.Least(x)
		plan, f := bulk.Best(x)
		if e != api.OK || f != api.OK || !isPlan(x, plan) || costOf(x, plan) != least {
			t.Errorf("P7.2: best of %v: %v %v, least %v %v", x, plan, f, least, e)
		}
		for range 20 {
			if other := randomPlan(source, x); costOf(x, other) < least {
				t.Errorf("P7.2: least of %v: %v, but %v costs less", x, least, other)
			}
		}
	}
}

func TestIsBest(t *testing.T) {
	seen := map[bool]int{}
	for _, x := range tiny() {
		least := leastOf(x)
		for _, plan := range plansOf(x) {
			want := costOf(x, plan) == least
			if got, e := bulk.IsBest(x, plan); got != want || e != api.OK {
				t.Errorf("P7.2: %v is best of %v: %v %v, not %v", plan, x, got, e, want)
			}
			seen[want]++
		}
	}
	source := rand.New(rand.NewPCG(8, 7))
	for _, x := range some() {
		best, _ := bulk.Best(x)
		for _, plan := range [][][]int{best, randomPlan(source, x), randomPlan(source, x)} {
			want := costOf(x, plan) == costOf(x, best)
			if got, e := bulk.IsBest(x, plan); got != want || e != api.OK {
				t.Errorf("P7.2: %v is best of %v: %v %v, not %v", plan, x, got, e, want)
			}
		}
	}
	if min(seen[true], seen[false]) < 200 {
		t.Error("few cases:", seen)
	}
}

// isSquareOf goes by the definition.
func isSquareOf(t api.Trade) bool {
	for k := range t.Supply {
		for i := range k {
			for l := range t.Demand {
				for j := range l {
					if t.Cost[i][j]+t.Cost[k][l] > t.Cost[i][l]+t.Cost[k][j] {
						return false
					}
				}
			}
		}
	}
	return true
}

func TestIsSquare(t *testing.T) {
	square := func(cost ...[]int) api.Trade {
		return trade(make([]int, len(cost)), make([]int, len(cost[0])), cost...)
	}
	for _, x := range []struct {
		t    api.Trade
		want bool
	}{
		{example(), true}, {alone(), true}, {none(), true}, {full(), true}, {crossed(), false}, {square([]int{5}, []int{9}, []int{0}), true}, {square([]int{5, 0, 99, 7}), true},
		{square([]int{1, 2}, []int{3, 4}), true}, {square([]int{1, 2}, []int{3, 5}), false}, {square([]int{0, 9}, []int{9, 0}), true}, {square([]int{9, 0}, []int{0, 9}), false},
		{square([]int{1, 2, 3}, []int{2, 3, 4}, []int{3, 4, 6}), false}, {square([]int{2, 2, 3}, []int{2, 3, 4}, []int{3, 4, 5}), false}, {square([]int{1, 2, 3}, []int{2, 3, 4}, []int{3, 4, 5}), true},
		{square([]int{1, 2, 3}, []int{2, 3, 5}, []int{3, 4, 5}), false}, {square([]int{1, 2, 3}, []int{2, 3, 4}, []int{4, 4, 5}), true}, {square([]int{1, 2, 3}, []int{2, 3, 4}, []int{2, 4, 5}), false},
	} {
		if got, e := bulk.IsSquare(x.t); got != x.want || e != api.OK {
			t.Errorf("P7.2: %v is square: %v %v, not %v", x.t, got, e, x.want)
		}
	}
}

func TestCornerOfSquareTradesIsBest(t *testing.T) {
	source := rand.New(rand.NewPCG(9, 7))
	seen := map[bool]int{}
	for range 3000 {
		x := random(source, 1+source.IntN(4), 1+source.IntN(4), source.IntN(40), 2)
		for i, row := range x.Cost {
			for j := range row { // the farther apart the numbers, the dearer
				row[j] += source.IntN(2) + 6*max(i-j, j-i)
			}
		}
		want := isSquareOf(x)
		if got, e := bulk.IsSquare(x); got != want || e != api.OK {
			t.Errorf("P7.2: %v is square: %v %v, not %v", x, got, e, want)
		}
		seen[want]++
		corner, _ := bulk.Corner(x)
		if isBest, e := bulk.IsBest(x, corner); want && !isBest || e != api.OK {
			t.Errorf("P7.2: %v is square, but its corner %v is not best: %v", x, corner, e)
		}
	}
	if min(seen[true], seen[false]) < 200 {
		t.Error("few cases:", seen)
	}
}
