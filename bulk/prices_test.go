package bulk_test

import (
	"math/rand/v2"
	"slices"
	"testing"

	"turbary/api"
	"turbary/bulk"
)

func TestCheckPrices(t *testing.T) {
	for _, x := range some() {
		for _, p := range wrongPrices(x) {
			for name, got := range callWithPrices(x, arguments{prices: p}) {
				if got != only(api.ErrArg) {
					t.Errorf("P7.3: %s of %v, %v: %v", name, x, p, got)
				}
			}
		}
	}
	for _, x := range []struct {
		p    api.Prices
		want api.Errno
	}{
		{prices([]int{1, 3}, []int{0, -2}), api.OK}, {prices([]int{1, 4}, []int{0, -2}), api.ErrRule}, {prices([]int{2, 3}, []int{0, -2}), api.ErrRule}, {prices([]int{1, 3}, []int{1, -2}), api.ErrRule}, {prices([]int{1, 3}, []int{0, -1}), api.ErrRule},
		{prices([]int{1000, 1000}, []int{-999, -999}), api.OK}, {prices([]int{1000, 1000}, []int{-999, -998}), api.ErrRule}, {prices([]int{1000, 1000}, []int{-1000, -1000}), api.OK}, {prices([]int{-1000, -1000}, []int{1000, 1000}), api.OK},
		{prices([]int{-1000, -1000}, []int{-1000, -1000}), api.OK}, {prices([]int{1000, 1000}, []int{1000, 1000}), api.ErrRule},
	} {
		for name, got := range callWithPrices(example(), arguments{prices: x.p}) {
			if got.e != x.want || x.want != api.OK && !got.zero {
				t.Errorf("P7.3: %s of %v: %v, not %v", name, x.p, got, x.want)
			}
		}
	}
}

func TestCheckPricesByTheirDefinition(t *testing.T) {
	source := rand.New(rand.NewPCG(10, 7))
	seen := map[bool]int{}
	for _, x := range some() {
		for range 20 {
			p := randomPrices(source, x)
			if source.IntN(2) == 0 { // often a single one that is not honest
				p.Buyers[source.IntN(len(p.Buyers))] += 1 + source.IntN(3)
			}
			want := api.OK
			if !isHonest(x, p) {
				want = api.ErrRule
			}
			if e := bulk.CheckPrices(x, p); e != want {
				t.Errorf("P7.3: %v of %v: %v, not %v", p, x, e, want)
			}
			seen[want == api.OK]++
		}
	}
	if min(seen[true], seen[false]) < 500 {
		t.Error("few cases:", seen)
	}
}

func TestWorth(t *testing.T) {
	for _, x := range []struct {
		t    api.Trade
		p    api.Prices
		want int
	}{
		{example(), prices([]int{1, 3}, []int{0, -2}), 3 + 12 - 4}, {example(), prices([]int{0, 0}, []int{0, 0}), 0}, {example(), prices([]int{-1000, 3}, []int{-7, -2}), -3000 + 12 - 35 - 4}, {alone(), prices([]int{0}, []int{7, 9}), 41},
		{full(), prices(slices.Repeat([]int{-1000}, 4), slices.Repeat([]int{-1000}, 4)), -240000}, {none(), prices([]int{-5, 5}, []int{-4, -4, -4}), 0},
	} {
		if got, e := bulk.Worth(x.t, x.p); got != x.want || e != api.OK {
			t.Errorf("P7.3: worth of %v in %v: %d %v, not %d", x.p, x.t, got, e, x.want)
		}
	}
}

func TestWorthIsAtMostTheCost(t *testing.T) {
	source := rand.New(rand.NewPCG(11, 7))
	for _, x := range some() {
		plan, _ := bulk.Best(x)
		for range 20 {
			p := randomPrices(source, x)
			worth, e := bulk.Worth(x, p)
			if worth != worthOf(x, p) || e != api.OK {
				t.Errorf("P7.3: worth of %v in %v: %d %v", p, x, worth, e)
			}
			for _, other := range [][][]int{plan, randomPlan(source, x)} {
				if cost, e := bulk.Cost(x, other); worth > cost || e != api.OK {
					t.Errorf("S7, P7.3: %v is worth %d in %v, but %v costs %d: %v", p, worth, x, other, cost, e)
				}
			}
		}
	}
}

func TestProve(t *testing.T) {
	source := rand.New(rand.NewPCG(12, 7))
	list := some()
	for range 2000 {
		list = append(list, random(source, 4, 4, source.IntN(100), []int{3, 99}[source.IntN(2)]))
	}
	for _, x := range list {
		p, e := bulk.Prove(x)
		least, f := bulk.Least(x)
		if e != api.OK || f != api.OK || len(p.Stores) != len(x.Supply) || len(p.Buyers) != len(x.Demand) || !isHonest(x, p) || worthOf(x, p) != least {
			t.Errorf("P7.3: %v %v does not prove %d in %v: %v", p, e, least, x, f)
		}
		if worth, e := bulk.Worth(x, p); worth != least || e != api.OK {
			t.Errorf("P7.3: %v is worth %d in %v, not %d: %v", p, worth, x, least, e)
		}
		// What honest prices are worth some plan costs, so it is no less than the least, and that is the cost of a plan.
		if plan, e := bulk.Best(x); !isPlan(x, plan) || costOf(x, plan) != least || e != api.OK {
			t.Errorf("P7.2: best of %v: %v %v, which does not cost %d", x, plan, e, least)
		}
	}
}

func TestPlansArePricedExactlyIfBest(t *testing.T) {
	for _, x := range tiny() {
		p, _ := bulk.Prove(x)
		worth, e := bulk.Worth(x, p)
		if e != api.OK {
			t.Error("P7.3:", p, x, e)
		}
		for _, plan := range plansOf(x) {
			cost, _ := bulk.Cost(x, plan)
			if isBest, e := bulk.IsBest(x, plan); isBest != (cost == worth) || e != api.OK {
				t.Errorf("S7: %v of %v is best: %v %v, but it costs %d, and %v is worth %d", plan, x, isBest, e, cost, p, worth)
			}
		}
	}
}
