package bulk_test

import (
	"math/rand/v2"
	"slices"
	"testing"

	"turbary/api"
	"turbary/bulk"
)

func TestValidate(t *testing.T) {
	for i, x := range wrongTrades() {
		if e := bulk.Validate(x); e != api.ErrArg {
			t.Errorf("P7.1: %d, %v: %v", i, x, e)
		}
	}
	for i, x := range some() {
		if e := bulk.Validate(x); e != api.OK {
			t.Errorf("P7.1: %d, %v: %v", i, x, e)
		}
	}
}

func TestValidateOfAllNumbers(t *testing.T) {
	source := rand.New(rand.NewPCG(3, 7))
	seen := map[api.Errno]int{}
	for range 20000 {
		near := func() int { return []int{-1, 0, 1, 29, 30, 31}[source.IntN(6)] }
		x := trade([]int{near(), near()}, []int{near(), near()}, []int{7, 98 + source.IntN(3)}, []int{source.IntN(9) - 1, 7})
		all := append(slices.Clone(x.Supply), x.Demand...)
		isRight := slices.Min(all) >= 0 && slices.Max(all) <= 30 && x.Supply[0]+x.Supply[1] == x.Demand[0]+x.Demand[1] && x.Cost[0][1] <= 99 && x.Cost[1][0] >= 0
		want := api.ErrArg
		if isRight {
			want = api.OK
		}
		if e := bulk.Validate(x); e != want {
			t.Fatalf("P7.1: %v: %v, not %v", x, e, want)
		}
		seen[want]++
	}
	if min(seen[api.OK], seen[api.ErrArg]) < 100 {
		t.Error("few cases:", seen)
	}
}

func TestCheckPlan(t *testing.T) {
	for _, x := range some() {
		for _, plan := range wrongGrids(x) {
			if e := bulk.CheckPlan(x, plan); e != api.ErrArg {
				t.Errorf("P7.1: %v of %v: %v", plan, x, e)
			}
		}
		for _, plan := range noPlans(x) {
			if e := bulk.CheckPlan(x, plan); e != api.ErrRule {
				t.Errorf("P7.1: %v of %v: %v", plan, x, e)
			}
		}
	}
	for _, x := range tiny() {
		for _, plan := range plansOf(x) {
			if e := bulk.CheckPlan(x, plan); e != api.OK {
				t.Errorf("P7.1: %v of %v: %v", plan, x, e)
			}
		}
	}
	if plans := plansOf(alone()); len(plans) != 1 || bulk.CheckPlan(alone(), [][]int{{2, 3}}) != api.OK {
		t.Error("P7.1: one store with 5 tons:", plans)
	}
}

func TestCheckPlanOfAllNumbers(t *testing.T) {
	seen := map[api.Errno]int{}
	for _, a := range pairsOf(8, 8, 2) {
		plan := [][]int{{a[0][0] - 1, a[0][1] - 1}, {a[1][0] - 1, a[1][1] - 1}}
		want := api.OK
		if min(slices.Min(plan[0]), slices.Min(plan[1])) < 0 {
			want = api.ErrArg
		} else if !isPlan(example(), plan) {
			want = api.ErrRule
		}
		if e := bulk.CheckPlan(example(), plan); e != want {
			t.Fatalf("P7.1: %v: %v, not %v", plan, e, want)
		}
		seen[want]++
	}
	if seen[api.OK] != 3 {
		t.Error("P7.1: plans of the example:", seen)
	}
}

func TestErrorsOfTradesComeFirst(t *testing.T) {
	for _, x := range wrongTrades() {
		plan := grid(len(x.Supply), len(x.Demand), 0)
		for _, a := range []arguments{
			{},
			{plan: plan, prices: prices(make([]int, len(x.Supply)), make([]int, len(x.Demand))), round: [][2]int{{0, 0}, {0, 1}, {1, 1}, {1, 0}}, other: x, i: 0, j: 1},
			{plan: [][]int{{9}, {}}, round: make([][2]int, 1000), other: full(), store: -1, by: highest, i: -1, j: 9},
			{plan: x.Cost, prices: prices(x.Supply, x.Demand), round: [][2]int{{9, 9}}, store: highest, by: lowest, i: 1, j: 1},
		} {
			for name, got := range callAll(x, a) {
				if got != only(api.ErrArg) {
					t.Errorf("P7.1, R2, R3: %s of %v, %v: %v", name, x, a, got)
				}
			}
		}
		for _, right := range []api.Trade{example(), full(), none()} {
			if got := trades(bulk.Add(right, x)); got != only(api.ErrArg) {
				t.Errorf("P7.1, P7.5, R2: Add of %v to %v: %v", x, right, got)
			}
		}
	}
}

func TestErrorsOfPlansComeNext(t *testing.T) {
	long, away, odd := make([][2]int, 9), [][2]int{{0, 0}, {9, 9}}, [][2]int{{0, 0}}
	for _, x := range []api.Trade{example(), alone(), none(), full(), crossed(), stairs(), trade([]int{4, 1, 0}, []int{5}, []int{1}, []int{2}, []int{3})} {
		for want, plans := range map[api.Errno][][][]int{api.ErrArg: wrongGrids(x), api.ErrRule: noPlans(x)} {
			for _, plan := range plans {
				for _, round := range [][][2]int{nil, {{0, 0}, {0, 1}, {1, 1}, {1, 0}}, long, away, odd} {
					for name, got := range callWithPlan(x, arguments{plan: plan, round: round}) {
						if got != only(want) {
							t.Errorf("P7.1, R1, R3: %s of %v, %v with %v: %v, not %v", name, x, round, plan, got, want)
						}
					}
				}
			}
		}
	}
}

func TestNoErrors(t *testing.T) {
	for _, x := range some() {
		plan, _ := bulk.Corner(x)
		a := arguments{plan: plan, prices: prices(slices.Repeat([]int{-api.MaxPrice}, len(x.Supply)), slices.Repeat([]int{api.MaxPrice}, len(x.Demand))), other: clone(x)}
		a.other.Supply, a.other.Demand = make([]int, len(x.Supply)), make([]int, len(x.Demand))
		for name, got := range callAll(x, a) {
			if got.e != api.OK && name != "Along" && name != "Merge" {
				t.Errorf("P7.1: %s of %v: %v", name, x, got)
			}
		}
	}
}

func TestCost(t *testing.T) {
	for _, x := range []struct {
		t    api.Trade
		plan [][]int
		want int
	}{
		{example(), [][]int{{3, 0}, {2, 2}}, 11}, {example(), [][]int{{1, 2}, {4, 0}}, 17}, {example(), [][]int{{2, 1}, {3, 1}}, 14}, {alone(), [][]int{{2, 3}}, 41}, {none(), grid(2, 3, 0), 0},
		{full(), [][]int{{30, 0, 0, 0}, {0, 30, 0, 0}, {0, 0, 30, 0}, {0, 0, 0, 30}}, 120 * 99}, {crossed(), [][]int{{0, 0, 0, 30}, {0, 0, 30, 0}, {0, 30, 0, 0}, {30, 0, 0, 0}}, 0},
	} {
		if got, e := bulk.Cost(x.t, x.plan); got != x.want || e != api.OK {
			t.Errorf("P7.1: %v with %v: %d %v, not %d", x.t, x.plan, got, e, x.want)
		}
	}
	source := rand.New(rand.NewPCG(4, 7))
	for _, x := range some() {
		for range 5 {
			plan := randomPlan(source, x)
			if got, e := bulk.Cost(x, plan); got != costOf(x, plan) || e != api.OK {
				t.Errorf("P7.1: %v with %v: %d %v", x, plan, got, e)
			}
		}
	}
}

// callsOf has all lists and rounds that functions give, and calls all others.
func callsOf(x api.Trade, a arguments) ([][]int, [][][2]int) {
	var lists [][]int
	keepTrade := func(t api.Trade, _ api.Errno) {
		lists = append(append(append(lists, t.Supply, t.Demand), t.Cost...), []int{})
	}
	corner, _ := bulk.Corner(x)
	best, _ := bulk.Best(x)
	p, _ := bulk.Prove(x)
	after, _, _ := bulk.Along(x, a.plan, a.round)
	lists = append(append(append(append(lists, corner...), best...), after...), p.Stores, p.Buyers)
	keepTrade(bulk.Toll(x, a.store, a.by))
	keepTrade(bulk.Turn(x))
	keepTrade(bulk.Add(x, a.other))
	keepTrade(bulk.Merge(x, a.i, a.j))
	round, _, _ := bulk.Round(x, a.plan)
	again, _, _ := bulk.Round(x, a.plan)
	callAll(x, a)
	return lists, [][][2]int{round, again}
}

// someArguments are right for a trade, but for its rounds and Merge if it has one store or one buyer only.
func someArguments(source *rand.Rand, x api.Trade) arguments {
	a := arguments{plan: randomPlan(source, x), prices: randomPrices(source, x), other: clone(x), i: len(x.Supply) - 1}
	if rounds := roundsOf(min(2, len(x.Supply)), min(2, len(x.Demand))); len(rounds) > 0 {
		a.round = rounds[source.IntN(len(rounds))]
	}
	for i := range x.Supply {
		a.other.Supply[i] = 0
	}
	for j := range x.Demand {
		a.other.Demand[j] = 0
	}
	return a
}

func TestMemory(t *testing.T) {
	source := rand.New(rand.NewPCG(5, 7))
	for _, x := range some() {
		before, a := clone(x), someArguments(source, x)
		plan, p, round, other := cloneGrid(a.plan), prices(slices.Clone(a.prices.Stores), slices.Clone(a.prices.Buyers)), slices.Clone(a.round), clone(a.other)
		lists, rounds := callsOf(x, a)
		for i, list := range lists {
			for k := range list {
				list[k] = -99 - i
			}
			_ = append(list, -99)
		}
		for i, list := range rounds {
			for k := range list {
				list[k] = [2]int{i, -99}
			}
			_ = append(list, [2]int{-99, -99})
		}
		for i, list := range lists {
			if slices.ContainsFunc(list, func(number int) bool { return number != -99-i }) {
				t.Fatalf("R5: results share memory: %v, %v", x, a)
			}
		}
		for i, list := range rounds {
			if slices.ContainsFunc(list, func(pair [2]int) bool { return pair != [2]int{i, -99} }) {
				t.Fatalf("R5: rounds share memory: %v, %v", x, a)
			}
		}
		if !same(x, before) || !sameGrid(a.plan, plan) || !samePrices(a.prices, p) || !slices.Equal(a.round, round) || !same(a.other, other) {
			t.Fatalf("R5: an argument has changed: %v, %v", x, a)
		}
	}
}

func TestEqualCalls(t *testing.T) {
	source := rand.New(rand.NewPCG(6, 7))
	for _, x := range some() {
		a := someArguments(source, x)
		lists, rounds := callsOf(x, a)
		all := callAll(x, a)
		for range 2 {
			again, roundsAgain := callsOf(clone(x), a)
			if !sameGrid(lists, again) || !slices.EqualFunc(rounds, roundsAgain, slices.Equal[[][2]int]) {
				t.Errorf("R11: %v, %v: %v %v, then %v %v", x, a, lists, rounds, again, roundsAgain)
			}
			for name, got := range callAll(clone(x), a) {
				if got != all[name] {
					t.Errorf("R11: %s of %v, %v: %v, then %v", name, x, a, all[name], got)
				}
			}
		}
	}
}
