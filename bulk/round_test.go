package bulk_test

import (
	"math/rand/v2"
	"slices"
	"testing"

	"turbary/api"
	"turbary/bulk"
)

// onward is the round of the chapter's third example, backward the one against it.
func onward() [][2]int   { return [][2]int{{0, 0}, {0, 1}, {1, 1}, {1, 0}} }
func backward() [][2]int { return [][2]int{{1, 0}, {1, 1}, {0, 1}, {0, 0}} }

func TestAlongOfExamples(t *testing.T) {
	each := [][]int{{2, 1, 0, 0}, {0, 3, 2, 0}, {0, 0, 4, 1}, {5, 0, 0, 6}}
	large := trade([]int{3, 5, 5, 11}, []int{7, 4, 6, 7}, grid(4, 4, 9)...)
	for _, x := range []struct {
		t      api.Trade
		plan   [][]int
		round  [][2]int
		want   [][]int
		amount int
	}{
		{example(), [][]int{{1, 2}, {4, 0}}, onward(), [][]int{{3, 0}, {2, 2}}, 2}, {example(), [][]int{{1, 2}, {4, 0}}, backward(), [][]int{{1, 2}, {4, 0}}, 0}, {example(), [][]int{{3, 0}, {2, 2}}, backward(), [][]int{{1, 2}, {4, 0}}, 2},
		{example(), [][]int{{2, 1}, {3, 1}}, onward(), [][]int{{3, 0}, {2, 2}}, 1}, {example(), [][]int{{2, 1}, {3, 1}}, backward(), [][]int{{1, 2}, {4, 0}}, 1},
		{none(), grid(2, 3, 0), [][2]int{{0, 1}, {0, 2}, {1, 2}, {1, 1}}, grid(2, 3, 0), 0},
		{large, each, [][2]int{{0, 3}, {0, 0}, {3, 0}, {3, 3}}, [][]int{{0, 1, 0, 2}, {0, 3, 2, 0}, {0, 0, 4, 1}, {7, 0, 0, 4}}, 2},
		{large, each, [][2]int{{0, 3}, {0, 1}, {1, 1}, {1, 2}, {2, 2}, {2, 3}}, [][]int{{2, 0, 0, 1}, {0, 4, 1, 0}, {0, 0, 5, 0}, {5, 0, 0, 6}}, 1},
		{large, each, [][2]int{{0, 0}, {0, 1}, {1, 1}, {1, 2}, {2, 2}, {2, 3}, {3, 3}, {3, 0}}, [][]int{{3, 0, 0, 0}, {0, 4, 1, 0}, {0, 0, 5, 0}, {4, 0, 0, 7}}, 1},
		{large, each, [][2]int{{0, 1}, {0, 0}, {3, 0}, {3, 3}, {2, 3}, {2, 2}, {1, 2}, {1, 1}}, [][]int{{0, 3, 0, 0}, {0, 1, 4, 0}, {0, 0, 2, 3}, {7, 0, 0, 4}}, 2},
		// A store or a buyer may come twice, as long as no pair does.
		{large, each, [][2]int{{1, 0}, {1, 1}, {0, 1}, {0, 0}, {2, 0}, {2, 2}, {3, 2}, {3, 0}}, [][]int{{0, 3, 0, 0}, {2, 1, 2, 0}, {2, 0, 2, 1}, {3, 0, 2, 6}}, 2},
		{large, each, [][2]int{{0, 2}, {0, 0}, {3, 0}, {3, 3}, {0, 3}, {0, 1}, {1, 1}, {1, 2}}, [][]int{{1, 0, 1, 1}, {0, 4, 1, 0}, {0, 0, 4, 1}, {6, 0, 0, 5}}, 1},
		{large, each, [][2]int{{1, 3}, {1, 1}, {0, 1}, {0, 0}, {3, 0}, {3, 3}, {1, 3}, {1, 0}}, nil, 0},
	} {
		want := api.OK
		if x.want == nil {
			want = api.ErrArg
		}
		if got, amount, e := bulk.Along(x.t, x.plan, x.round); !sameGrid(got, x.want) || amount != x.amount || e != want {
			t.Errorf("P7.4: %v along %v in %v: %v %d %v", x.plan, x.round, x.t, got, amount, e)
		}
	}
}

func TestErrorsOfRounds(t *testing.T) {
	plan := [][]int{{1, 2}, {4, 0}}
	for _, x := range []struct {
		round [][2]int
		want  api.Errno
	}{
		{nil, api.ErrArg}, {onward()[:1], api.ErrArg}, {onward()[:2], api.ErrArg}, {onward()[:3], api.ErrArg}, {onward()[1:], api.ErrArg}, {append(onward(), onward()...), api.ErrArg}, {append(onward(), onward()[:2]...), api.ErrArg}, {append(onward(), [2]int{0, 0}), api.ErrArg},
		{[][2]int{{0, 0}, {0, 0}, {0, 0}, {0, 0}}, api.ErrArg}, {[][2]int{{0, 0}, {0, 1}, {0, 1}, {0, 0}}, api.ErrArg}, {[][2]int{{0, 0}, {0, 1}, {1, 1}, {0, 1}}, api.ErrArg}, {[][2]int{{0, 0}, {1, 0}, {1, 1}, {0, 1}}, api.ErrArg}, {[][2]int{{0, 0}, {0, 1}, {1, 0}, {1, 1}}, api.ErrArg},
		{[][2]int{{0, 0}, {1, 1}, {0, 1}, {1, 0}}, api.ErrArg}, {make([][2]int, 8), api.ErrArg}, {make([][2]int, 9), api.ErrLarge}, {make([][2]int, 10), api.ErrLarge}, {make([][2]int, 1000), api.ErrLarge}, {slices.Repeat([][2]int{{-1, 9}}, 9), api.ErrLarge}, {slices.Repeat([][2]int{{-1, 9}}, 8), api.ErrNone},
		{[][2]int{{2, 0}, {2, 1}, {1, 1}, {1, 0}}, api.ErrNone}, {[][2]int{{0, 0}, {0, 2}, {1, 2}, {1, 0}}, api.ErrNone}, {[][2]int{{0, 0}, {0, 1}, {-1, 1}, {-1, 0}}, api.ErrNone}, {[][2]int{{0, -1}, {0, 1}, {1, 1}, {1, -1}}, api.ErrNone},
		{[][2]int{{0, 2}}, api.ErrNone}, {[][2]int{{2, 0}}, api.ErrNone}, {[][2]int{{0, 0}, {0, 0}, {lowest, 0}}, api.ErrNone}, {[][2]int{{0, 0}, {0, 0}, {0, highest}}, api.ErrNone}, {[][2]int{{highest, 0}}, api.ErrNone}, {[][2]int{{0, lowest}}, api.ErrNone},
	} {
		if got := moved(bulk.Along(example(), plan, x.round)); got != only(x.want) {
			t.Errorf("P7.4: along %v: %v, not %v", x.round, got, x.want)
		}
	}
	// More stores than buyers, and the other way round.
	wide, high := trade([]int{0}, []int{0, 0, 0}, []int{1, 1, 1}), trade([]int{0, 0, 0}, []int{0}, grid(3, 1, 1)...)
	for _, x := range []struct {
		t    api.Trade
		pair [2]int
		want api.Errno
	}{{wide, [2]int{0, 2}, api.ErrArg}, {wide, [2]int{1, 0}, api.ErrNone}, {high, [2]int{2, 0}, api.ErrArg}, {high, [2]int{0, 1}, api.ErrNone}} {
		if got := moved(bulk.Along(x.t, grid(len(x.t.Supply), len(x.t.Demand), 0), [][2]int{x.pair})); got != only(x.want) {
			t.Errorf("P7.4: along %v in %v: %v, not %v", x.pair, x.t, got, x.want)
		}
	}
}

// checkAlong checks a list of pairs of stores and buyers against the definition.
func checkAlong(t *testing.T, x api.Trade, plan [][]int, round [][2]int) {
	var want [][]int
	amount, e := 0, api.ErrArg
	if isRoundOf(round) {
		e, amount = api.OK, amountOf(x, plan, round)
		want = shifted(plan, round, amount)
	}
	if got, n, f := bulk.Along(x, plan, round); !sameGrid(got, want) || n != amount || f != e {
		t.Errorf("P7.4: %v along %v in %v: %v %d %v, not %v %d %v", plan, round, x, got, n, f, want, amount, e)
	}
}

func TestAlongOfAllPairs(t *testing.T) {
	for length := range 7 {
		for _, list := range pairsOf(2, 2, length) {
			checkAlong(t, example(), [][]int{{2, 1}, {3, 1}}, list)
		}
	}
	x := trade([]int{9, 9}, []int{6, 6, 6}, grid(2, 3, 1)...)
	for _, list := range pairsOf(2, 3, 4) {
		checkAlong(t, x, [][]int{{2, 3, 4}, {4, 3, 2}}, list)
	}
}

func TestAlong(t *testing.T) {
	source := rand.New(rand.NewPCG(13, 7))
	rounds := map[[2]int][][][2]int{}
	for _, x := range some() {
		size := [2]int{len(x.Supply), len(x.Demand)}
		if rounds[size] == nil {
			rounds[size] = roundsOf(size[0], size[1])
		}
		for range min(30, len(rounds[size])) {
			round, plan := slices.Clone(rounds[size][source.IntN(len(rounds[size]))]), randomPlan(source, x)
			checkAlong(t, x, plan, round)
			// Nearly rounds: one pair is another one, two are exchanged, one is left out.
			at, other := source.IntN(len(round)), source.IntN(len(round))
			changed, exchanged := slices.Clone(round), slices.Clone(round)
			changed[at] = [2]int{source.IntN(size[0]), source.IntN(size[1])}
			exchanged[at], exchanged[other] = round[other], round[at]
			checkAlong(t, x, plan, changed)
			checkAlong(t, x, plan, exchanged)
			checkAlong(t, x, plan, slices.Delete(round, at, at+1))
		}
	}
}

// isCheaper reports if a round makes a plan cheaper, by the definition.
func isCheaper(t api.Trade, plan [][]int, round [][2]int) bool {
	after := shifted(plan, round, 1)
	return isPlan(t, after) && costOf(t, after) < costOf(t, plan)
}

func TestRound(t *testing.T) {
	source := rand.New(rand.NewPCG(14, 7))
	rounds := map[[2]int][][][2]int{}
	seen := map[bool]int{}
	for _, x := range some() {
		size := [2]int{len(x.Supply), len(x.Demand)}
		if rounds[size] == nil {
			rounds[size] = roundsOf(size[0], size[1])
		}
		best, _ := bulk.Best(x)
		for _, plan := range [][][]int{best, cornerOf(x), randomPlan(source, x), randomPlan(source, x)} {
			want := slices.ContainsFunc(rounds[size], func(round [][2]int) bool { return isCheaper(x, plan, round) })
			round, ok, e := bulk.Round(x, plan)
			if ok != want || e != api.OK || ok && !(isRoundOf(round) && isCheaper(x, plan, round)) || !ok && len(round) > 0 {
				t.Errorf("P7.4: round of %v in %v: %v %v %v, not %v", plan, x, round, ok, e, want)
			}
			if isBest, e := bulk.IsBest(x, plan); isBest == want || e != api.OK {
				t.Errorf("P7.4: %v is best of %v: %v %v, and there is a round: %v", plan, x, isBest, e, want)
			}
			seen[ok]++
		}
	}
	if min(seen[true], seen[false]) < 200 {
		t.Error("few cases:", seen)
	}
}

func TestRoundOfAllPlans(t *testing.T) {
	lengths := map[int]int{}
	for _, x := range tiny() {
		least := leastOf(x)
		for _, plan := range plansOf(x) {
			round, ok, e := bulk.Round(x, plan)
			if ok != (costOf(x, plan) > least) || e != api.OK || ok && !(isRoundOf(round) && isCheaper(x, plan, round)) {
				t.Errorf("P7.4: round of %v in %v: %v %v %v", plan, x, round, ok, e)
			}
			lengths[len(round)]++
		}
	}
	if min(lengths[0], lengths[4], lengths[6], lengths[8]) < 10 {
		t.Error("few cases:", lengths)
	}
}

func TestRoundsLeadToTheLeastCost(t *testing.T) {
	source := rand.New(rand.NewPCG(15, 7))
	for _, x := range some() {
		plan := randomPlan(source, x)
		for {
			round, ok, e := bulk.Round(x, plan)
			if e != api.OK {
				t.Fatal("P7.4:", plan, x, e)
			}
			if !ok {
				break
			}
			next, amount, e := bulk.Along(x, plan, round)
			if !isPlan(x, next) || amount < 1 || costOf(x, next) >= costOf(x, plan) || e != api.OK {
				t.Fatalf("P7.4: %v along %v in %v: %v %d %v", plan, round, x, next, amount, e)
			}
			plan = next
		}
		if least, e := bulk.Least(x); costOf(x, plan) != least || e != api.OK {
			t.Errorf("P7.4: no round in %v of %v, but the least is %d: %v", plan, x, least, e)
		}
	}
}
