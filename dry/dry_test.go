package dry_test

import (
	"math/rand/v2"
	"slices"
	"testing"

	"turbary/api"
	"turbary/dry"
)

func TestValidate(t *testing.T) {
	for i, y := range small() {
		if e := dry.Validate(y); e != api.ErrArg {
			t.Errorf("P6.1: %d, %v: %v", i, y, e)
		}
	}
	for i, y := range large() {
		if e := dry.Validate(y); e != api.ErrLarge {
			t.Errorf("P6.1: %d, %v: %v", i, y, e)
		}
	}
	for _, places := range []int{0, -1, api.MaxPlaces + 1, lowest, highest} {
		if e := dry.Validate(api.Yard{Places: places, Steps: make([]api.Step, 1000)}); e != api.ErrArg {
			t.Errorf("P6.1: %d places: %v", places, e)
		}
	}
	for i, y := range some() {
		if e := dry.Validate(y); e != api.OK {
			t.Errorf("P6.1: %d, %v: %v", i, y, e)
		}
	}
}

func TestValidateOfAllNumbers(t *testing.T) {
	for _, x := range lists(-1, []int{5, 5, 5, 5}) {
		want := api.ErrArg
		if slices.Min(x) >= 0 && slices.Max(x) <= 3 {
			want = api.OK
		}
		y := api.Yard{Places: 2, Steps: []api.Step{step(x[:2], x[2:])}}
		if e := dry.Validate(y); e != want {
			t.Fatalf("P6.1: %v: %v, not %v", y, e, want)
		}
	}
}

func TestErrorsOfYardsComeFirst(t *testing.T) {
	for want, list := range map[api.Errno][]api.Yard{api.ErrArg: small(), api.ErrLarge: large()} {
		for _, y := range list {
			many := make([]int, 1000)
			for _, x := range []arguments{{}, right(y), {m: many, goal: many, list: many, counts: many, weights: many, set: many, step: 9, most: -1}, {list: []int{-1}, step: lowest, most: highest}} {
				for name, got := range callAll(y, x) {
					if got != only(want) {
						t.Errorf("P6.1, R2, R3: %s of %v, %v: %v", name, y, x, got)
					}
				}
			}
		}
	}
}

func TestErrorsOfFillings(t *testing.T) {
	for _, y := range []api.Yard{pair(), bare(1), ring(3), flood(), full()} {
		for _, m := range wrong(y.Places, 0, api.MaxHold) {
			x := right(y)
			x.m = m
			bad := arguments{m: m, goal: []int{51}, list: make([]int, 41), counts: []int{-1}, weights: []int{21}, step: 9, most: 6}
			none := bad
			none.list = []int{9}
			long := right(y)
			long.m, long.counts = m, slices.Repeat([]int{40}, len(y.Steps))
			for _, x := range []arguments{x, bad, none, long} {
				for name, got := range callWithFilling(y, x) {
					if got != only(api.ErrArg) {
						t.Errorf("P6.1: %s of %v in %v: %v", name, x, y, got)
					}
				}
			}
			if got := found(dry.Way(y, right(y).m, m, 5)); got != only(api.ErrArg) {
				t.Errorf("P6.1: Way to %v in %v: %v", m, y, got)
			}
		}
	}
}

func TestErrorsOfSteps(t *testing.T) {
	for _, y := range some() {
		m := right(y).m
		for _, k := range []int{-1, len(y.Steps), api.MaxSteps, lowest, highest} {
			for name, got := range map[string]result{
				"CanDo": truth(dry.CanDo(y, m, k)), "Do": listed(dry.Do(y, m, k)),
				"Run": measured(dry.Run(y, m, []int{k})), "Run behind others": measured(dry.Run(y, m, append(make([]int, min(39, 39*len(y.Steps))), k))), "Counts": listed(dry.Counts(y, []int{k})),
			} {
				if got != only(api.ErrNone) {
					t.Errorf("P6.1: %s with the step %d in %v: %v", name, k, y, got)
				}
			}
		}
		for _, k := range []int{-1, 0, len(y.Steps), highest} {
			for _, length := range []int{api.MaxList + 1, 1000} {
				list := slices.Repeat([]int{k}, length)
				if got := measured(dry.Run(y, m, list)); got != only(api.ErrLarge) {
					t.Errorf("P6.1: Run of %v in %v: %v", list, y, got)
				}
				if got := listed(dry.Counts(y, list)); got != only(api.ErrLarge) {
					t.Errorf("P6.1: Counts of %v in %v: %v", list, y, got)
				}
			}
		}
	}
}

func TestErrorsOfNumbers(t *testing.T) {
	for _, y := range some() {
		x := right(y)
		for _, counts := range wrong(len(y.Steps), 0, api.MaxList) {
			for name, got := range map[string]result{"Effect": listed(dry.Effect(y, counts)), "Order": found(dry.Order(y, x.m, counts))} {
				if got != only(api.ErrArg) {
					t.Errorf("P6.1: %s of %v in %v: %v", name, counts, y, got)
				}
			}
		}
		for _, weights := range wrong(y.Places, -api.MaxInvar, api.MaxInvar) {
			for name, got := range map[string]result{"IsInvariant": truth(dry.IsInvariant(y, weights)), "Weigh": number(dry.Weigh(y, weights, x.m))} {
				if got != only(api.ErrArg) {
					t.Errorf("P6.1: %s of %v in %v: %v", name, weights, y, got)
				}
			}
		}
		for _, set := range noSets(y.Places) {
			for name, got := range map[string]result{"IsSiphon": truth(dry.IsSiphon(y, set)), "IsTrap": truth(dry.IsTrap(y, set)), "Siphon": listed(dry.Siphon(y, set)), "Trap": listed(dry.Trap(y, set))} {
				if got != only(api.ErrArg) {
					t.Errorf("P6.1: %s of %v in %v: %v", name, set, y, got)
				}
			}
		}
		for _, most := range []int{-1, 6, lowest, highest} {
			for name, got := range map[string]result{"Way": found(dry.Way(y, x.m, x.m, most)), "Reach": number(dry.Reach(y, x.m, most))} {
				if got != only(api.ErrArg) {
					t.Errorf("P6.1: %s with at most %d in %v: %v", name, most, y, got)
				}
			}
		}
	}
}

func TestNoErrors(t *testing.T) {
	for _, y := range some() {
		low, high := right(y), right(y)
		low.weights = slices.Repeat([]int{-api.MaxInvar}, y.Places)
		high.m = slices.Repeat([]int{api.MaxHold}, y.Places)
		high.goal, high.weights, high.most = high.m, slices.Repeat([]int{api.MaxInvar}, y.Places), 5
		high.list, high.step = slices.Repeat([]int{len(y.Steps) - 1}, api.MaxList*min(1, len(y.Steps))), len(y.Steps)-1
		high.set = sets(y.Places)[1<<y.Places-1]
		for _, x := range []arguments{low, high} {
			for name, got := range callAll(y, x) {
				isNone := got.e == api.ErrNone && len(y.Steps) == 0
				isRefused := (name == "Do" || name == "Run") && (got.e == api.ErrRule || got.e == api.ErrLarge)
				if got.e != api.OK && !isNone && !isRefused {
					t.Errorf("P6.1: %s of %v in %v: %v", name, x, y, got)
				}
			}
		}
		if _, e := dry.Effect(y, slices.Repeat([]int{api.MaxList}, len(y.Steps))); e != api.OK {
			t.Errorf("P6.1: Effect of the greatest counts in %v: %v", y, e)
		}
	}
}

func TestMemory(t *testing.T) {
	source := rand.New(rand.NewPCG(1, 6))
	for _, y := range some() {
		before := clone(y)
		for _, m := range fillings(source, y) {
			x := right(y)
			x.m, x.goal, x.weights, x.most = m, slices.Clone(m), make([]int, y.Places), 1
			x.set = sets(y.Places)[source.IntN(1<<y.Places)]
			mBefore, setBefore := slices.Clone(m), slices.Clone(x.set)
			results := resultsOf(y, x)
			for i, result := range results {
				for k := range result {
					result[k] = -99 - i
				}
				_ = append(result, -99)
			}
			for i, result := range results {
				if slices.ContainsFunc(result, func(number int) bool { return number != -99-i }) {
					t.Fatalf("R5: results share memory: %v, %v", y, x)
				}
			}
			callAll(y, x)
			isChanged := !same(y, before) || !slices.Equal(m, mBefore) || !slices.Equal(x.goal, mBefore) || !slices.Equal(x.set, setBefore) ||
				sumOf(x.counts) != 0 || slices.Max(x.weights) != 0 || slices.Min(x.weights) != 0 || !slices.Equal(x.list, []int{0})
			if isChanged {
				t.Fatalf("R5: an argument has changed: %v, %v", y, x)
			}
		}
	}
}

// resultsOf has all lists that functions give for these arguments.
func resultsOf(y api.Yard, x arguments) [][]int {
	var results [][]int
	keep := func(list []int, _ api.Errno) { results = append(results, list) }
	keep(dry.Do(y, x.m, 0))
	for _, list := range [][]int{nil, x.list} {
		end, _, e := dry.Run(y, x.m, list)
		keep(end, e)
		keep(dry.Counts(y, list))
	}
	keep(dry.Effect(y, x.counts))
	if len(y.Steps) > 0 {
		order, _, e := dry.Order(y, x.m, countsOf(y, x.list))
		keep(order, e)
	}
	way, _, e := dry.Way(y, x.m, x.goal, x.most)
	keep(way, e)
	keep(dry.Siphon(y, x.set))
	keep(dry.Trap(y, x.set))
	turned, _ := dry.Turn(y)
	for _, s := range turned.Steps {
		results = append(results, s.Take, s.Give)
	}
	return results
}

func TestEqualCalls(t *testing.T) {
	source := rand.New(rand.NewPCG(2, 6))
	for _, y := range some() {
		for _, m := range fillings(source, y) {
			x := right(y)
			x.m, x.goal, x.most = m, randomFilling(source, y), 2
			first, all := resultsOf(y, x), callAll(y, x)
			for range 2 {
				if again := resultsOf(clone(y), x); !slices.EqualFunc(first, again, slices.Equal[[]int]) {
					t.Errorf("R11: %v in %v: %v, then %v", x, y, first, again)
				}
				for name, got := range callAll(clone(y), x) {
					if got != all[name] {
						t.Errorf("R11: %s of %v in %v: %v, then %v", name, x, y, all[name], got)
					}
				}
			}
		}
	}
}
