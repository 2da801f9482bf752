package dry_test

import (
	"math/rand/v2"
	"slices"
	"testing"

	"turbary/api"
	"turbary/dry"
)

func TestSiphonOfExamples(t *testing.T) {
	both := api.Yard{Places: 2, Steps: []api.Step{step([]int{3, 0}, []int{1, 2})}}
	// In the chain the steps pass turves on from each place to the next one; the last step stands first.
	chain := api.Yard{Places: 4, Steps: []api.Step{step([]int{0, 0, 1, 0}, []int{0, 0, 0, 1}), step([]int{0, 1, 0, 0}, []int{0, 0, 1, 0}), step([]int{1, 0, 0, 0}, []int{0, 1, 0, 0})}}
	for _, x := range []struct {
		y                 api.Yard
		set, siphon, trap []int
	}{
		{pair(), []int{0, 1}, []int{0, 1}, []int{0, 1}}, {pair(), []int{0}, nil, nil}, {pair(), nil, nil, nil}, {one(), []int{0}, []int{0}, nil}, {one(), []int{1}, nil, []int{1}}, {bare(3), []int{0, 2}, []int{0, 2}, []int{0, 2}},
		{both, []int{0}, []int{0}, []int{0}}, {both, []int{1}, nil, []int{1}}, {both, []int{0, 1}, []int{0, 1}, []int{0, 1}}, {chain, []int{0, 1, 2, 3}, []int{0, 1, 2, 3}, []int{0, 1, 2, 3}},
		{chain, []int{1, 2, 3}, nil, []int{1, 2, 3}}, {chain, []int{0, 1, 2}, []int{0, 1, 2}, nil}, {chain, []int{0, 2, 3}, []int{0}, []int{2, 3}}, {flood(), []int{0, 1, 2}, []int{2}, []int{0, 2}}, {flood(), []int{0, 1}, nil, []int{0}},
		{full(), []int{0}, nil, nil}, {full(), []int{0, 1}, []int{0, 1}, nil}, {ring(6), []int{0, 1, 2, 3, 4}, nil, nil}, {ring(1), []int{0}, []int{0}, []int{0}},
	} {
		if got, e := dry.Siphon(x.y, x.set); !slices.Equal(got, x.siphon) || e != api.OK {
			t.Errorf("P6.5: siphon in %v of %v: %v %v, not %v", x.set, x.y, got, e, x.siphon)
		}
		if got, e := dry.Trap(x.y, x.set); !slices.Equal(got, x.trap) || e != api.OK {
			t.Errorf("P6.5: trap in %v of %v: %v %v, not %v", x.set, x.y, got, e, x.trap)
		}
	}
}

func TestSiphonsAndTraps(t *testing.T) {
	seen := map[string]int{}
	for _, y := range some() {
		for _, set := range sets(y.Places) {
			is, e := dry.IsSiphon(y, set)
			if is != isSiphonOf(y, set) || e != api.OK {
				t.Errorf("P6.5: %v is a siphon of %v: %v %v", set, y, is, e)
			}
			isTrap, e := dry.IsTrap(y, set)
			if isTrap != isTrapOf(y, set) || e != api.OK {
				t.Errorf("P6.5: %v is a trap of %v: %v %v", set, y, isTrap, e)
			}
			siphon, e := dry.Siphon(y, set)
			if want := joinAll(y, set, isSiphonOf); !slices.Equal(siphon, want) || e != api.OK {
				t.Errorf("P6.5: siphon in %v of %v: %v %v, not %v", set, y, siphon, e, want)
			}
			trap, e := dry.Trap(y, set)
			if want := joinAll(y, set, isTrapOf); !slices.Equal(trap, want) || e != api.OK {
				t.Errorf("P6.5: trap in %v of %v: %v %v, not %v", set, y, trap, e, want)
			}
			for name, part := range map[string][]int{"siphon": siphon, "trap": trap} {
				if len(part) > 0 && len(part) < len(set) {
					seen[name]++
				}
			}
		}
	}
	if min(seen["siphon"], seen["trap"]) < 100 {
		t.Error("few cases:", seen)
	}
}

func TestTwoSiphonsTogether(t *testing.T) {
	for _, y := range some() {
		if y.Places > 4 {
			continue
		}
		for _, a := range sets(y.Places) {
			for _, b := range sets(y.Places) {
				first, _ := dry.IsSiphon(y, a)
				second, _ := dry.IsSiphon(y, b)
				if both, e := dry.IsSiphon(y, either(a, b)); first && second && !both || e != api.OK {
					t.Errorf("P6.5: %v and %v are siphons of %v, but not both together: %v", a, b, y, e)
				}
			}
		}
	}
}

func TestEmptySiphonsAndFilledTraps(t *testing.T) {
	source := rand.New(rand.NewPCG(14, 6))
	seen := map[string]int{}
	for _, y := range some() {
		if len(y.Steps) == 0 {
			continue
		}
		for _, set := range sets(y.Places)[1:] {
			m := randomFilling(source, y)
			if is, _ := dry.IsSiphon(y, set); is {
				for _, p := range set {
					m[p] = 0
				}
				list := randomList(source, y, m, 20)
				if end, _, e := dry.Run(y, m, list); turvesOf(end, set) != 0 || e != api.OK {
					t.Errorf("S6, P6.5: %v from %v in %v ends with %v: %v is not empty: %v", list, m, y, end, set, e)
				}
				seen["siphon"] += len(list)
			}
			if is, _ := dry.IsTrap(y, set); is && turvesOf(m, set) > 0 {
				list := randomList(source, y, m, 20)
				if end, _, e := dry.Run(y, m, list); turvesOf(end, set) == 0 || e != api.OK {
					t.Errorf("S6, P6.5: %v from %v in %v ends with %v: %v is empty: %v", list, m, y, end, set, e)
				}
				seen["trap"] += len(list)
			}
		}
	}
	if min(seen["siphon"], seen["trap"]) < 100 {
		t.Error("few steps:", seen)
	}
}

func TestTurn(t *testing.T) {
	source := rand.New(rand.NewPCG(15, 6))
	for _, y := range some() {
		want := clone(y)
		for k, s := range y.Steps {
			want.Steps[k] = step(s.Give, s.Take)
		}
		turned, e := dry.Turn(y)
		if !same(turned, want) || e != api.OK {
			t.Fatalf("P6.5: turn of %v: %v %v", y, turned, e)
		}
		if again, e := dry.Turn(turned); !same(again, y) || e != api.OK {
			t.Errorf("P6.5: turn of the turn of %v: %v %v", y, again, e)
		}
		for _, set := range sets(y.Places) {
			isSiphon, _ := dry.IsSiphon(y, set)
			if isTrap, e := dry.IsTrap(turned, set); isTrap != isSiphon || e != api.OK {
				t.Errorf("P6.5: %v is a siphon of %v: %v, and a trap of its turn: %v %v", set, y, isSiphon, isTrap, e)
			}
		}
		for _, m := range fillings(source, y) {
			if len(y.Steps) == 0 {
				continue
			}
			list := randomList(source, y, m, 20)
			end, _, _ := dry.Run(y, m, list)
			slices.Reverse(list)
			if back, _, e := dry.Run(turned, end, list); !slices.Equal(back, m) || e != api.OK {
				t.Errorf("P6.5: %v in the turn of %v leads from %v back to %v, not %v: %v", list, y, end, back, m, e)
			}
		}
	}
}
