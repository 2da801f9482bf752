package cut_test

import (
	"math/rand/v2"
	"slices"
	"testing"

	"turbary/api"
	"turbary/cut"
)

func TestCheckProofOfExamples(t *testing.T) {
	for _, x := range []struct {
		b     api.Bog
		proof []api.Pass
		want  int
	}{
		{single(), nil, 5}, {single(), []api.Pass{pass(0, 1, 0, 3)}, 2}, {single(), []api.Pass{pass(0, 1, 0, 1), pass(0, 1, 0, 2)}, 2},
		{single(), []api.Pass{pass(0, 1, 0, 8)}, 5}, {single(), []api.Pass{pass(0, 1, 0, api.MaxPass)}, 997},
		{three(), []api.Pass{pass(0, 1, 1, 1)}, 4}, {three(), []api.Pass{pass(0, 1, 0, 3), pass(0, 1, 1, 1)}, 1}, {three(), []api.Pass{pass(2, 1, 1, 2)}, 6},
		{single(), slices.Repeat([]api.Pass{pass(0, 1, 0, api.MaxPass)}, api.MaxPasses), 59997},
		{rich(), slices.Repeat([]api.Pass{pass(5, 3, 4, 1)}, 50), 900}, {flat(3, 1, 2), nil, 6},
	} {
		if got, e := cut.CheckProof(x.b, x.proof); got != x.want || e != api.OK {
			t.Errorf("P4.5: %v for %v: %d %v", x.proof, x.b, got, e)
		}
	}
}

func TestCheckProofByRandomPasses(t *testing.T) {
	source := rand.New(rand.NewPCG(5, 4))
	for _, b := range some() {
		_, best := bestOf(b)
		all := passesOf(b)
		if len(all) == 0 {
			continue
		}
		for range 20 {
			proof := make([]api.Pass, source.IntN(api.MaxPasses+1))
			for k := range proof {
				proof[k] = all[source.IntN(len(all))]
				proof[k].Amount = 1 + source.IntN([]int{5, 50, api.MaxPass}[k%3])
			}
			got, e := cut.CheckProof(b, proof)
			if got != proved(b, proof) || e != api.OK {
				t.Errorf("P4.5: %v for %v: %d, not %d: %v", proof, b, got, proved(b, proof), e)
			}
			if got < best {
				t.Errorf("S4: %v for %v proves %d, below %d", proof, b, got, best)
			}
		}
	}
}

func TestAllPassesAreAllowed(t *testing.T) {
	for _, b := range []api.Bog{flat(6, 4, 0), flat(1, 4, 0), flat(6, 2, 0), flat(6, 1, 0), flat(2, 3, 0)} {
		all := passesOf(b)
		for column := -1; column <= 6; column++ {
			for row := -1; row <= 5; row++ {
				for to := -2; to <= 7; to++ {
					p := pass(column, row, to, 1)
					want := api.ErrNone
					if slices.Contains(all, p) {
						want = api.OK
					}
					if _, e := cut.CheckProof(b, []api.Pass{p}); e != want {
						t.Errorf("P4.5: %v for %v: %v", p, b, e)
					}
				}
			}
		}
	}
}

func TestErrorsOfProofs(t *testing.T) {
	right, none, none0 := pass(1, 1, 0, 1), pass(1, 1, 3, 1), pass(1, 1, 3, 0)
	for _, x := range []struct {
		proof []api.Pass
		want  api.Errno
	}{
		{slices.Repeat([]api.Pass{right}, api.MaxPasses), api.OK}, {slices.Repeat([]api.Pass{right}, api.MaxPasses+1), api.ErrLarge},
		{make([]api.Pass, api.MaxPasses+1), api.ErrLarge}, {make([]api.Pass, api.MaxPasses), api.ErrNone},
		{[]api.Pass{none}, api.ErrNone}, {[]api.Pass{none0}, api.ErrNone}, {[]api.Pass{pass(1, 1, 1, 0)}, api.ErrArg},
		{[]api.Pass{right, none, pass(1, 1, 1, 0)}, api.ErrNone}, {[]api.Pass{right, pass(1, 1, 1, 0), none}, api.ErrArg},
		{[]api.Pass{pass(1, 1, 1, api.MaxPass+1), none0}, api.ErrArg}, {[]api.Pass{right, pass(1, 1, 2, api.MaxPass)}, api.OK},
		{[]api.Pass{pass(1, 1, 1, -1)}, api.ErrArg}, {[]api.Pass{pass(1, 1, 1, lowest)}, api.ErrArg}, {[]api.Pass{pass(1, 1, 1, highest)}, api.ErrArg},
		{[]api.Pass{pass(0, 0, 0, 1)}, api.ErrNone}, {[]api.Pass{pass(0, 2, 0, 1)}, api.ErrNone}, {[]api.Pass{pass(0, 1, 2, 1)}, api.ErrNone},
		{[]api.Pass{pass(0, 1, -1, 1)}, api.ErrNone}, {[]api.Pass{pass(2, 1, 3, 1)}, api.ErrNone}, {[]api.Pass{pass(3, 1, 2, 1)}, api.ErrNone}, {[]api.Pass{pass(-1, 1, 0, 1)}, api.ErrNone},
		{[]api.Pass{pass(lowest, 1, highest, 1)}, api.ErrNone}, {[]api.Pass{pass(highest, 1, lowest, 1)}, api.ErrNone}, {[]api.Pass{pass(0, lowest, 0, 1)}, api.ErrNone},
		{[]api.Pass{pass(0, highest, 0, 1)}, api.ErrNone}, {[]api.Pass{pass(0, 1, lowest, 1)}, api.ErrNone}, {[]api.Pass{pass(0, 1, highest, lowest)}, api.ErrNone},
	} {
		if got, e := cut.CheckProof(three(), x.proof); e != x.want || e != api.OK && got != 0 {
			t.Errorf("P4.5: %v: %d %v", x.proof, got, e)
		}
	}
}

func TestProof(t *testing.T) {
	source := rand.New(rand.NewPCG(6, 4))
	list := some()
	for i := range 400 {
		list = append(list, random(source, 1+source.IntN(api.MaxColumns), 1+source.IntN(api.MaxDepth), 50, i%2 == 0))
	}
	for _, b := range list {
		_, best := bestOf(b)
		proof, e := cut.Proof(b)
		if e != api.OK || len(proof) > api.MaxPasses {
			t.Errorf("P4.5: proof for %v: %d passes, %v", b, len(proof), e)
		}
		if got, e := cut.CheckProof(b, proof); got != best || e != api.OK {
			t.Errorf("P4.5, S4: proof %v for %v: %d, not %d: %v", proof, b, got, best, e)
		}
		if got := proved(b, proof); got != best {
			t.Errorf("P4.5, S4: proof %v for %v proves %d, not %d", proof, b, got, best)
		}
	}
}

func TestMemory(t *testing.T) {
	b := even()
	h, k := []int{0, 1, 2, 1, 0}, []int{1, 1, 1, 0, 0}
	proof := []api.Pass{pass(2, 1, 2, 3)}
	var results [][]int
	keep := func(list []int, _ api.Errno) { results = append(results, list) }
	best, _, e := cut.Best(b)
	keep(best, e)
	deepest, _, e := cut.Deepest(b)
	keep(deepest, e)
	keep(cut.Both(b, h, h))
	keep(cut.Either(b, k, h))
	keep(cut.Under(b, h))
	over, _, e := cut.Over(b, h)
	keep(over, e)
	keep(cut.Unrank(b, 20))
	keep(cut.Open(b, h))
	ended, _, e := cut.CheckOrder(b, []int{0, 1})
	keep(ended, e)
	keep(cut.Order(b, h))
	for _, change := range []func() (api.Bog, api.Errno){func() (api.Bog, api.Errno) { return cut.Toll(b, 0) }, func() (api.Bog, api.Errno) { return cut.Mirror(b) }} {
		c, e := change()
		for _, column := range c.Worth {
			keep(column, e)
			_ = append(column, 99)
		}
		if slices.Contains(slices.Concat(c.Worth...), 99) {
			t.Error("R5: columns share memory:", c)
		}
	}
	for i, list := range results {
		if len(list) == 0 {
			t.Fatal("no result", i)
		}
		for c := range list {
			list[c] = 77
		}
	}
	_, _ = cut.CheckProof(b, proof)
	if !same(b, even()) || !slices.Equal(h, []int{0, 1, 2, 1, 0}) || !slices.Equal(k, []int{1, 1, 1, 0, 0}) || proof[0] != pass(2, 1, 2, 3) {
		t.Error("R5: an argument has changed:", b, h, k, proof)
	}
}

func TestEqualCalls(t *testing.T) {
	for _, b := range some() {
		before := clone(b)
		first := slices.Repeat([]int{1}, len(b.Worth))
		best, worth, _ := cut.Best(b)
		deepest, _, _ := cut.Deepest(b)
		proof, _ := cut.Proof(b)
		for range 3 {
			bestAgain, worthAgain, _ := cut.Best(before)
			deepestAgain, _, _ := cut.Deepest(before)
			proofAgain, _ := cut.Proof(before)
			if !slices.Equal(best, bestAgain) || worth != worthAgain || !slices.Equal(deepest, deepestAgain) || !slices.Equal(proof, proofAgain) {
				t.Errorf("R11: %v: %v %d %v %v, then %v %d %v %v", b, best, worth, deepest, proof, bestAgain, worthAgain, deepestAgain, proofAgain)
			}
		}
		callAll(b, first, first, 1, proof)
		if !same(b, before) || slices.Max(first) != 1 || slices.Min(first) != 1 {
			t.Errorf("R5: %v has become %v, %v", before, b, first)
		}
	}
}
