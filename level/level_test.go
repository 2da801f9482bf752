package level_test

import (
	"math/big"
	"slices"
	"testing"

	"turbary/api"
	"turbary/level"
)

func TestValidate(t *testing.T) {
	for want, list := range broken() {
		for i, s := range list {
			if e := level.Validate(s); e != want {
				t.Errorf("P1.1: %v of %d: %v", want, i, e)
			}
		}
	}
	right := append(some(100), survey(api.MaxPoints), survey(2, reading(1, 0, -api.MaxRise, api.MaxWeight), reading(0, 1, api.MaxRise, 1)))
	right = append(right, api.Survey{Points: 5, Readings: slices.Repeat([]api.Reading{reading(4, 0, 0, 2)}, api.MaxReadings)})
	for _, s := range right {
		if e := level.Validate(s); e != api.OK {
			t.Errorf("P1.1: %v: %v", s, e)
		}
	}
}

// nothing is what a function gave beside its error: true if that was the zero value only.
type nothing struct {
	zero bool
	e    api.Errno
}

// callAll calls each function but Validate, with other arguments that have errors, too.
func callAll(s api.Survey) map[string]nothing {
	got := map[string]nothing{}
	parts, e := level.Parts(s)
	got["Parts"] = nothing{parts == nil, e}
	tree, e := level.Tree(s)
	got["Tree"] = nothing{tree == nil, e}
	heights, e := level.ByTree(s)
	got["ByTree"] = nothing{heights == nil, e}
	closures, e := level.Closures(s)
	got["Closures"] = nothing{closures == nil, e}
	is, e := level.IsTrue(s)
	got["IsTrue"] = nothing{!is, e}
	end, rise, e := level.Walk(s, -1, make([]int, api.MaxWalk+1))
	got["Walk"] = nothing{end == 0 && rise == 0, e}
	best, e := level.Best(s)
	got["Best"] = nothing{best == nil, e}
	residuals, e := level.Residuals(s)
	got["Residuals"] = nothing{residuals == nil, e}
	misfit, e := level.Misfit(s)
	got["Misfit"] = nothing{misfit == api.Rat{}, e}
	got["CheckBest"] = nothing{true, level.CheckBest(s, api.Table{})}
	number, e := level.Error(s, -1, 9)
	got["Error"] = nothing{number == api.Rat{}, e}
	share, e := level.Share(s, -1)
	got["Share"] = nothing{share == api.Rat{}, e}
	bridge, e := level.IsBridge(s, -1)
	got["IsBridge"] = nothing{!bridge, e}
	with, e := level.With(s, api.Reading{})
	got["With"] = nothing{isZero(with), e}
	without, e := level.Without(s, -1)
	got["Without"] = nothing{isZero(without), e}
	turn, e := level.Turn(s, -1)
	got["Turn"] = nothing{isZero(turn), e}
	raise, e := level.Raise(s, []int{greatest})
	got["Raise"] = nothing{isZero(raise), e}
	return got
}

func TestErrorsOfSurveysComeFirst(t *testing.T) {
	for want, list := range broken() {
		for i, s := range list {
			for name, got := range callAll(s) {
				if got.e != want || !got.zero {
					t.Errorf("P1.1, R2, R3: %s of %v of %d: %v", name, want, i, got)
				}
			}
		}
	}
}

func TestNoSuchPointOrReading(t *testing.T) {
	for _, p := range []int{-1, 3, least, greatest} {
		if end, rise, e := level.Walk(triangle(), p, make([]int, api.MaxWalk+1)); end != 0 || rise != 0 || e != api.ErrNone {
			t.Errorf("P1.1: walk from %d: %d %d %v", p, end, rise, e)
		}
		for _, pair := range [][2]int{{p, 0}, {0, p}, {p, p}} {
			if r, e := level.Error(triangle(), pair[0], pair[1]); r != (api.Rat{}) || e != api.ErrNone {
				t.Errorf("P1.1: error of %v: %v %v", pair, r, e)
			}
		}
	}
	for _, k := range []int{-1, 3, least, greatest} {
		if r, e := level.Share(triangle(), k); r != (api.Rat{}) || e != api.ErrNone {
			t.Errorf("P1.1: share of %d: %v %v", k, r, e)
		}
		if is, e := level.IsBridge(triangle(), k); is || e != api.ErrNone {
			t.Errorf("P1.1: bridge %d: %v %v", k, is, e)
		}
		if s, e := level.Without(triangle(), k); !isZero(s) || e != api.ErrNone {
			t.Errorf("P1.1: without %d: %v %v", k, s, e)
		}
		if s, e := level.Turn(triangle(), k); !isZero(s) || e != api.ErrNone {
			t.Errorf("P1.1: turn %d: %v %v", k, s, e)
		}
	}
	if _, e := level.Share(apart(), 0); e != api.ErrNone {
		t.Error("P1.1: there is no reading at all:", e)
	}
}

func TestWith(t *testing.T) {
	for _, s := range some(200) {
		r := reading(0, s.Points-1, -7, 3)
		longer, e := level.With(s, r)
		switch {
		case len(s.Readings) == api.MaxReadings:
			if !isZero(longer) || e != api.ErrLarge {
				t.Errorf("P1.5: %v with one too many: %v %v", s, longer, e)
			}
		case s.Points == 1:
			if !isZero(longer) || e != api.ErrArg {
				t.Errorf("P1.5: %v with a reading of a point and itself: %v %v", s, longer, e)
			}
		default:
			if want := append(slices.Clone(s.Readings), r); !same(longer, survey(s.Points, want...)) || e != api.OK {
				t.Errorf("P1.5: %v with %v: %v %v", s, r, longer, e)
			}
		}
	}
	for _, r := range []api.Reading{{}, reading(0, 2, 0, 1), reading(-1, 1, 0, 1), reading(1, 1, 0, 1), reading(0, 1, 1001, 1), reading(0, 1, -1001, 1), reading(0, 1, 0, 4), reading(0, 1, 0, 0)} {
		if s, e := level.With(double(), r); !isZero(s) || e != api.ErrArg {
			t.Errorf("P1.5: with %v: %v %v", r, s, e)
		}
	}
	full := api.Survey{Points: 2, Readings: slices.Repeat([]api.Reading{reading(0, 1, 0, 1)}, api.MaxReadings)}
	if s, e := level.With(full, api.Reading{}); !isZero(s) || e != api.ErrLarge {
		t.Error("P1.5: too many comes before a wrong one:", s, e)
	}
}

func TestWithoutAndTurn(t *testing.T) {
	for _, s := range some(200) {
		for k, r := range s.Readings {
			want := append(slices.Clone(s.Readings[:k]), s.Readings[k+1:]...)
			if got, e := level.Without(s, k); !same(got, survey(s.Points, want...)) || e != api.OK {
				t.Errorf("P1.5: %v without %d: %v %v", s, k, got, e)
			}
			turned := clone(s)
			turned.Readings[k] = reading(r.To, r.From, -r.Rise, r.Weight)
			got, e := level.Turn(s, k)
			if !same(got, turned) || e != api.OK {
				t.Errorf("P1.5: %v, %d turned: %v %v", s, k, got, e)
			}
			checkSameMisfitAndErrors(t, s, got)
		}
	}
}

func checkSameMisfitAndErrors(t *testing.T, a, b api.Survey) {
	t.Helper()
	before, _ := level.Misfit(a)
	after, e := level.Misfit(b)
	if before != after || e != api.OK {
		t.Errorf("P1.5: misfits of %v and %v: %v %v %v", a, b, before, after, e)
	}
	for i := range a.Points {
		for j := range a.Points {
			before, e := level.Error(a, i, j)
			after, f := level.Error(b, i, j)
			if before != after || e != f {
				t.Errorf("P1.5: errors of %d and %d of %v and %v: %v %v", i, j, a, b, before, after)
			}
		}
	}
}

func TestRaise(t *testing.T) {
	for i, s := range some(200) {
		heights := make([]int, s.Points)
		for p := range heights {
			heights[p] = (p*p*53+i*17)%400 - 200
		}
		want, fits := clone(s), true
		for k, r := range s.Readings {
			want.Readings[k].Rise += heights[r.To] - heights[r.From]
			fits = fits && max(want.Readings[k].Rise, -want.Readings[k].Rise) <= api.MaxRise
		}
		got, e := level.Raise(s, heights)
		if !fits {
			if !isZero(got) || e != api.ErrLarge {
				t.Errorf("P1.5: %v raised by %v: %v %v", s, heights, got, e)
			}
			continue
		}
		if !same(got, want) || e != api.OK {
			t.Errorf("P1.5: %v raised by %v: %v %v", s, heights, got, e)
		}
		checkSameMisfitAndErrors(t, s, got)
		checkRaisedBest(t, s, got, heights)
	}
}

func checkRaisedBest(t *testing.T, s, raised api.Survey, heights []int) {
	t.Helper()
	before, _ := level.Best(s)
	after, _ := level.Best(raised)
	for i, first := range smallest(s, all(s)) {
		want := new(big.Rat).Add(bigRat(before[i]), big.NewRat(int64(heights[i]-heights[first]), 1))
		if after[i] != ratOf(want) {
			t.Errorf("P1.5: best of %v raised by %v: %v, not %v at %d", s, heights, after, want, i)
		}
	}
}

func TestRaiseRefuses(t *testing.T) {
	for i, x := range []struct {
		heights []int
		want    api.Errno
	}{
		{[]int{1000, 1000}, api.OK}, {[]int{-1000, -1000}, api.OK}, {[]int{10, 997}, api.OK}, {[]int{10, 998}, api.ErrLarge},
		{[]int{1000, -10}, api.OK}, {[]int{1000, -11}, api.ErrLarge}, {nil, api.ErrArg}, {[]int{0}, api.ErrArg}, {[]int{0, 0, 0}, api.ErrArg},
		{[]int{1001, 1001}, api.ErrArg}, {[]int{-1001, 0}, api.ErrArg}, {[]int{0, 1001}, api.ErrArg}, {[]int{least, 0}, api.ErrArg}, {[]int{0, greatest}, api.ErrArg},
		{[]int{-1000, 1000, 0}, api.ErrArg},
	} {
		if s, e := level.Raise(double(), x.heights); e != x.want || e != api.OK && !isZero(s) {
			t.Errorf("P1.5: %d: %v %v", i, s, e)
		}
	}
	if s, e := level.Raise(double(), []int{6, 4}); !same(s, survey(2, reading(0, 1, 8, 1), reading(0, 1, 11, 2))) || e != api.OK {
		t.Error("P1.5:", s, e)
	}
}

// TestMemory changes each survey that came out, and looks whether the one that went in is as before.
func TestMemory(t *testing.T) {
	room := make([]api.Reading, 3, 8)
	copy(room, triangle().Readings)
	s := api.Survey{Points: 3, Readings: room}
	one, _ := level.With(s, reading(0, 1, 1, 1))
	two, _ := level.With(s, reading(0, 1, 2, 2))
	if one.Readings[3] != reading(0, 1, 1, 1) || two.Readings[3] != reading(0, 1, 2, 2) || room[:4][3] != (api.Reading{}) {
		t.Error("R5: surveys with one more reading share memory:", one, two, room[:4])
	}
	out, _ := level.Without(s, 0)
	turned, _ := level.Turn(s, 1)
	raised, _ := level.Raise(s, []int{0, 1, 2})
	for _, x := range []api.Survey{one, two, out, turned, raised} {
		clear(x.Readings)
		if !same(s, triangle()) {
			t.Fatal("R5: the argument has changed:", s)
		}
	}
}

func TestArgumentsStay(t *testing.T) {
	for _, s := range some(60) {
		kept := clone(s)
		first, second := callAll(s), callAll(s)
		for name := range first {
			if first[name] != second[name] {
				t.Errorf("R11: %s of %v: %v %v", name, s, first[name], second[name])
			}
		}
		if !same(s, kept) {
			t.Errorf("R5: %v has become %v", kept, s)
		}
	}
}
