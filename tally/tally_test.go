package tally_test

import (
	"testing"

	"turbary/api"
	"turbary/tally"
)

func peat() api.Bog { return api.Bog{Worth: [][]int{{3, 5, -2}, {-1, 2, 7}}} }

func heaps() api.Heaps {
	return api.Heaps{Links: [][]int{{0, 1}, {1, 0}}, Ground: []int{1, 1}}
}

// right is a tally with two blocks of the first column and one of the second one: one turf is on a heap, one is
// loaded, and one is on the ground.
func right() tally.Tally {
	return tally.Tally{
		Counts: tally.Counts{Day: 4, Wet: 0b101, Money: 8, Cut: 3, Loaded: 1, Ground: 1},
		Hollow: []int{2, 1},
		Turves: []int{0, 1},
	}
}

func TestRightTallies(t *testing.T) {
	shut := right()
	shut.Shut = true
	for _, x := range []tally.Tally{right(), shut, {Hollow: []int{0, 0}, Turves: []int{0, 0}}} {
		if !x.Agrees(peat(), heaps()) {
			t.Errorf("P9.3: %+v does not agree", x)
		}
	}
}

// changes make a tally wrong, each in one way.
var changes = map[string]func(x *tally.Tally){
	"a hollow that is not right":  func(x *tally.Tally) { x.Hollow, x.Cut, x.Ground, x.Money = []int{2, 0}, 2, 0, 9 },
	"a hollow that is too deep":   func(x *tally.Tally) { x.Hollow = []int{4, 3} },
	"a hollow below nothing":      func(x *tally.Tally) { x.Hollow = []int{-1, 0} },
	"a short hollow":              func(x *tally.Tally) { x.Hollow = []int{3} },
	"no hollow":                   func(x *tally.Tally) { x.Hollow = nil },
	"a hollow without an end":     func(x *tally.Tally) { x.Hollow = []int{1<<63 - 1, 1<<63 - 1} },
	"a heap that can topple":      func(x *tally.Tally) { x.Turves, x.Ground = []int{2, 0}, 0 },
	"a heap below nothing":        func(x *tally.Tally) { x.Turves, x.Ground = []int{-1, 1}, 2 },
	"too few heaps":               func(x *tally.Tally) { x.Turves = []int{1} },
	"a wet square that is uncut":  func(x *tally.Tally) { x.Wet |= 1 << 3 },
	"a wet square of a lower row": func(x *tally.Tally) { x.Wet |= 1 << 4 },
	"a wet square that is none":   func(x *tally.Tally) { x.Wet |= 1 << 6 },
	"wet squares below nothing":   func(x *tally.Tally) { x.Wet = -1 },
	"a turf more that was cut":    func(x *tally.Tally) { x.Cut, x.Ground = 4, 2 },
	"a turf less that was cut":    func(x *tally.Tally) { x.Cut, x.Ground = 2, 0 },
	"a turf more on the ground":   func(x *tally.Tally) { x.Ground++ },
	"a turf less on the ground":   func(x *tally.Tally) { x.Ground-- },
	"a turf more on a heap":       func(x *tally.Tally) { x.Turves = []int{1, 1} },
	"a turf less on a heap":       func(x *tally.Tally) { x.Turves = []int{0, 0} },
	"a turf more that is loaded":  func(x *tally.Tally) { x.Loaded, x.Money = 2, 9 },
	"money for a turf on a heap":  func(x *tally.Tally) { x.Money++ },
	"no money for a loaded turf":  func(x *tally.Tally) { x.Money-- },
	"no money for what was cut":   func(x *tally.Tally) { x.Money = 1 },
}

func TestWrongTallies(t *testing.T) {
	for name, change := range changes {
		x := right()
		if change(&x); x.Agrees(peat(), heaps()) {
			t.Errorf("P9.3: %s: %+v agrees", name, x)
		}
		if x.Equals(right()) || right().Equals(x) {
			t.Errorf("P9.3: %s: %+v equals %+v", name, x, right())
		}
	}
	for name, change := range map[string]func(x *tally.Tally){
		"day":  func(x *tally.Tally) { x.Day++ },
		"shut": func(x *tally.Tally) { x.Shut = true },
		"wet":  func(x *tally.Tally) { x.Wet = 0b001 },
	} {
		x := right()
		if change(&x); !x.Agrees(peat(), heaps()) || x.Equals(right()) || right().Equals(x) {
			t.Errorf("P9.3: another %s: %+v", name, x)
		}
	}
	if !right().Equals(right()) {
		t.Error("P9.3: equal tallies are not equal")
	}
}

func TestTallyOfNothing(t *testing.T) {
	var nothing tally.Tally
	if nothing.Agrees(api.Bog{}, api.Heaps{}) || nothing.Agrees(peat(), heaps()) || right().Agrees(api.Bog{}, heaps()) || right().Agrees(peat(), api.Heaps{}) {
		t.Error("P9.3: a tally of no bog or of no heaps agrees")
	}
	if nothing.Bare() != 0 || nothing.OnHeaps() != 0 || !nothing.Equals(tally.Tally{Hollow: []int{}, Turves: []int{}}) {
		t.Error("P9.3: a tally of nothing has something")
	}
}

func TestSquares(t *testing.T) {
	x := right()
	if x.Bare() != 0b111 || x.OnHeaps() != 1 || x.Square(2, 1) != 5 {
		t.Errorf("P9.3: %b, %d, %d", x.Bare(), x.OnHeaps(), x.Square(2, 1))
	}
	for square, want := range []bool{true, false, true, false, false, false} {
		if got := x.IsWet(square/2, square%2); got != want {
			t.Errorf("P9.3: square %d: %t", square, got)
		}
	}
}
