package moss_test

import (
	"testing"

	"turbary/api"
	"turbary/moss"
)

func TestSpreadOfExamples(t *testing.T) {
	for _, x := range []struct {
		m                     api.Meadow
		wet, step, end, steps int
	}{
		{meadow(2, 2, 2), 9, 15, 15, 1}, {meadow(2, 2, 2), 6, 15, 15, 1}, {meadow(2, 2, 2), 3, 3, 3, 0}, {meadow(2, 2, 3), 7, 7, 7, 0}, {meadow(2, 2, 3), 15, 15, 15, 0}, {meadow(1, 4, 1), 1, 3, 15, 3},
		{meadow(1, 4, 1), 0, 0, 0, 0}, {meadow(4, 1, 1), 2, 7, 15, 2}, {meadow(1, 1, 1), 0, 0, 0, 0}, {meadow(1, 1, 3), 1, 1, 1, 0}, {meadow(6, 6, 1), 1, 1 | 1<<1 | 1<<6, 1<<36 - 1, 10}, {meadow(6, 6, 3), 1<<36 - 1, 1<<36 - 1, 1<<36 - 1, 0},
		// All become wet at once: what becomes wet in a step does not count in the same step.
		{meadow(1, 3, 1), 1, 3, 7, 2}, {meadow(1, 3, 1), 4, 6, 7, 2}, {meadow(3, 3, 3), 0b101_010_101, 0b111_111_111, 0b111_111_111, 1},
	} {
		if got, e := moss.Step(x.m, x.wet); got != x.step || e != api.OK {
			t.Errorf("P8.2: step of %b in %v: %b %v, not %b", x.wet, x.m, got, e, x.step)
		}
		if got, steps, e := moss.Spread(x.m, x.wet); got != x.end || steps != x.steps || e != api.OK {
			t.Errorf("P8.2: %b in %v spreads to %b in %d, not %b in %d: %v", x.wet, x.m, got, steps, x.end, x.steps, e)
		}
		if got, e := moss.Fills(x.m, x.wet); got != (x.end == full(x.m)) || e != api.OK {
			t.Errorf("P8.2: %b fills %v: %v %v", x.wet, x.m, got, e)
		}
	}
}

func TestSpread(t *testing.T) {
	fills := map[bool]int{}
	for _, m := range every() {
		for _, wet := range sets(m) {
			days := daysOf(m, wet)
			end := days[len(days)-1]
			if got, e := moss.Step(m, wet); got != days[min(1, len(days)-1)] || e != api.OK {
				t.Errorf("P8.2: step of %b in %v: %b %v, not %b", wet, m, got, e, stepOf(m, wet))
			}
			if got, steps, e := moss.Spread(m, wet); got != end || steps != len(days)-1 || e != api.OK {
				t.Errorf("P8.2: %b in %v spreads to %b in %d, not %b in %d: %v", wet, m, got, steps, end, len(days)-1, e)
			}
			if got, e := moss.Fills(m, wet); got != (end == full(m)) || e != api.OK {
				t.Errorf("P8.2: %b fills %v: %v %v", wet, m, got, e)
			}
			fills[end == full(m)]++
		}
	}
	if min(fills[true], fills[false]) < 500 {
		t.Error("few cases:", fills)
	}
}

func TestDayOfExamples(t *testing.T) {
	for _, x := range []struct {
		m           api.Meadow
		wet, square int
		day         int
		ok          bool
	}{
		{meadow(1, 4, 1), 1, 0, 0, true}, {meadow(1, 4, 1), 1, 1, 1, true}, {meadow(1, 4, 1), 1, 3, 3, true}, {meadow(2, 2, 2), 9, 1, 1, true}, {meadow(2, 2, 2), 3, 2, 0, false}, {meadow(2, 2, 2), 3, 1, 0, true},
		{meadow(1, 1, 1), 0, 0, 0, false}, {meadow(1, 1, 1), 1, 0, 0, true}, {meadow(6, 6, 1), 1, 35, 10, true}, {meadow(6, 6, 2), 1 | 1<<35, 35, 0, true}, {meadow(6, 6, 2), 1 | 1<<35, 34, 0, false},
	} {
		if day, ok, e := moss.Day(x.m, x.wet, x.square); day != x.day || ok != x.ok || e != api.OK {
			t.Errorf("P8.2: day of %d with %b in %v: %d %v %v, not %d %v", x.square, x.wet, x.m, day, ok, e, x.day, x.ok)
		}
	}
}

func TestDay(t *testing.T) {
	for _, m := range every() {
		for _, wet := range sets(m) {
			days := daysOf(m, wet)
			for square := range m.Rows * m.Columns {
				want, wanted := 0, isIn(days[len(days)-1], square)
				for wanted && !isIn(days[want], square) {
					want++
				}
				if day, ok, e := moss.Day(m, wet, square); day != want || ok != wanted || e != api.OK {
					t.Errorf("P8.2: day of %d with %b in %v: %d %v %v, not %d %v", square, wet, m, day, ok, e, want, wanted)
				}
			}
		}
	}
}

func TestLargerSetsSpreadFurther(t *testing.T) {
	farther := map[bool]int{}
	for _, m := range every() {
		all := sets(m)
		for k, wet := range all {
			end, _, _ := moss.Spread(m, wet)
			if again, steps, e := moss.Spread(m, end); again != end || steps != 0 || e != api.OK || !within(wet, end) {
				t.Errorf("P8.2: %b in %v spreads to %b, which spreads to %b in %d: %v", wet, m, end, again, steps, e)
			}
			larger := wet | all[(7*k+1)%len(all)]
			if far, _, e := moss.Spread(m, larger); !within(end, far) || e != api.OK {
				t.Errorf("P8.2, S8: %b in %v spreads to %b, and %b to %b: %v", wet, m, end, larger, far, e)
			}
			if m.Need < api.MaxNeed {
				near, _, e := moss.Spread(meadow(m.Rows, m.Columns, m.Need+1), wet)
				if !within(near, end) || e != api.OK {
					t.Errorf("P8.2: %b in %v spreads to %b, and with a greater Need to %b: %v", wet, m, end, near, e)
				}
				farther[near != end]++
			}
		}
	}
	if min(farther[true], farther[false]) < 500 {
		t.Error("few cases:", farther)
	}
}
