package moss_test

import (
	"slices"
	"testing"

	"turbary/api"
	"turbary/moss"
)

func TestEdgeOfExamples(t *testing.T) {
	for _, x := range []struct{ rows, columns, set, want int }{
		{2, 2, 9, 8}, {2, 2, 15, 8}, {2, 2, 0, 0}, {2, 2, 7, 8}, {1, 1, 1, 4}, {1, 1, 0, 0}, {1, 6, 63, 14}, {6, 1, 0b101101, 14}, {3, 3, 1 << 4, 4}, {3, 3, 0b111_101_111, 16}, {2, 3, 0b110_001, 10}, {2, 3, 0b001_100, 8}, {6, 6, 1<<36 - 1, 24}, {2, 3, 0b001100 | 1<<4, 10},
	} {
		for need := range api.MaxNeed {
			if got, e := moss.Edge(meadow(x.rows, x.columns, need+1), x.set); got != x.want || e != api.OK {
				t.Errorf("P8.4: edge of %b in %d by %d: %d %v, not %d", x.set, x.rows, x.columns, got, e, x.want)
			}
		}
	}
}

func TestEdge(t *testing.T) {
	for _, m := range every() {
		for _, set := range sets(m) {
			if got, e := moss.Edge(m, set); got != edgeOf(m, set) || e != api.OK {
				t.Errorf("P8.4: edge of %b in %v: %d %v, not %d", set, m, got, e, edgeOf(m, set))
			}
		}
	}
}

func TestEdgeNeverGrows(t *testing.T) {
	grows := 0
	for _, m := range every() {
		for _, set := range sets(m) {
			after, _ := moss.Step(m, set)
			before, e := moss.Edge(m, set)
			edge, f := moss.Edge(m, after)
			if e != api.OK || f != api.OK || m.Need > 1 && edge > before {
				t.Errorf("S8, P8.4: edge of %b in %v: %d %v, that of %b after it: %d %v", set, m, before, e, after, edge, f)
			}
			if edge > before {
				grows++
			}
			if fills, _ := moss.Fills(m, set); fills && m.Need > 1 && 2*len(listOf(set)) < m.Rows+m.Columns {
				t.Errorf("P8.4: %b fills %v", set, m)
			}
		}
	}
	if grows == 0 {
		t.Error("P8.4: no edge grows, not even with a Need of 1")
	}
}

func TestThinOfExamples(t *testing.T) {
	for _, x := range []struct {
		m         api.Meadow
		wet, want int
	}{
		{meadow(2, 2, 2), 15, 6}, {meadow(2, 2, 2), 9, 9}, {meadow(2, 2, 2), 0, 0}, {meadow(2, 2, 2), 3, 3}, {meadow(2, 2, 3), 15, 15}, {meadow(2, 2, 1), 15, 1}, {meadow(2, 2, 1), 12, 4}, {meadow(1, 4, 1), 0b1010, 0b0010}, {meadow(1, 3, 2), 7, 5}, {meadow(1, 1, 1), 1, 1},
		{meadow(6, 6, 1), 1<<36 - 1, 1}, {meadow(3, 3, 3), 0b111_111_111, 0b101_010_101}, {meadow(3, 3, 2), 0b111_111_111, 0b001_000_101},
	} {
		if got, e := moss.Thin(x.m, x.wet); got != x.want || e != api.OK {
			t.Errorf("P8.4: %b in %v is thinned to %b %v, not %b", x.wet, x.m, got, e, x.want)
		}
	}
}

func TestThinAndNeeded(t *testing.T) {
	seen := map[bool]int{}
	for _, m := range every() {
		for _, wet := range sets(m) {
			end, want, wanted := endOf(m, wet), wet, []int{}
			for square := m.Rows*m.Columns - 1; square >= 0; square-- {
				if isIn(wet, square) && endOf(m, without(want, square)) == end {
					want = without(want, square)
				}
				if len(listOf(endOf(m, without(wet, square)))) < len(listOf(end)) {
					wanted = append([]int{square}, wanted...)
				}
			}
			if got, e := moss.Thin(m, wet); got != want || e != api.OK {
				t.Errorf("P8.4: %b in %v is thinned to %b %v, not %b", wet, m, got, e, want)
			}
			if got, e := moss.Needed(m, wet); !slices.Equal(got, wanted) || e != api.OK {
				t.Errorf("P8.4: needed of %b in %v: %v %v, not %v", wet, m, got, e, wanted)
			}
			seen[slices.Equal(wanted, listOf(want))]++
		}
	}
	if min(seen[true], seen[false]) < 500 {
		t.Error("few cases:", seen)
	}
}

func TestNeededOfExamples(t *testing.T) {
	for _, x := range []struct {
		m    api.Meadow
		wet  int
		want []int
	}{
		{meadow(2, 2, 2), 15, nil}, {meadow(2, 2, 2), 9, []int{0, 3}}, {meadow(2, 2, 2), 11, []int{0, 3}}, {meadow(2, 2, 3), 15, []int{0, 1, 2, 3}}, {meadow(1, 4, 1), 0b1010, nil}, {meadow(1, 4, 1), 0b0010, []int{1}}, {meadow(1, 3, 2), 7, []int{0, 2}}, {meadow(2, 2, 1), 0, nil}, {meadow(1, 1, 2), 1, []int{0}},
	} {
		if got, e := moss.Needed(x.m, x.wet); !slices.Equal(got, x.want) || e != api.OK {
			t.Errorf("P8.4: needed of %b in %v: %v %v, not %v", x.wet, x.m, got, e, x.want)
		}
	}
}

func TestFewestOfExamples(t *testing.T) {
	for _, x := range []struct {
		m         api.Meadow
		want, set int
		wanted    api.Errno
	}{
		{meadow(2, 2, 3), 4, 15, api.OK}, {meadow(2, 2, 2), 2, 6, api.OK}, {meadow(2, 2, 1), 1, 1, api.OK}, {meadow(1, 4, 1), 1, 1, api.OK}, {meadow(1, 1, 1), 1, 1, api.OK}, {meadow(1, 1, 3), 1, 1, api.OK}, {meadow(1, 4, 2), 3, 0b1011, api.OK}, {meadow(1, 5, 2), 3, 0b10101, api.OK},
		{meadow(3, 3, 2), 3, 0b001_000_101, api.OK}, {meadow(3, 4, 1), 1, 1, api.OK}, {meadow(2, 6, 1), 1, 1, api.OK}, {meadow(3, 5, 1), 0, 0, api.ErrLarge}, {meadow(5, 3, 3), 0, 0, api.ErrLarge}, {meadow(4, 4, 2), 0, 0, api.ErrLarge}, {meadow(6, 6, 1), 0, 0, api.ErrLarge},
	} {
		if got, set, e := moss.Fewest(x.m); got != x.want || set != x.set || e != x.wanted {
			t.Errorf("P8.4: fewest of %v: %d %b %v, not %d %b %v", x.m, got, set, e, x.want, x.set, x.wanted)
		}
	}
}

func TestFewest(t *testing.T) {
	for _, m := range every() {
		fewest := []int{37, 0}
		for set := full(m); set >= 0 && m.Rows*m.Columns <= 12; set-- {
			if size := len(listOf(set)); size <= fewest[0] && endOf(m, set) == full(m) {
				fewest = []int{size, set}
			}
		}
		want := api.OK
		if m.Rows*m.Columns > 12 {
			fewest, want = []int{0, 0}, api.ErrLarge
		}
		if got, set, e := moss.Fewest(m); got != fewest[0] || set != fewest[1] || e != want {
			t.Errorf("P8.4: fewest of %v: %d %b %v, not %v %v", m, got, set, e, fewest, want)
		}
	}
}
