package moss_test

import (
	"testing"

	"turbary/api"
	"turbary/moss"
)

func TestTurnAndMirrorOfExamples(t *testing.T) {
	for _, x := range []struct {
		m            api.Meadow
		wet          int
		turned       api.Meadow
		want, mirror int
	}{
		{meadow(2, 3, 1), 0b001_001, meadow(3, 2, 1), 0b00_00_11, 0b100_100}, {meadow(2, 3, 2), 0b000_001, meadow(3, 2, 2), 0b00_00_10, 0b000_100}, {meadow(2, 3, 3), 0b100_000, meadow(3, 2, 3), 0b01_00_00, 0b001_000}, {meadow(2, 3, 1), 0b110_011, meadow(3, 2, 1), 0b01_11_10, 0b011_110},
		{meadow(1, 4, 1), 0b0011, meadow(4, 1, 1), 0b0011, 0b1100}, {meadow(4, 1, 1), 0b0011, meadow(1, 4, 1), 0b1100, 0b0011}, {meadow(1, 1, 1), 1, meadow(1, 1, 1), 1, 1}, {meadow(3, 3, 2), 0, meadow(3, 3, 2), 0, 0}, {meadow(6, 6, 2), 1 << 35, meadow(6, 6, 2), 1 << 30, 1 << 30},
	} {
		if turned, got, e := moss.Turn(x.m, x.wet); turned != x.turned || got != x.want || e != api.OK {
			t.Errorf("P8.5: %b in %v is turned to %b in %v: %v", x.wet, x.m, got, turned, e)
		}
		if got, e := moss.Mirror(x.m, x.wet); got != x.mirror || e != api.OK {
			t.Errorf("P8.5: %b in %v is mirrored to %b: %v", x.wet, x.m, got, e)
		}
	}
}

func TestTurnAndMirror(t *testing.T) {
	for _, m := range every() {
		for _, wet := range sets(m) {
			turned, after, e := moss.Turn(m, wet)
			mirror, f := moss.Mirror(m, wet)
			if turned != meadow(m.Columns, m.Rows, m.Need) || e != api.OK || f != api.OK {
				t.Errorf("P8.5: %v is turned to %v: %v %v", m, turned, e, f)
			}
			if len(listOf(wet)) != len(listOf(after)) || len(listOf(wet)) != len(listOf(mirror)) {
				t.Errorf("P8.5: %b in %v is turned to %b and mirrored to %b", wet, m, after, mirror)
			}
			for square := range m.Rows * m.Columns {
				row, column := square/m.Columns, square%m.Columns
				if isIn(wet, square) != isIn(after, column*m.Rows+m.Rows-1-row) {
					t.Errorf("P8.5: %b in %v is turned to %b", wet, m, after)
				}
				if isIn(wet, square) != isIn(mirror, row*m.Columns+m.Columns-1-column) {
					t.Errorf("P8.5: %b in %v is mirrored to %b", wet, m, mirror)
				}
			}
		}
	}
}

func TestTurnAndMirrorGoAlongWithStep(t *testing.T) {
	for _, m := range every() {
		for _, wet := range sets(m) {
			next, _ := moss.Step(m, wet)
			turned, after, _ := moss.Turn(m, wet)
			_, want, _ := moss.Turn(m, next)
			if got, e := moss.Step(turned, after); got != want || e != api.OK {
				t.Errorf("P8.5: step of %b in %v: %b %v, not %b", after, turned, got, e, want)
			}
			mirror, _ := moss.Mirror(m, wet)
			want, _ = moss.Mirror(m, next)
			if got, e := moss.Step(m, mirror); got != want || e != api.OK {
				t.Errorf("P8.5: step of %b in %v: %b %v, not %b", mirror, m, got, e, want)
			}
			if back, e := moss.Mirror(m, mirror); back != wet || e != api.OK {
				t.Errorf("P8.5: %b in %v is mirrored back to %b: %v", wet, m, back, e)
			}
			for range 3 {
				turned, after, _ = moss.Turn(turned, after)
			}
			if turned != m || after != wet {
				t.Errorf("P8.5: %b in %v is turned back to %b in %v", wet, m, after, turned)
			}
		}
	}
}
