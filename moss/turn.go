package moss

import "turbary/api"

// Turn: see P8.5.
func Turn(m api.Meadow, wet int) (api.Meadow, int, api.Errno) {
	if e := validateSet(m, wet); e != api.OK {
		return api.Meadow{}, 0, e
	}
	turned := api.Meadow{Rows: m.Columns, Columns: m.Rows, Need: m.Need}
	to := func(row, column int) int { return squareAt(turned, column, m.Rows-1-row) }
	return turned, moved(m, wet, to), api.OK
}

// Mirror: see P8.5.
func Mirror(m api.Meadow, wet int) (int, api.Errno) {
	if e := validateSet(m, wet); e != api.OK {
		return 0, e
	}
	to := func(row, column int) int { return squareAt(m, row, m.Columns-1-column) }
	return moved(m, wet, to), api.OK
}

// moved has each square of a set at its new number.
func moved(m api.Meadow, set int, to func(row, column int) int) int {
	after := 0
	for square := range squares(set) {
		after |= only(to(square/m.Columns, square%m.Columns))
	}
	return after
}
