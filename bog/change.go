package bog

import (
	"slices"

	"turbary/api"
	"turbary/cut"
	"turbary/heap"
	"turbary/moss"
	"turbary/tally"
)

// change does an order, or returns why it is refused. The lower layers have no errors then: what is in a tally is
// right, and what comes from the order has been looked at.
func (s site) change(now *tally.Tally, o order) api.Errno {
	switch o.kind {
	case dayOrder:
		return s.day(now)
	case cutOrder:
		return s.cut(now, o.numbers[0])
	case loadOrder:
		return s.load(now, o.numbers[0], o.numbers[1])
	case wetOrder:
		return s.wet(now, o.numbers[0], o.numbers[1])
	}
	return s.shut(now)
}

func (s site) day(now *tally.Tally) api.Errno {
	wet, _ := moss.Step(s.meadow, now.Wet)
	now.Wet = wet & now.Bare()
	now.Day++
	return api.OK
}

func (s site) cut(now *tally.Tally, column int) api.Errno {
	if column >= s.meadow.Columns {
		return api.ErrNone
	}
	if now.Shut {
		return api.ErrState
	}
	open, _ := cut.Open(s.bog, now.Hollow)
	row := now.Hollow[column]
	if !slices.Contains(open, column) || row > 0 && now.IsWet(row-1, column) {
		return api.ErrRule
	}
	before := now.OnHeaps()
	now.Turves, _, _ = heap.Drop(s.heaps, now.Turves, column)
	now.Ground += before + 1 - now.OnHeaps()
	now.Hollow = plus(now.Hollow, column, 1)
	now.Money += s.bog.Worth[column][row]
	now.Cut++
	return api.OK
}

func (s site) load(now *tally.Tally, column, number int) api.Errno {
	if column >= s.meadow.Columns {
		return api.ErrNone
	}
	if number == 0 {
		return api.ErrArg
	}
	if now.Turves[column] < number {
		return api.ErrShort
	}
	now.Turves = plus(now.Turves, column, -number)
	now.Loaded += number
	now.Money += number
	return api.OK
}

func (s site) wet(now *tally.Tally, row, column int) api.Errno {
	if row >= s.meadow.Rows || column >= s.meadow.Columns {
		return api.ErrNone
	}
	if row >= now.Hollow[column] {
		return api.ErrState
	}
	if now.IsWet(row, column) {
		return api.ErrTwice
	}
	now.Wet |= 1 << now.Square(row, column)
	return api.OK
}

func (s site) shut(now *tally.Tally) api.Errno {
	if now.Shut {
		return api.ErrTwice
	}
	now.Shut = true
	return api.OK
}

// plus is a new list with one number changed.
func plus(numbers []int, at, by int) []int {
	list := slices.Clone(numbers)
	list[at] += by
	return list
}
