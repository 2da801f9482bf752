package core

import (
	"slices"

	"turbary/api"
)

// none stands for a layer where there is none.
const none = -1

// CheckDates: see P3.2.
func CheckDates(c api.Core, dates []int) api.Errno {
	if e := validateDates(c, dates); e != api.OK {
		return e
	}
	for _, x := range c.Bounds {
		if dates[x.B]-dates[x.A] > x.Most {
			return api.ErrProof
		}
	}
	return api.OK
}

// IsPossible: see P3.2.
func IsPossible(c api.Core) (bool, api.Errno) {
	_, is, e := Dates(c)
	return is, e
}

// Dates: see P3.2.
func Dates(c api.Core) ([]int, bool, api.Errno) {
	if e := Validate(c); e != api.OK {
		return nil, false, e
	}
	dates, _, last := lower(c)
	if last != none {
		return nil, false, api.OK
	}
	return dates, true, api.OK
}

// CheckClash: see P3.2.
func CheckClash(c api.Core, round []int) api.Errno {
	if e := Validate(c); e != api.OK {
		return e
	}
	if len(round) > api.MaxBounds {
		return api.ErrLarge
	}
	for _, k := range round {
		if k < 0 || k >= len(c.Bounds) {
			return api.ErrNone
		}
	}
	if !isRound(c, round) || sumOf(c, round) >= 0 {
		return api.ErrProof
	}
	return api.OK
}

// Clash: see P3.2.
func Clash(c api.Core) ([]int, bool, api.Errno) {
	if e := Validate(c); e != api.OK {
		return nil, false, e
	}
	_, by, at := lower(c)
	if at == none {
		return nil, false, api.OK
	}
	// The date that was lowered last was lowered because of one that had been lowered one time earlier at
	// most, and so on: there are too few layers for this, so that the way back goes into a round.
	for range c.Layers {
		at = c.Bounds[by[at]].A
	}
	round := []int{by[at]}
	for a := c.Bounds[by[at]].A; a != at; a = c.Bounds[by[a]].A {
		round = append(round, by[a])
	}
	slices.Reverse(round)
	return round, true, api.OK
}

// lower lowers dates, all 0 at first, to keep one bound after the other, as many times as there are layers.
// The list by has for each date that was lowered the bound that did it last. The layer last is one whose
// date was still lowered the last time. There is none exactly if the core does not clash: then a date is as
// low as it must be after one time for each other layer.
func lower(c api.Core) (dates, by []int, last int) {
	dates, by = make([]int, c.Layers), make([]int, c.Layers)
	for range c.Layers {
		last = none
		for k, x := range c.Bounds {
			if most := dates[x.A] + x.Most; most < dates[x.B] {
				dates[x.B], by[x.B], last = most, k, x.B
			}
		}
	}
	return dates, by, last
}

func isRound(c api.Core, round []int) bool {
	for i := range len(round) {
		next := round[(i+1)%len(round)]
		if c.Bounds[round[i]].B != c.Bounds[next].A {
			return false
		}
	}
	return len(round) > 0
}

func sumOf(c api.Core, round []int) int {
	sum := 0
	for _, k := range round {
		sum += c.Bounds[k].Most
	}
	return sum
}
