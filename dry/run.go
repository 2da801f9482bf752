package dry

import (
	"slices"

	"turbary/api"
)

// filling is a filling that can be compared, and be a key of a map; it has 0 where a yard has no place.
type filling [api.MaxPlaces]int

// CanDo: see P6.2.
func CanDo(y api.Yard, m []int, step int) (bool, api.Errno) {
	if e := validateStep(y, m, step); e != api.OK {
		return false, e
	}
	return fillingOf(m).allows(y.Steps[step]), api.OK
}

// Do: see P6.2.
func Do(y api.Yard, m []int, step int) ([]int, api.Errno) {
	if e := validateStep(y, m, step); e != api.OK {
		return nil, e
	}
	after, e := fillingOf(m).do(y.Steps[step])
	if e != api.OK {
		return nil, e
	}
	return after.in(y), api.OK
}

// Run: see P6.2.
func Run(y api.Yard, m, list []int) ([]int, int, api.Errno) {
	if e := validateFillings(y, m); e != api.OK {
		return nil, 0, e
	}
	if e := checkList(y, list); e != api.OK {
		return nil, 0, e
	}
	now := fillingOf(m)
	for k, step := range list {
		after, e := now.do(y.Steps[step])
		if e != api.OK {
			return nil, k, e
		}
		now = after
	}
	return now.in(y), len(list), api.OK
}

// IsStuck: see P6.2.
func IsStuck(y api.Yard, m []int) (bool, api.Errno) {
	if e := validateFillings(y, m); e != api.OK {
		return false, e
	}
	return !slices.ContainsFunc(y.Steps, fillingOf(m).allows), api.OK
}

// Effect: see P6.2.
func Effect(y api.Yard, counts []int) ([]int, api.Errno) {
	if e := Validate(y); e != api.OK {
		return nil, e
	}
	if !areCounts(y, counts) {
		return nil, api.ErrArg
	}
	sum := make([]int, y.Places)
	for step, times := range counts {
		for p, change := range effect(y.Steps[step]) {
			sum[p] += times * change
		}
	}
	return sum, api.OK
}

// Counts: see P6.2.
func Counts(y api.Yard, list []int) ([]int, api.Errno) {
	if e := Validate(y); e != api.OK {
		return nil, e
	}
	if e := checkList(y, list); e != api.OK {
		return nil, e
	}
	counts := make([]int, len(y.Steps))
	for _, step := range list {
		counts[step]++
	}
	return counts, api.OK
}

func fillingOf(m []int) filling {
	var f filling
	copy(f[:], m)
	return f
}

// in has a number for each place of the yard only.
func (f filling) in(y api.Yard) []int {
	return slices.Clone(f[:y.Places])
}

func (f filling) allows(s api.Step) bool {
	for p, turves := range s.Take {
		if f[p] < turves {
			return false
		}
	}
	return true
}

func (f filling) do(s api.Step) (filling, api.Errno) {
	if !f.allows(s) {
		return filling{}, api.ErrRule
	}
	for p, change := range effect(s) {
		f[p] += change
	}
	if slices.Max(f[:]) > api.MaxHold {
		return filling{}, api.ErrLarge
	}
	return f, api.OK
}
