// Package level is layer 1: it finds heights of points from readings of differences, and how far they err.
package level

import (
	"slices"

	"turbary/api"
)

// Validate: see P1.1.
func Validate(s api.Survey) api.Errno {
	if s.Points < 1 || s.Points > api.MaxPoints {
		return api.ErrArg
	}
	if len(s.Readings) > api.MaxReadings {
		return api.ErrLarge
	}
	for _, r := range s.Readings {
		if !isReading(s, r) {
			return api.ErrArg
		}
	}
	return api.OK
}

// With: see P1.5.
func With(s api.Survey, r api.Reading) (api.Survey, api.Errno) {
	if e := Validate(s); e != api.OK {
		return api.Survey{}, e
	}
	longer := copied(s)
	longer.Readings = append(longer.Readings, r)
	if e := Validate(longer); e != api.OK {
		return api.Survey{}, e
	}
	return longer, api.OK
}

// Without: see P1.5.
func Without(s api.Survey, k int) (api.Survey, api.Errno) {
	if e := validateReading(s, k); e != api.OK {
		return api.Survey{}, e
	}
	return without(s, k), api.OK
}

// Turn: see P1.5.
func Turn(s api.Survey, k int) (api.Survey, api.Errno) {
	if e := validateReading(s, k); e != api.OK {
		return api.Survey{}, e
	}
	changed := copied(s)
	changed.Readings[k] = turned(s.Readings[k])
	return changed, api.OK
}

// Raise: see P1.5.
func Raise(s api.Survey, heights []int) (api.Survey, api.Errno) {
	if e := Validate(s); e != api.OK {
		return api.Survey{}, e
	}
	if !areWithin(heights, s.Points, api.MaxRise) {
		return api.Survey{}, api.ErrArg
	}
	changed := copied(s)
	for k, r := range s.Readings {
		changed.Readings[k].Rise = r.Rise + heights[r.To] - heights[r.From]
		if !isWithin(changed.Readings[k].Rise, api.MaxRise) {
			return api.Survey{}, api.ErrLarge
		}
	}
	return changed, api.OK
}

// validateReading returns the errors of the survey, then that of the number of a reading.
func validateReading(s api.Survey, k int) api.Errno {
	if e := Validate(s); e != api.OK {
		return e
	}
	if k < 0 || k >= len(s.Readings) {
		return api.ErrNone
	}
	return api.OK
}

func isReading(s api.Survey, r api.Reading) bool {
	return isPoint(s, r.From) && isPoint(s, r.To) && r.From != r.To &&
		isWithin(r.Rise, api.MaxRise) && r.Weight >= 1 && r.Weight <= api.MaxWeight
}

func isPoint(s api.Survey, p int) bool {
	return p >= 0 && p < s.Points
}

// isWithin compares twice instead of taking the absolute value, which the least integer does not have.
func isWithin(number, most int) bool {
	return number >= -most && number <= most
}

func areWithin(numbers []int, count, most int) bool {
	if len(numbers) != count {
		return false
	}
	for _, number := range numbers {
		if !isWithin(number, most) {
			return false
		}
	}
	return true
}

func copied(s api.Survey) api.Survey {
	return api.Survey{Points: s.Points, Readings: slices.Clone(s.Readings)}
}

func without(s api.Survey, k int) api.Survey {
	shorter := copied(s)
	shorter.Readings = slices.Delete(shorter.Readings, k, k+1)
	return shorter
}

func turned(r api.Reading) api.Reading {
	return api.Reading{From: r.To, To: r.From, Rise: -r.Rise, Weight: r.Weight}
}
