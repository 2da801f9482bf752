package dry

import (
	"slices"

	"turbary/api"
)

// The numbers of the kinds in their table.
const (
	siphon = iota
	trap
)

// kind is a kind of sets: each step that has a place of the set in what it asks by has one in what it answers by.
type kind struct {
	asks, answers func(s api.Step) []int
}

// IsSiphon: see P6.5.
func IsSiphon(y api.Yard, set []int) (bool, api.Errno) {
	return isOfKind(y, set, siphon)
}

// IsTrap: see P6.5.
func IsTrap(y api.Yard, set []int) (bool, api.Errno) {
	return isOfKind(y, set, trap)
}

// Siphon: see P6.5.
func Siphon(y api.Yard, set []int) ([]int, api.Errno) {
	return greatest(y, set, siphon)
}

// Trap: see P6.5.
func Trap(y api.Yard, set []int) ([]int, api.Errno) {
	return greatest(y, set, trap)
}

func kinds() [2]kind {
	take := func(s api.Step) []int { return s.Take }
	give := func(s api.Step) []int { return s.Give }
	return [...]kind{siphon: {asks: give, answers: take}, trap: {asks: take, answers: give}}
}

func isOfKind(y api.Yard, set []int, number int) (bool, api.Errno) {
	if e := validateSet(y, set); e != api.OK {
		return false, e
	}
	return kinds()[number].breaker(y, set) < 0, api.OK
}

// greatest returns the greatest set of a kind that lies in a set. As long as a step breaks what is left, no place
// that it asks by is in any set of the kind that lies in there.
func greatest(y api.Yard, set []int, number int) ([]int, api.Errno) {
	if e := validateSet(y, set); e != api.OK {
		return nil, e
	}
	k, left := kinds()[number], slices.Clone(set)
	for step := k.breaker(y, left); step >= 0; step = k.breaker(y, left) {
		asked := k.asks(y.Steps[step])
		left = slices.DeleteFunc(left, func(p int) bool { return asked[p] > 0 })
	}
	return left, api.OK
}

// breaker is the first step because of which a set is not of the kind, or -1.
func (k kind) breaker(y api.Yard, set []int) int {
	return slices.IndexFunc(y.Steps, func(s api.Step) bool {
		return haveAny(k.asks(s), set) && !haveAny(k.answers(s), set)
	})
}

// haveAny reports whether some of the turves are of a place of the set.
func haveAny(turves, set []int) bool {
	return slices.ContainsFunc(set, func(p int) bool { return turves[p] > 0 })
}

// validateSet returns the errors of the yard, then that of a set.
func validateSet(y api.Yard, set []int) api.Errno {
	if e := Validate(y); e != api.OK {
		return e
	}
	if !areWithin(set, 0, y.Places-1) {
		return api.ErrArg
	}
	for k := 1; k < len(set); k++ {
		if set[k-1] >= set[k] {
			return api.ErrArg
		}
	}
	return api.OK
}
