package bulk

import (
	"slices"

	"turbary/api"
)

// Round: see P7.4.
func Round(t api.Trade, plan [][]int) ([][2]int, bool, api.Errno) {
	if e := CheckPlan(t, plan); e != api.OK {
		return nil, false, e
	}
	if found, ok := improve(t, plan).(shift); ok {
		return found, true, api.OK
	}
	return nil, false, api.OK
}

// Along: see P7.4.
func Along(t api.Trade, plan [][]int, round [][2]int) ([][]int, int, api.Errno) {
	if e := CheckPlan(t, plan); e != api.OK {
		return nil, 0, e
	}
	if e := checkRound(t, round); e != api.OK {
		return nil, 0, e
	}
	after, amount := shift(round).along(plan)
	return after, amount, api.OK
}

// checkRound returns the errors of a round alone.
func checkRound(t api.Trade, round [][2]int) api.Errno {
	if len(round) > 2*api.MaxStores {
		return api.ErrLarge
	}
	isNowhere := func(pair [2]int) bool { return !isStore(t, pair[0]) || !isBuyer(t, pair[1]) }
	if slices.ContainsFunc(round, isNowhere) {
		return api.ErrNone
	}
	if !isRound(round) {
		return api.ErrArg
	}
	return api.OK
}

func isRound(pairs [][2]int) bool {
	if len(pairs) < 4 || len(pairs)%2 != 0 {
		return false
	}
	for k, pair := range pairs {
		next, side := pairs[(k+1)%len(pairs)], k%2
		if pair[side] != next[side] || slices.Contains(pairs[:k], pair) {
			return false
		}
	}
	return true
}
