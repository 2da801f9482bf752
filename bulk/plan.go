package bulk

import (
	"slices"

	"turbary/api"
)

// Corner: see P7.2.
func Corner(t api.Trade) ([][]int, api.Errno) {
	if e := Validate(t); e != api.OK {
		return nil, e
	}
	return corner(t), api.OK
}

// Least: see P7.2.
func Least(t api.Trade) (int, api.Errno) {
	if e := Validate(t); e != api.OK {
		return 0, e
	}
	plan, _ := best(t)
	return costOf(t, plan), api.OK
}

// Best: see P7.2.
func Best(t api.Trade) ([][]int, api.Errno) {
	if e := Validate(t); e != api.OK {
		return nil, e
	}
	plan, _ := best(t)
	return plan, api.OK
}

// IsBest: see P7.2.
func IsBest(t api.Trade, plan [][]int) (bool, api.Errno) {
	if e := CheckPlan(t, plan); e != api.OK {
		return false, e
	}
	_, amount := improve(t, plan).along(plan)
	return amount == 0, api.OK
}

// IsSquare: see P7.2.
func IsSquare(t api.Trade) (bool, api.Errno) {
	if e := Validate(t); e != api.OK {
		return false, e
	}
	// Any two stores and buyers are made up of such beside each other, whose inequalities add up to theirs.
	for i := 1; i < len(t.Supply); i++ {
		for j := 1; j < len(t.Demand); j++ {
			if t.Cost[i-1][j-1]+t.Cost[i][j] > t.Cost[i-1][j]+t.Cost[i][j-1] {
				return false, api.OK
			}
		}
	}
	return true, api.OK
}

func corner(t api.Trade) [][]int {
	plan := make([][]int, len(t.Supply))
	for i := range plan {
		plan[i] = make([]int, len(t.Demand))
	}
	has, wants := slices.Clone(t.Supply), slices.Clone(t.Demand)
	for i, j := 0, 0; i < len(has) && j < len(wants); {
		tons := min(has[i], wants[j])
		plan[i][j] = tons
		has[i] -= tons
		wants[j] -= tons
		if has[i] == 0 {
			i++
		} else {
			j++
		}
	}
	return plan
}

// best is a plan with the smallest cost, and the prices that prove it. It comes to an end, as each round makes
// the plan cheaper.
func best(t api.Trade) ([][]int, api.Prices) {
	plan := corner(t)
	for {
		switch found := improve(t, plan).(type) {
		case shift:
			plan, _ = found.along(plan)
		case proof:
			return plan, api.Prices(found)
		}
	}
}
