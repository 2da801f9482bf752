package bulk

import (
	"slices"

	"turbary/api"
)

// Toll: see P7.5.
func Toll(t api.Trade, store, by int) (api.Trade, api.Errno) {
	if e := Validate(t); e != api.OK {
		return api.Trade{}, e
	}
	if !isStore(t, store) {
		return api.Trade{}, api.ErrNone
	}
	changed := clone(t)
	for j, cost := range t.Cost[store] {
		// The bounds of by are compared, since the changed cost may be too large for an int.
		if by < -cost || by > api.MaxCost-cost {
			return api.Trade{}, api.ErrArg
		}
		changed.Cost[store][j] += by
	}
	return changed, api.OK
}

// Turn: see P7.5.
func Turn(t api.Trade) (api.Trade, api.Errno) {
	if e := Validate(t); e != api.OK {
		return api.Trade{}, e
	}
	return api.Trade{Supply: slices.Clone(t.Demand), Demand: slices.Clone(t.Supply), Cost: turned(t.Cost)}, api.OK
}

// Add: see P7.5.
func Add(t, o api.Trade) (api.Trade, api.Errno) {
	for _, trade := range []api.Trade{t, o} {
		if e := Validate(trade); e != api.OK {
			return api.Trade{}, e
		}
	}
	// The costs are equal only if the numbers of stores and buyers are.
	haveSameCosts := slices.EqualFunc(t.Cost, o.Cost, func(a, b []int) bool { return slices.Equal(a, b) })
	if !haveSameCosts {
		return api.Trade{}, api.ErrArg
	}
	added := clone(t)
	for i, tons := range o.Supply {
		added.Supply[i] += tons
	}
	for j, tons := range o.Demand {
		added.Demand[j] += tons
	}
	return checked(added)
}

// Merge: see P7.5.
func Merge(t api.Trade, i, j int) (api.Trade, api.Errno) {
	if e := Validate(t); e != api.OK {
		return api.Trade{}, e
	}
	if !isStore(t, i) || !isStore(t, j) {
		return api.Trade{}, api.ErrNone
	}
	if i == j {
		return api.Trade{}, api.ErrArg
	}
	merged := clone(t)
	merged.Supply[i] += t.Supply[j]
	for k, cost := range t.Cost[j] {
		merged.Cost[i][k] = min(merged.Cost[i][k], cost)
	}
	merged.Supply = slices.Delete(merged.Supply, j, j+1)
	merged.Cost = slices.Delete(merged.Cost, j, j+1)
	return checked(merged)
}

// checked returns a trade, or the error of an amount above the limit.
func checked(t api.Trade) (api.Trade, api.Errno) {
	if slices.Max(t.Supply) > api.MaxTons || slices.Max(t.Demand) > api.MaxTons {
		return api.Trade{}, api.ErrLarge
	}
	return t, api.OK
}

func clone(t api.Trade) api.Trade {
	return api.Trade{Supply: slices.Clone(t.Supply), Demand: slices.Clone(t.Demand), Cost: copied(t.Cost)}
}
