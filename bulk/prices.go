package bulk

import "turbary/api"

// CheckPrices: see P7.3.
func CheckPrices(t api.Trade, p api.Prices) api.Errno {
	if e := Validate(t); e != api.OK {
		return e
	}
	if !arePrices(p.Stores, len(t.Supply)) || !arePrices(p.Buyers, len(t.Demand)) {
		return api.ErrArg
	}
	for i, row := range t.Cost {
		for j, cost := range row {
			if p.Stores[i]+p.Buyers[j] > cost {
				return api.ErrRule
			}
		}
	}
	return api.OK
}

// Worth: see P7.3.
func Worth(t api.Trade, p api.Prices) (int, api.Errno) {
	if e := CheckPrices(t, p); e != api.OK {
		return 0, e
	}
	return product(p.Stores, t.Supply) + product(p.Buyers, t.Demand), api.OK
}

// Prove: see P7.3.
func Prove(t api.Trade) (api.Prices, api.Errno) {
	if e := Validate(t); e != api.OK {
		return api.Prices{}, e
	}
	_, prices := best(t)
	return prices, api.OK
}

func arePrices(prices []int, count int) bool {
	return areNumbers(prices, count, -api.MaxPrice, api.MaxPrice)
}
