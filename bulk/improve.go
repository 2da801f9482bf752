package bulk

import "turbary/api"

// improvement is what is found for a plan: a round that makes it cheaper, or the prices that prove that none does.
type improvement interface {
	// along is the plan after as many tons as possible have been shifted, and how many these are.
	along(plan [][]int) ([][]int, int)
}

// shift is a round along which tons are shifted.
type shift [][2]int

// proof is honest prices that are worth what the plan costs.
type proof api.Prices

func (s shift) along(plan [][]int) ([][]int, int) {
	amount := api.MaxTons
	for k, pair := range s {
		if k%2 == 1 {
			amount = min(amount, plan[pair[0]][pair[1]])
		}
	}
	after := copied(plan)
	for k, pair := range s {
		if k%2 == 0 {
			after[pair[0]][pair[1]] += amount
		} else {
			after[pair[0]][pair[1]] -= amount
		}
	}
	return after, amount
}

func (p proof) along(plan [][]int) ([][]int, int) {
	return copied(plan), 0
}

// label is the cost of the cheapest way found so far from any store to this store or buyer, and the buyer or the
// store just before on that way. A way leads from a store to a buyer by one ton more between them, and from a
// buyer to a store by one ton less.
type label struct {
	cost, before int
}

type labels struct {
	stores, buyers []label
}

// improve lowers the labels as often as there are stores. A way without a round leads on to fewer stores than
// that; so if a label is lowered even the last time, there is a round on its way, and along it the cost falls.
func improve(t api.Trade, plan [][]int) improvement {
	l := startLabels(t)
	lowered := -1
	for range t.Supply {
		l.lowerBuyers(t)
		lowered = l.lowerStores(t, plan)
		if lowered < 0 {
			return l.prices()
		}
	}
	return l.roundBefore(lowered)
}

// startLabels has each buyer at a cost above that of the way from any store.
func startLabels(t api.Trade) labels {
	l := labels{make([]label, len(t.Supply)), make([]label, len(t.Demand))}
	for j := range l.buyers {
		l.buyers[j].cost = api.MaxCost + 1
	}
	return l
}

func (l labels) lowerBuyers(t api.Trade) {
	for i, row := range t.Cost {
		for j, more := range row {
			if by := l.stores[i].cost + more; by < l.buyers[j].cost {
				l.buyers[j] = label{by, i}
			}
		}
	}
}

// lowerStores returns a store whose label it has lowered, or -1.
func (l labels) lowerStores(t api.Trade, plan [][]int) int {
	lowered := -1
	for i, row := range plan {
		for j, tons := range row {
			if by := l.buyers[j].cost - t.Cost[i][j]; tons > 0 && by < l.stores[i].cost {
				l.stores[i] = label{by, j}
				lowered = i
			}
		}
	}
	return lowered
}

// prices can be read off labels that nothing lowers any more: the label of a buyer is at most the cost above that
// of each store, and just the cost above it where there are tons.
func (l labels) prices() proof {
	return proof{Stores: listOf(len(l.stores), l.storePrice), Buyers: listOf(len(l.buyers), l.buyerPrice)}
}

func (l labels) storePrice(i int) int {
	return -l.stores[i].cost
}

func (l labels) buyerPrice(j int) int {
	return l.buyers[j].cost
}

func listOf(count int, price func(int) int) []int {
	prices := make([]int, count)
	for k := range prices {
		prices[k] = price(k)
	}
	return prices
}

// roundBefore goes back from a store by as many stores as there are, to be on the round for sure, and then once
// along it.
func (l labels) roundBefore(lowered int) shift {
	store := lowered
	for range l.stores {
		store = l.storeBefore(store)
	}
	buyer := l.stores[store].before
	found := shift{{l.buyers[buyer].before, buyer}}
	for at := l.storeBefore(store); at != store; at = l.storeBefore(at) {
		next := l.stores[at].before
		found = append(found, [2]int{at, next}, [2]int{l.buyers[next].before, next})
	}
	return append(found, [2]int{store, buyer})
}

func (l labels) storeBefore(store int) int {
	return l.buyers[l.stores[store].before].before
}
