package bulk_test

import (
	"math/rand/v2"
	"slices"

	"turbary/api"
	"turbary/bulk"
)

const (
	lowest  = -1 << 63
	highest = 1<<63 - 1
)

func trade(supply, demand []int, cost ...[]int) api.Trade {
	return api.Trade{Supply: supply, Demand: demand, Cost: cost}
}

func prices(stores, buyers []int) api.Prices { return api.Prices{Stores: stores, Buyers: buyers} }

// example is the trade of the chapter's examples.
func example() api.Trade { return trade([]int{3, 4}, []int{5, 2}, []int{1, 2}, []int{3, 1}) }

// alone is the seventh example of DOC.md: it has one plan.
func alone() api.Trade { return trade([]int{5}, []int{2, 3}, []int{7, 9}) }

// none has no tons at all.
func none() api.Trade { return trade([]int{0, 0}, []int{0, 0, 0}, []int{1, 2, 3}, []int{3, 2, 1}) }

// full has as much as possible of everything.
func full() api.Trade {
	tons := slices.Repeat([]int{api.MaxTons}, api.MaxStores)
	return trade(tons, slices.Clone(tons), grid(api.MaxStores, api.MaxStores, api.MaxCost)...)
}

// crossed is cheap only where the corner has nothing: each plan but one costs more.
func crossed() api.Trade {
	t := full()
	for i := range t.Cost {
		t.Cost[i][api.MaxStores-1-i] = 0
	}
	return t
}

// stairs has costs for which each best proof needs prices far apart.
func stairs() api.Trade {
	return trade([]int{1, 1, 1, 1}, []int{1, 1, 1, 1}, []int{99, 0, 99, 99}, []int{99, 99, 0, 99}, []int{99, 99, 99, 0}, []int{0, 99, 99, 99})
}

// grid has the same number everywhere.
func grid(rows, columns, number int) [][]int {
	var all [][]int
	for range rows {
		all = append(all, slices.Repeat([]int{number}, columns))
	}
	return all
}

// random is a right trade with at most so many tons and costs.
func random(source *rand.Rand, stores, buyers, tons, most int) api.Trade {
	t := trade(make([]int, stores), make([]int, buyers), grid(stores, buyers, 0)...)
	for range tons {
		i, j := source.IntN(stores), source.IntN(buyers)
		if t.Supply[i] < api.MaxTons && t.Demand[j] < api.MaxTons {
			t.Supply[i]++
			t.Demand[j]++
		}
	}
	for _, row := range t.Cost {
		for j := range row {
			row[j] = source.IntN(most + 1)
		}
	}
	return t
}

// tiny gives trades of few tons, all of whose plans can be gone through, the same ones in each run.
func tiny() []api.Trade {
	source := rand.New(rand.NewPCG(1, 7))
	list := []api.Trade{example(), alone(), none(), stairs(), trade([]int{1, 0, 1}, []int{2}, []int{3}, []int{0}, []int{1}), trade([]int{0}, []int{0}, []int{99})}
	for stores := range api.MaxStores {
		for buyers := range api.MaxStores {
			for k := range 6 {
				list = append(list, random(source, stores+1, buyers+1, 8-(stores+buyers)/2, []int{1, 4, 99}[k%3]))
			}
		}
		for k := range 9 { // many plans
			x := random(source, stores+1, stores+1, 0, []int{1, 4, 99}[k%3])
			x.Supply = slices.Repeat([]int{1 + k%2}, stores+1)
			x.Demand = slices.Clone(x.Supply)
			list = append(list, x)
		}
	}
	return list
}

// some gives trades of all sizes, the same ones in each run.
func some() []api.Trade {
	source := rand.New(rand.NewPCG(2, 7))
	list := append(tiny(), full(), crossed())
	for stores := range api.MaxStores {
		for buyers := range api.MaxStores {
			for k := range 8 {
				tons := source.IntN(api.MaxTons * (min(stores, buyers) + 1))
				list = append(list, random(source, stores+1, buyers+1, tons, []int{2, 9, 99, 99}[k%4]))
			}
		}
	}
	return list
}

func cloneGrid(rows [][]int) [][]int {
	var all [][]int
	for _, row := range rows {
		all = append(all, slices.Clone(row))
	}
	return all
}

func clone(t api.Trade) api.Trade {
	return api.Trade{Supply: slices.Clone(t.Supply), Demand: slices.Clone(t.Demand), Cost: cloneGrid(t.Cost)}
}

func sameGrid(a, b [][]int) bool { return slices.EqualFunc(a, b, slices.Equal[[]int]) }

func same(a, b api.Trade) bool {
	return slices.Equal(a.Supply, b.Supply) && slices.Equal(a.Demand, b.Demand) && sameGrid(a.Cost, b.Cost)
}

func samePrices(a, b api.Prices) bool {
	return slices.Equal(a.Stores, b.Stores) && slices.Equal(a.Buyers, b.Buyers)
}

// isPlan goes by the definition.
func isPlan(t api.Trade, plan [][]int) bool {
	if len(plan) != len(t.Supply) {
		return false
	}
	gets := make([]int, len(t.Demand))
	for i, row := range plan {
		gives := 0
		if len(row) != len(t.Demand) {
			return false
		}
		for j, tons := range row {
			gives += tons
			gets[j] += tons
			if tons < 0 {
				return false
			}
		}
		if gives != t.Supply[i] {
			return false
		}
	}
	return slices.Equal(gets, t.Demand)
}

// costOf goes by the definition.
func costOf(t api.Trade, plan [][]int) int {
	sum := 0
	for i := range plan {
		for j := range plan[i] {
			sum += plan[i][j] * t.Cost[i][j]
		}
	}
	return sum
}

// shares gives all lists of so many numbers from 0 on with a sum.
func shares(count, sum int) [][]int {
	if count == 1 {
		return [][]int{{sum}}
	}
	var all [][]int
	for first := range sum + 1 {
		for _, rest := range shares(count-1, sum-first) {
			all = append(all, append([]int{first}, rest...))
		}
	}
	return all
}

// plansOf gives all plans of a trade.
func plansOf(t api.Trade) [][][]int {
	all := [][][]int{nil}
	for _, tons := range t.Supply {
		var longer [][][]int
		for _, plan := range all {
			for _, row := range shares(len(t.Demand), tons) {
				longer = append(longer, append(slices.Clone(plan), row))
			}
		}
		all = longer
	}
	return slices.DeleteFunc(all, func(plan [][]int) bool { return !isPlan(t, plan) })
}

func leastOf(t api.Trade) int {
	least := highest
	for _, plan := range plansOf(t) {
		least = min(least, costOf(t, plan))
	}
	return least
}

// randomPlan sells ton by ton.
func randomPlan(source *rand.Rand, t api.Trade) [][]int {
	plan, has, wants := grid(len(t.Supply), len(t.Demand), 0), slices.Clone(t.Supply), slices.Clone(t.Demand)
	block := 1 + source.IntN(api.MaxTons)
	for slices.Max(has) > 0 {
		i, j := source.IntN(len(has)), source.IntN(len(wants))
		tons := min(has[i], wants[j], block)
		plan[i][j] += tons
		has[i] -= tons
		wants[j] -= tons
	}
	return plan
}

// isHonest goes by the definition.
func isHonest(t api.Trade, p api.Prices) bool {
	for i, u := range p.Stores {
		for j, v := range p.Buyers {
			if u+v > t.Cost[i][j] {
				return false
			}
		}
	}
	return true
}

func worthOf(t api.Trade, p api.Prices) int {
	sum := 0
	for i, u := range p.Stores {
		sum += u * t.Supply[i]
	}
	for j, v := range p.Buyers {
		sum += v * t.Demand[j]
	}
	return sum
}

// randomPrices are honest: what each buyer pays is at most what the cheapest store allows.
func randomPrices(source *rand.Rand, t api.Trade) api.Prices {
	p := prices(make([]int, len(t.Supply)), slices.Repeat([]int{api.MaxPrice}, len(t.Demand)))
	for i := range p.Stores {
		p.Stores[i] = source.IntN(301) - 150
	}
	for j := range p.Buyers {
		for i := range p.Stores {
			p.Buyers[j] = min(p.Buyers[j], t.Cost[i][j]-p.Stores[i])
		}
		p.Buyers[j] -= source.IntN(3) * source.IntN(3)
	}
	return p
}

// isRoundOf goes by the definition, for pairs of stores and buyers.
func isRoundOf(pairs [][2]int) bool {
	if len(pairs) < 4 || len(pairs) > 8 || len(pairs)%2 == 1 || pairs[0][1] != pairs[len(pairs)-1][1] {
		return false
	}
	seen := map[[2]int]bool{}
	for k, pair := range pairs {
		if seen[pair] || k%2 == 1 && pair[0] != pairs[k-1][0] || k%2 == 0 && k > 0 && pair[1] != pairs[k-1][1] {
			return false
		}
		seen[pair] = true
	}
	return true
}

// pairsOf gives all lists of so many pairs.
func pairsOf(stores, buyers, length int) [][][2]int {
	all := [][][2]int{nil}
	for range length {
		var longer [][][2]int
		for _, list := range all {
			for i := range stores {
				for j := range buyers {
					longer = append(longer, append(slices.Clone(list), [2]int{i, j}))
				}
			}
		}
		all = longer
	}
	return all
}

// roundsOf gives all rounds: stores and buyers take turns in choosing where they go on.
func roundsOf(stores, buyers int) [][][2]int {
	var rounds [][][2]int
	lists := pairsOf(stores, buyers, 1)
	for length := 1; length <= 8; length++ {
		var longer [][][2]int
		for _, list := range lists {
			if isRoundOf(list) {
				rounds = append(rounds, list)
			}
			last := list[length-1]
			for next := range []int{buyers, stores}[1-length%2] {
				pair := [2]int{last[0], next}
				if length%2 == 0 {
					pair = [2]int{next, last[1]}
				}
				if !slices.Contains(list, pair) {
					longer = append(longer, append(slices.Clone(list), pair))
				}
			}
		}
		lists = longer
	}
	return rounds
}

// shifted is a plan after an amount has been shifted along a round, by the definition.
func shifted(plan [][]int, round [][2]int, amount int) [][]int {
	after := cloneGrid(plan)
	for k, pair := range round {
		after[pair[0]][pair[1]] += []int{amount, -amount}[k%2]
	}
	return after
}

// amountOf is the greatest amount that leaves a plan.
func amountOf(t api.Trade, plan [][]int, round [][2]int) int {
	amount := 0
	for isPlan(t, shifted(plan, round, amount+1)) {
		amount++
	}
	return amount
}

// wrongTrades gives trades that Validate refuses.
func wrongTrades() []api.Trade {
	list := []api.Trade{
		{}, trade(nil, nil), trade([]int{0}, nil, nil), trade(nil, []int{0}), trade([]int{0}, nil, []int{0}), trade(nil, []int{0}, []int{0}),
		trade([]int{0, 0, 0, 0, 0}, []int{0}, grid(5, 1, 0)...), trade([]int{0}, []int{0, 0, 0, 0, 0}, grid(1, 5, 0)...), trade(make([]int, 1000), make([]int, 1000), grid(1000, 1000, 0)...),
		trade([]int{31}, []int{31}, []int{1}), trade([]int{31}, []int{1, 30}, []int{1, 1}), trade([]int{1, 30}, []int{31}, []int{1}, []int{1}), trade([]int{-1}, []int{-1}, []int{1}), trade([]int{-1, 1}, []int{0}, []int{1}, []int{1}),
		trade([]int{0}, []int{-1, 1}, []int{1, 1}), trade([]int{1}, []int{2}, []int{0}), trade([]int{2}, []int{1}, []int{0}), trade([]int{3, 4}, []int{5, 1}, example().Cost...), trade([]int{3, 4}, []int{4, 2}, example().Cost...),
		trade([]int{lowest, lowest}, []int{0}, []int{1}, []int{1}), trade([]int{highest, highest}, []int{-2}, []int{1}, []int{1}), trade([]int{highest, 1}, []int{lowest}, []int{1}, []int{1}), trade([]int{highest, highest, 2}, []int{0}, grid(3, 1, 1)...), trade([]int{0}, []int{lowest, lowest}, []int{1, 1}),
		trade([]int{3, 4}, []int{5, 2}), trade([]int{3, 4}, []int{5, 2}, []int{1, 2}), trade([]int{3, 4}, []int{5, 2}, []int{1, 2}, []int{3, 1}, []int{1, 1}), trade([]int{3, 4}, []int{5, 2}, []int{1, 2}, []int{3}), trade([]int{3, 4}, []int{5, 2}, []int{1, 2}, nil),
		trade([]int{3, 4}, []int{5, 2}, []int{1, 2, 0}, []int{3, 1}), trade([]int{3, 4}, []int{5, 2}, []int{1, 2, 3, 1}), trade([]int{3, 4}, []int{5, 2}, []int{1, 2}, make([]int, 1000)),
	}
	for _, cost := range []int{-1, api.MaxCost + 1, lowest, highest} {
		list = append(list, trade([]int{1}, []int{1}, []int{cost}), trade([]int{3, 4}, []int{5, 2}, []int{cost, 2}, []int{3, 1}), trade([]int{3, 4}, []int{5, 2}, []int{1, 2}, []int{3, cost}))
	}
	return list
}

// wrongGrids gives lists that are not a number from 0 to MaxStores*MaxTons for each store and each buyer.
func wrongGrids(t api.Trade) [][][]int {
	right, err := bulk.Corner(t)
	if err != api.OK {
		panic("no plan")
	}
	last, end := len(t.Supply)-1, len(t.Demand)-1
	list := [][][]int{nil, right[:last], append(cloneGrid(right), make([]int, end+1)), grid(1000, end+1, 0), grid(last+1, 1000, 0), grid(last+1, end, 0), grid(last+1, end+2, 0)}
	for _, i := range []int{0, last} {
		for _, row := range [][]int{nil, right[i][:end], append(slices.Clone(right[i]), 0)} {
			wrong := cloneGrid(right)
			wrong[i] = row
			list = append(list, wrong)
		}
		for _, number := range []int{-1, api.MaxStores*api.MaxTons + 1, lowest, highest} {
			for _, j := range []int{0, end} {
				wrong, onlyOne := cloneGrid(right), grid(last+1, end+1, 120)
				wrong[i][j], onlyOne[i][j] = number, number
				list = append(list, wrong, onlyOne)
			}
		}
	}
	return list
}

// noPlans gives lists of right numbers that break a rule.
func noPlans(t api.Trade) [][][]int {
	right, _ := bulk.Corner(t)
	last, end := len(t.Supply)-1, len(t.Demand)-1
	list := [][][]int{grid(last+1, end+1, api.MaxStores*api.MaxTons)}
	for i, row := range right {
		for j, tons := range row {
			more := cloneGrid(right)
			more[i][j]++
			list = append(list, more)
			if tons == 0 {
				continue
			}
			less, aside, below := cloneGrid(right), cloneGrid(right), cloneGrid(right)
			less[i][j]--
			list = append(list, less)
			if end > 0 { // the stores give right, the buyers get wrong
				aside[i][j]--
				aside[i][(j+1)%(end+1)]++
				list = append(list, aside)
			}
			if last > 0 { // the other way round
				below[i][j]--
				below[(i+1)%(last+1)][j]++
				list = append(list, below)
			}
		}
	}
	return list
}

// wrongPrices gives what is not a number from -MaxPrice to MaxPrice for each store and each buyer.
func wrongPrices(t api.Trade) []api.Prices {
	stores, buyers := make([]int, len(t.Supply)), make([]int, len(t.Demand))
	list := []api.Prices{
		{}, prices(nil, buyers), prices(stores, nil), prices(stores[1:], buyers), prices(stores, buyers[1:]), prices(append(slices.Clone(stores), 0), buyers), prices(stores, append(slices.Clone(buyers), 0)),
		prices(make([]int, 1000), buyers), prices(stores, make([]int, 1000)), prices(append(slices.Clone(stores), 1000), buyers), prices(slices.Repeat([]int{1000}, len(stores)), slices.Repeat([]int{1001}, len(buyers))),
	}
	for _, price := range []int{-api.MaxPrice - 1, api.MaxPrice + 1, lowest, highest} {
		for _, i := range []int{0, len(stores) - 1} {
			wrong := slices.Clone(stores)
			wrong[i] = price
			list = append(list, prices(wrong, buyers), prices(wrong, slices.Repeat([]int{-1000}, len(buyers))))
		}
		for _, j := range []int{0, len(buyers) - 1} {
			wrong := slices.Clone(buyers)
			wrong[j] = price
			list = append(list, prices(stores, wrong), prices(slices.Repeat([]int{-1000}, len(stores)), wrong))
		}
	}
	return list
}

// result is what a function gave: true if all but the error were the zero value, and the error.
type result struct {
	zero bool
	e    api.Errno
}

func only(e api.Errno) result { return result{true, e} }

func number(x int, e api.Errno) result { return result{x == 0, e} }

func truth(is bool, e api.Errno) result { return result{!is, e} }

func rows(x [][]int, e api.Errno) result { return result{len(x) == 0, e} }

func pricesAnd(p api.Prices, e api.Errno) result {
	return result{len(p.Stores) == 0 && len(p.Buyers) == 0, e}
}

func pairs(x [][2]int, ok bool, e api.Errno) result { return result{len(x) == 0 && !ok, e} }

func moved(x [][]int, amount int, e api.Errno) result { return result{len(x) == 0 && amount == 0, e} }

func trades(t api.Trade, e api.Errno) result {
	return result{len(t.Supply) == 0 && len(t.Demand) == 0 && len(t.Cost) == 0, e}
}

// arguments are those of all functions beside the trade.
type arguments struct {
	plan            [][]int
	prices          api.Prices
	round           [][2]int
	other           api.Trade
	store, by, i, j int
}

// callAll calls each function.
func callAll(t api.Trade, x arguments) map[string]result {
	all := callWithPlan(t, x)
	for name, got := range callWithPrices(t, x) {
		all[name] = got
	}
	all["Validate"] = only(bulk.Validate(t))
	all["Corner"] = rows(bulk.Corner(t))
	all["Least"] = number(bulk.Least(t))
	all["Best"] = rows(bulk.Best(t))
	all["Prove"] = pricesAnd(bulk.Prove(t))
	all["IsSquare"] = truth(bulk.IsSquare(t))
	all["Toll"] = trades(bulk.Toll(t, x.store, x.by))
	all["Turn"] = trades(bulk.Turn(t))
	all["Add"] = trades(bulk.Add(t, x.other))
	all["Merge"] = trades(bulk.Merge(t, x.i, x.j))
	return all
}

// callWithPlan calls each function with a plan.
func callWithPlan(t api.Trade, x arguments) map[string]result {
	return map[string]result{
		"CheckPlan": only(bulk.CheckPlan(t, x.plan)),
		"Cost":      number(bulk.Cost(t, x.plan)),
		"IsBest":    truth(bulk.IsBest(t, x.plan)),
		"Round":     pairs(bulk.Round(t, x.plan)),
		"Along":     moved(bulk.Along(t, x.plan, x.round)),
	}
}

// callWithPrices calls each function with prices.
func callWithPrices(t api.Trade, x arguments) map[string]result {
	return map[string]result{"CheckPrices": only(bulk.CheckPrices(t, x.prices)), "Worth": number(bulk.Worth(t, x.prices))}
}
