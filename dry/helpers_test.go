package dry_test

import (
	"math/rand/v2"
	"slices"

	"turbary/api"
	"turbary/dry"
)

const (
	lowest  = -1 << 63
	highest = 1<<63 - 1
)

// step takes and gives.
func step(take, give []int) api.Step { return api.Step{Take: take, Give: give} }

// pair is the yard of the chapter's examples.
func pair() api.Yard {
	return api.Yard{Places: 2, Steps: []api.Step{step([]int{1, 0}, []int{0, 1}), step([]int{0, 2}, []int{1, 0})}}
}

// one has the first step of the pair alone.
func one() api.Yard { return api.Yard{Places: 2, Steps: pair().Steps[:1]} }

// bare has no steps.
func bare(places int) api.Yard { return api.Yard{Places: places} }

// ring passes turves on from each place to the next one, and from the last one to the first one.
func ring(places int) api.Yard {
	y := bare(places)
	for p := range places {
		s := step(make([]int, places), make([]int, places))
		s.Take[p]++
		s.Give[(p+1)%places]++
		y.Steps = append(y.Steps, s)
	}
	return y
}

// flood has steps that take nothing and give, take and give nothing, do neither, and do both at one place.
func flood() api.Yard {
	return api.Yard{Places: 3, Steps: []api.Step{
		step([]int{0, 0, 0}, []int{3, 0, 0}), step([]int{0, 1, 0}, []int{0, 0, 0}), step([]int{0, 0, 0}, []int{0, 0, 0}), step([]int{3, 0, 0}, []int{3, 2, 0}), step([]int{0, 2, 1}, []int{0, 1, 3}),
	}}
}

// full has as many places and steps as possible, and takes and gives as much as possible.
func full() api.Yard {
	y := bare(api.MaxPlaces)
	for i := range api.MaxSteps {
		s := step(slices.Repeat([]int{api.MaxArc}, api.MaxPlaces), make([]int, api.MaxPlaces))
		s.Take[i], s.Give[i] = 0, api.MaxArc
		y.Steps = append(y.Steps, s)
	}
	return y
}

// random is a right yard, of which most steps have to do with few places.
func random(source *rand.Rand, places, steps int) api.Yard {
	y := bare(places)
	most := 1 + source.IntN(api.MaxArc)
	for range steps {
		s := step(make([]int, places), make([]int, places))
		for p := range places {
			s.Take[p], s.Give[p] = max(0, source.IntN(2*most+1)-most), max(0, source.IntN(2*most+1)-most)
		}
		y.Steps = append(y.Steps, s)
	}
	return y
}

// some gives yards of all sizes, the same ones in each run.
func some() []api.Yard {
	source := rand.New(rand.NewPCG(6, 6))
	list := []api.Yard{pair(), one(), bare(1), bare(3), ring(1), ring(3), ring(6), flood(), full()}
	for places := range api.MaxPlaces {
		for steps := range api.MaxSteps {
			for range 4 {
				list = append(list, random(source, places+1, steps+1))
			}
		}
	}
	return list
}

func clone(y api.Yard) api.Yard {
	c := bare(y.Places)
	for _, s := range y.Steps {
		c.Steps = append(c.Steps, step(slices.Clone(s.Take), slices.Clone(s.Give)))
	}
	return c
}

func same(a, b api.Yard) bool {
	return a.Places == b.Places && slices.EqualFunc(a.Steps, b.Steps, func(s, r api.Step) bool {
		return slices.Equal(s.Take, r.Take) && slices.Equal(s.Give, r.Give)
	})
}

// allowed reports if a step can be done, by the definition.
func allowed(y api.Yard, m []int, k int) bool {
	for p := range m {
		if m[p] < y.Steps[k].Take[p] {
			return false
		}
	}
	return true
}

// done is a filling after a step, by the definition.
func done(y api.Yard, m []int, k int) ([]int, api.Errno) {
	if !allowed(y, m, k) {
		return nil, api.ErrRule
	}
	var after []int
	for p := range m {
		after = append(after, m[p]-y.Steps[k].Take[p]+y.Steps[k].Give[p])
	}
	if slices.Max(after) > 50 {
		return nil, api.ErrLarge
	}
	return after, api.OK
}

// ran is Run for a list of steps, by the definition.
func ran(y api.Yard, m, list []int) ([]int, int, api.Errno) {
	for at, k := range list {
		after, e := done(y, m, k)
		if e != api.OK {
			return nil, at, e
		}
		m = after
	}
	return m, len(list), api.OK
}

func leads(y api.Yard, m, list []int) bool {
	_, _, e := ran(y, m, list)
	return e == api.OK
}

func countsOf(y api.Yard, list []int) []int {
	counts := make([]int, len(y.Steps))
	for _, k := range list {
		counts[k]++
	}
	return counts
}

func sumOf(list []int) int {
	sum := 0
	for _, number := range list {
		sum += number
	}
	return sum
}

func plus(a, b []int) []int {
	var sum []int
	for i := range a {
		sum = append(sum, a[i]+b[i])
	}
	return sum
}

// lists gives all lists with a number from the least to below the limit for each place, in ascending order.
func lists(least int, below []int) [][]int {
	all := [][]int{nil}
	for _, end := range below {
		var longer [][]int
		for _, list := range all {
			for number := least; number < end; number++ {
				longer = append(longer, append(slices.Clone(list), number))
			}
		}
		all = longer
	}
	return all
}

// listsOf gives all lists of so many steps of a yard, in ascending order.
func listsOf(y api.Yard, length int) [][]int {
	return lists(0, slices.Repeat([]int{len(y.Steps)}, length))
}

// sets gives all sets of places.
func sets(places int) [][]int {
	all := [][]int{nil}
	for p := range places {
		for _, set := range all {
			all = append(all, append(slices.Clone(set), p))
		}
	}
	return all
}

// randomFilling has few turves, some, or nearly as many as possible.
func randomFilling(source *rand.Rand, y api.Yard) []int {
	least, below := 0, []int{2, 5, 20, api.MaxHold + 1}[source.IntN(4)]
	if source.IntN(4) == 0 {
		least, below = api.MaxHold-6, 7
	}
	var m []int
	for range y.Places {
		m = append(m, least+source.IntN(below))
	}
	return m
}

// fillings gives some fillings: none, the most, and random ones.
func fillings(source *rand.Rand, y api.Yard) [][]int {
	list := [][]int{make([]int, y.Places), slices.Repeat([]int{api.MaxHold}, y.Places)}
	for range 8 {
		list = append(list, randomFilling(source, y))
	}
	return list
}

// randomList is of steps that can be done one after another where possible, at most so many.
func randomList(source *rand.Rand, y api.Yard, m []int, most int) []int {
	var list []int
	for range most {
		at := source.IntN(len(y.Steps))
		for k := range y.Steps {
			k = (k + at) % len(y.Steps)
			if after, e := done(y, m, k); e == api.OK {
				m, list = after, append(list, k)
				break
			}
		}
	}
	return list
}

// determinant is developed by the first row.
func determinant(rows [][]int) int {
	if len(rows) == 0 {
		return 1
	}
	sum, sign := 0, 1
	for j, number := range rows[0] {
		if number != 0 {
			var rest [][]int
			for _, row := range rows[1:] {
				rest = append(rest, slices.Delete(slices.Clone(row), j, j+1))
			}
			sum += sign * number * determinant(rest)
		}
		sign = -sign
	}
	return sum
}

// spaceOf is the number of places without the size of the greatest part of the effects whose determinant is not 0.
func spaceOf(y api.Yard) int {
	least := y.Places
	for _, columns := range sets(y.Places) {
		for _, steps := range sets(len(y.Steps)) {
			if len(columns) != len(steps) || y.Places-len(columns) >= least {
				continue
			}
			var rows [][]int
			for _, k := range steps {
				var row []int
				for _, p := range columns {
					row = append(row, y.Steps[k].Give[p]-y.Steps[k].Take[p])
				}
				rows = append(rows, row)
			}
			if determinant(rows) != 0 {
				least = y.Places - len(columns)
			}
		}
	}
	return least
}

// keepsWeight reports if no step changes the sum of weight times turves.
func keepsWeight(y api.Yard, weights []int) bool {
	for _, s := range y.Steps {
		sum := 0
		for p, weight := range weights {
			sum += weight*s.Give[p] - weight*s.Take[p]
		}
		if sum != 0 {
			return false
		}
	}
	return true
}

// isSiphonOf goes by the definition: from any place to which a step gives to any one from which it takes.
func isSiphonOf(y api.Yard, set []int) bool {
	for _, s := range y.Steps {
		for _, to := range set {
			if s.Give[to] > 0 && !takesFrom(s, set) {
				return false
			}
		}
	}
	return true
}

func takesFrom(s api.Step, set []int) bool {
	for _, p := range set {
		if s.Take[p] > 0 {
			return true
		}
	}
	return false
}

// isTrapOf goes by the definition, too.
func isTrapOf(y api.Yard, set []int) bool {
	for _, s := range y.Steps {
		gives := 0
		for _, p := range set {
			gives += s.Give[p]
		}
		if takesFrom(s, set) && gives == 0 {
			return false
		}
	}
	return true
}

// joinAll is all places of the sets of a kind that lie in a set.
func joinAll(y api.Yard, set []int, is func(api.Yard, []int) bool) []int {
	var all []int
	for _, part := range sets(y.Places) {
		if within(part, set) && is(y, part) {
			all = either(all, part)
		}
	}
	return all
}

func within(part, set []int) bool {
	return !slices.ContainsFunc(part, func(p int) bool { return !slices.Contains(set, p) })
}

func either(a, b []int) []int {
	all := append(slices.Clone(a), b...)
	slices.Sort(all)
	return slices.Compact(all)
}

func turvesOf(m, set []int) int {
	sum := 0
	for _, p := range set {
		sum += m[p]
	}
	return sum
}

// small gives yards that Validate refuses with ErrArg, and whose number of steps is right.
func small() []api.Yard {
	list := []api.Yard{{}, {Places: -1}, {Places: api.MaxPlaces + 1}, {Places: lowest}, {Places: highest}, {Places: 0, Steps: make([]api.Step, api.MaxSteps)}}
	for _, numbers := range [][]int{nil, {0}, {0, 0, 0}, make([]int, 1000), {-1, 0}, {0, -1}, {4, 0}, {0, 4}, {lowest, 0}, {0, highest}} {
		right := []int{3, 0}
		list = append(list,
			api.Yard{Places: 2, Steps: []api.Step{step(numbers, right)}}, api.Yard{Places: 2, Steps: []api.Step{step(right, numbers)}},
			api.Yard{Places: 2, Steps: append(pair().Steps, step(numbers, right))}, api.Yard{Places: 2, Steps: append(pair().Steps, step(right, numbers))},
			api.Yard{Places: 2, Steps: append([]api.Step{step(right, numbers)}, pair().Steps...)})
	}
	return list
}

// large gives yards that Validate refuses with ErrLarge.
func large() []api.Yard {
	right := api.Yard{Places: 2, Steps: slices.Repeat(one().Steps, api.MaxSteps+1)}
	return []api.Yard{right, {Places: 2, Steps: slices.Repeat(one().Steps, 1000)}, {Places: 1, Steps: make([]api.Step, api.MaxSteps+1)}, {Places: api.MaxPlaces, Steps: right.Steps}}
}

// wrong gives lists that are not a number from the least to the most for each of so many things.
func wrong(count, least, most int) [][]int {
	list := [][]int{make([]int, count+1), slices.Repeat([]int{most}, 1000)}
	if count > 0 {
		list = append(list, nil)
	}
	if count > 1 {
		list = append(list, make([]int, count-1))
	}
	for _, number := range []int{least - 1, most + 1, lowest, highest} {
		for i := range count {
			numbers := make([]int, count)
			numbers[i] = number
			list = append(list, numbers)
		}
	}
	return list
}

// noSets gives lists that are not sets of places.
func noSets(places int) [][]int {
	list := [][]int{{-1}, {places}, {0, places}, {-1, 0}, {0, 0}, {lowest}, {highest}, make([]int, 1000)}
	if places > 1 {
		list = append(list, []int{1, 0}, []int{0, 1, 1}, []int{0, 1, 0})
	}
	return list
}

// result is what a function gave: true if all but the error were the zero value, and the error.
type result struct {
	zero bool
	e    api.Errno
}

func only(e api.Errno) result { return result{true, e} }

func number(x int, e api.Errno) result { return result{x == 0, e} }

func truth(is bool, e api.Errno) result { return result{!is, e} }

func listed(x []int, e api.Errno) result { return result{len(x) == 0, e} }

func found(x []int, ok bool, e api.Errno) result { return result{len(x) == 0 && !ok, e} }

func measured(x []int, n int, e api.Errno) result { return result{len(x) == 0 && n == 0, e} }

func yards(y api.Yard, e api.Errno) result { return result{y.Places == 0 && len(y.Steps) == 0, e} }

// arguments are those of all functions beside the yard.
type arguments struct {
	m, goal, list, counts, weights, set []int
	step, most                          int
}

// right has no errors with a yard, but for its step and its list if there is no step 0.
func right(y api.Yard) arguments {
	m := make([]int, max(0, min(y.Places, 10)))
	return arguments{m: m, goal: m, list: []int{0}, counts: make([]int, len(y.Steps)), weights: m, set: []int{0}}
}

// callAll calls each function.
func callAll(y api.Yard, x arguments) map[string]result {
	all := callWithFilling(y, x)
	all["Validate"] = only(dry.Validate(y))
	all["Effect"] = listed(dry.Effect(y, x.counts))
	all["Counts"] = listed(dry.Counts(y, x.list))
	all["IsInvariant"] = truth(dry.IsInvariant(y, x.weights))
	all["Space"] = number(dry.Space(y))
	all["IsSiphon"] = truth(dry.IsSiphon(y, x.set))
	all["IsTrap"] = truth(dry.IsTrap(y, x.set))
	all["Siphon"] = listed(dry.Siphon(y, x.set))
	all["Trap"] = listed(dry.Trap(y, x.set))
	all["Turn"] = yards(dry.Turn(y))
	return all
}

// callWithFilling calls each function with a filling.
func callWithFilling(y api.Yard, x arguments) map[string]result {
	return map[string]result{
		"CanDo":   truth(dry.CanDo(y, x.m, x.step)),
		"Do":      listed(dry.Do(y, x.m, x.step)),
		"Run":     measured(dry.Run(y, x.m, x.list)),
		"IsStuck": truth(dry.IsStuck(y, x.m)),
		"Order":   found(dry.Order(y, x.m, x.counts)),
		"Way":     found(dry.Way(y, x.m, x.goal, x.most)),
		"Reach":   number(dry.Reach(y, x.m, x.most)),
		"Weigh":   number(dry.Weigh(y, x.weights, x.m)),
	}
}
