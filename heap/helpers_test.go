package heap_test

import (
	"math/rand/v2"
	"slices"

	"turbary/api"
	"turbary/heap"
)

const (
	lowest  = -1 << 63
	highest = 1<<63 - 1
)

// joined is heaps with the given ground, and links of two heaps each: the first heap, the second one, how many.
func joined(ground []int, links ...[3]int) api.Heaps {
	h := api.Heaps{Ground: ground}
	for range ground {
		h.Links = append(h.Links, make([]int, len(ground)))
	}
	for _, x := range links {
		h.Links[x[0]][x[1]] += x[2]
		h.Links[x[1]][x[0]] += x[2]
	}
	return h
}

// pair is the fifth example of DOC.md, and those of the chapter.
func pair() api.Heaps { return joined([]int{1, 1}, [3]int{0, 1, 1}) }

// row is as far from the ground as heaps can be.
func row() api.Heaps {
	return joined([]int{0, 0, 0, 0, 1}, [3]int{0, 1, 1}, [3]int{1, 2, 1}, [3]int{2, 3, 1}, [3]int{3, 4, 1})
}

// ring has its heaps in a ring, one of them at the ground.
func ring() api.Heaps {
	return joined([]int{0, 2, 0, 0}, [3]int{0, 1, 1}, [3]int{1, 2, 2}, [3]int{2, 3, 1}, [3]int{3, 0, 1})
}

// full has as many links as possible.
func full(count int) api.Heaps {
	h := joined(slices.Repeat([]int{api.MaxLink}, count))
	for i := range count {
		for j := range count {
			if i != j {
				h.Links[i][j] = api.MaxLink
			}
		}
	}
	return h
}

// dense has a heaping that takes as many turns as there are heapings that last.
func dense() api.Heaps {
	h := full(5)
	h.Links[1][2], h.Links[2][1], h.Links[3][4], h.Links[4][3] = 1, 1, 1, 1
	h.Ground = []int{1, 1, 2, 2, 1}
	return h
}

// single has one heap.
func single(ground int) api.Heaps { return joined([]int{ground}) }

// random is right heaps.
func random(source *rand.Rand, count int) api.Heaps {
	for {
		h := joined(make([]int, count))
		for i := range count {
			h.Ground[i] = max(0, source.IntN(5)-2)
			for j := range i {
				links := max(0, source.IntN(4)-1)
				h.Links[i][j], h.Links[j][i] = links, links
			}
		}
		if isRight(h) {
			return h
		}
	}
}

// some gives heaps of all sizes, the same ones in each run.
func some() []api.Heaps {
	source := rand.New(rand.NewPCG(5, 5))
	list := []api.Heaps{pair(), row(), ring(), full(2), full(4), full(5), dense(), single(1), single(2)}
	for count := range api.MaxHeaps {
		for range 3 * (count + 1) {
			list = append(list, random(source, count+1))
		}
	}
	return list
}

// few gives those of some that have few calm heapings.
func few() []api.Heaps {
	return slices.DeleteFunc(some(), func(h api.Heaps) bool {
		product := 1
		for i := range h.Ground {
			product *= limitOf(h, i)
		}
		return product > 100
	})
}

// isRight is for heaps with as many rows as grounds.
func isRight(h api.Heaps) bool {
	for i, ground := range h.Ground {
		if ground < 0 || ground > 2 || !canReach(h, i, nil) {
			return false
		}
		for j, links := range h.Links[i] {
			if links < 0 || links > 2 || links != h.Links[j][i] || i == j && links != 0 {
				return false
			}
		}
	}
	return true
}

// canReach goes from a heap to the ground, past no heap of the list.
func canReach(h api.Heaps, from int, past []int) bool {
	if h.Ground[from] > 0 {
		return true
	}
	past = append(slices.Clone(past), from)
	for to, links := range h.Links[from] {
		if links > 0 && !slices.Contains(past, to) && canReach(h, to, past) {
			return true
		}
	}
	return false
}

func clone(h api.Heaps) api.Heaps {
	c := api.Heaps{Ground: slices.Clone(h.Ground)}
	for _, row := range h.Links {
		c.Links = append(c.Links, slices.Clone(row))
	}
	return c
}

func same(a, b api.Heaps) bool {
	return slices.Equal(a.Ground, b.Ground) && slices.EqualFunc(a.Links, b.Links, slices.Equal[[]int])
}

func limitOf(h api.Heaps, i int) int {
	sum := h.Ground[i]
	for _, links := range h.Links[i] {
		sum += links
	}
	return sum
}

func limitsOf(h api.Heaps) []int {
	var list []int
	for i := range h.Ground {
		list = append(list, limitOf(h, i))
	}
	return list
}

func calmOf(h api.Heaps, turves []int) bool {
	for i := range turves {
		if turves[i] >= limitOf(h, i) {
			return false
		}
	}
	return true
}

// toppled is a heaping after a heap has toppled, by the definition.
func toppled(h api.Heaps, turves []int, i int) []int {
	after := slices.Clone(turves)
	after[i] -= limitOf(h, i)
	for j := range after {
		if j != i {
			after[j] += h.Links[i][j]
		}
	}
	return after
}

// settled topples the last heap that can topple, one time after another.
func settled(h api.Heaps, turves []int) (calm, topples []int, ground int) {
	calm, topples = slices.Clone(turves), make([]int, len(turves))
	for !calmOf(h, calm) {
		for i := len(calm) - 1; i >= 0; i-- {
			if calm[i] >= limitOf(h, i) {
				calm = toppled(h, calm, i)
				topples[i]++
				ground += h.Ground[i]
				break
			}
		}
	}
	return calm, topples, ground
}

func calmFrom(h api.Heaps, turves []int) []int {
	calm, _, _ := settled(h, turves)
	return calm
}

func sumOf(list []int) int {
	sum := 0
	for _, number := range list {
		sum += number
	}
	return sum
}

func plus(a, b []int) []int {
	var sum []int
	for i := range a {
		sum = append(sum, a[i]+b[i])
	}
	return sum
}

// lists gives all lists with a number from the least to below the limit for each place, in ascending order.
func lists(least int, below []int) [][]int {
	all := [][]int{nil}
	for _, end := range below {
		var longer [][]int
		for _, list := range all {
			for number := least; number < end; number++ {
				longer = append(longer, append(slices.Clone(list), number))
			}
		}
		all = longer
	}
	return all
}

// calmHeapings gives all calm heapings.
func calmHeapings(h api.Heaps) [][]int { return lists(0, limitsOf(h)) }

// lastingOf gives, in ascending order, all heapings to which those settle in which each heap has at least its
// limit: these are the limits with more turves, and it makes no difference when a turf is put on.
func lastingOf(h api.Heaps) [][]int {
	list := [][]int{calmFrom(h, limitsOf(h))}
	for at := 0; at < len(list); at++ {
		for i := range h.Ground {
			next := slices.Clone(list[at])
			next[i]++
			next = calmFrom(h, next)
			if !holds(list, next) {
				list = append(list, next)
			}
		}
	}
	slices.SortFunc(list, slices.Compare[[]int])
	return list
}

func holds(list [][]int, x []int) bool {
	return slices.ContainsFunc(list, func(y []int) bool { return slices.Equal(x, y) })
}

// randomHeaping is any heaping.
func randomHeaping(source *rand.Rand, h api.Heaps) []int {
	var turves []int
	for range h.Ground {
		turves = append(turves, source.IntN(api.MaxTurves+1))
	}
	return turves
}

// randomCalm is a calm heaping.
func randomCalm(source *rand.Rand, h api.Heaps) []int {
	var turves []int
	for i := range h.Ground {
		turves = append(turves, source.IntN(limitOf(h, i)))
	}
	return turves
}

// heapings gives some heapings: none, the most, and random ones.
func heapings(source *rand.Rand, h api.Heaps) [][]int {
	list := [][]int{make([]int, len(h.Ground)), slices.Repeat([]int{api.MaxTurves}, len(h.Ground)), limitsOf(h)}
	for range 6 {
		list = append(list, randomHeaping(source, h), randomCalm(source, h))
	}
	return list
}

// byScript is the heaping from which a heaping differs by a script, by the definition.
func byScript(h api.Heaps, a, script []int) []int {
	var b []int
	for i := range a {
		number := a[i] - script[i]*limitOf(h, i)
		for j := range script {
			number += script[j] * h.Links[j][i]
		}
		b = append(b, number)
	}
	return b
}

// determinant is developed by the first row.
func determinant(rows [][]int) int {
	if len(rows) == 0 {
		return 1
	}
	sum, sign := 0, 1
	for j, number := range rows[0] {
		var rest [][]int
		for _, row := range rows[1:] {
			rest = append(rest, slices.Delete(slices.Clone(row), j, j+1))
		}
		sum += sign * number * determinant(rest)
		sign = -sign
	}
	return sum
}

func matrixOf(h api.Heaps) [][]int {
	rows := clone(h).Links
	for i, row := range rows {
		for j := range row {
			row[j] = -row[j]
		}
		row[i] = limitOf(h, i)
	}
	return rows
}

// cramer solves the equations with the matrix and this right side: each number is a part of all.
func cramer(h api.Heaps, right []int) (parts []int, all int) {
	for k := range right {
		rows := matrixOf(h)
		for i, row := range rows {
			row[k] = right[i]
		}
		parts = append(parts, determinant(rows))
	}
	return parts, determinant(matrixOf(h))
}

// scriptOf finds the numbers of the script by which two heapings differ.
func scriptOf(h api.Heaps, a, b []int) ([]int, bool) {
	var less []int
	for i := range a {
		less = append(less, a[i]-b[i])
	}
	script, all := cramer(h, less)
	for k, part := range script {
		if part%all != 0 {
			return nil, false
		}
		script[k] = part / all
	}
	return script, true
}

// broken gives heaps that Validate refuses with ErrArg.
func broken() []api.Heaps {
	list := []api.Heaps{
		{}, {Links: [][]int{}, Ground: []int{}}, {Links: [][]int{{0}}}, {Ground: []int{1}}, {Links: [][]int{nil}, Ground: []int{1}},
		{Links: [][]int{{0}, {0}}, Ground: []int{1}}, {Links: [][]int{{0}}, Ground: []int{1, 1}}, {Links: [][]int{{0, 0}}, Ground: []int{1}},
		{Links: [][]int{{0, 1}, {1}}, Ground: []int{1, 1}}, {Links: [][]int{{0}, {1, 0}}, Ground: []int{1, 1}}, {Links: [][]int{{0, 1}, {1, 0, 0}}, Ground: []int{1, 1}},
		{Links: [][]int{{0, 1}, nil}, Ground: []int{1, 1}}, {Links: [][]int{{0, 1}, {1, 0}, {0, 0}}, Ground: []int{1, 1}}, {Links: [][]int{{0, 1}, {1, 0}}, Ground: []int{1, 1, 1}},
		full(api.MaxHeaps + 1), joined(slices.Repeat([]int{1}, 40)), joined([]int{0, 0}, [3]int{0, 1, 3}),
	}
	for _, number := range []int{-1, api.MaxLink + 1, lowest, highest} {
		for i := range 3 {
			h := full(3)
			h.Ground[i] = number
			loop := full(3)
			loop.Links[i][i] = number
			both := full(3)
			both.Links[i][(i+1)%3], both.Links[(i+1)%3][i] = number, number
			list = append(list, h, loop, both)
		}
	}
	for i := range 3 {
		loop := full(3)
		loop.Links[i][i] = 1
		more, less := full(3), full(3)
		more.Links[i][(i+1)%3], less.Links[(i+1)%3][i] = 1, 0
		list = append(list, loop, more, less)
	}
	return list
}

// apart gives heaps that Validate refuses with ErrApart.
func apart() []api.Heaps {
	return []api.Heaps{
		single(0), joined([]int{1, 0}), joined([]int{0, 1}), joined([]int{0, 0}, [3]int{0, 1, 2}), joined([]int{1, 1, 0, 0}, [3]int{0, 1, 1}, [3]int{2, 3, 1}),
		joined([]int{0, 0, 2, 1, 1}, [3]int{0, 1, 1}, [3]int{2, 3, 1}), joined([]int{2, 2, 2, 2, 0}), joined([]int{0, 0, 0, 0, 1}, [3]int{0, 1, 1}, [3]int{1, 2, 1}, [3]int{3, 4, 1}),
	}
}

// noHeapings gives lists that are not a number from 0 to MaxTurves for each heap.
func noHeapings(h api.Heaps) [][]int {
	count := len(h.Ground)
	list := [][]int{nil, make([]int, count+1), slices.Repeat([]int{api.MaxTurves}, 1000)}
	if count > 1 {
		list = append(list, make([]int, count-1))
	}
	for _, number := range []int{-1, api.MaxTurves + 1, lowest, highest} {
		for i := range count {
			turves := make([]int, count)
			turves[i] = number
			list = append(list, turves)
		}
	}
	return list
}

// result is what a function gave: true if all but the error were the zero value, and the error.
type result struct {
	zero bool
	e    api.Errno
}

func only(e api.Errno) result { return result{true, e} }

func number(x int, e api.Errno) result { return result{x == 0, e} }

func truth(is bool, e api.Errno) result { return result{!is, e} }

func listed(x []int, e api.Errno) result { return result{len(x) == 0, e} }

func found(x []int, ok bool, e api.Errno) result { return result{len(x) == 0 && !ok, e} }

func measured(x []int, n int, e api.Errno) result { return result{len(x) == 0 && n == 0, e} }

func twice(x, y []int, n int, e api.Errno) result {
	return result{len(x) == 0 && len(y) == 0 && n == 0, e}
}

// callAll calls each function; a is each heaping but the second one, b.
func callAll(h api.Heaps, a, b []int, i int, list []int) map[string]result {
	all := callWithHeapings(h, a, b, i, list)
	all["Validate"] = only(heap.Validate(h))
	all["Limit"] = number(heap.Limit(h, i))
	all["Count"] = number(heap.Count(h))
	all["Zero"] = listed(heap.Zero(h))
	return all
}

// callWithHeapings calls each function with a heaping.
func callWithHeapings(h api.Heaps, a, b []int, i int, list []int) map[string]result {
	all := callWithTwo(h, a, b, list)
	all["IsCalm"] = truth(heap.IsCalm(h, a))
	all["Topple"] = listed(heap.Topple(h, a, i))
	all["Settle"] = twice(heap.Settle(h, a))
	all["Drop"] = measured(heap.Drop(h, a, i))
	all["CheckList"] = measured(heap.CheckList(h, a, list))
	all["Lasts"] = truth(heap.Lasts(h, a))
	all["Burn"] = listed(heap.Burn(h, a))
	all["Back"] = listed(heap.Back(h, a))
	all["Lasting"] = listed(heap.Lasting(h, a))
	all["Turns"] = number(heap.Turns(h, a))
	return all
}

// callWithTwo calls each function with two heapings.
func callWithTwo(h api.Heaps, a, b, list []int) map[string]result {
	return map[string]result{
		"Add":         listed(heap.Add(h, a, b)),
		"Script":      found(heap.Script(h, a, b)),
		"CheckScript": only(heap.CheckScript(h, a, b, list)),
		"Alike":       truth(heap.Alike(h, a, b)),
	}
}
