package level

import (
	"iter"

	"turbary/api"
)

// Parts: see P1.2.
func Parts(s api.Survey) ([][]int, api.Errno) {
	if e := Validate(s); e != api.OK {
		return nil, e
	}
	return parts(s), api.OK
}

// Tree: see P1.2.
func Tree(s api.Survey) ([]int, api.Errno) {
	if e := Validate(s); e != api.OK {
		return nil, e
	}
	return tree(s), api.OK
}

// ByTree: see P1.2.
func ByTree(s api.Survey) ([]int, api.Errno) {
	if e := Validate(s); e != api.OK {
		return nil, e
	}
	return byTree(s), api.OK
}

// Closures: see P1.2.
func Closures(s api.Survey) ([]int, api.Errno) {
	if e := Validate(s); e != api.OK {
		return nil, e
	}
	return closures(s), api.OK
}

// IsTrue: see P1.2.
func IsTrue(s api.Survey) (bool, api.Errno) {
	if e := Validate(s); e != api.OK {
		return false, e
	}
	return areZero(closures(s)), api.OK
}

// Walk: see P1.2.
func Walk(s api.Survey, from int, walk []int) (int, int, api.Errno) {
	if e := Validate(s); e != api.OK {
		return 0, 0, e
	}
	if !isPoint(s, from) {
		return 0, 0, api.ErrNone
	}
	if len(walk) > api.MaxWalk {
		return 0, 0, api.ErrLarge
	}
	for _, step := range walk {
		if !isStep(s, step) {
			return 0, 0, api.ErrNone
		}
	}
	at, rise := from, 0
	for leg := range legs(s, walk) {
		if leg.From != at {
			return 0, 0, api.ErrApart
		}
		at = leg.To
		rise += leg.Rise
	}
	return at, rise, api.OK
}

// joining begins with each point in a part of its own. The closure joins the parts of two points, and
// reports whether they were apart; in between, the list has the smallest point of the part of each point.
func joining(points int) ([]int, func(a, b int) bool) {
	first := make([]int, points)
	for p := range first {
		first[p] = p
	}
	join := func(a, b int) bool {
		low, high := min(first[a], first[b]), max(first[a], first[b])
		for p, f := range first {
			if f == high {
				first[p] = low
			}
		}
		return low != high
	}
	return first, join
}

// firsts has the smallest point of the part of each point.
func firsts(s api.Survey) []int {
	first, join := joining(s.Points)
	for _, r := range s.Readings {
		join(r.From, r.To)
	}
	return first
}

func parts(s api.Survey) [][]int {
	first := firsts(s)
	var list [][]int
	for p := range first {
		if first[p] != p {
			continue
		}
		var part []int
		for q, f := range first {
			if f == p {
				part = append(part, q)
			}
		}
		list = append(list, part)
	}
	return list
}

func tree(s api.Survey) []int {
	_, join := joining(s.Points)
	var taken []int
	for k, r := range s.Readings {
		if join(r.From, r.To) {
			taken = append(taken, k)
		}
	}
	return taken
}

func byTree(s api.Survey) []int {
	heights := make([]int, s.Points)
	known := make([]bool, s.Points)
	for p, f := range firsts(s) {
		known[p] = p == f
	}
	taken := tree(s)
	// A point is reached one round after its neighbor at the latest, so as many rounds as points suffice.
	for range s.Points {
		for _, k := range taken {
			r := s.Readings[k]
			if known[r.From] {
				heights[r.To] = heights[r.From] + r.Rise
				known[r.To] = true
			} else if known[r.To] {
				heights[r.From] = heights[r.To] - r.Rise
				known[r.From] = true
			}
		}
	}
	return heights
}

func closures(s api.Survey) []int {
	return residuals(s, api.Table{Den: 1, Num: byTree(s)})
}

func areZero(numbers []int) bool {
	for _, number := range numbers {
		if number != 0 {
			return false
		}
	}
	return true
}

func isStep(s api.Survey, step int) bool {
	return step != 0 && isWithin(step, len(s.Readings))
}

// legs gives each step of a walk as the reading that it goes along from From to To.
func legs(s api.Survey, walk []int) iter.Seq[api.Reading] {
	return func(yield func(api.Reading) bool) {
		for _, step := range walk {
			if !yield(leg(s, step)) {
				return
			}
		}
	}
}

func leg(s api.Survey, step int) api.Reading {
	if step > 0 {
		return s.Readings[step-1]
	}
	return turned(s.Readings[-step-1])
}
