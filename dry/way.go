package dry

import "turbary/api"

const (
	mostOrdered = 8 // steps of the lists that Order goes through
	mostSteps   = 5 // steps of the lists that Way and Reach go through
)

// plan is a filling, and how often each step has still to be done.
type plan struct {
	now  filling
	left [api.MaxSteps]int
}

// Order: see P6.3.
func Order(y api.Yard, m, counts []int) ([]int, bool, api.Errno) {
	if e := validateFillings(y, m); e != api.OK {
		return nil, false, e
	}
	if !areCounts(y, counts) {
		return nil, false, api.ErrArg
	}
	length := 0
	for _, times := range counts {
		length += times
	}
	if length > mostOrdered {
		return nil, false, api.ErrLarge
	}
	start := plan{now: fillingOf(m)}
	copy(start.left[:], counts)
	after := func(p plan, step int) (plan, bool) {
		now, e := p.now.do(y.Steps[step])
		p.now = now
		p.left[step]--
		return p, e == api.OK && p.left[step] >= 0
	}
	// So many steps, none of them too often, have these counts.
	list, ok := firstList(start, len(y.Steps), length, after, func(plan) bool { return true })
	return list, ok, api.OK
}

// Way: see P6.3.
func Way(y api.Yard, m, goal []int, most int) ([]int, bool, api.Errno) {
	if e := validateFillings(y, m, goal); e != api.OK {
		return nil, false, e
	}
	if !isMost(most) {
		return nil, false, api.ErrArg
	}
	after := func(f filling, step int) (filling, bool) {
		now, e := f.do(y.Steps[step])
		return now, e == api.OK
	}
	isGoal := func(f filling) bool { return f == fillingOf(goal) }
	for length := range most + 1 {
		if list, ok := firstList(fillingOf(m), len(y.Steps), length, after, isGoal); ok {
			return list, true, api.OK
		}
	}
	return nil, false, api.OK
}

// Reach: see P6.3.
func Reach(y api.Yard, m []int, most int) (int, api.Errno) {
	if e := validateFillings(y, m); e != api.OK {
		return 0, e
	}
	if !isMost(most) {
		return 0, api.ErrArg
	}
	latest := []filling{fillingOf(m)}
	seen := map[filling]bool{fillingOf(m): true}
	for range most {
		latest = onward(y, latest, seen)
	}
	return len(seen), api.OK
}

// onward gives the fillings to which one step leads from the latest ones, without those seen before.
func onward(y api.Yard, latest []filling, seen map[filling]bool) []filling {
	var next []filling
	for _, f := range latest {
		for _, s := range y.Steps {
			after, e := f.do(s)
			if e == api.OK && !seen[after] {
				seen[after] = true
				next = append(next, after)
			}
		}
	}
	return next
}

func isMost(most int) bool {
	return most >= 0 && most <= mostSteps
}

// firstList returns the first list, in ascending order, of so many of the steps from 0 on that leads from a state
// to an end. After gives the state behind a step, and false if the step is not possible.
func firstList[S any](from S, steps, length int, after func(S, int) (S, bool), isEnd func(S) bool) ([]int, bool) {
	if length == 0 {
		return nil, isEnd(from)
	}
	for step := range steps {
		next, ok := after(from, step)
		if !ok {
			continue
		}
		if rest, ok := firstList(next, steps, length-1, after, isEnd); ok {
			return append([]int{step}, rest...), true
		}
	}
	return nil, false
}
