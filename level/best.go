package level

import "turbary/api"

// Best: see P1.3.
func Best(s api.Survey) ([]api.Rat, api.Errno) {
	if e := Validate(s); e != api.OK {
		return nil, e
	}
	heights := best(s)
	return lowestAll(heights.Num, heights.Den), api.OK
}

// Residuals: see P1.3.
func Residuals(s api.Survey) ([]api.Rat, api.Errno) {
	if e := Validate(s); e != api.OK {
		return nil, e
	}
	heights := best(s)
	return lowestAll(residuals(s, heights), heights.Den), api.OK
}

// Misfit: see P1.3.
func Misfit(s api.Survey) (api.Rat, api.Errno) {
	if e := Validate(s); e != api.OK {
		return api.Rat{}, e
	}
	heights := best(s)
	sum := 0
	for k, residual := range residuals(s, heights) {
		sum += s.Readings[k].Weight * residual * residual
	}
	return lowest(sum, heights.Den*heights.Den), api.OK
}

// CheckBest: see P1.3. It does not solve anything: the claim is held against the conditions that the
// best heights alone meet.
func CheckBest(s api.Survey, t api.Table) api.Errno {
	if e := Validate(s); e != api.OK {
		return e
	}
	if t.Den < 1 || t.Den > api.MaxDen || !areWithin(t.Num, s.Points, api.MaxNum) {
		return api.ErrArg
	}
	for p, first := range firsts(s) {
		if p == first && t.Num[p] != 0 {
			return api.ErrProof
		}
	}
	if !areZero(surplus(s, residuals(s, t))) {
		return api.ErrProof
	}
	return api.OK
}

// Error: see P1.4.
func Error(s api.Survey, i, j int) (api.Rat, api.Errno) {
	if e := Validate(s); e != api.OK {
		return api.Rat{}, e
	}
	if !isPoint(s, i) || !isPoint(s, j) {
		return api.Rat{}, api.ErrNone
	}
	if first := firsts(s); first[i] != first[j] {
		return api.Rat{}, api.ErrApart
	}
	return resistance(s, i, j), api.OK
}

// Share: see P1.4.
func Share(s api.Survey, k int) (api.Rat, api.Errno) {
	if e := validateReading(s, k); e != api.OK {
		return api.Rat{}, e
	}
	r := s.Readings[k]
	ohms := resistance(s, r.From, r.To)
	return lowest(r.Weight*ohms.Num, ohms.Den), api.OK
}

// IsBridge: see P1.4.
func IsBridge(s api.Survey, k int) (bool, api.Errno) {
	if e := validateReading(s, k); e != api.OK {
		return false, e
	}
	return len(parts(without(s, k))) > len(parts(s)), api.OK
}

func best(s api.Survey) api.Table {
	rises := make([]int, len(s.Readings))
	for k, r := range s.Readings {
		rises[k] = r.Rise
	}
	return solve(s, surplus(s, rises))
}

// residuals are those by the heights of the table, each over the table's denominator.
func residuals(s api.Survey, t api.Table) []int {
	list := make([]int, len(s.Readings))
	for k, r := range s.Readings {
		list[k] = r.Rise*t.Den - (t.Num[r.To] - t.Num[r.From])
	}
	return list
}

// surplus is, for each point, the sum of Weight times amount over the readings to it minus that over the
// readings from it. The misfit is smallest where that of the residuals is 0 at each point.
func surplus(s api.Survey, amounts []int) []int {
	sums := make([]int, s.Points)
	for k, r := range s.Readings {
		sums[r.To] += r.Weight * amounts[k]
		sums[r.From] -= r.Weight * amounts[k]
	}
	return sums
}

// resistance is the error of two joined points. Flows with the smallest sum of squares follow from heights:
// each is Weight times a difference of them, and the sum is then the difference between the two points.
func resistance(s api.Survey, i, j int) api.Rat {
	loads := make([]int, s.Points)
	loads[i]--
	loads[j]++
	heights := solve(s, loads)
	return lowest(heights.Num[j]-heights.Num[i], heights.Den)
}
