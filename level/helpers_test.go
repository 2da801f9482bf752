package level_test

import (
	"math/big"
	"math/bits"
	"math/rand/v2"
	"slices"

	"turbary/api"
	"turbary/level"
)

const (
	least    = -1 << 63
	greatest = 1<<63 - 1
)

func rat(num, den int) api.Rat { return api.Rat{Num: num, Den: den} }

func reading(from, to, rise, weight int) api.Reading {
	return api.Reading{From: from, To: to, Rise: rise, Weight: weight}
}

func survey(points int, readings ...api.Reading) api.Survey {
	return api.Survey{Points: points, Readings: readings}
}

// double is the first example of the chapter, and of DOC.md.
func double() api.Survey { return survey(2, reading(0, 1, 10, 1), reading(0, 1, 13, 2)) }

// triangle is the third example of the chapter.
func triangle() api.Survey {
	return survey(3, reading(0, 1, 5, 1), reading(1, 2, 3, 1), reading(0, 2, 9, 1))
}

// scattered has the parts {0, 3}, {1, 2, 4}.
func scattered() api.Survey {
	return survey(5, reading(4, 2, 6, 2), reading(2, 4, -5, 1), reading(3, 0, 7, 3), reading(1, 4, 2, 1), reading(2, 1, 1, 3))
}

// apart is a survey in which each point is a part.
func apart() api.Survey { return survey(4) }

// some gives surveys of all sizes, the same ones in each run; half of them have small rises only.
func some(count int) []api.Survey {
	source := rand.New(rand.NewPCG(1, 27))
	list := []api.Survey{double(), triangle(), scattered(), apart(), survey(1), extreme()}
	for len(list) < count {
		s := survey(2 + source.IntN(api.MaxPoints-1))
		most := api.MaxRise
		if len(list)%2 == 0 {
			most = 2
		}
		for range source.IntN(api.MaxReadings + 1) {
			from := source.IntN(s.Points)
			to := (from + 1 + source.IntN(s.Points-1)) % s.Points
			s.Readings = append(s.Readings, reading(from, to, source.IntN(2*most+1)-most, 1+source.IntN(api.MaxWeight)))
		}
		list = append(list, s)
	}
	return list
}

// extreme has everything as great as it can be.
func extreme() api.Survey {
	return survey(5, reading(0, 1, 1000, 3), reading(2, 1, -1000, 3), reading(2, 3, 1000, 3), reading(4, 3, -1000, 3),
		reading(4, 0, 1000, 3), reading(0, 2, -1000, 3), reading(1, 3, -1000, 3), reading(1, 4, 1000, 3))
}

func clone(s api.Survey) api.Survey {
	return api.Survey{Points: s.Points, Readings: slices.Clone(s.Readings)}
}

func same(a, b api.Survey) bool {
	return a.Points == b.Points && slices.Equal(a.Readings, b.Readings)
}

func isZero(s api.Survey) bool { return s.Points == 0 && len(s.Readings) == 0 }

func bigRat(r api.Rat) *big.Rat { return big.NewRat(int64(r.Num), int64(r.Den)) }

// ratOf is in lowest terms, as big.Rat keeps it.
func ratOf(r *big.Rat) api.Rat { return rat(int(r.Num().Int64()), int(r.Denom().Int64())) }

// smallest has the smallest point of the part of each point, if only the readings of the set of bits were there.
func smallest(s api.Survey, set uint) []int {
	first := make([]int, s.Points)
	for p := range first {
		first[p] = p
	}
	for range s.Points {
		for k, r := range s.Readings {
			if set>>k&1 == 1 {
				low := min(first[r.From], first[r.To])
				first[r.From], first[r.To] = low, low
			}
		}
	}
	return first
}

func count(first []int) int {
	n := 0
	for p, f := range first {
		if p == f {
			n++
		}
	}
	return n
}

func all(s api.Survey) uint { return 1<<len(s.Readings) - 1 }

// isForest reports that no reading of the set joins points that the others join already.
func isForest(s api.Survey, set uint) bool {
	return count(smallest(s, set)) == s.Points-bits.OnesCount(set)
}

// product is that of the weights of the readings of the set.
func product(s api.Survey, set uint) int {
	n := 1
	for k, r := range s.Readings {
		if set>>k&1 == 1 {
			n *= r.Weight
		}
	}
	return n
}

// heightsBy follows the readings of a forest.
func heightsBy(s api.Survey, set uint) []int {
	heights, known := make([]int, s.Points), make([]bool, s.Points)
	for p, f := range smallest(s, set) {
		known[p] = p == f
	}
	for range s.Points {
		for k, r := range s.Readings {
			switch {
			case set>>k&1 == 0:
			case known[r.From] && !known[r.To]:
				heights[r.To], known[r.To] = heights[r.From]+r.Rise, true
			case known[r.To] && !known[r.From]:
				heights[r.From], known[r.From] = heights[r.To]-r.Rise, true
			}
		}
	}
	return heights
}

// meanHeights are the best heights by a theorem that needs no equations: the mean of the heights by all greatest
// forests, each counted with the product of its weights.
func meanHeights(s api.Survey) []api.Rat {
	sums, total := make([]int, s.Points), 0
	for set := range all(s) + 1 {
		if !isForest(s, set) || count(smallest(s, set)) != count(smallest(s, all(s))) {
			continue
		}
		total += product(s, set)
		for p, height := range heightsBy(s, set) {
			sums[p] += product(s, set) * height
		}
	}
	list := make([]api.Rat, s.Points)
	for p, sum := range sums {
		list[p] = ratOf(big.NewRat(int64(sum), int64(total)))
	}
	return list
}

// forestError is the error of two joined points by a theorem: the forests that lack a wire between the two
// to be greatest ones, against the greatest forests, each counted with the product of its weights.
func forestError(s api.Survey, i, j int) api.Rat {
	above, below := 0, 0
	parts := count(smallest(s, all(s)))
	for set := range all(s) + 1 {
		if !isForest(s, set) {
			continue
		}
		first := smallest(s, set)
		switch {
		case count(first) == parts:
			below += product(s, set)
		case count(first) == parts+1 && first[i] != first[j]:
			above += product(s, set)
		}
	}
	return ratOf(big.NewRat(int64(above), int64(below)))
}

// misfitOf is the misfit of any heights.
func misfitOf(s api.Survey, heights []api.Rat) *big.Rat {
	sum := new(big.Rat)
	for _, r := range s.Readings {
		residual := new(big.Rat).Sub(bigRat(heights[r.To]), bigRat(heights[r.From]))
		residual.Sub(big.NewRat(int64(r.Rise), 1), residual)
		residual.Mul(residual, residual)
		sum.Add(sum, residual.Mul(residual, big.NewRat(int64(r.Weight), 1)))
	}
	return sum
}

// broken gives surveys with the error of each.
func broken() map[api.Errno][]api.Survey {
	return map[api.Errno][]api.Survey{
		api.ErrArg: {
			{}, survey(-1), survey(api.MaxPoints + 1), survey(least), survey(greatest),
			{Points: 0, Readings: make([]api.Reading, api.MaxReadings+1)},
			{Points: 2, Readings: make([]api.Reading, api.MaxReadings)},
			survey(1, reading(0, 0, 0, 1)), survey(2, reading(0, 1, 0, 1), reading(1, 1, 0, 1)),
			survey(2, reading(-1, 1, 0, 1)), survey(2, reading(2, 1, 0, 1)), survey(2, reading(least, 1, 0, 1)), survey(2, reading(greatest, 1, 0, 1)),
			survey(2, reading(0, -1, 0, 1)), survey(2, reading(0, 2, 0, 1)), survey(2, reading(0, least, 0, 1)), survey(2, reading(0, greatest, 0, 1)),
			survey(2, reading(0, 1, 1001, 1)), survey(2, reading(0, 1, -1001, 1)), survey(2, reading(0, 1, least, 1)), survey(2, reading(0, 1, greatest, 1)),
			survey(2, reading(0, 1, 0, 0)), survey(2, reading(0, 1, 0, 4)), survey(2, reading(0, 1, 0, least)), survey(2, reading(0, 1, 0, greatest)),
		},
		api.ErrLarge: {
			{Points: 2, Readings: make([]api.Reading, api.MaxReadings+1)},
			{Points: 2, Readings: slices.Repeat([]api.Reading{reading(0, 1, 0, 1)}, api.MaxReadings+1)},
		},
	}
}

// errorOf is Error without an error, which no test expects where it calls this.
func errorOf(s api.Survey, i, j int) api.Rat {
	r, e := level.Error(s, i, j)
	if e != api.OK {
		panic(e)
	}
	return r
}
