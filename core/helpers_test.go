package core_test

import (
	"iter"
	"math/rand/v2"
	"slices"

	"turbary/api"
	"turbary/core"
)

const (
	lowest  = -1 << 63
	highest = 1<<63 - 1
)

func bound(a, b, most int) api.Bound { return api.Bound{A: a, B: b, Most: most} }

func of(layers int, bounds ...api.Bound) api.Core { return api.Core{Layers: layers, Bounds: bounds} }

// clashing is the first example of the chapter, and the third one of DOC.md.
func clashing() api.Core { return of(2, bound(0, 1, 10), bound(1, 0, -11)) }

// chain is the second example of the chapter.
func chain() api.Core { return of(3, bound(0, 1, 10), bound(1, 2, 5), bound(0, 2, 20)) }

// tied is the third example of the chapter.
func tied() api.Core { return of(2, bound(0, 1, 7), bound(1, 0, -7)) }

// woven has the groups {0, 3}, {1, 2, 4}, {5}, bounds beside each other, and some that follow from others.
func woven() api.Core {
	return of(6, bound(3, 0, -4), bound(0, 3, 6), bound(0, 3, 4), bound(2, 1, -3), bound(1, 4, 5), bound(4, 2, -2),
		bound(2, 4, 2), bound(4, 1, -5), bound(0, 1, 8), bound(3, 4, 9), bound(5, 2, -1), bound(5, 1, -4), bound(5, 4, 20))
}

// spiral clashes by one year, in a round of all layers only.
func spiral() api.Core {
	c := of(api.MaxLayers)
	for a := range api.MaxLayers {
		most := []int{api.MaxYears, -api.MaxYears}[a%2]
		c.Bounds = append(c.Bounds, bound((a+1)%api.MaxLayers, a, most))
	}
	c.Bounds[4].Most--
	return c
}

// farthest has tightest bounds as far from 0 as can be.
func farthest() api.Core {
	c := of(api.MaxLayers)
	for a := range api.MaxLayers - 1 {
		c.Bounds = append(c.Bounds, bound(a+1, a, -api.MaxYears), bound(a, a+1, api.MaxYears))
	}
	return c
}

// small gives cores of few layers and few years, whose dates can be gone through.
func small() []api.Core {
	source := rand.New(rand.NewPCG(3, 18))
	list := []api.Core{
		of(1), of(2), of(3), of(2, bound(0, 1, 2), bound(1, 0, -2)), of(2, bound(0, 1, -1), bound(1, 0, 0)),
		of(3, bound(0, 1, 2), bound(1, 2, -2), bound(0, 2, 2)), of(2, bound(0, 1, -1), bound(0, 1, 1), bound(1, 0, 1)),
	}
	for len(list) < 120 {
		list = append(list, random(source, 1+source.IntN(4), source.IntN(7), 2))
	}
	return list
}

// some gives cores of all sizes, the same ones in each run; more than a hundred clash, and more do not.
func some() []api.Core {
	source := rand.New(rand.NewPCG(4, 18))
	list := append(small(), clashing(), chain(), tied(), woven(), spiral(), farthest(), of(api.MaxLayers))
	for len(list) < 700 {
		most := []int{1, 5, api.MaxYears}[len(list)%3]
		layers, bounds := 1+source.IntN(api.MaxLayers), source.IntN(api.MaxBounds+1)
		if len(list)%2 == 0 {
			list = append(list, random(source, layers, bounds, most))
		} else {
			list = append(list, kept(source, layers, bounds, most))
		}
	}
	return list
}

// possible gives those of some that do not clash.
func possible() []api.Core {
	return slices.DeleteFunc(some(), func(c api.Core) bool { return clashes(distances(c)) })
}

func clashes(table [][]int) bool {
	for a := range table {
		if table[a][a] < 0 {
			return true
		}
	}
	return false
}

func random(source *rand.Rand, layers, bounds, most int) api.Core {
	c := of(layers)
	for range bounds {
		if layers > 1 {
			a := source.IntN(layers)
			c.Bounds = append(c.Bounds, bound(a, (a+1+source.IntN(layers-1))%layers, source.IntN(2*most+1)-most))
		}
	}
	return c
}

// kept is a random core that some dates keep, many of its bounds by no year too many.
func kept(source *rand.Rand, layers, bounds, most int) api.Core {
	c := random(source, layers, bounds, most)
	dates := make([]int, layers)
	for a := range dates {
		dates[a] = source.IntN(most/2 + 1)
	}
	for k, x := range c.Bounds {
		c.Bounds[k].Most = min(dates[x.B]-dates[x.A]+source.IntN(3)*source.IntN(most/2+1), most)
	}
	return c
}

func clone(c api.Core) api.Core { return of(c.Layers, slices.Clone(c.Bounds)...) }

func same(c, d api.Core) bool { return c.Layers == d.Layers && slices.Equal(c.Bounds, d.Bounds) }

func isZero(c api.Core) bool { return same(c, api.Core{}) }

// far stands for no distance; sums of some of them are still above all distances.
const far = 1 << 40

// distances follows the definitions by a way that the program does not take: it lets one layer after the other
// be in between. If the core clashes, a layer is less than 0 from itself.
func distances(c api.Core) [][]int {
	table := make([][]int, c.Layers)
	for a := range table {
		table[a] = slices.Repeat([]int{far}, c.Layers)
		table[a][a] = 0
	}
	for _, x := range c.Bounds {
		table[x.A][x.B] = min(table[x.A][x.B], x.Most)
	}
	for between := range table {
		for a := range table {
			for b := range table {
				table[a][b] = min(table[a][b], table[a][between]+table[between][b])
			}
		}
	}
	return table
}

// isFar allows for years taken off or added to none.
func isFar(distance int) bool { return distance > far/2 }

// width is above the differences that bounds of a small core allow, and so great that, where there is no
// bound for a difference, dates from 0 to it have one that is greater than these.
const width = 12

// grid gives the lists of dates from 0 to width that keep all bounds.
func grid(c api.Core) iter.Seq[[]int] {
	return func(yield func([]int) bool) {
		dates := make([]int, c.Layers)
		for {
			if keep(c, dates) && !yield(dates) {
				return
			}
			a := 0
			for a < len(dates) && dates[a] == width {
				dates[a] = 0
				a++
			}
			if a == len(dates) {
				return
			}
			dates[a]++
		}
	}
}

func keep(c api.Core, dates []int) bool {
	for _, x := range c.Bounds {
		if dates[x.B]-dates[x.A] > x.Most {
			return false
		}
	}
	return true
}

// greatest is the tightest bound of each two layers of a small core by the definition; false if no dates keep
// all bounds. Differences above those that bounds can make are far.
func greatest(c api.Core) ([][]int, bool) {
	table := make([][]int, c.Layers)
	for a := range table {
		table[a] = slices.Repeat([]int{lowest}, c.Layers)
	}
	some := false
	for dates := range grid(c) {
		some = true
		for a := range table {
			for b := range table {
				table[a][b] = max(table[a][b], dates[b]-dates[a])
			}
		}
	}
	for a := range table {
		for b := range table {
			if table[a][b] > 2*(c.Layers-1) {
				table[a][b] = far
			}
		}
	}
	return table, some
}

// broken gives cores by the error of Validate.
func broken() map[api.Errno][]api.Core {
	many := slices.Repeat([]api.Bound{bound(0, 1, 1)}, api.MaxBounds+1)
	wrong := make([]api.Bound, api.MaxBounds+1)
	list := map[api.Errno][]api.Core{
		api.ErrArg: {
			{}, of(-1), of(api.MaxLayers + 1), of(lowest), of(highest), of(0, many...), of(9, wrong...),
			of(2, wrong[1:]...), of(1, bound(0, 0, 0)), of(1, bound(0, 1, 0)), of(3, bound(0, 1, 1), bound(1, 1, 1)),
		},
		api.ErrLarge: {of(2, many...), of(2, wrong...), of(1, wrong...), of(api.MaxLayers, many...)},
	}
	for _, a := range []int{-1, 3, lowest, highest} {
		list[api.ErrArg] = append(list[api.ErrArg], of(3, bound(0, 1, 1), bound(a, 1, 1)), of(3, bound(0, a, 1), bound(0, 1, 1)), of(3, bound(a, a, 1)))
	}
	for _, most := range []int{api.MaxYears + 1, -api.MaxYears - 1, lowest, highest} {
		list[api.ErrArg] = append(list[api.ErrArg], of(3, bound(0, 1, 1), bound(0, 1, most)), clashingWith(bound(1, 0, most)))
	}
	return list
}

func clashingWith(x api.Bound) api.Core {
	c := clashing()
	c.Bounds = append(c.Bounds, x)
	return c
}

// result is what a function gave: true if all but the error were the zero value, and the error.
type result struct {
	zero bool
	e    api.Errno
}

func only(e api.Errno) result { return result{true, e} }

func truth(is bool, e api.Errno) result { return result{!is, e} }

func number(x int, ok bool, e api.Errno) result { return result{x == 0 && !ok, e} }

func found(x []int, ok bool, e api.Errno) result { return result{len(x) == 0 && !ok, e} }

func listed[T any](x []T, e api.Errno) result { return result{len(x) == 0, e} }

func changed(x api.Core, e api.Errno) result { return result{isZero(x), e} }

// callAll calls each function but Validate; c is the first core of each.
func callAll(c, d api.Core, a, b, most int, list []int) map[string]result {
	return map[string]result{
		"CheckDates": only(core.CheckDates(c, list)),
		"IsPossible": truth(core.IsPossible(c)),
		"Dates":      found(core.Dates(c)),
		"CheckClash": only(core.CheckClash(c, list)),
		"Clash":      found(core.Clash(c)),
		"Tightest":   number(core.Tightest(c, a, b)),
		"Follows":    truth(core.Follows(c, bound(a, b, most))),
		"Latest":     listed(core.Latest(c, a)),
		"Earliest":   listed(core.Earliest(c, a)),
		"Fixed":      number(core.Fixed(c, a, b)),
		"Groups":     listed(core.Groups(c)),
		"Plain":      listed(core.Plain(c)),
		"Same":       truth(core.Same(c, d)),
		"Reduce":     changed(core.Reduce(c)),
		"Both":       changed(core.Both(c, d)),
		"Turn":       changed(core.Turn(c)),
		"Shift":      changed(core.Shift(c, list)),
	}
}
