package drain_test

import (
	"iter"
	"math/rand/v2"
	"slices"

	"turbary/api"
)

const (
	lowest  = -1 << 63
	highest = 1<<63 - 1
)

func pipe(from, to, width int) api.Drain { return api.Drain{From: from, To: to, Width: width} }

// net is a net from the node 0 to the last one.
func net(nodes int, drains ...api.Drain) api.Net { return between(nodes, 0, nodes-1, drains...) }

func between(nodes, from, to int, drains ...api.Drain) api.Net {
	return api.Net{Nodes: nodes, From: from, To: to, Drains: drains}
}

// beside is the first example of the chapter, and the second one of DOC.md.
func beside() api.Net { return net(3, pipe(0, 1, 3), pipe(0, 1, 4), pipe(1, 2, 5)) }

// row is the second example of the chapter.
func row() api.Net { return net(3, pipe(0, 1, 2), pipe(1, 2, 2)) }

// crossed has a drain in the middle, which a search that goes from node to node takes first and must give back.
func crossed() api.Net {
	return net(4, pipe(0, 1, 1), pipe(1, 2, 1), pipe(2, 3, 1), pipe(0, 2, 1), pipe(1, 3, 1))
}

// twisted has rounds, drains beside each other and against each other, one of the width 0, and drains into From and out of To.
func twisted() api.Net {
	return between(4, 2, 0, pipe(2, 1, 2), pipe(1, 2, 1), pipe(1, 3, 2), pipe(3, 1, 2), pipe(3, 0, 1), pipe(0, 2, 2), pipe(1, 0, 0), pipe(2, 1, 1))
}

// full has as much as possible of everything.
func full() api.Net {
	n := between(api.MaxNodes, 7, 3)
	for i := range api.MaxDrains {
		from := []int{7, 7, 0, 0, 1, 1, 2, 2, 4, 4, 5, 5, 6, 6, 7, 7}[i]
		to := []int{0, 1, 3, 2, 2, 4, 3, 5, 5, 6, 6, 3, 3, 0, 4, 3}[i]
		n.Drains = append(n.Drains, pipe(from, to, api.MaxWidth-i%2))
	}
	return n
}

// small gives nets of few and narrow drains, whose flows can be gone through.
func small() []api.Net {
	source := rand.New(rand.NewPCG(2, 27))
	list := []api.Net{row(), crossed(), net(2), net(2, pipe(1, 0, 3)), net(2, pipe(0, 1, 3), pipe(1, 0, 2), pipe(0, 1, 1)), twisted()}
	for len(list) < 150 {
		list = append(list, random(source, 2+source.IntN(4), source.IntN(6), 2))
	}
	return list
}

// some gives nets of all sizes, the same ones in each run.
func some() []api.Net {
	source := rand.New(rand.NewPCG(3, 27))
	list := append(small(), beside(), full(), net(3), net(api.MaxNodes))
	for len(list) < 500 {
		width := []int{1, 3, api.MaxWidth}[len(list)%3]
		list = append(list, random(source, 2+source.IntN(api.MaxNodes-1), source.IntN(api.MaxDrains+1), width))
	}
	return list
}

func random(source *rand.Rand, nodes, drains, width int) api.Net {
	n := api.Net{Nodes: nodes, From: source.IntN(nodes)}
	n.To = (n.From + 1 + source.IntN(nodes-1)) % nodes
	for range drains {
		from := source.IntN(nodes)
		n.Drains = append(n.Drains, pipe(from, (from+1+source.IntN(nodes-1))%nodes, source.IntN(width+1)))
	}
	return n
}

func clone(n api.Net) api.Net {
	n.Drains = slices.Clone(n.Drains)
	return n
}

func same(a, b api.Net) bool {
	return a.Nodes == b.Nodes && a.From == b.From && a.To == b.To && slices.Equal(a.Drains, b.Drains)
}

func isZero(n api.Net) bool { return same(n, api.Net{}) }

// grid gives the lists with a number from 0 to the width for each drain.
func grid(n api.Net) iter.Seq[[]int] {
	return func(yield func([]int) bool) {
		list := make([]int, len(n.Drains))
		for {
			if !yield(slices.Clone(list)) {
				return
			}
			k := 0
			for k < len(list) && list[k] == n.Drains[k].Width {
				list[k] = 0
				k++
			}
			if k == len(list) {
				return
			}
			list[k]++
		}
	}
}

// outOf is what goes out of a node minus what comes in.
func outOf(n api.Net, flow []int, node int) int {
	out := 0
	for k, d := range n.Drains {
		if d.From == node {
			out += flow[k]
		}
		if d.To == node {
			out -= flow[k]
		}
	}
	return out
}

// isFlow is for numbers from 0 to the widths.
func isFlow(n api.Net, flow []int) bool {
	for node := range n.Nodes {
		if node != n.From && node != n.To && outOf(n, flow, node) != 0 {
			return false
		}
	}
	return true
}

// cuts gives all cuts as sets of bits.
func cuts(n api.Net) []uint {
	var list []uint
	for set := range uint(1) << n.Nodes {
		if set>>n.From&1 == 1 && set>>n.To&1 == 0 {
			list = append(list, set)
		}
	}
	return list
}

func nodesOf(set uint) []int {
	var nodes []int
	for node := range 64 {
		if set>>node&1 == 1 {
			nodes = append(nodes, node)
		}
	}
	return nodes
}

func widthOf(n api.Net, set uint) int {
	width := 0
	for _, d := range n.Drains {
		if set>>d.From&1 == 1 && set>>d.To&1 == 0 {
			width += d.Width
		}
	}
	return width
}

// narrowest gives the cuts of the smallest width, and this width: by S2 the most.
func narrowest(n api.Net) ([]uint, int) {
	var list []uint
	least := highest
	for _, set := range cuts(n) {
		width := widthOf(n, set)
		if width < least {
			least, list = width, nil
		}
		if width == least {
			list = append(list, set)
		}
	}
	return list, least
}

// mostWith is the most if a drain has another width, which may be above MaxWidth.
func mostWith(n api.Net, k, width int) int {
	changed := clone(n)
	changed.Drains[k].Width = width
	_, most := narrowest(changed)
	return most
}

// broken gives nets by the error of Validate.
func broken() map[api.Errno][]api.Net {
	many := slices.Repeat([]api.Drain{pipe(0, 1, 1)}, api.MaxDrains+1)
	wrong := make([]api.Drain, api.MaxDrains+1)
	list := map[api.Errno][]api.Net{
		api.ErrArg: {
			{}, between(1, 0, 0), between(1, 0, 1), between(0, 0, 1), between(-2, 0, 1), between(api.MaxNodes+1, 0, 1), between(lowest, 0, 1), between(highest, 0, 1),
			between(3, 3, 1), between(3, 0, 3), between(3, -1, 1), between(3, 0, -1), between(3, lowest, highest), between(3, highest, lowest),
			between(3, 1, 1), between(2, 0, 0, many...), between(9, 0, 1, many...), between(3, 0, 3, wrong...),
			net(3, wrong[1:]...), net(3, pipe(0, 1, 1), pipe(1, 1, 1)),
		},
		api.ErrLarge: {net(2, many...), net(2, wrong...), net(8, many...)},
	}
	for _, x := range []int{-1, 3, lowest, highest} {
		list[api.ErrArg] = append(list[api.ErrArg], net(3, pipe(0, 1, 1), pipe(x, 1, 1)), net(3, pipe(0, x, 1), pipe(0, 1, 1)), net(3, pipe(x, x, 1)))
	}
	for _, width := range []int{-1, api.MaxWidth + 1, lowest, highest} {
		list[api.ErrArg] = append(list[api.ErrArg], net(3, pipe(0, 1, 1), pipe(0, 1, width)))
	}
	return list
}
