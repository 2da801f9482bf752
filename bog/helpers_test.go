package bog_test

import (
	"fmt"
	"math/rand/v2"
	"reflect"
	"regexp"
	"slices"
	"strconv"
	"strings"

	"turbary/api"
	"turbary/bog"
	"turbary/heap"
)

const (
	lowest  = -1 << 63
	highest = 1<<63 - 1
)

// place is what New makes a company from.
type place struct {
	b    api.Bog
	h    api.Heaps
	need int
}

func (p place) columns() int { return len(p.b.Worth) }

func (p place) depth() int { return len(p.b.Worth[0]) }

// begin is for places that New takes.
func (p place) begin() *bog.Company {
	c, e := bog.New(p.b, p.h, p.need)
	if e != api.OK {
		panic(fmt.Sprint(p, e))
	}
	return c
}

// two has two columns and heaps, and three rows.
func two() place {
	return place{
		api.Bog{Worth: [][]int{{3, 5, -2}, {-1, 2, 7}}},
		api.Heaps{Links: [][]int{{0, 1}, {1, 0}}, Ground: []int{1, 1}},
		2,
	}
}

// shaft has one column, and a heap that falls over with each second turf.
func shaft() place {
	return place{api.Bog{Worth: [][]int{{4, -3, 2, 1}}}, api.Heaps{Links: [][]int{{0}}, Ground: []int{2}}, 1}
}

// broad has as many columns as there can be heaps, and heaps that hold many turves.
func broad() place {
	p := place{need: 2}
	for c := range api.MaxHeaps {
		p.b.Worth = append(p.b.Worth, []int{c, 10 - c, -c})
		row := []int{2, 2, 2, 2, 2}
		row[c] = 0
		p.h.Links = append(p.h.Links, row)
	}
	p.h.Ground = []int{2, 2, 2, 2, 2}
	return p
}

// places gives places of all sizes, the same ones in each run.
func places() []place {
	list := []place{two(), shaft(), broad()}
	for columns := 1; columns <= api.MaxHeaps; columns++ {
		for depth := 1; depth <= api.MaxDepth; depth++ {
			for need := 1; need <= api.MaxNeed; need++ {
				source := rand.New(rand.NewPCG(uint64(columns), uint64(10*depth+need)))
				list = append(list, randomPlace(source, columns, depth, need))
			}
		}
	}
	return list
}

func randomPlace(source *rand.Rand, columns, depth, need int) place {
	p := place{need: need, h: api.Heaps{Links: make([][]int, columns), Ground: make([]int, columns)}}
	for range columns {
		column := make([]int, depth)
		for r := range column {
			column[r] = source.IntN(2*api.MaxWorth+1) - api.MaxWorth
		}
		p.b.Worth = append(p.b.Worth, column)
	}
	for ok := false; !ok; ok = heap.Validate(p.h) == api.OK {
		for i := range columns {
			p.h.Ground[i] = source.IntN(api.MaxLink + 1)
			p.h.Links[i] = make([]int, columns)
			for j := range i {
				p.h.Links[i][j] = source.IntN(api.MaxLink + 1)
				p.h.Links[j][i] = p.h.Links[i][j]
			}
		}
	}
	return p
}

// values are those of all methods of a company that only tell something.
type values struct {
	Day, Wet, Money, Cut, Loaded, Ground int
	Hollow, Turves                       []int
	Shut, Audit                          bool
	Book                                 string
}

func valuesOf(c *bog.Company) values {
	return values{c.Day(), c.Wet(), c.Money(), c.Cut(), c.Loaded(), c.Ground(), c.Hollow(), c.Turves(), c.Shut(), c.Audit(), c.Book()}
}

func alike(a, b any) bool { return reflect.DeepEqual(a, b) }

// model is a company that goes by the chapter, word by word.
type model struct {
	place
	day, money, cuts, loaded, ground int
	hollow, turves                   []int
	wet                              map[[2]int]bool
	shut                             bool
	done                             []string
}

func newModel(p place) *model {
	return &model{place: p, hollow: make([]int, p.columns()), turves: make([]int, p.columns()), wet: map[[2]int]bool{}}
}

func (m *model) values() values {
	wet := 0
	for square := range m.wet {
		wet += 1 << (square[0]*m.columns() + square[1])
	}
	return values{m.day, wet, m.money, m.cuts, m.loaded, m.ground, slices.Clone(m.hollow), slices.Clone(m.turves), m.shut, true, bookOf(m.done)}
}

// orderForm is the form of all orders.
var orderForm = regexp.MustCompile(strings.ReplaceAll(`^(day|shut|cut N|load N N|wet N N)$`, "N", `(0|[1-9][0-9]{0,2})`))

func (m *model) do(order string) api.Errno {
	if !orderForm.MatchString(order) {
		return api.ErrSyntax
	}
	if len(m.done) >= api.MaxPages {
		return api.ErrLarge
	}
	words := strings.Split(order+" 0 0", " ")
	first, _ := strconv.Atoi(words[1])
	second, _ := strconv.Atoi(words[2])
	e := map[string]func(int, int) api.Errno{"day": m.doDay, "cut": m.doCut, "load": m.doLoad, "wet": m.doWet, "shut": m.doShut}[words[0]](first, second)
	if e == api.OK {
		m.done = append(m.done, order)
	}
	return e
}

func (m *model) doDay(int, int) api.Errno {
	before := map[[2]int]bool{}
	for square := range m.wet {
		before[square] = true
	}
	for c := range m.hollow {
		for r := range m.hollow[c] {
			count := 0
			for _, near := range [][2]int{{r - 1, c}, {r + 1, c}, {r, c - 1}, {r, c + 1}} {
				if before[near] {
					count++
				}
			}
			if count >= m.need {
				m.wet[[2]int{r, c}] = true
			}
		}
	}
	m.day++
	return api.OK
}

func (m *model) doCut(c, _ int) api.Errno {
	if c >= m.columns() {
		return api.ErrNone
	}
	if m.shut {
		return api.ErrState
	}
	row := m.hollow[c]
	if row == m.depth() || m.wet[[2]int{row - 1, c}] {
		return api.ErrRule
	}
	for d, number := range m.hollow {
		if (d == c-1 || d == c+1) && number < row {
			return api.ErrRule
		}
	}
	m.hollow[c]++
	m.cuts++
	m.money += m.b.Worth[c][row]
	m.turves[c]++
	m.settle()
	return api.OK
}

// settle lets the last heap that can topple do so, each time.
func (m *model) settle() {
	for i := m.columns() - 1; i >= 0; i-- {
		limit := m.h.Ground[i]
		for _, links := range m.h.Links[i] {
			limit += links
		}
		if m.turves[i] < limit {
			continue
		}
		m.turves[i] -= limit
		m.ground += m.h.Ground[i]
		for j, links := range m.h.Links[i] {
			m.turves[j] += links
		}
		i = m.columns()
	}
}

func (m *model) doLoad(c, number int) api.Errno {
	switch {
	case c >= m.columns():
		return api.ErrNone
	case number == 0:
		return api.ErrArg
	case number > m.turves[c]:
		return api.ErrShort
	}
	m.turves[c] -= number
	m.loaded += number
	m.money += number
	return api.OK
}

func (m *model) doWet(r, c int) api.Errno {
	switch {
	case r >= m.depth() || c >= m.columns():
		return api.ErrNone
	case m.hollow[c] <= r:
		return api.ErrState
	case m.wet[[2]int{r, c}]:
		return api.ErrTwice
	}
	m.wet[[2]int{r, c}] = true
	return api.OK
}

func (m *model) doShut(int, int) api.Errno {
	if m.shut {
		return api.ErrTwice
	}
	m.shut = true
	return api.OK
}

// bookOf goes by the definition.
func bookOf(orders []string) string {
	book, sum := "", 0
	for _, order := range orders {
		for _, c := range []byte(order) {
			sum = (sum*257 + int(c) + 1) % 1000003
		}
		book += fmt.Sprintf("%d %s\n", sum, order)
	}
	return book
}

// wishes gives orders, most of which can be done, the same ones in each run.
func wishes(p place, count int, seed uint64) []string {
	source := rand.New(rand.NewPCG(seed, uint64(100*p.columns()+10*p.depth()+p.need)))
	var list []string
	for range count {
		r, c := source.IntN(p.depth()+1), source.IntN(p.columns()+1)
		switch source.IntN(12) {
		case 0:
			list = append(list, "day")
		case 1, 2:
			list = append(list, fmt.Sprintf("load %d %d", c, source.IntN(4)))
		case 3, 4:
			list = append(list, fmt.Sprintf("wet %d %d", r, c))
		case 5:
			list = append(list, []string{"shut", "dry", "", "cut", "day"}[source.IntN(40)%5])
		default:
			list = append(list, fmt.Sprintf("cut %d", c))
		}
	}
	return list
}

// result is what a function gave: true if all but the error and what stands beside it were the zero value.
type result struct {
	zero   bool
	number int
	e      api.Errno
}

func only(e api.Errno) result { return result{true, 0, e} }

func made(c *bog.Company, e api.Errno) result { return result{c == nil, 0, e} }

func replayed(c *bog.Company, number int, e api.Errno) result { return result{c == nil, number, e} }

func merged(book string, number int, e api.Errno) result { return result{book == "", number, e} }

func written(book string, e api.Errno) result { return result{book == "", 0, e} }

func ran(errs []api.Errno, book string, e api.Errno) result {
	return result{len(errs) == 0 && book == "", 0, e}
}
