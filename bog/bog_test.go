package bog_test

import (
	"slices"
	"strings"
	"sync"
	"testing"

	"turbary/api"
	"turbary/bog"
	"turbary/cut"
	"turbary/heap"
)

func TestNew(t *testing.T) {
	for _, p := range places() {
		want := newModel(p).values()
		if got := valuesOf(p.begin()); !alike(got, want) || got.Book != "" {
			t.Errorf("chapter 9, new company of %v: %+v", p, got)
		}
	}
}

func TestErrorsOfNew(t *testing.T) {
	flat := api.Bog{Worth: [][]int{{1, 2}, {3}}}
	dear := api.Bog{Worth: [][]int{{1}, {api.MaxWorth + 1}}}
	apart := api.Heaps{Links: [][]int{{0, 0}, {0, 0}}, Ground: []int{1, 0}}
	crooked := api.Heaps{Links: [][]int{{0, 1}, {0, 0}}, Ground: []int{1, 1}}
	for _, x := range []struct {
		b    api.Bog
		h    api.Heaps
		need int
		want api.Errno
	}{
		{two().b, two().h, 0, api.ErrArg}, {two().b, two().h, api.MaxNeed + 1, api.ErrArg}, {two().b, two().h, lowest, api.ErrArg}, {two().b, two().h, highest, api.ErrArg}, {two().b, two().h, -1, api.ErrArg},
		{api.Bog{}, two().h, 2, api.ErrArg}, {flat, two().h, 2, api.ErrArg}, {dear, two().h, 2, api.ErrArg}, {api.Bog{Worth: [][]int{{}, {}}}, two().h, 2, api.ErrArg}, {api.Bog{Worth: [][]int{{1, 2, 3, 4, 5}, {1, 2, 3, 4, 5}}}, two().h, 2, api.ErrArg},
		{two().b, api.Heaps{}, 2, api.ErrArg}, {two().b, crooked, 2, api.ErrArg}, {two().b, apart, 2, api.ErrApart}, {two().b, api.Heaps{Links: two().h.Links}, 2, api.ErrArg},
		{two().b, shaft().h, 2, api.ErrArg}, {two().b, broad().h, 2, api.ErrArg}, {shaft().b, two().h, 2, api.ErrArg}, {broad().b, two().h, 2, api.ErrArg},
		{api.Bog{Worth: [][]int{{1}, {1}, {1}, {1}, {1}, {1}}}, broad().h, 2, api.ErrArg}, // no heaps are as many
		{api.Bog{}, apart, 0, api.ErrArg}, {flat, apart, 0, api.ErrArg},                   // the bog comes before the heaps
		{two().b, apart, 0, api.ErrApart}, {shaft().b, apart, 0, api.ErrApart}, {broad().b, apart, 9, api.ErrApart}, // the heaps come before all else
	} {
		want := only(x.want)
		if got := made(bog.New(x.b, x.h, x.need)); got != want {
			t.Errorf("chapter 9, R3: new company of %v %v %d: %v, not %v", x.b, x.h, x.need, got, x.want)
		}
		for _, book := range []string{"", bookOf([]string{"day", "cut 0"}), bookOf([]string{"x"}), "x"} {
			if got := replayed(bog.Replay(x.b, x.h, x.need, book)); got != want {
				t.Errorf("P9.5: replay of %q with %v %v %d: %v, not %v", book, x.b, x.h, x.need, got, x.want)
			}
		}
		for _, orders := range [][]string{nil, {"day"}, {"x"}, make([]string, api.MaxPages+1)} {
			if got := ran(bog.Run(x.b, x.h, x.need, orders)); got != want {
				t.Errorf("P9.5: run of %q with %v %v %d: %v, not %v", orders, x.b, x.h, x.need, got, x.want)
			}
		}
	}
}

func TestNilCompany(t *testing.T) {
	var none *bog.Company
	for _, order := range []string{"day", "shut", "cut 0", "", "x", strings.Repeat("x", 100)} {
		if e := none.Do(order); e != api.ErrArg {
			t.Errorf("chapter 9: nil company, %q: %v", order, e)
		}
	}
	if got := valuesOf(none); len(got.Hollow) != 0 || len(got.Turves) != 0 || got.Book != "" || got.Audit {
		t.Errorf("chapter 9: nil company: %+v", got)
	} else if got.Hollow, got.Turves = nil, nil; !alike(got, values{}) {
		t.Errorf("chapter 9: nil company: %+v", got)
	}
}

// TestAgainstModel compares each value after each order, and what S9 says of them.
func TestAgainstModel(t *testing.T) {
	seen := map[string]int{}
	for _, p := range places() {
		for seed := range uint64(6) {
			c, m := p.begin(), newModel(p)
			orders := wishes(p, 130, seed)
			if seed == 0 { // until the book is full
				orders = append(append(orders, slices.Repeat([]string{"day"}, api.MaxPages)...), wishes(p, 20, 9)...)
			}
			for _, order := range orders {
				want := m.do(order)
				if got := c.Do(order); got != want {
					t.Fatalf("P9.1, P9.2: %v, after %q: %q: %v, not %v", p, m.done, order, got, want)
				}
				if got := valuesOf(c); !alike(got, m.values()) {
					t.Fatalf("P9.3, S9: %v, %q and then %q: %+v, not %+v", p, m.done, order, got, m.values())
				}
				checkWhole(t, p, c)
				kind, _, _ := strings.Cut(order, " ")
				seen[kind+" "+names[want]]++
			}
			checkAgain(t, p, c)
		}
	}
	for _, kind := range []string{"day ok", "cut ok", "cut none", "cut rule", "cut state", "load ok", "load none", "load arg", "load short", "wet ok", "wet none", "wet state", "wet twice", "shut ok", "shut twice", "day large", "cut large", " syntax", "dry syntax"} {
		if seen[kind] < 3 {
			t.Errorf("few cases of %q: %d", kind, seen[kind])
		}
	}
}

var names = map[api.Errno]string{api.OK: "ok", api.ErrArg: "arg", api.ErrSyntax: "syntax", api.ErrLarge: "large", api.ErrNone: "none", api.ErrTwice: "twice", api.ErrRule: "rule", api.ErrState: "state", api.ErrShort: "short"}

// checkWhole checks what Audit speaks of, by the layers below.
func checkWhole(t *testing.T, p place, c *bog.Company) {
	t.Helper()
	worth, e := cut.Worth(p.b, c.Hollow())
	calm, f := heap.IsCalm(p.h, c.Turves())
	if e != api.OK || f != api.OK || !calm || c.Money() != worth+c.Loaded() {
		t.Errorf("P9.3: %v: %+v", p, valuesOf(c))
	}
	cuts, turves, bare := 0, 0, 0
	for column, number := range c.Hollow() {
		cuts += number
		turves += c.Turves()[column]
		for row := range number {
			bare |= 1 << (row*p.columns() + column)
		}
	}
	if c.Cut() != cuts || c.Cut() != c.Loaded()+c.Ground()+turves || c.Wet()&bare != c.Wet() {
		t.Errorf("P9.3, S9: %v: %+v", p, valuesOf(c))
	}
}

// checkAgain makes a company again from its book.
func checkAgain(t *testing.T, p place, c *bog.Company) {
	t.Helper()
	again, number, e := bog.Replay(p.b, p.h, p.need, c.Book())
	if e != api.OK || number != strings.Count(c.Book(), "\n") || !alike(valuesOf(again), valuesOf(c)) || !again.Audit() {
		t.Errorf("P9.3, P9.5, S9: %v: %q again: %d %v", p, c.Book(), number, e)
	}
}

func TestMemory(t *testing.T) {
	for _, p := range places() {
		right, orders := p.begin(), wishes(p, 60, 1)
		for _, order := range orders {
			right.Do(order)
		}
		book, want := right.Book(), valuesOf(right)
		changed := copyOf(p)
		c, _ := bog.New(changed.b, changed.h, p.need)
		again, _, _ := bog.Replay(changed.b, changed.h, p.need, book)
		spoil(changed)
		for _, order := range orders {
			c.Do(order)
			for _, list := range [][]int{c.Hollow(), c.Turves(), again.Hollow(), again.Turves()} {
				for k := range list {
					list[k] = 99
				}
				_ = append(list[:0], 7, 7, 7, 7, 7)
			}
		}
		if !alike(valuesOf(c), want) || !alike(valuesOf(again), want) {
			t.Errorf("R5: %v: %+v, %+v, not %+v", p, valuesOf(c), valuesOf(again), want)
		}
	}
}

// copyOf shares no memory with the place.
func copyOf(p place) place {
	q := place{need: p.need, h: api.Heaps{Ground: slices.Clone(p.h.Ground)}}
	for _, column := range p.b.Worth {
		q.b.Worth = append(q.b.Worth, slices.Clone(column))
	}
	for _, row := range p.h.Links {
		q.h.Links = append(q.h.Links, slices.Clone(row))
	}
	return q
}

func spoil(p place) {
	for c, column := range p.b.Worth {
		for r := range column {
			column[r] = 1000
		}
		p.b.Worth[c] = nil
	}
	for i, row := range p.h.Links {
		for j := range row {
			row[j] = 1000
		}
		p.h.Links[i] = nil
		p.h.Ground[i] = 0
	}
}

func TestArgumentsStay(t *testing.T) {
	for _, p := range places() {
		before := copyOf(p)
		orders := wishes(p, 60, 2)
		same := slices.Clone(orders)
		first, book, e := bog.Run(p.b, p.h, p.need, orders)
		second, again, f := bog.Run(p.b, p.h, p.need, orders)
		bog.Write(orders)
		bog.Replay(p.b, p.h, p.need, book)
		if !alike(p, before) || !alike(orders, same) {
			t.Errorf("R5: %v %q is changed to %v %q", before, same, p, orders)
		}
		if !alike(first, second) || book != again || e != f || e != api.OK {
			t.Errorf("R11: %v %q: %v %q %v, then %v %q %v", p, orders, first, book, e, second, again, f)
		}
	}
}

func TestCompaniesAreApart(t *testing.T) {
	a, b := two().begin(), two().begin()
	for _, order := range []string{"cut 0", "wet 0 0", "day", "load 0 1", "shut"} {
		a.Do(order)
	}
	if got := valuesOf(b); !alike(got, newModel(two()).values()) {
		t.Errorf("chapter 9: a company that had no orders: %+v", got)
	}
}

// TestManyAtOnce has orders and questions at the same time: no order may be lost, and nobody may see half of one.
func TestManyAtOnce(t *testing.T) {
	for range 40 {
		c := broad().begin()
		var all sync.WaitGroup
		var lock sync.Mutex
		done := map[api.Errno]int{}
		for worker := range 8 {
			all.Go(func() {
				for k := range 20 {
					order := []string{"day", "day", "cut 0", "cut 1", "cut 2", "load 0 1", "wet 0 0"}[(worker+k)%7]
					e := c.Do(order)
					lock.Lock()
					done[e]++
					lock.Unlock()
				}
			})
			all.Go(func() { watch(t, c, worker) })
		}
		all.Wait()
		for range api.MaxPages {
			done[c.Do("day")]++
		}
		orders, rest := bog.Read(c.Book())
		if done[api.OK] != api.MaxPages || len(orders) != api.MaxPages || rest != "" || !c.Audit() {
			t.Fatalf("chapter 9: used at the same time: %v, %d orders, rest %q, %+v", done, len(orders), rest, valuesOf(c))
		}
		checkAgain(t, broad(), c)
	}
}

func watch(t *testing.T, c *bog.Company, worker int) {
	book := ""
	for range 12 {
		next := c.Book()
		if !strings.HasPrefix(next, book) {
			t.Errorf("chapter 9: the book %q, after %q", next, book)
		}
		if _, rest := bog.Read(next); rest != "" {
			t.Errorf("chapter 9: the book %q", next)
		}
		book = next
		day := c.Day()
		if worker%2 == 0 && !c.Audit() || c.Day() < day {
			t.Error("chapter 9: a company that is used at the same time does not agree with itself")
		}
		if len(c.Hollow()) != 5 || len(c.Turves()) != 5 || c.Wet() < 0 || c.Cut() < 0 || c.Loaded() < 0 || c.Ground() < 0 || c.Money() < -100 || c.Shut() {
			t.Error("chapter 9: values that no company has")
		}
	}
}
