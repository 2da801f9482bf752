package bog_test

import (
	"fmt"
	"strings"
	"testing"

	"turbary/api"
)

// turn is an order with what it returns.
type turn struct {
	order string
	want  api.Errno
}

// check does orders, compares with the model, and gives the values at the end.
func check(t *testing.T, p place, turns ...turn) values {
	t.Helper()
	c, m := p.begin(), newModel(p)
	for k, x := range turns {
		before := valuesOf(c)
		got := c.Do(x.order)
		if got != x.want || m.do(x.order) != x.want {
			t.Errorf("%v, order %d, %q: %v, not %v", p, k, x.order, got, x.want)
		}
		if after := valuesOf(c); got != api.OK && !alike(after, before) {
			t.Errorf("R3: %q was refused, but changed %+v to %+v", x.order, before, after)
		}
	}
	if !alike(valuesOf(c), m.values()) {
		t.Errorf("%v, %v: %+v, not %+v", p, turns, valuesOf(c), m.values())
	}
	return valuesOf(c)
}

// fine is for orders that are done.
func fine(orders ...string) []turn {
	var list []turn
	for _, order := range orders {
		list = append(list, turn{order, api.OK})
	}
	return list
}

func TestExamples(t *testing.T) {
	check(t, two(), turn{"cut 0", api.OK}, turn{"cut 0", api.ErrRule}, turn{"cut 1", api.OK}, turn{"cut 0", api.OK})
	check(t, two(), turn{"wet 0 0", api.ErrState}, turn{"cut 0", api.OK}, turn{"wet 0 0", api.OK}, turn{"cut 0", api.ErrRule})
	check(t, shaft(), turn{"wet 0 0", api.ErrState}, turn{"cut 0", api.OK}, turn{"wet 0 0", api.OK}, turn{"cut 0", api.ErrRule})
	if got := check(t, two(), fine("day")...); got.Book != "696239 day\n" || got.Day != 1 {
		t.Errorf("P9.4: %+v", got)
	}
	// Example 9 of DOC.md: what is below others
	check(t, broad(), turn{"cut 2", api.OK}, turn{"cut 2", api.ErrRule}, turn{"cut 1", api.OK}, turn{"cut 2", api.ErrRule}, turn{"cut 3", api.OK}, turn{"cut 2", api.OK})
}

func TestSyntax(t *testing.T) {
	for _, wrong := range []string{
		"", " ", "\n", "x", "d", "da", "days", "Day", "DAY", " day", "day ", "day\n", "\nday", "day 0", "day day", "day\x00", "\x00day", "d\u0430y", "day\r", "shut ", "shut 0", "shu", "shutt", "shut shut",
		"cut", "cut ", "cut  0", " cut 0", "cut 0 ", "cut 0 0", "cut 0 0 0", "cut x", "cut C", "cut -1", "cut -0", "cut +0", "cut +1", "cut 00", "cut 01", "cut 000", "cut 1000", "cut 0999", "cut 9999", "cut 1.0", "cut 0x1", "cut 1_0", "cut 1e0", "cut 0\n", "cut\t0", "cut\n0", "cut 0,", "cut \u0663", "cut \uff10", "cut -", "cut +", "Cut 0", "cuts 0", "cut0", "cut 99999999999999999999", "cut 18446744073709551616", "cut 4294967296", "cut -9223372036854775808",
		"load", "load 0", "load 0 ", "load 0  1", "load  0 1", "load 0 1 ", "load 0 1 2", "load 00 1", "load 0 01", "load 0 1000", "load 1000 0", "load -1 0", "load 0 -1", "load 0 +1", "load x 0", "load 0 x", "load 0,1", "Load 0 1", "loads 0 1", "load 0\t1", "load 0\n1", "load 0 18446744073709551617",
		"wet", "wet 0", "wet 0 ", "wet 0  0", "wet 0 0 ", "wet 0 0 0", "wet 00 0", "wet 0 00", "wet 1000 0", "wet 0 1000", "wet -1 0", "wet 0 -1", "wet x 0", "wet 0 x", "Wet 0 0", "wets 0 0", "wet 0-0", "wet 0 0\n",
		"cut 0" + strings.Repeat(" ", 36), "cut " + strings.Repeat("0", 36), "cut " + strings.Repeat("0", 37), "day" + strings.Repeat(" ", 38), strings.Repeat("x", 40), strings.Repeat("x", 41), strings.Repeat("day ", 100000), strings.Repeat(" ", 100000), strings.Repeat("1", 100000), "day\nday", "0 0", "1 day", "696239 day", "\xff", "day\xff", "é",
	} {
		check(t, two(), turn{"cut 0", api.OK}, turn{wrong, api.ErrSyntax}, turn{"wet 0 0", api.OK})
	}
}

func TestSyntaxOfOrdersWithOneChange(t *testing.T) {
	seen := map[api.Errno]int{}
	for _, right := range []string{"day", "shut", "cut 0", "cut 1", "cut 12", "cut 999", "load 0 1", "load 10 0", "wet 0 0", "wet 1 999"} {
		for at := range len(right) + 1 {
			texts := []string{right[:at], right[at:]}
			for _, x := range "\n 0129-+adx\x00é" {
				texts = append(texts, right[:at]+string(x)+right[at:])
				if at < len(right) {
					texts = append(texts, right[:at]+string(x)+right[at+1:], right[:at]+right[at+1:])
				}
			}
			for _, text := range texts {
				c, m := two().begin(), newModel(two())
				for _, order := range []string{"cut 0", "wet 0 0", text} {
					want := m.do(order)
					if got := c.Do(order); got != want {
						t.Errorf("P9.1: %q: %v, not %v", order, got, want)
					}
					seen[want]++
				}
			}
		}
	}
	if min(seen[api.OK], seen[api.ErrSyntax], seen[api.ErrNone]) < 20 {
		t.Error("few cases:", seen)
	}
}

func TestFullBook(t *testing.T) {
	c := two().begin()
	for k := range api.MaxPages {
		if e := c.Do("day"); e != api.OK {
			t.Fatal(k, e)
		}
	}
	before := valuesOf(c)
	for _, order := range []string{"day", "cut 0", "cut 9", "cut 999", "load 9 0", "load 0 0", "load 0 1", "wet 9 9", "wet 0 0", "shut"} {
		if e := c.Do(order); e != api.ErrLarge {
			t.Errorf("chapter 9: %q with a full book: %v", order, e)
		}
	}
	for _, order := range []string{"", "days", "cut", "cut -1", "load 0", strings.Repeat("x", 41)} {
		if e := c.Do(order); e != api.ErrSyntax {
			t.Errorf("chapter 9: %q with a full book: %v", order, e)
		}
	}
	if got := valuesOf(c); !alike(got, before) || got.Day != api.MaxPages || !got.Audit {
		t.Errorf("chapter 9: a full book: %+v", got)
	}
}

func TestRefusedOrdersAreNotCounted(t *testing.T) {
	c := two().begin()
	for range 3 * api.MaxPages {
		c.Do("load 0 1")
		c.Do("cut 7")
		c.Do("x")
	}
	if e := c.Do("day"); e != api.OK || c.Book() != bookOf([]string{"day"}) {
		t.Errorf("chapter 9: after refused orders: %v %q", e, c.Book())
	}
}

func TestCut(t *testing.T) {
	// the money, the turf, and what falls over
	got := check(t, shaft(), fine("cut 0")...)
	if got.Money != 4 || got.Cut != 1 || !alike(got.Turves, []int{1}) || got.Ground != 0 || !alike(got.Hollow, []int{1}) {
		t.Errorf("P9.1: %+v", got)
	}
	got = check(t, shaft(), append(fine("cut 0", "cut 0", "cut 0"), turn{"cut 1", api.ErrNone})...)
	if got.Money != 3 || got.Cut != 3 || !alike(got.Turves, []int{1}) || got.Ground != 2 {
		t.Errorf("P9.1: %+v", got)
	}
	got = check(t, shaft(), append(fine("cut 0", "cut 0", "cut 0", "cut 0"), turn{"cut 0", api.ErrRule})...) // nothing is left
	if got.Money != 4 || got.Cut != 4 || !alike(got.Turves, []int{0}) || got.Ground != 4 {
		t.Errorf("P9.1: %+v", got)
	}
	// a turf comes on the heap of the column, and others get some
	got = check(t, two(), fine("cut 0", "cut 1")...)
	if !alike(got.Turves, []int{1, 1}) || got.Ground != 0 || got.Money != 2 {
		t.Errorf("P9.1: %+v", got)
	}
	got = check(t, two(), fine("cut 0", "cut 1", "cut 1")...)
	if !alike(got.Turves, []int{0, 1}) || got.Ground != 2 || got.Money != 4 || got.Cut != 3 {
		t.Errorf("P9.1: %+v", got)
	}
}

func TestErrorsOfCut(t *testing.T) {
	for _, c := range []int{2, 3, 9, 10, 99, 998, 999} {
		order := fmt.Sprintf("cut %d", c)
		check(t, two(), turn{order, api.ErrNone}, turn{"shut", api.OK}, turn{order, api.ErrNone})
	}
	check(t, two(), turn{"cut 1", api.OK}, turn{"shut", api.OK}, turn{"cut 0", api.ErrState}, turn{"cut 1", api.ErrState})
	check(t, two(), turn{"shut", api.OK}, turn{"cut 0", api.ErrState}, turn{"cut 2", api.ErrNone}, turn{"day", api.OK}, turn{"cut 0", api.ErrState})
	// only the square just above hinders
	above := fine("cut 0", "cut 0", "wet 1 0")
	check(t, shaft(), append(above, turn{"cut 0", api.ErrRule})...)
	further := fine("cut 0", "cut 0", "wet 0 0", "cut 0", "cut 0")
	check(t, shaft(), append(further, turn{"cut 0", api.ErrRule})...)
	aside := fine("cut 0", "cut 1", "wet 0 1", "cut 0")
	check(t, two(), append(aside, turn{"cut 1", api.ErrRule}, turn{"cut 0", api.ErrRule})...)
	// moss that has spread hinders, too
	check(t, shaft(), turn{"cut 0", api.OK}, turn{"cut 0", api.OK}, turn{"wet 0 0", api.OK}, turn{"day", api.OK}, turn{"cut 0", api.ErrRule})
}

func TestDay(t *testing.T) {
	deep := fine("cut 0", "cut 0", "cut 0", "cut 0", "wet 0 0")
	for days, want := range []int{1, 3, 7, 15, 15} {
		if got := check(t, shaft(), append(deep, fine("day", "day", "day", "day", "day")[:days]...)...); got.Wet != want || got.Day != days {
			t.Errorf("P9.1: after %d days: %+v", days, got)
		}
	}
	// what is not cut stays dry, until it is cut and the next day comes
	wide := place{api.Bog{Worth: [][]int{{1}, {1}, {1}}}, api.Heaps{Links: [][]int{{0, 0, 0}, {0, 0, 0}, {0, 0, 0}}, Ground: []int{1, 1, 1}}, 1}
	begun := fine("cut 0", "cut 2", "wet 0 0", "day", "day")
	if got := check(t, wide, begun...); got.Wet != 1 || got.Day != 2 {
		t.Errorf("P9.1: %+v", got)
	}
	if got := check(t, wide, append(begun, fine("cut 1")...)...); got.Wet != 1 {
		t.Errorf("P9.1: %+v", got)
	}
	if got := check(t, wide, append(begun, fine("cut 1", "day")...)...); got.Wet != 3 {
		t.Errorf("P9.1: %+v", got)
	}
	if got := check(t, wide, append(begun, fine("cut 1", "day", "shut", "day")...)...); got.Wet != 7 { // also if the company is shut
		t.Errorf("P9.1: %+v", got)
	}
	// the need is that of the company
	square := fine("cut 0", "cut 1", "cut 0", "cut 1", "wet 0 0", "wet 1 1", "day")
	for k, want := range []int{15, 15, 9} {
		p := two()
		p.need = k + 1
		if got := check(t, p, square...); got.Wet != want {
			t.Errorf("P9.1: with the need %d: %+v", p.need, got)
		}
	}
}

func TestLoad(t *testing.T) {
	for _, c := range []int{2, 3, 10, 999} {
		for _, number := range []int{0, 1, 999} {
			check(t, two(), turn{"cut 0", api.OK}, turn{fmt.Sprintf("load %d %d", c, number), api.ErrNone})
		}
	}
	check(t, two(), turn{"load 0 0", api.ErrArg}, turn{"load 0 1", api.ErrShort}, turn{"cut 0", api.OK}, turn{"load 0 0", api.ErrArg}, turn{"load 1 1", api.ErrShort}, turn{"load 0 2", api.ErrShort}, turn{"load 0 999", api.ErrShort}, turn{"load 0 1", api.OK}, turn{"load 0 1", api.ErrShort})
	orders := fine("cut 4", "cut 3", "cut 4", "cut 2", "cut 3", "cut 4")
	if got := check(t, broad(), orders...); !alike(got.Turves, []int{0, 0, 1, 2, 3}) || got.Loaded != 0 {
		t.Errorf("P9.2: %+v", got)
	}
	before := check(t, broad(), orders...).Money
	got := check(t, broad(), append(orders, fine("load 4 2", "shut", "load 4 1", "load 3 1")...)...) // also if the company is shut
	if !alike(got.Turves, []int{0, 0, 1, 1, 0}) || got.Loaded != 4 || got.Money != before+4 || got.Cut != 6 || got.Ground != 0 {
		t.Errorf("P9.2: %+v", got)
	}
}

func TestWet(t *testing.T) {
	check(t, two(), turn{"wet 3 0", api.ErrNone}, turn{"wet 0 2", api.ErrNone}, turn{"wet 3 2", api.ErrNone}, turn{"wet 999 999", api.ErrNone}, turn{"wet 2 1", api.ErrState}, turn{"wet 0 0", api.ErrState})
	check(t, two(), turn{"cut 1", api.OK}, turn{"wet 0 0", api.ErrState}, turn{"wet 1 0", api.ErrState}, turn{"wet 1 1", api.ErrState}, turn{"wet 0 1", api.OK}, turn{"wet 0 1", api.ErrTwice})
	// the row comes first, and squares are numbered row by row
	all := fine("cut 0", "cut 1", "cut 0", "cut 1", "cut 0", "cut 1")
	for row := range 3 {
		for column := range 2 {
			order := fmt.Sprintf("wet %d %d", row, column)
			got := check(t, two(), append(all, turn{order, api.OK}, turn{order, api.ErrTwice}, turn{"shut", api.OK}, turn{order, api.ErrTwice})...)
			if got.Wet != 1<<(2*row+column) {
				t.Errorf("P9.2: %s: %+v", order, got)
			}
			shut := check(t, two(), append(all, turn{"shut", api.OK}, turn{order, api.OK})...) // also if the company is shut
			if shut.Wet != got.Wet || !shut.Shut {
				t.Errorf("P9.2: %s: %+v", order, shut)
			}
		}
	}
	// what has become wet by itself is wet
	check(t, shaft(), turn{"cut 0", api.OK}, turn{"cut 0", api.OK}, turn{"wet 1 0", api.OK}, turn{"day", api.OK}, turn{"wet 0 0", api.ErrTwice})
}

func TestShut(t *testing.T) {
	got := check(t, two(), turn{"shut", api.OK}, turn{"shut", api.ErrTwice}, turn{"day", api.OK}, turn{"shut", api.ErrTwice})
	if !got.Shut || got.Day != 1 || got.Book != bookOf([]string{"shut", "day"}) {
		t.Errorf("P9.2: %+v", got)
	}
}
