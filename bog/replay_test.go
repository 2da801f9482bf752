package bog_test

import (
	"slices"
	"strings"
	"testing"

	"turbary/api"
	"turbary/bog"
)

// TestReplayOfBeginnings makes a company again as it was after each order.
func TestReplayOfBeginnings(t *testing.T) {
	for _, p := range places() {
		c, book := p.begin(), ""
		for _, order := range wishes(p, 70, 3) {
			c.Do(order)
			if c.Book() == book {
				continue
			}
			if book = c.Book(); !strings.HasSuffix(book, " "+order+"\n") {
				t.Errorf("P9.4: the book %q after %q", book, order)
			}
			checkAgain(t, p, c)
		}
	}
}

func TestReplayGoesOn(t *testing.T) {
	c, number, e := bog.Replay(two().b, two().h, two().need, bookOf([]string{"cut 0", "cut 1"}))
	if number != 2 || e != api.OK || c.Do("cut 0") != api.OK || c.Do("cut 2") != api.ErrNone || c.Do("load 1 1") != api.ErrShort {
		t.Fatal("P9.5:", number, e)
	}
	want := newModel(two())
	for _, order := range []string{"cut 0", "cut 1", "cut 0"} {
		want.do(order)
	}
	if got := valuesOf(c); !alike(got, want.values()) {
		t.Errorf("P9.5: after a replay and one more order: %+v, not %+v", got, want.values())
	}
	empty, number, e := bog.Replay(two().b, two().h, two().need, "")
	if number != 0 || e != api.OK || !alike(valuesOf(empty), newModel(two()).values()) {
		t.Errorf("P9.5: replay of an empty book: %+v %d %v", valuesOf(empty), number, e)
	}
	full := slices.Repeat([]string{"day"}, api.MaxPages)
	last, number, e := bog.Replay(two().b, two().h, two().need, bookOf(full))
	if number != api.MaxPages || e != api.OK || last.Day() != api.MaxPages || !last.Audit() || last.Do("day") != api.ErrLarge {
		t.Errorf("P9.5: replay of a full book: %d %v", number, e)
	}
}

func TestErrorsOfReplay(t *testing.T) {
	for _, x := range []struct {
		orders []string
		number int
		want   api.Errno
	}{
		{[]string{"x"}, 0, api.ErrSyntax}, {[]string{"day", "x y", "cut 0"}, 1, api.ErrSyntax}, {[]string{"day", "day", "day "}, 2, api.ErrSyntax}, {[]string{" "}, 0, api.ErrSyntax}, {[]string{"cut 00"}, 0, api.ErrSyntax},
		{[]string{"cut 2"}, 0, api.ErrNone}, {[]string{"cut 0", "cut 0"}, 1, api.ErrRule}, {[]string{"day", "cut 0", "cut 0", "x"}, 2, api.ErrRule}, {[]string{"shut", "cut 0"}, 1, api.ErrState}, {[]string{"shut", "shut"}, 1, api.ErrTwice},
		{[]string{"load 2 1"}, 0, api.ErrNone}, {[]string{"cut 0", "load 0 0"}, 1, api.ErrArg}, {[]string{"cut 0", "load 0 1", "load 0 1"}, 2, api.ErrShort},
		{[]string{"wet 0 0"}, 0, api.ErrState}, {[]string{"wet 3 0"}, 0, api.ErrNone}, {[]string{"cut 0", "wet 0 0", "wet 0 0", "day", "x"}, 2, api.ErrTwice},
		{append(slices.Repeat([]string{"day"}, api.MaxPages-1), "cut 2"), api.MaxPages - 1, api.ErrNone},
	} {
		want := result{true, x.number, x.want}
		if got := replayed(bog.Replay(two().b, two().h, two().need, bookOf(x.orders))); got != want {
			t.Errorf("P9.5: replay of %q: %v, not %v", x.orders, got, want)
		}
		for _, tail := range []string{"x", "\n", " ", "0 day\n", "day"} { // a broken book comes first
			if got := replayed(bog.Replay(two().b, two().h, two().need, bookOf(x.orders)+tail)); got != only(api.ErrBroken) {
				t.Errorf("P9.5: replay of %q and %q: %v", x.orders, tail, got)
			}
		}
	}
	for _, broken := range []string{"x", " ", "\n", "day\n", "696239 day", "696239 day\n\n", "696238 day\n", "696239 day\n696239 day\n", bookOf([]string{"day", ""}), bookOf([]string{strings.Repeat("x", api.MaxLine+1)}), bookOf(slices.Repeat([]string{"day"}, api.MaxPages+1))} {
		if got := replayed(bog.Replay(two().b, two().h, two().need, broken)); got != only(api.ErrBroken) {
			t.Errorf("P9.5, R3: replay of %.100q: %v", broken, got)
		}
	}
}

func TestRun(t *testing.T) {
	for _, p := range places() {
		for seed := range uint64(4) {
			orders := wishes(p, int(seed)*33, seed)
			m := newModel(p)
			var want []api.Errno
			for _, order := range orders {
				want = append(want, m.do(order))
			}
			if errs, book, e := bog.Run(p.b, p.h, p.need, orders); !slices.Equal(errs, want) || book != bookOf(m.done) || e != api.OK {
				t.Errorf("P9.5: run of %q with %v: %v %q %v, not %v %q", orders, p, errs, book, e, want, bookOf(m.done))
			}
		}
	}
}

func TestLengthOfRun(t *testing.T) {
	for _, order := range []string{"day", "x", "", "cut 2", "shut", strings.Repeat("x", 1000)} {
		full := slices.Repeat([]string{order}, api.MaxPages)
		if errs, _, e := bog.Run(two().b, two().h, two().need, full); len(errs) != api.MaxPages || e != api.OK || slices.Contains(errs, api.ErrLarge) {
			t.Errorf("P9.5: run of %d orders %.100q: %v %v", len(full), order, errs, e)
		}
		for _, more := range []int{1, 2, 900} {
			if got := ran(bog.Run(two().b, two().h, two().need, slices.Repeat([]string{order}, api.MaxPages+more))); got != only(api.ErrLarge) {
				t.Errorf("P9.5, R3: run of %d orders too many, %.100q: %v", more, order, got)
			}
		}
	}
}
