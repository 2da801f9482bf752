package bog_test

import (
	"fmt"
	"math/big"
	"slices"
	"strings"
	"testing"

	"turbary/api"
	"turbary/bog"
)

// sumOf goes by the definition, without a limit.
func sumOf(before int, text string) int {
	modulus := big.NewInt(1000003)
	sum := new(big.Int).Mod(big.NewInt(int64(before)), modulus) // from 0 on
	for _, c := range []byte(text) {
		sum.Mul(sum, big.NewInt(257))
		sum.Add(sum, big.NewInt(int64(c)+1))
		sum.Mod(sum, modulus)
	}
	return int(sum.Int64())
}

func TestSum(t *testing.T) {
	for _, x := range []struct {
		before int
		text   string
		want   int
	}{
		{0, "", 0}, {0, "day", 696239}, {0, "\x00", 1}, {0, "\xff", 256}, {0, "d", 101}, {1, "", 1}, {1000002, "", 1000002}, {1000003, "", 0}, {1000004, "", 1}, {-1, "", 1000002}, {-1000002, "", 1}, {-1000003, "", 0}, {-1000004, "", 1000002}, {-1, "\x00", 999747}, {0, "\n", 11}, {3891, "\x00", 999988}, {3891, "\x0f", 0},
	} {
		if got := bog.Sum(x.before, x.text); got != x.want {
			t.Errorf("P9.4: sum of %d and %q: %d, not %d", x.before, x.text, got, x.want)
		}
	}
	every := make([]byte, 256)
	for k := range every {
		every[k] = byte(k)
	}
	for _, before := range []int{0, 1, -1, 2, 999999, 1000002, 1000003, -1000003, 123456789, lowest, lowest + 1, highest, highest - 1, 1 << 32, -1 << 31} {
		for _, text := range []string{"", "day", "cut 0", "x y\n", string(every), strings.Repeat("\xff", 1000), strings.Repeat("\x00", 1000), "é"} {
			want := sumOf(before, text)
			if got := bog.Sum(before, text); got != want {
				t.Errorf("P9.4: sum of %d and %q: %d, not %d", before, text, got, want)
			}
			if got := bog.Sum(bog.Sum(before, text), "more"); got != bog.Sum(before, text+"more") {
				t.Errorf("P9.4: sum of %d and %q in two parts: %d", before, text, got)
			}
		}
	}
}

// ordersOfAll gives lists of texts without a line feed.
func ordersOfAll() [][]string {
	full := make([]string, api.MaxPages)
	for k := range full {
		full[k] = fmt.Sprint("load ", k%3, " ", k)
	}
	return [][]string{
		nil, {"day"}, {"day", "day"}, {"x y", "cut 0"}, {" "}, {"  "}, {" day", "day ", "a  b"}, {"\x00", "\xff\xfe", "\r"}, {"é", "\u2028"}, {"696239 day"}, {"0"}, {"0 0"},
		{strings.Repeat("x", api.MaxLine)}, {strings.Repeat(" ", api.MaxLine), "shut"}, {strings.Repeat("é", api.MaxLine/2)}, full, full[1:], slices.Repeat([]string{strings.Repeat("\xff", api.MaxLine)}, api.MaxPages),
	}
}

func TestWriteAndRead(t *testing.T) {
	if got, e := bog.Write([]string{"day"}); got != "696239 day\n" || e != api.OK {
		t.Errorf("P9.4: %q %v", got, e)
	}
	for _, orders := range ordersOfAll() {
		want := bookOf(orders)
		if got, e := bog.Write(orders); got != want || e != api.OK {
			t.Errorf("P9.4: write of %q: %q %v, not %q", orders, got, e, want)
		}
		if got, rest := bog.Read(want); !slices.Equal(got, orders) || rest != "" {
			t.Errorf("P9.4: read of %q: %q, rest %q", want, got, rest)
		}
	}
}

func TestErrorsOfWrite(t *testing.T) {
	long := strings.Repeat("x", api.MaxLine+1)
	for _, wrong := range []string{"", "\n", "day\n", "\nday", "da\ny", long, long + "\n", strings.Repeat("é", api.MaxLine/2) + "x", strings.Repeat("x", 100000)} {
		for _, orders := range [][]string{{wrong}, {"day", wrong}, {wrong, "day"}, slices.Repeat([]string{wrong}, api.MaxPages)} {
			if got := written(bog.Write(orders)); got != only(api.ErrArg) {
				t.Errorf("P9.4, R3: write of %.200q: %v", orders, got)
			}
		}
		if got := written(bog.Write(slices.Repeat([]string{wrong}, api.MaxPages+1))); got != only(api.ErrLarge) {
			t.Errorf("P9.4: write of too many %.100q: %v", wrong, got)
		}
	}
	for _, count := range []int{api.MaxPages + 1, api.MaxPages + 2, 1000} {
		if got := written(bog.Write(slices.Repeat([]string{"day"}, count))); got != only(api.ErrLarge) {
			t.Errorf("P9.4: write of %d orders: %v", count, got)
		}
	}
}

// isBook goes by the definition, and gives the orders.
func isBook(text string) ([]string, bool) {
	var orders []string
	for _, line := range strings.SplitAfter(text, "\n") {
		if line == "" {
			continue // behind the last line feed
		}
		blank := strings.Index(line, " ")
		if blank < 0 || !strings.HasSuffix(line, "\n") {
			return nil, false
		}
		order := line[blank+1 : len(line)-1]
		if len(order) == 0 || len(order) > api.MaxLine {
			return nil, false
		}
		orders = append(orders, order)
	}
	return orders, len(orders) <= api.MaxPages && bookOf(orders) == text
}

// checkRead looks at all beginnings of a text.
func checkRead(t *testing.T, text string) int {
	t.Helper()
	end := len(text)
	want, ok := isBook(text)
	for ; !ok; want, ok = isBook(text[:end]) {
		end--
	}
	if got, rest := bog.Read(text); !slices.Equal(got, want) || rest != text[end:] {
		t.Errorf("P9.4: read of %.300q: %.300q, rest %.300q, not %.300q, rest %.300q", text, got, rest, want, text[end:])
	}
	return len(want)
}

func TestReadOfOtherTexts(t *testing.T) {
	for _, text := range []string{
		"", " ", "\n", "x", "696239", "696239 ", "696239 day", "696239 day ", "696239  day\n", "696239 day\n\n", "696239 day\r\n", "0696239 day\n", "+696239 day\n", " 696239 day\n", "696239\tday\n", "696239day\n", "696238 day\n", "1696242 day\n", "-303764 day\n", "696239 Day\n", "0 \n", "\n696239 day\n", "696239 day\n696239 day\n", "696239 day\n0 \n", "0\n", "day\n", "1 \x00\n", "01 \x00\n", "1 \x00", "\ufeff696239 day\n", "000000 day\n", "day day\n",
		bookOf([]string{""}), bookOf([]string{"day", ""}), bookOf([]string{strings.Repeat("x", api.MaxLine+1)}), bookOf([]string{"day", strings.Repeat("x", api.MaxLine+1), "day"}), bookOf([]string{"day\nday"}), bookOf([]string{"cut 0", "day\n"}),
		bookOf([]string{"day"}) + bookOf([]string{"cut 0"}), bookOf([]string{"day", "cut 0"})[11:], "696239 day\n" + strings.Repeat("x", 1000), strings.Repeat("696239 day\n", 50), strings.Repeat("\n", 1000),
	} {
		checkRead(t, text)
	}
	seen := map[int]int{}
	orders := []string{"day", "x  y", "cut 0", " "}
	book := bookOf(orders)
	for at := range len(book) + 1 {
		texts := []string{book[:at], book[at:], book[:at] + book}
		for _, x := range "\n 0169dx-\x00é" {
			texts = append(texts, book[:at]+string(x)+book[at:])
			if at < len(book) {
				texts = append(texts, book[:at]+string(x)+book[at+1:], book[:at]+book[at+1:])
			}
		}
		for _, text := range texts {
			seen[checkRead(t, text)]++
		}
	}
	for count := range len(orders) + 1 {
		if seen[count] < 10 {
			t.Error("few cases:", seen)
		}
	}
}

func TestReadOfLongBooks(t *testing.T) {
	for _, count := range []int{api.MaxPages - 1, api.MaxPages, api.MaxPages + 1, 2 * api.MaxPages} {
		orders := slices.Repeat([]string{"day", "x"}, api.MaxPages)[:count]
		most := min(count, api.MaxPages)
		text := bookOf(orders)
		got, rest := bog.Read(text)
		if !slices.Equal(got, orders[:most]) || bookOf(got)+rest != text || rest == "" != (count <= api.MaxPages) {
			t.Errorf("P9.4: read of %d orders: %d, rest %q", count, len(got), rest)
		}
		want := only(api.OK)
		want.zero = false
		if want.number = count; count > api.MaxPages {
			want = only(api.ErrBroken)
		}
		if got := merged(bog.Merge(text, text)); got != want {
			t.Errorf("P9.5: merge of %d orders: %v", count, got)
		}
	}
	long := strings.Repeat("x", 5000000)
	if got, rest := bog.Read("696239 day\n" + long); len(got) != 1 || rest != long {
		t.Errorf("P9.4: read with a long rest: %q, %d", got, len(rest))
	}
	if got, rest := bog.Read("0 " + long + "\n"); len(got) != 0 || len(rest) != len(long)+3 {
		t.Errorf("P9.4: read of a long line: %q, %d", got, len(rest))
	}
}

func TestMerge(t *testing.T) {
	seen := map[string]int{}
	lists := [][]string{{"day"}, {"day", "shut"}, {"day", "shut", "day"}, {"shut"}, {"shut", "day"}, {"x"}, {"x", "y"}, {"day", "Shut"}, {"day", "x", "day"}, {"day", "day", "day"}, {"da"}, {"days"}, {"day", "shu"}}
	for _, first := range append(lists, ordersOfAll()...) {
		for _, second := range append(lists, ordersOfAll()...) {
			differ := 0
			for differ < min(len(first), len(second)) && first[differ] == second[differ] {
				differ++
			}
			book, number, e := bog.Merge(bookOf(first), bookOf(second))
			longer := first
			if len(second) > len(first) {
				longer = second
			}
			switch differ {
			case len(first), len(second):
				if book != bookOf(longer) || number != len(longer) || e != api.OK {
					t.Errorf("P9.5: merge of %q and %q: %q %d %v", first, second, book, number, e)
				}
				seen["alike"]++
			default:
				if book != "" || number != differ || e != api.ErrProof {
					t.Errorf("P9.5, R3: merge of %q and %q: %q %d %v, not at %d", first, second, book, number, e, differ)
				}
				seen[fmt.Sprint("other at ", min(differ, 3))]++
			}
		}
	}
	if min(seen["alike"], seen["other at 0"], seen["other at 1"]) < 5 {
		t.Error("few cases:", seen)
	}
	for _, broken := range []string{"x", "\n", "696239 day", "696239 day\n\n", "696238 day\n", bookOf([]string{"day"}) + bookOf([]string{"day"}), bookOf([]string{"day", "shut", ""}), bookOf(slices.Repeat([]string{"day"}, api.MaxPages+1))} {
		for _, other := range []string{"", bookOf([]string{"day"}), bookOf([]string{"shut", "day"}), "x", broken} {
			for _, got := range []result{merged(bog.Merge(broken, other)), merged(bog.Merge(other, broken))} {
				if got != only(api.ErrBroken) {
					t.Errorf("P9.5, R3: merge of %.100q and %.100q: %v", broken, other, got)
				}
			}
		}
	}
}
