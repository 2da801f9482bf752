package bog

import (
	"slices"
	"strconv"
	"strings"

	"turbary/api"
)

// modulus is above all sums.
const modulus = 1000003

// Sum: see P9.4.
func Sum(before int, text string) int {
	sum := before % modulus
	if sum < 0 {
		sum += modulus
	}
	for k := range len(text) {
		sum = (sum*257 + int(text[k]) + 1) % modulus
	}
	return sum
}

// Write: see P9.4.
func Write(orders []string) (string, api.Errno) {
	if len(orders) > api.MaxPages {
		return "", api.ErrLarge
	}
	if slices.ContainsFunc(orders, func(order string) bool { return !isLine(order) }) {
		return "", api.ErrArg
	}
	return bookOf(orders), api.OK
}

// Read: see P9.4.
func Read(book string) ([]string, string) {
	var orders []string
	sum, rest := 0, book
	for len(orders) < api.MaxPages {
		line, _, _ := strings.Cut(rest, "\n")
		_, order, _ := strings.Cut(line, " ")
		if !isLine(order) {
			break
		}
		sum = Sum(sum, order)
		after, ok := strings.CutPrefix(rest, page(sum, order))
		if !ok {
			break
		}
		orders, rest = append(orders, order), after
	}
	return orders, rest
}

// Merge: see P9.5.
func Merge(a, b string) (string, int, api.Errno) {
	first, restOfFirst := Read(a)
	second, restOfSecond := Read(b)
	if restOfFirst != "" || restOfSecond != "" {
		return "", 0, api.ErrBroken
	}
	alike := min(len(first), len(second))
	for k := range alike {
		if first[k] != second[k] {
			return "", k, api.ErrProof
		}
	}
	if len(first) < len(second) {
		return b, len(second), api.OK
	}
	return a, len(first), api.OK
}

// Replay: see P9.5.
func Replay(b api.Bog, h api.Heaps, need int, book string) (*Company, int, api.Errno) {
	c, e := New(b, h, need)
	if e != api.OK {
		return nil, 0, e
	}
	orders, rest := Read(book)
	if rest != "" {
		return nil, 0, api.ErrBroken
	}
	for k, order := range orders {
		if e := c.Do(order); e != api.OK {
			return nil, k, e
		}
	}
	return c, len(orders), api.OK
}

// Run: see P9.5.
func Run(b api.Bog, h api.Heaps, need int, orders []string) ([]api.Errno, string, api.Errno) {
	c, e := New(b, h, need)
	if e != api.OK {
		return nil, "", e
	}
	if len(orders) > api.MaxPages {
		return nil, "", api.ErrLarge
	}
	results := make([]api.Errno, len(orders))
	for k, order := range orders {
		results[k] = c.Do(order)
	}
	return results, c.Book(), api.OK
}

// isLine reports whether a text can be an order of a book.
func isLine(text string) bool {
	return len(text) >= 1 && len(text) <= api.MaxLine && !strings.Contains(text, "\n")
}

func bookOf(orders []string) string {
	book, sum := "", 0
	for _, order := range orders {
		sum = Sum(sum, order)
		book += page(sum, order)
	}
	return book
}

// page is a line of a book.
func page(sum int, order string) string {
	return strconv.Itoa(sum) + " " + order + "\n"
}
