package bog

import (
	"strconv"
	"strings"

	"turbary/api"
	"turbary/tally"
)

// kind is what an order asks for.
type kind int

const (
	dayOrder kind = iota
	cutOrder
	loadOrder
	wetOrder
	shutOrder
)

// greatest is the greatest number of an order.
const greatest = 999

// order has as many numbers as its kind takes.
type order struct {
	kind    kind
	numbers []int
}

// refusal is an order that is refused, with the reason.
type refusal struct {
	order  string
	reason api.Errno
}

// Error names the order, and the number of the reason.
func (r refusal) Error() string {
	return strconv.Quote(r.order) + " is refused: " + strconv.Itoa(int(r.reason))
}

// after returns what there is after an order, which it does not do yet.
func (c *Company) after(text string) (tally.Tally, error) {
	o, ok := orderIn(text)
	if !ok {
		return tally.Tally{}, refusal{text, api.ErrSyntax}
	}
	if len(c.orders) == api.MaxPages {
		return tally.Tally{}, refusal{text, api.ErrLarge}
	}
	after := c.now
	if e := c.site.change(&after, o); e != api.OK {
		return tally.Tally{}, refusal{text, e}
	}
	return after, nil
}

// orderIn reports whether a text is an order.
func orderIn(text string) (order, bool) {
	if !isLine(text) {
		return order{}, false
	}
	words := strings.Split(text, " ")
	kind, count, ok := kindOf(words[0])
	if !ok || len(words) != 1+count {
		return order{}, false
	}
	numbers := make([]int, count)
	for k, word := range words[1:] {
		number, err := strconv.Atoi(word)
		// A number with a sign or with leading zeros is written otherwise again.
		if err != nil || number < 0 || number > greatest || strconv.Itoa(number) != word {
			return order{}, false
		}
		numbers[k] = number
	}
	return order{kind, numbers}, true
}

// kindOf returns the kind of order that begins with a word, and how many numbers follow.
func kindOf(word string) (kind, int, bool) {
	switch word {
	case "day":
		return dayOrder, 0, true
	case "cut":
		return cutOrder, 1, true
	case "load":
		return loadOrder, 2, true
	case "wet":
		return wetOrder, 2, true
	case "shut":
		return shutOrder, 0, true
	}
	return 0, 0, false
}
