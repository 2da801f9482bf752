package moss

import (
	"strconv"
	"strings"

	"turbary/api"
)

const (
	wetMark = '#'
	dryMark = '.'
)

// Format: see P8.5.
func Format(m api.Meadow, wet int) (string, api.Errno) {
	if e := validateSet(m, wet); e != api.OK {
		return "", e
	}
	return format(m, wet), api.OK
}

// Parse: see P8.5.
func Parse(text string) (api.Meadow, int, api.Errno) {
	head, rows, _ := strings.Cut(text, "\n")
	words := strings.SplitN(head, " ", 4)
	if len(words) != 4 {
		return api.Meadow{}, 0, api.ErrSyntax
	}
	m := api.Meadow{Rows: numberIn(words[1]), Columns: numberIn(words[2]), Need: numberIn(words[3])}
	if Validate(m) != api.OK {
		return api.Meadow{}, 0, api.ErrSyntax
	}
	wet := marked(m, rows)
	// Whatever is not as it must be, is missing or is too much comes out otherwise when it is written again.
	if format(m, wet) != text {
		return api.Meadow{}, 0, api.ErrSyntax
	}
	return m, wet, api.OK
}

func format(m api.Meadow, wet int) string {
	text := []byte("meadow " + strconv.Itoa(m.Rows) + " " + strconv.Itoa(m.Columns) + " " + strconv.Itoa(m.Need) + "\n")
	for row := range m.Rows {
		for column := range m.Columns {
			mark := byte(dryMark)
			if has(wet, squareAt(m, row, column)) {
				mark = wetMark
			}
			text = append(text, mark)
		}
		text = append(text, '\n')
	}
	return string(text)
}

// numberIn is 0, which no meadow has, for a word that is no number.
func numberIn(word string) int {
	number, err := strconv.Atoi(word)
	if err != nil {
		return 0
	}
	return number
}

// marked is the set of the squares that are marked as wet; each row has a line feed behind its squares.
func marked(m api.Meadow, rows string) int {
	set := 0
	for square := range squares(all(m)) {
		at := square + square/m.Columns
		if at < len(rows) && rows[at] == wetMark {
			set |= only(square)
		}
	}
	return set
}
