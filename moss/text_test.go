package moss_test

import (
	"regexp"
	"strconv"
	"strings"
	"testing"

	"turbary/api"
	"turbary/moss"
)

func TestFormatOfExamples(t *testing.T) {
	for _, x := range []struct {
		m    api.Meadow
		wet  int
		want string
	}{
		{meadow(2, 3, 1), 0b001_011, "meadow 2 3 1\n##.\n#..\n"}, {meadow(3, 2, 3), 0b001011, "meadow 3 2 3\n##\n.#\n..\n"}, {meadow(1, 1, 2), 0, "meadow 1 1 2\n.\n"}, {meadow(1, 1, 2), 1, "meadow 1 1 2\n#\n"}, {meadow(1, 4, 1), 1, "meadow 1 4 1\n#...\n"}, {meadow(4, 1, 1), 1, "meadow 4 1 1\n#\n.\n.\n.\n"},
		{meadow(6, 6, 3), 1 << 35, "meadow 6 6 3\n......\n......\n......\n......\n......\n.....#\n"},
	} {
		if got, e := moss.Format(x.m, x.wet); got != x.want || e != api.OK {
			t.Errorf("P8.5: format of %b in %v: %q %v, not %q", x.wet, x.m, got, e, x.want)
		}
		if m, wet, e := moss.Parse(x.want); m != x.m || wet != x.wet || e != api.OK {
			t.Errorf("P8.5: %q: %v %b %v, not %v %b", x.want, m, wet, e, x.m, x.wet)
		}
	}
}

// textOf goes by the definition.
func textOf(m api.Meadow, wet int) string {
	words := []string{"meadow", strconv.Itoa(m.Rows), strconv.Itoa(m.Columns), strconv.Itoa(m.Need)}
	lines := []string{strings.Join(words, " ")}
	for row := range m.Rows {
		line := ""
		for column := range m.Columns {
			if isIn(wet, row*m.Columns+column) {
				line += "#"
			} else {
				line += "."
			}
		}
		lines = append(lines, line)
	}
	return strings.Join(lines, "\n") + "\n"
}

func TestFormatAndParse(t *testing.T) {
	for _, m := range every() {
		for _, wet := range sets(m) {
			want := textOf(m, wet)
			if got, e := moss.Format(m, wet); got != want || e != api.OK {
				t.Errorf("P8.5: format of %b in %v: %q %v, not %q", wet, m, got, e, want)
			}
			if back, set, e := moss.Parse(want); back != m || set != wet || e != api.OK {
				t.Errorf("P8.5: %q: %v %b %v, not %v %b", want, back, set, e, m, wet)
			}
		}
	}
}

func TestParseOfOtherTexts(t *testing.T) {
	for _, wrong := range []string{
		"", " ", "\n", "meadow", "meadow\n", "meadow 1 1 1", "meadow 1 1 1\n", "meadow 1 1\n#\n", "meadow 1 1 1 1\n#\n", "meadow 1 1 1\n#", "meadow 1 1 1\n#\n\n", "meadow 1 1 1\n#\n#\n", "meadow 1 1 1\n##\n", "meadow 1 1 1\n\n#\n", "meadow 1 1 1\n\n", "meadow 1 1 1\r\n#\r\n", "\ufeffmeadow 1 1 1\n#\n",
		"meadow 0 1 1\n", "meadow 0 0 0\n", "meadow 1 0 1\n\n", "meadow 1 1 0\n#\n", "meadow 1 1 4\n#\n", "meadow 7 1 1\n.\n.\n.\n.\n.\n.\n.\n", "meadow 1 7 1\n.......\n", "meadow -1 1 1\n#\n", "meadow 1 1 -1\n#\n", "meadow +1 1 1\n#\n", "meadow 01 1 1\n#\n", "meadow 1 1 01\n#\n", "meadow 1_ 1 1\n#\n", "meadow 0x1 1 1\n#\n", "meadow 1.0 1 1\n#\n",
		"meadow  1 1 1\n#\n", "meadow 1  1 1\n#\n", " meadow 1 1 1\n#\n", "meadow 1 1 1 \n#\n", "meadow\t1 1 1\n#\n", "Meadow 1 1 1\n#\n", "meado 1 1 1\n#\n", "meadows 1 1 1\n#\n", "1 1 1\n#\n", "meadow 1 1 1 #\n", "meadow 1 1 1\n #\n", "meadow 1 1 1\n# \n", "meadow 1 1 1\n0\n", "meadow 1 1 1\n\xff\n",
		"meadow 2 3 1\n##.\n#.\n", "meadow 2 3 1\n##.#\n..\n", "meadow 2 3 1\n##.#..\n", "meadow 2 3 1\n##.\n#..\n...\n", "meadow 2 3 1\n##.\n", "meadow 3 2 1\n##.\n#..\n", "meadow 2 3 1\n##.\n#..\nmeadow 2 3 1\n##.\n#..\n", "meadow 2 3 1\n##.\n#.#.\n",
		"meadow 99999999999999999999 1 1\n#\n", "meadow 4294967297 1 1\n#\n", "meadow 18446744073709551617 1 1\n#\n", "meadow -9223372036854775808 1 1\n#\n", strings.Repeat(" ", 100000), strings.Repeat("meadow 1 1 1\n", 10000), "meadow 1 1 1\n" + strings.Repeat("#\n", 10000),
	} {
		if got := meadows(moss.Parse(wrong)); got != only(api.ErrSyntax) {
			t.Errorf("P8.5, R3: %.200q: %v", wrong, got)
		}
	}
}

var anyText = regexp.MustCompile(`^meadow ([1-6]) ([1-6]) [1-3]\n(([.#]+\n)+)$`)

// isText reports whether a text has the form of a meadow.
func isText(text string) bool {
	parts := anyText.FindStringSubmatch(text)
	if parts == nil {
		return false
	}
	lines := strings.Split(strings.TrimSuffix(parts[3], "\n"), "\n")
	for _, line := range lines {
		if strconv.Itoa(len(line)) != parts[2] {
			return false
		}
	}
	return strconv.Itoa(len(lines)) == parts[1]
}

func TestParseOfTextsWithOneChange(t *testing.T) {
	seen := map[bool]int{}
	for _, right := range []string{"meadow 2 3 1\n##.\n#..\n", "meadow 1 1 3\n#\n", "meadow 3 1 2\n.\n#\n#\n", "meadow 1 6 1\n.#.#.#\n", "meadow 6 6 3\n......\n######\n......\n.#....\n......\n.....#\n"} {
		for at := range len(right) + 1 {
			changed := []string{right[:at]}
			for _, c := range "\n #.0123467m-+\r\x00é" {
				changed = append(changed, right[:at]+string(c)+right[at:])
				if at < len(right) {
					changed = append(changed, right[:at]+string(c)+right[at+1:])
				}
			}
			if at < len(right) {
				changed = append(changed, right[:at]+right[at+1:])
			}
			for _, x := range changed {
				m, wet, e := moss.Parse(x)
				isWrong := e != api.ErrSyntax || m != api.Meadow{} || wet != 0
				if isText(x) {
					isWrong = e != api.OK || textOf(m, wet) != x
				}
				if isWrong {
					t.Errorf("P8.5: %q: %v %b %v", x, m, wet, e)
				}
				seen[isText(x)]++
			}
		}
	}
	if min(seen[true], seen[false]) < 50 {
		t.Error("few cases:", seen)
	}
}
