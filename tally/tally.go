// Package tally has what a company has at one moment, and finds out if it agrees with itself. Package bog keeps it.
package tally

import (
	"slices"

	"turbary/api"
	"turbary/cut"
	"turbary/heap"
)

// Tally is what a company has at one moment. Its lists are replaced, never changed, so that the tallies of several
// moments may have the same one.
type Tally struct {
	Counts
	Hollow, Turves []int
}

// Counts is the part of a tally that is no list. Wet is a set of squares, as in package moss.
type Counts struct {
	Day, Wet, Money, Cut, Loaded, Ground int
	Shut                                 bool
}

// Square is the number of a square.
func (t Tally) Square(row, column int) int {
	return row*len(t.Hollow) + column
}

// IsWet is for a square that there is.
func (t Tally) IsWet(row, column int) bool {
	return t.Wet>>t.Square(row, column)&1 == 1
}

// Bare is the set of the squares whose blocks are cut.
func (t Tally) Bare() int {
	set := 0
	for column, number := range t.Hollow {
		for row := range number {
			set |= 1 << t.Square(row, column)
		}
	}
	return set
}

// OnHeaps is how many turves there are on all heaps.
func (t Tally) OnHeaps() int {
	return sum(t.Turves)
}

// Equals reports whether two tallies have the same values.
func (t Tally) Equals(u Tally) bool {
	return t.Counts == u.Counts && slices.Equal(t.Hollow, u.Hollow) && slices.Equal(t.Turves, u.Turves)
}

// Agrees reports whether there can be such a tally of a company with this bog and these heaps.
func (t Tally) Agrees(b api.Bog, h api.Heaps) bool {
	worth, e := cut.Worth(b, t.Hollow)
	if e != api.OK {
		return false
	}
	calm, _ := heap.IsCalm(h, t.Turves)
	return calm &&
		t.Wet&^t.Bare() == 0 &&
		t.Cut == sum(t.Hollow) &&
		t.Cut == t.Loaded+t.Ground+t.OnHeaps() &&
		t.Money == worth+t.Loaded
}

func sum(numbers []int) int {
	total := 0
	for _, number := range numbers {
		total += number
	}
	return total
}
