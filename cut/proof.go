package cut

import (
	"slices"

	"turbary/api"
)

// block is a block of a bog.
type block struct {
	column, row int
}

// passing is all passes that a bog allows, with the amounts that are passed so far, and the worth of its blocks
// behind them.
type passing struct {
	passes []api.Pass
	behind map[block]int
}

// CheckProof: see P4.5.
func CheckProof(b api.Bog, proof []api.Pass) (int, api.Errno) {
	if e := Validate(b); e != api.OK {
		return 0, e
	}
	if len(proof) > api.MaxPasses {
		return 0, api.ErrLarge
	}
	for _, p := range proof {
		if !isPass(b, p) {
			return 0, api.ErrNone
		}
		if !isWithin(p.Amount, 1, api.MaxPass) {
			return 0, api.ErrArg
		}
	}
	behind := worthOfBlocks(b)
	for _, p := range proof {
		behind[below(p)] -= p.Amount
		behind[above(p)] += p.Amount
	}
	sum := 0
	for _, worth := range behind {
		sum += max(worth, 0)
	}
	return sum, api.OK
}

// Proof: see P4.5.
func Proof(b api.Bog) ([]api.Pass, api.Errno) {
	if e := Validate(b); e != api.OK {
		return nil, e
	}
	s := passing{allPasses(b), worthOfBlocks(b)}
	for c := range b.Worth {
		for r := range depth(b) {
			s.passFrom(block{c, r})
		}
	}
	return slices.DeleteFunc(s.passes, func(p api.Pass) bool { return p.Amount == 0 }), api.OK
}

// passFrom passes on what the block has above 0, as long as that makes up for what another one has below 0.
// One time for each block is enough: if the block keeps something, none that it could still pass to has less
// than 0, and what others pass later opens no way out from among these.
func (s *passing) passFrom(from block) {
	for s.behind[from] > 0 {
		sent := s.send(from, s.behind[from], map[block]bool{})
		if sent == 0 {
			return
		}
		s.behind[from] -= sent
	}
}

// send brings at most so much from a block, through others that it has not seen, to one that has less than 0,
// and returns how much: upward by passing more, downward by passing less.
func (s *passing) send(from block, most int, seen map[block]bool) int {
	seen[from] = true
	if lack := -s.behind[from]; lack > 0 {
		sent := min(lack, most)
		s.behind[from] += sent
		return sent
	}
	for k, p := range s.passes {
		sent := 0
		if from == below(p) && !seen[above(p)] {
			sent = s.send(above(p), most, seen)
			s.passes[k].Amount += sent
		}
		if from == above(p) && !seen[below(p)] && p.Amount > 0 {
			sent = s.send(below(p), min(most, p.Amount), seen)
			s.passes[k].Amount -= sent
		}
		if sent > 0 {
			return sent
		}
	}
	return 0
}

// isPass is for any amount.
func isPass(b api.Bog, p api.Pass) bool {
	return isColumn(b, p.Column) && isWithin(p.Row, 1, depth(b)-1) && slices.Contains(near(b, p.Column), p.To)
}

// allPasses has each pass once, with the amount 0; these are fewer than MaxPasses.
func allPasses(b api.Bog) []api.Pass {
	var passes []api.Pass
	for c := range b.Worth {
		for r := 1; r < depth(b); r++ {
			for _, to := range near(b, c) {
				passes = append(passes, api.Pass{Column: c, Row: r, To: to})
			}
		}
	}
	return passes
}

func worthOfBlocks(b api.Bog) map[block]int {
	worth := map[block]int{}
	for c, column := range b.Worth {
		for r := range column {
			worth[block{c, r}] = column[r]
		}
	}
	return worth
}

// below is the block that passes.
func below(p api.Pass) block {
	return block{p.Column, p.Row}
}

// above is the block that is passed to.
func above(p api.Pass) block {
	return block{p.To, p.Row - 1}
}
