/- What a proof bounds: the function's contract. -/
import Derived.Test.YtfgjojoipbbacaaQDY
import Derived.Test.YtfgjojoipbbacaaQSv
set_option linter.unusedVariables false
set_option linter.unusedSimpArgs false
namespace Go.Proofs.Ytfgjojoipbbacaa
open Go.Sx Go.RowKit

theorem pr_bad {ls : List (List Int)} {ps : List Ps} (h : validI ls ≠ 0) : prV ls ps = 0 ∧ prI ls ps = validI ls := by
  have e : prI ls ps = validI ls := if_pos h
  exact ⟨by unfold prV; rw [e, if_neg h], e⟩
theorem pr_60 {ls : List (List Int)} {ps : List Ps} (h : ¬ validI ls ≠ 0) (h2 : 60 < ps.length) : prV ls ps = 0 ∧ prI ls ps = 3 := by
  have e : prI ls ps = 3 := by unfold prI; rw [if_neg h, if_pos h2]
  exact ⟨by unfold prV; rw [e, if_neg (by decide)], e⟩
theorem pr_e {ls : List (List Int)} {ps : List Ps} {e : Int} (h : ¬ validI ls ≠ 0) (h2 : ¬ 60 < ps.length) (he : prE ls ps = e) (hn : e ≠ 0) : prV ls ps = 0 ∧ prI ls ps = e := by
  have e1 : prI ls ps = e := by unfold prI; rw [if_neg h, if_neg h2, he]
  exact ⟨by unfold prV; rw [e1, if_neg hn], e1⟩
theorem pr_0 {ls : List (List Int)} {ps : List Ps} (h : ¬ validI ls ≠ 0) (h2 : ¬ 60 < ps.length) (he : prE ls ps = 0) : prV ls ps = posS (prM ls ps ps.length) ∧ prI ls ps = 0 := by
  have e1 : prI ls ps = 0 := by unfold prI; rw [if_neg h, if_neg h2, he]
  exact ⟨by unfold prV; rw [if_pos e1, prM_all], e1⟩
def sumS (es : List Ent) (y : List Nat) : Int := (y.map fun j => max (es.getD j default).2 0).sum
end Go.Proofs.Ytfgjojoipbbacaa
