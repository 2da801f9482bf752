/- Open by the reference: contracts; which columns are open: the law's contract. -/
import Derived.Test.YtfgjojoipbbacaaQDB
set_option linter.unusedVariables false
set_option linter.unusedSimpArgs false
namespace Go.Proofs.Ytfgjojoipbbacaa
open Go.Sx Go.RowKit

abbrev upL (xs : List Int) (c : Nat) : List Int := xs.set c (xs.getD c 0 + 1)
theorem pad_at {xs : List Int} (c : Nat) : (pad6 xs).getD c 0 = xs.getD c 0 := by
  unfold pad6
  simp only [List.getD_eq_getElem?_getD]
  by_cases h : c < xs.length
  · rw [List.getElem?_append_left h]
  · rw [List.getElem?_append_right (by omega), List.getElem?_eq_none (l := xs) (by omega), List.getElem?_replicate]
    split <;> rfl
theorem pad_up {xs : List Int} {c : Nat} (hc : c < xs.length) (hl : xs.length ≤ 6) : pad6 (upL xs c) = (pad6 xs).set c ((pad6 xs).getD c 0 + 1) := by
  rw [pad_at]
  unfold pad6 upL
  rw [List.length_set, List.set_append_left _ _ hc]
theorem near_is {ls : List (List Int)} {c u : Nat} (hu : u < (nearL ls c).length) : (nearL ls c).getD u 0 = c - 1 ∨ (nearL ls c).getD u 0 = c ∨ (nearL ls c).getD u 0 = c + 1 := by
  have h : (nearL ls c).getD u 0 ∈ nearL ls c := by
    rw [List.getD_eq_getElem?_getD, List.getElem?_eq_getElem hu]; exact List.getElem_mem _
  have h2 := (List.mem_filter.1 h).1
  simpa using h2
theorem up_at {xs : List Int} {c k : Nat} (hc : c < xs.length) : (upL xs c).getD k 0 = if c = k then xs.getD c 0 + 1 else xs.getD k 0 := set_at hc
theorem HO.up {ls : List (List Int)} {xs : List Int} {c : Nat} (h : HO ls xs) (hc : c < ls.length) (ho : opB ls (pad6 xs) c = true) : HO ls (upL xs c) := by
  have hl := h.len
  have hn := op_ne ho
  rw [pad_at] at hn
  have hnear : ∀ d : Nat, d < ls.length → ((d : Int) = c - 1 ∨ (d : Int) = c + 1) → xs.getD c 0 ≤ xs.getD d 0 := fun d hd he => by
    have := op_near ho hd he
    rwa [pad_at, pad_at] at this
  have ha := h.at_ c
  refine ⟨⟨h.vb, by rw [List.length_set]; exact hl, fun k => ?_⟩, fun k hk => ?_⟩
  · rw [up_at (by omega)]
    have := h.at_ k
    split <;> omega
  · rw [up_at (by omega), up_at (by omega)]
    have hs := h.stp k hk
    by_cases e1 : c = k + 1
    · subst e1
      rw [if_pos rfl, if_neg (by omega)]
      have := hnear k (by omega) (.inl (by omega))
      omega
    · by_cases e2 : c = k
      · subst e2
        rw [if_neg (by omega), if_pos rfl]
        have := hnear (c + 1) hk (.inr (by omega))
        omega
      · rw [if_neg e1, if_neg e2]; exact hs
end Go.Proofs.Ytfgjojoipbbacaa
