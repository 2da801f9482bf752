/- Orders: contracts. -/
import Derived.Test.YtfgjojoipbbacaaQDC
set_option linter.unusedVariables false
set_option linter.unusedSimpArgs false
namespace Go.Proofs.Ytfgjojoipbbacaa
open Go.Sx Go.RowKit

/-- What is cut behind the first so many columns of an order. -/
def hwL (n : Nat) (us : List Int) : Nat → List Int
  | 0 => List.replicate n 0
  | k + 1 => upL (hwL n us k) (us.getD k 0).toNat
theorem hw_len (n : Nat) (us : List Int) : ∀ k, (hwL n us k).length = n
  | 0 => by simp [hwL]
  | k + 1 => by show (upL (hwL n us k) _).length = n; rw [List.length_set, hw_len n us k]
abbrev oaB (ls : List (List Int)) (us : List Int) (k : Nat) : Bool := opB ls (pad6 (hwL ls.length us k)) (us.getD k 0).toNat
theorem rep_at (n k : Nat) : (List.replicate n (0 : Int)).getD k 0 = 0 := by
  by_cases hk : k < n <;> simp [List.getD, hk]
theorem ho_zero {ls : List (List Int)} (hv : VB ls) : HO ls (List.replicate ls.length 0) :=
  ⟨⟨hv, by simp, fun k => by rw [rep_at]; omega⟩, fun k _ => by rw [rep_at, rep_at]; omega⟩
structure CoR where
  l : List Int
  n : Int
  e : Int
inductive OrP (ls : List (List Int)) (us : List Int) : CoR → Prop
  | bad : validI ls ≠ 0 → OrP ls us ⟨[], 0, validI ls⟩
  | long : ¬ validI ls ≠ 0 → 24 < us.length → OrP ls us ⟨[], 0, 3⟩
  | none : ¬ validI ls ≠ 0 → ¬ 24 < us.length → (∃ k, k < us.length ∧ ¬ (0 ≤ us.getD k 0 ∧ us.getD k 0 < ls.length)) → OrP ls us ⟨[], 0, 4⟩
  | rule (k : Nat) : ¬ validI ls ≠ 0 → ¬ 24 < us.length → (∀ j, j < us.length → 0 ≤ us.getD j 0 ∧ us.getD j 0 < ls.length) → k < us.length → (∀ j, j < k → oaB ls us j = true) → ¬ oaB ls us k = true → OrP ls us ⟨[], k, 6⟩
  | ok : ¬ validI ls ≠ 0 → ¬ 24 < us.length → (∀ j, j < us.length → 0 ≤ us.getD j 0 ∧ us.getD j 0 < ls.length) → (∀ j, j < us.length → oaB ls us j = true) → OrP ls us ⟨hwL ls.length us us.length, us.length, 0⟩
theorem OrP.len {ls : List (List Int)} {us : List Int} {a : CoR} (h : OrP ls us a) : a.l.length ≤ 1000000 := by
  cases h with
  | ok h1 _ _ _ => show (hwL _ _ _).length ≤ _; rw [hw_len]; have := (vb_of h1).n; omega
  | _ => exact Nat.zero_le _
end Go.Proofs.Ytfgjojoipbbacaa
