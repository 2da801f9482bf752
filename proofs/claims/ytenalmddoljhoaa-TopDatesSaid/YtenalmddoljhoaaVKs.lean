/- Dates that keep all bounds keep each one that follows: the statement's own function. -/
import Derived.Test.YtenalmddoljhoaaVKg
import Derived.Test.YtenalmddoljhoaaOp
set_option linter.unusedVariables false
set_option linter.unusedSimpArgs false
namespace Go.Proofs.Ytenalmddoljhoaa
open Go.Sx Go.RowKit

def KpB (ds : List Int) (r : Bd) : Prop := ds.getD r.b.toNat 0 - ds.getD r.a.toNat 0 ≤ r.m
theorem kp_plain {ds : List Int} {g : List Bd} (hg : ∀ r ∈ g, KpB ds r) : ∀ i, ∀ r ∈ plainN g i, KpB ds r
  | 0, r, h => hg r h
  | i + 1, r, h => by
    rcases List.mem_append.1 (tight_mem h) with h1 | h1
    · exact kp_plain hg i r h1
    · obtain ⟨u, hu, v, hv, hgo, rfl⟩ := sums_mem h1
      have a1 := kp_plain hg i u hu
      have a2 := hg v hv
      have h2 := (of_decide_eq_true hgo).1
      unfold KpB at a1 a2 ⊢
      simp only [addB]
      rw [h2] at a1
      omega
theorem find_mem {a b m : Int} : ∀ {l : List Bd}, findB a b l = some m → (⟨a, b, m⟩ : Bd) ∈ l
  | s :: l, h => by
    unfold findB at h
    split at h
    · rename_i h1
      have h2 : s.m = m := by simpa using h
      obtain ⟨sa, sb, sm⟩ := s
      simp only at h1 h2
      rw [h1.1, h1.2, h2]
      exact .head _
    · exact .tail _ (find_mem h)
theorem fnd_kp {ds : List Int} {l : List Bd} {a b : Int} (hl : ∀ r ∈ l, KpB ds r) (h : fndB l a b = true) : ds.getD b.toNat 0 - ds.getD a.toNat 0 ≤ fndM l a b := by
  unfold fndB at h
  unfold fndM
  by_cases e : a = b
  · rw [if_pos e, e]; omega
  · rw [if_neg e] at h
    rw [if_neg e]
    cases h1 : findB a b l with
    | none => rw [h1] at h; cases h
    | some m => exact hl _ (find_mem h1)
theorem pof_kp {n : Int} {rs : List Bd} {ds ls : List Int} (hc : checkI n rs ds = 0) : ∀ r ∈ pofL n rs ls, KpB ds r := by
  have h1 := check_vd (.inl hc)
  have h2 : rs.all (keepB ds) = true := by
    unfold checkI at hc
    rw [h1] at hc
    by_cases h3 : rs.all (keepB ds) = true
    · exact h3
    · rw [if_neg (by simp), if_neg h3] at hc; cases hc
  have h4 : ∀ r ∈ rs, KpB ds r := fun r hr => by
    have h5 := List.all_eq_true.1 h2 r hr
    unfold keepB at h5
    have h6 := of_decide_eq_true h5
    exact h6
  intro r hr
  unfold pofL at hr
  split at hr
  · exact kp_plain (fun s hs => h4 s (tight_mem hs)) _ r hr
  · simp at hr
theorem lay_rng {n : Int} {rs : List Bd} {a b : Int} (h : layI n rs [a, b] = 0) : (0 ≤ a ∧ a < n) ∧ (0 ≤ b ∧ b < n) := by
  unfold layI at h
  by_cases h1 : validateI n rs ≠ 0
  · rw [if_pos h1] at h; exact absurd h h1
  · rw [if_neg h1] at h
    by_cases h2 : [a, b].all (isLayerB n) = true
    · have h3 := List.all_eq_true.1 h2
      exact ⟨of_decide_eq_true (h3 a (by simp)), of_decide_eq_true (h3 b (by simp))⟩
    · rw [if_neg h2] at h; cases h
theorem flw_rng {n : Int} {rs : List Bd} {r : Bd} (h : flwI n rs r = 0) : (0 ≤ r.a ∧ r.a < n) ∧ (0 ≤ r.b ∧ r.b < n) := by
  unfold flwI at h
  by_cases h1 : layI n rs [r.a, r.b] ≠ 0
  · rw [if_pos h1] at h; exact absurd h h1
  · exact lay_rng (Decidable.of_not_not h1)
theorem pof_rng {n : Int} {rs : List Bd} {a b : Int} (h : pofI n rs [a, b] = 0) : (0 ≤ a ∧ a < n) ∧ (0 ≤ b ∧ b < n) := by
  unfold pofI at h
  by_cases h1 : layI n rs [a, b] ≠ 0
  · rw [if_pos h1] at h; exact absurd h h1
  · exact lay_rng (Decidable.of_not_not h1)
theorem flw_kp {n : Int} {rs : List Bd} {ds : List Int} {r : Bd} (hc : checkI n rs ds = 0) (h : flwI n rs r = 0) (hr : flwR n rs r = true) : ds.getD r.b.toNat 0 - ds.getD r.a.toNat 0 ≤ r.m := by
  unfold flwR at hr
  rw [if_pos h] at hr
  unfold flwB at hr
  simp only [Bool.and_eq_true, decide_eq_true_eq] at hr
  have := fnd_kp (ds := ds) (pof_kp hc) hr.1
  omega
theorem tg_kp {n : Int} {rs : List Bd} {ds : List Int} {a b : Int} (hc : checkI n rs ds = 0) (h : pofI n rs [a, b] = 0) (hr : tgB n rs a b = true) : ds.getD b.toNat 0 - ds.getD a.toNat 0 ≤ tgM n rs a b := by
  unfold tgB at hr
  unfold tgM
  rw [if_neg (by simp [h])] at hr ⊢
  exact fnd_kp (pof_kp hc) hr
end Go.Proofs.Ytenalmddoljhoaa
