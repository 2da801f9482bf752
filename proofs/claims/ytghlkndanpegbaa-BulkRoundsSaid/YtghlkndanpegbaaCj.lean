/- Shortest ways by rounds, arc by arc: how far a round is. -/
import Derived.Test.YtghlkndanpegbaaPg
set_option linter.unusedVariables false
namespace Go.Tp
open Go.Sand
def Kk (S B : Nat) : Nat := 2 * (S * B) + 2
/-- Round r is at the arc from i to j. -/
structure RD (S B : Nat) (c x : Mat) (left u v : Nat → Int) (st : RS) (r i j : Nat) : Prop where
  ri : RI S B (Kk S B) c x left u v st ((r + 1) * Kk S B + 2 * (i * B + j))
  rel : ∀ p q, p < S → q < B → RelB c st (if p < i ∨ (p = i ∧ q < j) then (r + 1) * Kk S B else r * Kk S B) p q ∧ RelS c x st (if p < i ∨ (p = i ∧ q < j) then (r + 1) * Kk S B else r * Kk S B) p q
structure RH (S B : Nat) (c x : Mat) (left u v : Nat → Int) (st : RS) (r i j : Nat) : Prop where
  ri : RI S B (Kk S B) c x left u v st ((r + 1) * Kk S B + 2 * (i * B + j) + 1)
  rel : ∀ p q, p < S → q < B → RelB c st (if p < i ∨ (p = i ∧ q < j) then (r + 1) * Kk S B else r * Kk S B) p q ∧ RelS c x st (if p < i ∨ (p = i ∧ q < j) then (r + 1) * Kk S B else r * Kk S B) p q
  ok : st.L i < inf → st.M j ≤ st.L i + c i j
variable {S B : Nat} {c x : Mat} {left u v : Nat → Int} {st : RS} {r i j : Nat}
theorem arc_lt (hi : i < S) (hj : j < B) : i * B + j < S * B := by
  have h : (i + 1) * B ≤ S * B := Nat.mul_le_mul_right B hi
  rw [Nat.add_mul] at h
  omega
theorem now_div {k : Nat} (hk : k < Kk S B) : ((r + 1) * Kk S B + k) / Kk S B = r + 1 := by
  rw [Nat.mul_comm, Nat.mul_add_div (by unfold Kk; omega), Nat.div_eq_of_lt hk]
theorem b_le (P : Prop) [Decidable P] (k : Nat) : (if P then (r + 1) * Kk S B else r * Kk S B) ≤ (r + 1) * Kk S B + k := by
  have h : r * Kk S B ≤ (r + 1) * Kk S B := Nat.mul_le_mul_right _ (by omega)
  split <;> omega
theorem not_bef : ¬ (i < i ∨ (i = i ∧ j < j)) := by omega
theorem RD.halfP (h : RD S B c x left u v st r i j) (p : PI S B c x left u v) (hi : i < S) (hj : j < B) (h1 : st.L i < inf) (h2 : st.L i + c i j < st.M j) : RH S B c x left u v (putB st c i j ((r + 1) * Kk S B + 2 * (i * B + j))) r i j := by
  have ha := arc_lt hi hj
  have hr := (h.rel i j hi hj).1
  rw [if_neg not_bef] at hr
  refine ⟨RI.stepB (r := r + 1) (b := 0) p h.ri (by unfold Kk; omega) hi hj h1 h2 (by rw [Nat.add_sub_cancel]; exact hr) (now_div (by unfold Kk; omega)) (by omega), fun a b ha hb => ⟨(h.rel a b ha hb).1.setB h2, (h.rel a b ha hb).2.setB (b_le _ _)⟩, fun _ => ?_⟩
  show (if j = j then _ else _) ≤ st.L i + c i j
  rw [if_pos rfl]
  exact Int.le_refl _
theorem RD.halfI (h : RD S B c x left u v st r i j) (h2 : st.L i < inf → ¬ st.L i + c i j < st.M j) : RH S B c x left u v st r i j :=
  ⟨h.ri.later (by omega), h.rel, fun h1 => by have := h2 h1; omega⟩
theorem rel_succ {P : Nat → Nat → Nat → Prop} {b1 b0 : Nat} (h : ∀ p q, p < S → q < B → P (if p < i ∨ (p = i ∧ q < j) then b1 else b0) p q) (h2 : P b1 i j) : ∀ p q, p < S → q < B → P (if p < i ∨ (p = i ∧ q < j + 1) then b1 else b0) p q := fun p q hp hq => by
  by_cases e : p = i ∧ q = j
  · obtain ⟨rfl, rfl⟩ := e
    rw [if_pos (by omega)]
    exact h2
  · have h3 := h p q hp hq
    by_cases e2 : p < i ∨ (p = i ∧ q < j)
    · rw [if_pos e2] at h3
      rw [if_pos (by omega)]
      exact h3
    · rw [if_neg e2] at h3
      rw [if_neg (by omega)]
      exact h3
theorem RH.nextP (h : RH S B c x left u v st r i j) (p : PI S B c x left u v) (hi : i < S) (hj : j < B) (h1 : st.M j < inf) (hx : 0 < x i j) (h2 : st.M j - c i j < st.L i) : RD S B c x left u v (putS st c i j ((r + 1) * Kk S B + 2 * (i * B + j) + 1)) r i (j + 1) := by
  have ha := arc_lt hi hj
  have hr := (h.rel i j hi hj).2
  rw [if_neg not_bef] at hr
  have hri := RI.stepS (r := r + 1) p h.ri (by unfold Kk; omega) hi hj h1 hx h2 (by rw [Nat.add_sub_cancel]; exact hr) (now_div (k := 2 * (i * B + j) + 1) (by unfold Kk; omega)) (by omega)
  refine ⟨hri.later (by omega), rel_succ (P := fun b p q => RelB c _ b p q ∧ RelS c x _ b p q) (fun a b ha hb => ⟨(h.rel a b ha hb).1.setS (b_le _ (2 * (i * B + j) + 1)), (h.rel a b ha hb).2.setS h2⟩) ⟨fun _ => .inl ?_, RelS.setS0⟩⟩
  show st.M j ≤ (if i = i then st.M j - c i j else st.L i) + c i j
  rw [if_pos rfl]
  omega
theorem RH.nextI (h : RH S B c x left u v st r i j) (h2 : st.M j < inf → 0 < x i j → ¬ st.M j - c i j < st.L i) : RD S B c x left u v st r i (j + 1) :=
  ⟨h.ri.later (by omega), rel_succ (P := fun b p q => RelB c _ b p q ∧ RelS c x _ b p q) h.rel ⟨fun hf => .inl (h.ok hf), fun hf hx => .inl (by have := h2 hf hx; omega)⟩⟩
theorem RD.nexti (h : RD S B c x left u v st r i B) : RD S B c x left u v st r (i + 1) 0 :=
  ⟨h.ri.later (by have : (i + 1) * B = i * B + B := (by rw [Nat.add_mul, Nat.one_mul]); omega), fun p q hp hq => by
    have h3 := h.rel p q hp hq
    by_cases e : p < i ∨ (p = i ∧ q < B)
    · rw [if_pos e] at h3
      rw [if_pos (by omega)]
      exact h3
    · rw [if_neg e] at h3
      rw [if_neg (by omega)]
      exact h3⟩
theorem RD.nextr (h : RD S B c x left u v st r S 0) : RD S B c x left u v st (r + 1) 0 0 := by
  refine ⟨h.ri.later ?_, fun p q hp hq => ?_⟩
  · have : (r + 1 + 1) * Kk S B = (r + 1) * Kk S B + Kk S B := by rw [Nat.add_mul (r + 1) 1, Nat.one_mul]
    have e : Kk S B = 2 * (S * B) + 2 := rfl
    omega
  · have h3 := h.rel p q hp hq
    rw [if_pos (by omega)] at h3
    rw [if_neg (by omega)]
    exact h3
theorem RD.init (p : PI S B c x left u v) (hl : ∀ i, i < S → 0 ≤ left i) : RD S B c x left u v (rs0 left) 0 0 0 := by
  refine ⟨(RI.start p hl).later (by unfold Kk; omega), fun a b ha hb => ?_⟩
  rw [if_neg (by omega), Nat.zero_mul]
  exact ⟨fun _ => .inr (Nat.zero_le _), fun _ _ => .inr (Nat.zero_le _)⟩
theorem RD.fin (h : RD S B c x left u v st r 0 0) (p : PI S B c x left u v) (hr : S + B ≤ r) (ha : ∃ i, i < S ∧ 0 < left i) : ST S B (Kk S B) c x left u v st ((r + 1) * Kk S B + 2 * (0 * B + 0)) := by
  obtain ⟨f1, f2⟩ := h.ri.settled p (R := r) (by unfold Kk; omega) hr (fun i j hi hj => by have h3 := (h.rel i j hi hj).1; rwa [if_neg (by omega)] at h3) (fun i j hi hj => by have h3 := (h.rel i j hi hj).2; rwa [if_neg (by omega)] at h3)
  exact ⟨p, h.ri, f1, f2, ha⟩
/-- A round may be begun at any labels that read as the first ones. -/
theorem rs0_L (left : Nat → Int) (i : Nat) : (rs0 left).L i = if left i = 0 then inf else 0 := rfl
end Go.Tp
