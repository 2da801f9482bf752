/- Bounds, and rules, of determinants. -/
import Derived.Test.YtmmgcajegokkoaaX1
namespace Go.Proofs.Ytmmgcajegokkoaa
open Go.Sx Go.RowKit

/-! Bounds, Cramer's rule and signs of determinants of up to four rows. -/
theorem sumN_bn {g : Nat → Int} {B : Int} : ∀ n : Nat, (∀ j, j < n → Bn (g j) B) → Bn (sumN n g) (n * B)
  | 0, _ => by simp [sumN, Bn]
  | n + 1, h => by
    have h1 := sumN_bn n (fun j hj => h j (by omega))
    have h2 := h n (by omega)
    refine (h1.add h2).mono ?_
    rw [show ((n + 1 : Nat) : Int) = n + 1 by omega, Int.add_mul]; omega
/-- Tables whose numbers are at most 24, but in one column. -/
def DBound (K : Nat) (T : Int) : Prop := ∀ (f : Nat → Nat → Int) (c : Nat) (X : Int), 24 ≤ X → X ≤ 48000 → (∀ a b, a < K → b < K → Bn (f a b) (if b = c then X else 24)) → DSafe K f ∧ Bn (detF K f) (T * (if c < K then X else 24))
theorem dbound1 : DBound 1 1 := fun f c X h1 h2 hf => by
  have h := hf 0 0 (by omega) (by omega)
  have e : detF 1 f = f 0 0 := by simp [detF, sumN, sgn]
  have hX : Bn (f 0 0) (if c < 1 then X else 24) := by
    by_cases hc : c = 0
    · subst hc; simpa using h
    · rw [if_neg (by omega)] at h
      rw [if_neg (by omega)]; exact h
  refine ⟨fun j hj => ?_, by rw [e, Int.one_mul]; exact hX⟩
  have hj' : j < 1 := hj
  obtain rfl : j = 0 := by omega
  have h3 := hX.mono (B := 1000000000000000000) (by split <;> omega)
  exact ⟨h3, by simp only [detF]; rw [Int.mul_one]; exact h3, trivial⟩
theorem dboundS {K : Nat} {T : Int} (hK : 1 ≤ K) (hT : 0 ≤ T) (hT2 : 24 * T * 48000 ≤ 1000000000000000000) (ih : DBound K T) : DBound (K + 1) ((K + 1 : Nat) * (24 * T)) := fun f c X h1 h2 hf => by
  have key : ∀ j, j < K + 1 → DSafe K (minorF f j) ∧ Bn (f 0 j * detF K (minorF f j)) (24 * T * (if c < K + 1 then X else 24)) := fun j hj => by
    have hcol : ∀ c', (∀ b, b < K → ((if b < j then b else b + 1) = c ↔ b = c')) → ∀ a b, a < K → b < K → Bn (minorF f j a b) (if b = c' then X else 24) := fun c' hc' a b ha hb => by
      have h3 := hf (a + 1) (if b < j then b else b + 1) (by omega) (by split <;> omega)
      unfold minorF
      by_cases e : b = c'
      · rw [if_pos ((hc' b hb).2 e)] at h3; rw [if_pos e]; exact h3
      · rw [if_neg (fun h => e ((hc' b hb).1 h))] at h3; rw [if_neg e]; exact h3
    have hr := hf 0 j (by omega) hj
    by_cases hcj : c = j
    · subst hcj
      have h4 := ih (minorF f c) K X h1 h2 (hcol K (fun b hb => by split <;> omega))
      refine ⟨h4.1, ?_⟩
      have h5 := h4.2
      rw [if_neg (by omega)] at h5
      rw [if_pos rfl] at hr
      rw [if_pos hj]
      refine (hr.mul h5).mono ?_
      have : X * (T * 24) = 24 * T * X := by grind
      omega
    · rw [if_neg (fun e => hcj e.symm)] at hr
      by_cases hlt : c < j
      · have h4 := ih (minorF f j) c X h1 h2 (hcol c (fun b hb => by split <;> omega))
        refine ⟨h4.1, ?_⟩
        have h5 := h4.2
        rw [if_pos (by omega)] at h5
        rw [if_pos (by omega)]
        refine (hr.mul h5).mono ?_
        have : 24 * (T * X) = 24 * T * X := by grind
        omega
      · have h4 := ih (minorF f j) (c - 1) X h1 h2 (hcol (c - 1) (fun b hb => by split <;> omega))
        refine ⟨h4.1, ?_⟩
        have h5 := h4.2
        by_cases hc : c < K + 1
        · rw [if_pos (by omega)] at h5
          rw [if_pos hc]
          refine (hr.mul h5).mono ?_
          have : 24 * (T * X) = 24 * T * X := by grind
          omega
        · rw [if_neg (by omega)] at h5
          rw [if_neg hc]
          refine (hr.mul h5).mono ?_
          have : 24 * (T * 24) = 24 * T * 24 := by grind
          omega
  have hY : 0 ≤ (if c < K + 1 then X else 24) ∧ (if c < K + 1 then X else 24) ≤ 48000 := by split <;> omega
  have hTY : 24 * T * (if c < K + 1 then X else 24) ≤ 24 * T * 48000 := Int.mul_le_mul_of_nonneg_left hY.2 (by omega)
  refine ⟨fun j hj => ⟨(hf 0 j (by omega) hj).mono (by split <;> omega), (key j hj).2.mono (by omega), (key j hj).1⟩, ?_⟩
  have := sumN_bn (K + 1) (g := fun j => sgn j * f 0 j * detF K (minorF f j)) (fun j hj => by
    have h3 := sgn_bn (key j hj).2 j
    rw [← Int.mul_assoc] at h3
    exact h3)
  refine this.mono ?_
  rw [Int.mul_assoc ((K + 1 : Nat) : Int)]
  exact Int.le_refl _
theorem dbound4 {K : Nat} (hK : K ≤ 4) {f : Nat → Nat → Int} {c : Nat} {X : Int} (h1 : 24 ≤ X) (h2 : X ≤ 48000) (hf : ∀ a b, a < K → b < K → Bn (f a b) (if b = c then X else 24)) : DSafe K f ∧ Bn (detF K f) (331776 * X) := by
  have d2 := dboundS (by omega) (by omega) (by omega) dbound1
  have d3 := dboundS (by omega) (by omega) (by omega) d2
  have d4 := dboundS (by omega) (by omega) (by omega) d3
  obtain rfl | rfl | rfl | rfl | rfl : K = 0 ∨ K = 1 ∨ K = 2 ∨ K = 3 ∨ K = 4 := by omega
  · exact ⟨trivial, by simp [detF, Bn]; omega⟩
  · have h := dbound1 f c X h1 h2 hf
    exact ⟨h.1, h.2.mono (by split <;> omega)⟩
  · have h := d2 f c X h1 h2 hf
    exact ⟨h.1, h.2.mono (by split <;> omega)⟩
  · have h := d3 f c X h1 h2 hf
    exact ⟨h.1, h.2.mono (by split <;> omega)⟩
  · have h := d4 f c X h1 h2 hf
    exact ⟨h.1, h.2.mono (by split <;> omega)⟩

/-- A column replaced. -/
def repF (f : Nat → Nat → Int) (k : Nat) (b : Nat → Int) : Nat → Nat → Int := fun i j => if j = k then b i else f i j
theorem det1 (f : Nat → Nat → Int) : detF 1 f = f 0 0 := by simp [detF, sumN, sgn]
theorem det2 (f : Nat → Nat → Int) : detF 2 f = f 0 0 * f 1 1 - f 0 1 * f 1 0 := by simp [detF, sumN, sgn, minorF]; grind
theorem det3 (f : Nat → Nat → Int) : detF 3 f = d3 (f 0 0) (f 1 0) (f 2 0) (f 0 1) (f 1 1) (f 2 1) (f 0 2) (f 1 2) (f 2 2) := by simp [detF, sumN, sgn, minorF, d3]; grind
theorem det4 (f : Nat → Nat → Int) : detF 4 f = d4 (f 0 0) (f 1 0) (f 2 0) (f 3 0) (f 0 1) (f 1 1) (f 2 1) (f 3 1) (f 0 2) (f 1 2) (f 2 2) (f 3 2) (f 0 3) (f 1 3) (f 2 3) (f 3 3) := by simp [detF, sumN, sgn, minorF, d4, d3]; grind
theorem cramer {K : Nat} (hK : K ≤ 4) (f : Nat → Nat → Int) (b : Nat → Int) {i : Nat} (hi : i < K) : sumN K (fun k => f i k * detF K (repF f k b)) = detF K f * b i := by
  obtain rfl | rfl | rfl | rfl | rfl : K = 0 ∨ K = 1 ∨ K = 2 ∨ K = 3 ∨ K = 4 := by omega
  · omega
  · obtain rfl : i = 0 := by omega
    simp [sumN, det1, repF]
  · obtain rfl | rfl : i = 0 ∨ i = 1 := by omega
    all_goals (simp [sumN, det2, repF]; grind)
  · obtain rfl | rfl | rfl : i = 0 ∨ i = 1 ∨ i = 2 := by omega
    all_goals (simp [sumN, det3, repF, d3]; grind)
  · obtain rfl | rfl | rfl | rfl : i = 0 ∨ i = 1 ∨ i = 2 ∨ i = 3 := by omega
    all_goals (simp [sumN, det4, repF, d4, d3]; grind)
def skipA (a i : Nat) : Nat := if i < a then i else i + 1
/-- A column that is a unit's: the determinant without its row and itself. -/
theorem det_unit {K : Nat} (hK : K ≤ 3) (f : Nat → Nat → Int) {a : Nat} (ha : a < K + 1) : detF (K + 1) (repF f a (fun i => if i = a then 1 else 0)) = detF K (fun i j => f (skipA a i) (skipA a j)) := by
  obtain rfl | rfl | rfl | rfl : K = 0 ∨ K = 1 ∨ K = 2 ∨ K = 3 := by omega
  · obtain rfl : a = 0 := by omega
    rw [det1]
    simp [repF, detF]
  · obtain rfl | rfl : a = 0 ∨ a = 1 := by omega
    all_goals simp [det2, det1, repF, skipA]
  · obtain rfl | rfl | rfl : a = 0 ∨ a = 1 ∨ a = 2 := by omega
    all_goals (simp [det3, det2, repF, skipA, d3]; try grind)
  · obtain rfl | rfl | rfl | rfl : a = 0 ∨ a = 1 ∨ a = 2 ∨ a = 3 := by omega
    all_goals (simp [det4, det3, repF, skipA, d4, d3]; try grind)

end Go.Proofs.Ytmmgcajegokkoaa
