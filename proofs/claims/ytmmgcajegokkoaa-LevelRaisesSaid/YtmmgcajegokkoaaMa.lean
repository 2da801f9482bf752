/- Elimination without fractions: its numbers are determinants. -/
import Derived.Test.YtmmgcajegokkoaaF1
namespace Go.Proofs.Ytmmgcajegokkoaa
open Go.Sx Go.RowKit

/-! Determinants of up to four columns, and the numbers that an elimination without fractions passes. -/
def d3 (a1 a2 a3 b1 b2 b3 c1 c2 c3 : Int) : Int := a1 * (b2 * c3 - b3 * c2) - b1 * (a2 * c3 - a3 * c2) + c1 * (a2 * b3 - a3 * b2)
def d4 (a1 a2 a3 a4 b1 b2 b3 b4 c1 c2 c3 c4 e1 e2 e3 e4 : Int) : Int :=
  e4 * d3 a1 a2 a3 b1 b2 b3 c1 c2 c3 - c4 * d3 a1 a2 a3 b1 b2 b3 e1 e2 e3 + b4 * d3 a1 a2 a3 c1 c2 c3 e1 e2 e3 - a4 * d3 b1 b2 b3 c1 c2 c3 e1 e2 e3
theorem plu3 (a1 a2 a3 b1 b2 b3 e1 e2 e3 x1 x2 x3 : Int) :
    d3 a1 a2 a3 b1 b2 b3 e1 e2 e3 * (x1 * b2 - x2 * b1) - (e1 * b2 - e2 * b1) * d3 a1 a2 a3 b1 b2 b3 x1 x2 x3 = (a1 * b2 - a2 * b1) * d3 x1 x2 x3 b1 b2 b3 e1 e2 e3 := by
  unfold d3; grind
theorem plu3' (a1 a2 a3 b1 b2 b3 e1 e2 e3 x1 x2 x3 : Int) :
    d3 a1 a2 a3 b1 b2 b3 e1 e2 e3 * (a1 * x2 - a2 * x1) - (a1 * e2 - a2 * e1) * d3 a1 a2 a3 b1 b2 b3 x1 x2 x3 = (a1 * b2 - a2 * b1) * d3 a1 a2 a3 x1 x2 x3 e1 e2 e3 := by
  unfold d3; grind
theorem plu3d (a1 a2 a3 a4 b1 b2 b3 b4 e1 e2 e3 e4 x1 x2 x3 x4 : Int) :
    d3 a1 a2 a3 b1 b2 b3 e1 e2 e3 * d3 a1 a2 a4 b1 b2 b4 x1 x2 x4 - d3 a1 a2 a4 b1 b2 b4 e1 e2 e4 * d3 a1 a2 a3 b1 b2 b3 x1 x2 x3 = (a1 * b2 - a2 * b1) * d4 a1 a2 a3 a4 b1 b2 b3 b4 e1 e2 e3 e4 x1 x2 x3 x4 := by
  unfold d4 d3; grind
theorem plu4 (a1 a2 a3 a4 b1 b2 b3 b4 c1 c2 c3 c4 e1 e2 e3 e4 x1 x2 x3 x4 : Int) :
    d4 a1 a2 a3 a4 b1 b2 b3 b4 c1 c2 c3 c4 e1 e2 e3 e4 * d3 x1 x2 x3 b1 b2 b3 c1 c2 c3 - d3 e1 e2 e3 b1 b2 b3 c1 c2 c3 * d4 a1 a2 a3 a4 b1 b2 b3 b4 c1 c2 c3 c4 x1 x2 x3 x4
      = d3 a1 a2 a3 b1 b2 b3 c1 c2 c3 * d4 x1 x2 x3 x4 b1 b2 b3 b4 c1 c2 c3 c4 e1 e2 e3 e4 := by
  unfold d4 d3; grind
theorem plu4b (a1 a2 a3 a4 b1 b2 b3 b4 c1 c2 c3 c4 e1 e2 e3 e4 x1 x2 x3 x4 : Int) :
    d4 a1 a2 a3 a4 b1 b2 b3 b4 c1 c2 c3 c4 e1 e2 e3 e4 * d3 a1 a2 a3 x1 x2 x3 c1 c2 c3 - d3 a1 a2 a3 e1 e2 e3 c1 c2 c3 * d4 a1 a2 a3 a4 b1 b2 b3 b4 c1 c2 c3 c4 x1 x2 x3 x4
      = d3 a1 a2 a3 b1 b2 b3 c1 c2 c3 * d4 a1 a2 a3 a4 x1 x2 x3 x4 c1 c2 c3 c4 e1 e2 e3 e4 := by
  unfold d4 d3; grind
theorem plu4c (a1 a2 a3 a4 b1 b2 b3 b4 c1 c2 c3 c4 e1 e2 e3 e4 x1 x2 x3 x4 : Int) :
    d4 a1 a2 a3 a4 b1 b2 b3 b4 c1 c2 c3 c4 e1 e2 e3 e4 * d3 a1 a2 a3 b1 b2 b3 x1 x2 x3 - d3 a1 a2 a3 b1 b2 b3 e1 e2 e3 * d4 a1 a2 a3 a4 b1 b2 b3 b4 c1 c2 c3 c4 x1 x2 x3 x4
      = d3 a1 a2 a3 b1 b2 b3 c1 c2 c3 * d4 a1 a2 a3 a4 b1 b2 b3 b4 x1 x2 x3 x4 e1 e2 e3 e4 := by
  unfold d4 d3; grind

section
variable (f : Nat → Nat → Int)
/-- The number in row i behind k rounds (on rows and columns from 1 on), of a column x. -/
def Fk (k i : Nat) (x : Nat → Int) : Int :=
  match k with
  | 0 => x i
  | 1 => if i = 1 then x 1 else f 1 1 * x i - f i 1 * x 1
  | 2 => if i = 1 then x 1 * f 2 2 - x 2 * f 1 2 else if i = 2 then f 1 1 * x 2 - f 2 1 * x 1 else d3 (f 1 1) (f 2 1) (f i 1) (f 1 2) (f 2 2) (f i 2) (x 1) (x 2) (x i)
  | 3 => if i = 1 then d3 (x 1) (x 2) (x 3) (f 1 2) (f 2 2) (f 3 2) (f 1 3) (f 2 3) (f 3 3) else
      if i = 2 then d3 (f 1 1) (f 2 1) (f 3 1) (x 1) (x 2) (x 3) (f 1 3) (f 2 3) (f 3 3) else
      if i = 3 then d3 (f 1 1) (f 2 1) (f 3 1) (f 1 2) (f 2 2) (f 3 2) (x 1) (x 2) (x 3) else
      d4 (f 1 1) (f 2 1) (f 3 1) (f i 1) (f 1 2) (f 2 2) (f 3 2) (f i 2) (f 1 3) (f 2 3) (f 3 3) (f i 3) (x 1) (x 2) (x 3) (x i)
  | _ => if i = 1 then d4 (x 1) (x 2) (x 3) (x 4) (f 1 2) (f 2 2) (f 3 2) (f 4 2) (f 1 3) (f 2 3) (f 3 3) (f 4 3) (f 1 4) (f 2 4) (f 3 4) (f 4 4) else
      if i = 2 then d4 (f 1 1) (f 2 1) (f 3 1) (f 4 1) (x 1) (x 2) (x 3) (x 4) (f 1 3) (f 2 3) (f 3 3) (f 4 3) (f 1 4) (f 2 4) (f 3 4) (f 4 4) else
      if i = 3 then d4 (f 1 1) (f 2 1) (f 3 1) (f 4 1) (f 1 2) (f 2 2) (f 3 2) (f 4 2) (x 1) (x 2) (x 3) (x 4) (f 1 4) (f 2 4) (f 3 4) (f 4 4) else
      d4 (f 1 1) (f 2 1) (f 3 1) (f 4 1) (f 1 2) (f 2 2) (f 3 2) (f 4 2) (f 1 3) (f 2 3) (f 3 3) (f 4 3) (x 1) (x 2) (x 3) (x 4)
def colF (j : Nat) : Nat → Int := fun i => f i j
/-- The leading determinants. -/
def Pk (k : Nat) : Int :=
  match k with
  | 0 => 1
  | k + 1 => Fk f k (k + 1) (colF f (k + 1))

theorem fk_own (k : Nat) (hk : k ≤ 3) (x : Nat → Int) : Fk f (k + 1) (k + 1) x = Fk f k (k + 1) x := by
  obtain rfl | rfl | rfl | rfl : k = 0 ∨ k = 1 ∨ k = 2 ∨ k = 3 := by omega
  · rfl
  · rfl
  · rfl
  · rfl
theorem pk2 : Pk f 2 = f 1 1 * f 2 2 - f 2 1 * f 1 2 := by simp [Pk, Fk, colF]
theorem pk3 : Pk f 3 = d3 (f 1 1) (f 2 1) (f 3 1) (f 1 2) (f 2 2) (f 3 2) (f 1 3) (f 2 3) (f 3 3) := by simp [Pk, Fk, colF]
theorem pk4 : Pk f 4 = d4 (f 1 1) (f 2 1) (f 3 1) (f 4 1) (f 1 2) (f 2 2) (f 3 2) (f 4 2) (f 1 3) (f 2 3) (f 3 3) (f 4 3) (f 1 4) (f 2 4) (f 3 4) (f 4 4) := by simp [Pk, Fk, colF]
/-- A round's division leaves no remainder. -/
theorem fk_step (k : Nat) (hk : k ≤ 3) (i : Nat) (hi : 1 ≤ i) (hne : i ≠ k + 1) (h4 : k = 3 → i ≤ 4) (x : Nat → Int) :
    Pk f (k + 1) * Fk f k i x - Fk f k i (colF f (k + 1)) * Fk f k (k + 1) x = Pk f k * Fk f (k + 1) i x := by
  obtain rfl | rfl | rfl | rfl : k = 0 ∨ k = 1 ∨ k = 2 ∨ k = 3 := by omega
  · have : i ≠ 1 := hne
    simp [Pk, Fk, colF, this]
  · rw [pk2]
    by_cases h1 : i = 1
    · subst h1; simp [Pk, Fk, colF]; grind
    · have : i ≠ 2 := hne
      simp [Pk, Fk, colF, h1, this, d3]; grind
  · rw [pk3, pk2]
    by_cases h1 : i = 1
    · subst h1
      have := plu3 (f 1 1) (f 2 1) (f 3 1) (f 1 2) (f 2 2) (f 3 2) (f 1 3) (f 2 3) (f 3 3) (x 1) (x 2) (x 3)
      simp [Fk, colF]; grind
    · by_cases h2 : i = 2
      · subst h2
        have := plu3' (f 1 1) (f 2 1) (f 3 1) (f 1 2) (f 2 2) (f 3 2) (f 1 3) (f 2 3) (f 3 3) (x 1) (x 2) (x 3)
        simp [Fk, colF]; grind
      · have h3 : i ≠ 3 := hne
        have := plu3d (f 1 1) (f 2 1) (f 3 1) (f i 1) (f 1 2) (f 2 2) (f 3 2) (f i 2) (f 1 3) (f 2 3) (f 3 3) (f i 3) (x 1) (x 2) (x 3) (x i)
        simp [Fk, colF, h1, h2, h3]; rw [this]
  · rw [pk4, pk3]
    obtain rfl | rfl | rfl : i = 1 ∨ i = 2 ∨ i = 3 := by omega
    · exact plu4 (f 1 1) (f 2 1) (f 3 1) (f 4 1) (f 1 2) (f 2 2) (f 3 2) (f 4 2) (f 1 3) (f 2 3) (f 3 3) (f 4 3) (f 1 4) (f 2 4) (f 3 4) (f 4 4) (x 1) (x 2) (x 3) (x 4)
    · exact plu4b (f 1 1) (f 2 1) (f 3 1) (f 4 1) (f 1 2) (f 2 2) (f 3 2) (f 4 2) (f 1 3) (f 2 3) (f 3 3) (f 4 3) (f 1 4) (f 2 4) (f 3 4) (f 4 4) (x 1) (x 2) (x 3) (x 4)
    · exact plu4c (f 1 1) (f 2 1) (f 3 1) (f 4 1) (f 1 2) (f 2 2) (f 3 2) (f 4 2) (f 1 3) (f 2 3) (f 3 3) (f 4 3) (f 1 4) (f 2 4) (f 3 4) (f 4 4) (x 1) (x 2) (x 3) (x 4)

/-- Behind k + 1 rounds, when the first row is that of the height 0. -/
structure St (k : Nat) : Prop where
  den : (eS f (k + 1)).1 = Pk f k
  core : ∀ i j, 1 ≤ i → (k = 4 → i ≤ 4) → 1 ≤ j → (eS f (k + 1)).2 i j = Fk f k i (colF f j)
  left : ∀ i, 1 ≤ i → (k = 4 → i ≤ 4) → (eS f (k + 1)).2 i 0 = 0
  top : ∀ j, (eS f (k + 1)).2 0 j = if j = 0 then Pk f k else 0

variable {f}
theorem St.zero (h0 : ∀ j, f 0 j = if j = 0 then 1 else 0) : St f 0 := by
  refine ⟨?_, fun i j hi _ hj => ?_, fun i hi _ => ?_, fun j => ?_⟩
  · show f 0 0 = 1
    simp [h0]
  · have h1 : i ≠ 0 := by omega
    have h2 : j ≠ 0 := by omega
    show eStep 0 1 f i j = f i j
    simp [eStep, h0, h1, h2]
  · have h1 : i ≠ 0 := by omega
    show eStep 0 1 f i 0 = 0
    simp [eStep, h0, h1]
  · show eStep 0 1 f 0 j = _
    simp [eStep, h0, Pk]
theorem St.succ {k : Nat} (h : St f k) (hk : k ≤ 3) (hp : Pk f k ≠ 0) : St f (k + 1) := by
  have e1 : (eS f (k + 1)).2 (k + 1) (k + 1) = Pk f (k + 1) := h.core (k + 1) (k + 1) (by omega) (by omega) (by omega)
  refine ⟨e1, fun i j hi h4 hj => ?_, fun i hi h4 => ?_, fun j => ?_⟩
  · show eStep (k + 1) (eS f (k + 1)).1 (eS f (k + 1)).2 i j = _
    unfold eStep
    split
    · next e => subst e; rw [h.core _ j (by omega) (by omega) hj, fk_own f k hk]
    · next e =>
      rw [e1, h.core i j hi (by omega) hj, h.core i (k + 1) hi (by omega) (by omega), h.core (k + 1) j (by omega) (by omega) hj, h.den,
        fk_step f k hk i hi e (by omega) (colF f j)]
      exact Int.mul_tdiv_cancel_left _ hp
  · show eStep (k + 1) (eS f (k + 1)).1 (eS f (k + 1)).2 i 0 = _
    unfold eStep
    split
    · exact h.left _ (by omega) (by omega)
    · rw [h.left i hi (by omega), h.left (k + 1) (by omega) (by omega)]
      simp
  · show eStep (k + 1) (eS f (k + 1)).1 (eS f (k + 1)).2 0 j = _
    unfold eStep
    rw [if_neg (by omega), e1, h.top j, h.top (k + 1), h.den]
    by_cases hj : j = 0
    · subst hj
      simp
      rw [Int.mul_comm]
      exact Int.mul_tdiv_cancel_left _ hp
    · simp [hj]
/-- The numbers of the solution solve the leading equations. -/
theorem fk_cram (f : Nat → Nat → Int) (x : Nat → Int) : ∀ i,
    (1 ≤ i → i ≤ 1 → f i 1 * Fk f 1 1 x = Pk f 1 * x i) ∧
    (1 ≤ i → i ≤ 2 → f i 1 * Fk f 2 1 x + f i 2 * Fk f 2 2 x = Pk f 2 * x i) ∧
    (1 ≤ i → i ≤ 3 → f i 1 * Fk f 3 1 x + f i 2 * Fk f 3 2 x + f i 3 * Fk f 3 3 x = Pk f 3 * x i) ∧
    (1 ≤ i → i ≤ 4 → f i 1 * Fk f 4 1 x + f i 2 * Fk f 4 2 x + f i 3 * Fk f 4 3 x + f i 4 * Fk f 4 4 x = Pk f 4 * x i) := by
  intro i
  refine ⟨fun h1 h2 => ?_, fun h1 h2 => ?_, fun h1 h2 => ?_, fun h1 h2 => ?_⟩
  · obtain rfl : i = 1 := by omega
    simp [Fk, Pk, colF]
  · rw [pk2]
    obtain rfl | rfl : i = 1 ∨ i = 2 := by omega
    all_goals simp [Fk]; grind
  · rw [pk3]
    obtain rfl | rfl | rfl : i = 1 ∨ i = 2 ∨ i = 3 := by omega
    all_goals simp [Fk, d3]; grind
  · rw [pk4]
    obtain rfl | rfl | rfl | rfl : i = 1 ∨ i = 2 ∨ i = 3 ∨ i = 4 := by omega
    all_goals simp [Fk, d4, d3]; grind
/-- What a row says behind the leading ones. -/
theorem fk_bord (f : Nat → Nat → Int) (x : Nat → Int) : ∀ i,
    (1 < i → Pk f 1 * x i - f i 1 * Fk f 1 1 x = Fk f 1 i x) ∧
    (2 < i → Pk f 2 * x i - (f i 1 * Fk f 2 1 x + f i 2 * Fk f 2 2 x) = Fk f 2 i x) ∧
    (3 < i → Pk f 3 * x i - (f i 1 * Fk f 3 1 x + f i 2 * Fk f 3 2 x + f i 3 * Fk f 3 3 x) = Fk f 3 i x) := by
  intro i
  refine ⟨fun h1 => ?_, fun h1 => ?_, fun h1 => ?_⟩
  · have : i ≠ 1 := by omega
    simp [Fk, Pk, colF, this]
  · have : i ≠ 1 := by omega
    have : i ≠ 2 := by omega
    rw [pk2]
    simp [Fk, d3, *]; grind
  · have : i ≠ 1 := by omega
    have : i ≠ 2 := by omega
    have : i ≠ 3 := by omega
    rw [pk3]
    simp [Fk, d4, d3, *]; grind
end

end Go.Proofs.Ytmmgcajegokkoaa
