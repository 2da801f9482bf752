/- Determinants along the first row. -/
import Derived.Test.YtmmgcajegokkoaaMi
import Derived.Test.YtmmgcajegokkoaaRw
namespace Go.Proofs.Ytmmgcajegokkoaa
open Go.Sx Go.RowKit

/-! Determinants along the first row. -/
def minorF (f : Nat → Nat → Int) (j : Nat) : Nat → Nat → Int := fun a b => f (a + 1) (if b < j then b else b + 1)
def sgn (j : Nat) : Int := if j % 2 = 0 then 1 else -1
theorem sgn_succ (j : Nat) : sgn (j + 1) = - sgn j := by unfold sgn; split <;> split <;> omega
def detF : Nat → (Nat → Nat → Int) → Int
  | 0, _ => 1
  | k + 1, f => sumN (k + 1) (fun j => sgn j * f 0 j * detF k (minorF f j))
def dterm (k : Nat) (f : Nat → Nat → Int) (j : Nat) : Int := sgn j * f 0 j * detF k (minorF f j)
theorem detF_congr : ∀ (k : Nat) {f g : Nat → Nat → Int}, (∀ a b, a < k → b < k → f a b = g a b) → detF k f = detF k g
  | 0, _, _, _ => rfl
  | k + 1, f, g, h => by
    simp only [detF]
    refine sumN_congr fun j hj => ?_
    rw [h 0 j (by omega) hj, detF_congr k (f := minorF f j) (g := minorF g j) (fun a b ha hb => ?_)]
    unfold minorF
    exact h _ _ (by omega) (by split <;> omega)
/-- No number on the way is too large. -/
def DSafe : Nat → (Nat → Nat → Int) → Prop
  | 0, _ => True
  | k + 1, f => ∀ j, j < k + 1 → Bn (f 0 j) 1000000000000000000 ∧ Bn (f 0 j * detF k (minorF f j)) 1000000000000000000 ∧ DSafe k (minorF f j)
theorem DSafe.congr : ∀ {k : Nat} {f g : Nat → Nat → Int}, (∀ a b, a < k → b < k → f a b = g a b) → DSafe k f → DSafe k g
  | 0, _, _, _, _ => trivial
  | k + 1, f, g, h, hs => fun j hj => by
    have h1 : ∀ a b, a < k → b < k → minorF f j a b = minorF g j a b := fun a b ha hb => by
      unfold minorF
      exact h _ _ (by omega) (by split <;> omega)
    obtain ⟨e1, e2, e3⟩ := hs j hj
    rw [h 0 j (by omega) hj] at e1 e2
    rw [detF_congr k h1] at e2
    exact ⟨e1, e2, DSafe.congr h1 e3⟩
theorem sgn_bn {a B : Int} (h : Bn a B) (j : Nat) : Bn (sgn j * a) B := by
  unfold sgn
  split
  · rw [Int.one_mul]; exact h
  · rw [Int.neg_one_mul]; exact h.neg
theorem dterm_bn {k : Nat} {f : Nat → Nat → Int} (h : DSafe (k + 1) f) {j : Nat} (hj : j < k + 1) : Bn (dterm k f j) 1000000000000000000 := by
  have := sgn_bn (h j hj).2.1 j
  unfold dterm
  rw [Int.mul_assoc]; exact this
theorem dsum_bn {k : Nat} {f : Nat → Nat → Int} (h : DSafe (k + 1) f) : ∀ m, m ≤ k + 1 → Bn (sumN m (dterm k f)) (1000000000000000000 * m)
  | 0, _ => by simp [sumN, Bn]
  | m + 1, hm => ((dsum_bn h m (by omega)).add (dterm_bn h (j := m) (by omega))).mono (by omega)
def minorRow (r : List Int) (k : Nat) : List Int := r.take k ++ r.drop (k + 1)
theorem minorRow_get {r : List Int} {k : Nat} (hk : k < r.length) (b : Nat) : (minorRow r k).getD b 0 = r.getD (if b < k then b else b + 1) 0 := by
  unfold minorRow
  by_cases h : b < k
  · rw [if_pos h, List.getD_eq_getElem?_getD, List.getElem?_append_left (by simp; omega), List.getD_eq_getElem?_getD, List.getElem?_take_of_lt h]
  · rw [if_neg h, List.getD_eq_getElem?_getD, List.getElem?_append_right (by simp; omega), List.getD_eq_getElem?_getD, List.getElem?_drop]
    congr 2
    simp
    omega
theorem minorRow_len {r : List Int} {k : Nat} (hk : k < r.length) : (minorRow r k).length = r.length - 1 := by simp [minorRow]; omega
def minorM (m : List (List Int)) (K k i : Nat) : List (List Int) := (List.range (i - 1)).map fun a => minorRow (m.getD (a + 1) []) k
theorem minorM_sh {m : List (List Int)} {K k : Nat} (h : Sh m (K + 1) (K + 1)) (hk : k < K + 1) : Sh (minorM m K k (K + 1)) K K := by
  refine ⟨by simp [minorM], fun i hi => ?_⟩
  have e : (minorM m K k (K + 1)).getD i [] = minorRow (m.getD (i + 1) []) k := by simp [minorM, List.getD, hi]
  have h1 := h.2 (i + 1) (by omega)
  rw [e, minorRow_len (by omega), h1]; omega
theorem minorM_get {m : List (List Int)} {K k : Nat} (h : Sh m (K + 1) (K + 1)) (hk : k < K + 1) {a b : Nat} (ha : a < K) : getM (minorM m K k (K + 1)) a b = minorF (getM m) k a b := by
  have e : (minorM m K k (K + 1)).getD a [] = minorRow (m.getD (a + 1) []) k := by simp [minorM, List.getD, ha]
  unfold getM minorF
  rw [e, minorRow_get (by have := h.2 (a + 1) (by omega); omega)]
structure RI (m : List (List Int)) (K k i : Nat) (x : HD × List (HD × List Int)) : Prop where
  lo : 1 ≤ i
  le : i ≤ K + 1
  eq : x.2.map (·.2) = minorM m K k i
  ok : goP x
  all : ∀ y ∈ x.2, goI y
theorem RI.zero (m : List (List Int)) (K k : Nat) : RI m K k 1 (none, []) := ⟨by omega, by omega, rfl, ⟨rfl, rfl⟩, by simp⟩
theorem RI.len {m : List (List Int)} {K k i : Nat} {x : HD × List (HD × List Int)} (h : RI m K k i x) : x.2.length = i - 1 := by
  have := congrArg List.length h.eq
  simpa [minorM] using this
theorem RI.step {m : List (List Int)} {K k i : Nat} {x : HD × List (HD × List Int)} {h' h2 : HD} {ys : List Int} (h : RI m K k i x) (hi : i < K + 1) (hy : ys = minorRow (m.getD i []) k) (hyo : goI (h2, ys)) (ho : goP (h', x.2 ++ [(h2, ys)])) :
    RI m K k (i + 1) (h', x.2 ++ [(h2, ys)]) := ⟨by omega, hi, by
      have h1 := h.lo
      obtain ⟨a, rfl⟩ : ∃ a, i = a + 1 := ⟨i - 1, by omega⟩
      simp only [List.map_append, List.map_cons, List.map_nil]
      rw [h.eq]
      unfold minorM
      rw [show a + 1 + 1 - 1 = a + 1 by omega, show a + 1 - 1 = a by omega, List.range_succ, List.map_append, hy]; rfl, ho, fun z hz => by
      rcases List.mem_append.1 hz with hz | hz
      · exact h.all z hz
      · rw [List.mem_singleton.1 hz]; exact hyo⟩

end Go.Proofs.Ytmmgcajegokkoaa
