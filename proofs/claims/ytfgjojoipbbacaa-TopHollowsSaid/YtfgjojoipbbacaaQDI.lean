/- Hollows below limits and above others: contracts. -/
import Derived.Test.YtfgjojoipbbacaaQDH
set_option linter.unusedVariables false
set_option linter.unusedSimpArgs false
namespace Go.Proofs.Ytfgjojoipbbacaa
open Go.Sx Go.RowKit

def mk (n : Nat) (f : Nat → Int) : List Int := (List.range n).map f
/-- The greatest number below all limits, as far as they have been looked at. -/
def undF (xs : List Int) (c : Nat) : Nat → Int
  | 0 => xs.getD c 0
  | d + 1 => min (undF xs c d) (xs.getD d 0 + max ((c : Int) - d) ((d : Int) - c))
def undL (n : Nat) (xs : List Int) : List Int := mk n fun c => undF xs c n
/-- The hollow below limits in which all others such lie. -/
structure UndP (ls : List (List Int)) (xs u : List Int) : Prop where
  ho : HO ls u
  le : ∀ c, u.getD c 0 ≤ xs.getD c 0
  mx : ∀ ys, HO ls ys → (∀ c, ys.getD c 0 ≤ xs.getD c 0) → ∀ c, ys.getD c 0 ≤ u.getD c 0
theorem UndP.unique {ls : List (List Int)} {xs u v : List Int} (h : UndP ls xs u) (k : UndP ls xs v) : u = v := ints_ext (by rw [h.ho.len, k.ho.len]) fun j _ => by
  have h1 := h.mx v k.ho k.le j
  have h2 := k.mx u h.ho h.le j
  omega
structure OvrP (ls : List (List Int)) (xs u : List Int) : Prop where
  ho : HO ls u
  le : ∀ c, xs.getD c 0 ≤ u.getD c 0
  mn : ∀ ys, HO ls ys → (∀ c, xs.getD c 0 ≤ ys.getD c 0) → ∀ c, u.getD c 0 ≤ ys.getD c 0
theorem OvrP.unique {ls : List (List Int)} {xs u v : List Int} (h : OvrP ls xs u) (k : OvrP ls xs v) : u = v := ints_ext (by rw [h.ho.len, k.ho.len]) fun j _ => by
  have h1 := h.mn v k.ho k.le j
  have h2 := k.mn u h.ho h.le j
  omega
theorem HO.far {ls : List (List Int)} {ys : List Int} (h : HO ls ys) : ∀ (k c : Nat), c + k < ls.length → ys.getD (c + k) 0 - ys.getD c 0 ≤ k ∧ -(k : Int) ≤ ys.getD (c + k) 0 - ys.getD c 0
  | 0, c, _ => by simp
  | k + 1, c, hc => by
    have h1 := h.far k c (by omega)
    have h2 := h.stp (c + k) (by omega)
    rw [show c + (k + 1) = c + k + 1 by omega]
    omega
def resL (ls : List (List Int)) (xs : List Int) : List Int := mk xs.length fun c => (dep ls : Int) - xs.getD c 0
/-! Of the list of all. -/
def ge0 (a b : Int) : Prop := a ≤ b
def selL (f : List Int → Bool) (l : List (List Int)) : List (List Int) := l.filter f
theorem sel_no {f : List Int → Bool} {l : List (List Int)} {t : List Int} (h : f t = false) : selL f (l ++ [t]) = selL f l := by simp [selL, List.filter_append, h]
/-- Of the first so many hollows, those that are asked for. -/
structure SlI (f : List Int → Bool) (l : List (List Int)) (R : List (HD × List Int)) (i : Nat) (o : HD × List (HD × List Int)) : Prop where
  le : i ≤ l.length
  g : GrP (selL f (l.take i)) o
  sub : ∀ z ∈ o.2, z ∈ R
theorem SlI.zero (f : List Int → Bool) (l : List (List Int)) (R : List (HD × List Int)) : SlI f l R 0 (none, []) := ⟨Nat.zero_le _, GrP.nil, fun z hz => by cases hz⟩
theorem SlI.skip {f : List Int → Bool} {l : List (List Int)} {R : List (HD × List Int)} {i : Nat} {o : HD × List (HD × List Int)} (h : SlI f l R i o) (hi : i < l.length) (hw : f (l.getD i []) = false) : SlI f l R (i + 1) o :=
  ⟨hi, by rw [take_snoc hi, sel_no hw]; exact h.g, h.sub⟩
structure UnP (ls : List (List Int)) (xs u : List Int) : Prop where
  bad : numI ls xs ≠ 0 → u = []
  ok : ¬ numI ls xs ≠ 0 → UndP ls xs u
structure OvP (ls : List (List Int)) (xs u : List Int) (b : Bool) : Prop where
  bad : numI ls xs ≠ 0 → u = [] ∧ b = false
  ok : ¬ numI ls xs ≠ 0 → OvrP ls xs u ∧ b = true
theorem UnP.unique {ls : List (List Int)} {xs u v : List Int} (h : UnP ls xs u) (k : UnP ls xs v) : u = v := by
  by_cases h0 : numI ls xs ≠ 0
  · rw [h.bad h0, k.bad h0]
  · exact (h.ok h0).unique (k.ok h0)
theorem OvP.unique {ls : List (List Int)} {xs u v : List Int} {b c : Bool} (h : OvP ls xs u b) (k : OvP ls xs v c) : u = v ∧ b = c := by
  by_cases h0 : numI ls xs ≠ 0
  · rw [(h.bad h0).1, (h.bad h0).2, (k.bad h0).1, (k.bad h0).2]; exact ⟨rfl, rfl⟩
  · exact ⟨(h.ok h0).1.unique (k.ok h0).1, by rw [(h.ok h0).2, (k.ok h0).2]⟩
theorem ho_short {ls : List (List Int)} {u : List Int} (h : HO ls u) : u.length ≤ 1000000 := by have := h.len; have := h.vb.n; omega
theorem UnP.len {ls : List (List Int)} {xs u : List Int} (h : UnP ls xs u) : u.length ≤ 1000000 := by
  by_cases h0 : numI ls xs ≠ 0
  · rw [h.bad h0]; exact Nat.zero_le _
  · exact ho_short (h.ok h0).ho
theorem OvP.len {ls : List (List Int)} {xs u : List Int} {b : Bool} (h : OvP ls xs u b) : u.length ≤ 1000000 := by
  by_cases h0 : numI ls xs ≠ 0
  · rw [(h.bad h0).1]; exact Nat.zero_le _
  · exact ho_short (h.ok h0).1.ho
def unK (xs : List Int) (n c d : Nat) : List Int := mk n fun e => if e < c then undF xs e n else if e = c then undF xs e d else xs.getD e 0
def reK (ls : List (List Int)) (xs : List Int) (k : Nat) : List Int := mk xs.length fun c => if c < k then (dep ls : Int) - xs.getD c 0 else 0
end Go.Proofs.Ytfgjojoipbbacaa
