/- The solution for one unit from a point to another one. -/
import Derived.Test.YtmmgcajegokkoaaMd
namespace Go.Proofs.Ytmmgcajegokkoaa
open Go.Sx Go.RowKit

/-! Errors of heights: what the solution for one unit from a point to another one says. -/
theorem pk_congr {f g : Nat → Nat → Int} {k : Nat} (hk : k ≤ 4) (h : ∀ p q, 1 ≤ p → p ≤ k → 1 ≤ q → q ≤ k → f p q = g p q) : Pk f k = Pk g k := by
  obtain rfl | rfl | rfl | rfl | rfl : k = 0 ∨ k = 1 ∨ k = 2 ∨ k = 3 ∨ k = 4 := by omega
  · rfl
  · exact h 1 1 (by omega) (by omega) (by omega) (by omega)
  · rw [pk2, pk2, h 1 1, h 2 2, h 1 2, h 2 1] <;> omega
  · rw [pk3, pk3, h 1 1, h 2 1, h 3 1, h 1 2, h 2 2, h 3 2, h 1 3, h 2 3, h 3 3] <;> omega
  · rw [pk4, pk4, h 1 1, h 2 1, h 3 1, h 4 1, h 1 2, h 2 2, h 3 2, h 4 2, h 1 3, h 2 3, h 3 3, h 4 3, h 1 4, h 2 4, h 3 4, h 4 4] <;> omega
/-- The common denominator is that of every load. -/
theorem solD_any {N : Nat} {rs : List Rd} (hv : Valid (N : Int) rs) (l1 l2 : List Int) : solD N rs l1 = solD N rs l2 := by
  have hp := hv.pts
  obtain ⟨k, rfl⟩ : ∃ k, N = k + 1 := ⟨N - 1, by omega⟩
  have e : ∀ l, solD (k + 1) rs l = Pk (eqG (k + 1) rs l) k := fun l => (st_of (loads := l) hv k (by omega)).den
  rw [e, e]
  refine pk_congr (by omega) fun p q h1 h2 h3 h4 => ?_
  by_cases hR : Root (k + 1) rs p
  · rw [eqG_root hv (by omega) (by omega) hR, eqG_root hv (by omega) (by omega) hR]
  · rw [eqG_entry hv (by omega) (by omega) hR, eqG_entry hv (by omega) (by omega) hR]
def denO (N : Nat) (rs : List Rd) : Int := solD N rs []
theorem solD_eq {N : Nat} {rs : List Rd} (hv : Valid (N : Int) rs) (l : List Int) : solD N rs l = denO N rs := solD_any hv l []
theorem denO_pos {N : Nat} {rs : List Rd} (hv : Valid (N : Int) rs) : 1 ≤ denO N rs ∧ denO N rs ≤ 331776 := by
  rw [← solD_eq hv (List.replicate N 0)]
  exact (solved hv (fun j => by have := zeros_bd N j; omega)).den
theorem solV_bn {N : Nat} {rs : List Rd} {loads : List Int} {B : Int} (hv : Valid (N : Int) rs) (hB0 : 0 ≤ B) (hB : Bd loads B) {p : Nat} (hpN : p < N) : Bn (solV N rs loads p) (331776 * B) := by
  have hp := hv.pts
  obtain ⟨k, rfl⟩ : ∃ k, N = k + 1 := ⟨N - 1, by omega⟩
  have hS := st_of (loads := loads) hv k (by omega)
  by_cases h0 : p = 0
  · subst h0
    have := hS.top (k + 1)
    rw [if_neg (by omega)] at this
    have e : solV (k + 1) rs loads 0 = 0 := this
    rw [e]
    exact Bn.zero (by omega)
  · have e : solV (k + 1) rs loads p = Fk (eqG (k + 1) rs loads) k p (colF (eqG (k + 1) rs loads) (k + 1)) := hS.core p (k + 1) (by omega) (by omega) (by omega)
    rw [e]
    refine fk_bn (by omega) (by omega) (by omega) hpN (fun i j _ h _ h2 => eqG_bn hv h h2) fun q h1 h2 => ?_
    show Bn (eqG (k + 1) rs loads q (k + 1)) B
    rw [(eqG_row (loads := loads) hv.ends h2 (fun _ => 0)).2]
    have := hB q
    unfold Bn
    split <;> omega
theorem root_ends {N : Nat} {rs : List Rd} (hv : Valid (N : Int) rs) {r : Rd} (hr : r ∈ rs) : rootOf N rs r.f = rootOf N rs r.t := by
  have h := hv.lab.eq r hr
  unfold at_ at h
  unfold rootOf Rd.f Rd.t
  rw [h]
/-- A test function is met by the solution at its loads, where these add up to 0 in each part. -/
theorem en_sol {N : Nat} {rs : List Rd} {loads : List Int} (hv : Valid (N : Int) rs) (hB : Bd loads 48000) (y : Nat → Int) :
    en rs (solV N rs loads) y = denO N rs * sumN N (fun p => (y p - y (rootOf N rs p)) * loads.getD p 0) := by
  have hS := solved hv hB
  have e : en rs (solV N rs loads) y = en rs (solV N rs loads) (fun p => y p - y (rootOf N rs p)) := rsum_congr fun r hr => by
    have := root_ends hv hr
    unfold dlt
    simp only [this]
    grind
  rw [e, ← parts_sum hv.ends.inN, ← sumN_mul]
  refine sumN_congr fun p hp => ?_
  by_cases hR : Root N rs p
  · have : rootOf N rs p = p := by
      have h1 := root_le hv hp
      have h2 : (p : Int) = (firstsL N rs).getD p 0 := hR
      omega
    rw [this]
    simp
  · rw [hS.eq p hp hR, solD_eq hv]
    grind
theorem resL_get {N : Nat} {i j p : Nat} (hi : i < N) (hj : j < N) : (resL N (i : Int) (j : Int)).getD p 0 = (if p = j then 1 else 0) - (if p = i then 1 else 0) := by
  have hz : ∀ q, (List.replicate N (0 : Int)).getD q 0 = 0 := fun q => by by_cases h : q < N <;> simp [List.getD, List.getElem?_replicate, h]
  simp only [resL, Int.toNat_natCast, getD_set, List.length_set, List.length_replicate, hz]
  by_cases h1 : j = p <;> by_cases h2 : i = p <;> by_cases h3 : i = j <;> simp [h1, h2, h3, hi, hj, Ne.symm, eq_comm] <;> omega
/-- The heights for one unit from i to j. -/
def uu (N : Nat) (rs : List Rd) (i j : Nat) : Nat → Int := solV N rs (resL N (i : Int) (j : Int))
theorem en_uu {N : Nat} {rs : List Rd} (hv : Valid (N : Int) rs) {i j : Nat} (hi : i < N) (hj : j < N) (hij : rootOf N rs i = rootOf N rs j) (y : Nat → Int) : en rs (uu N rs i j) y = denO N rs * (y j - y i) := by
  unfold uu
  rw [en_sol hv (fun q => by have := resL_bd N (i : Int) (j : Int) q; omega)]
  congr 1
  have e : ∀ p, p < N → (y p - y (rootOf N rs p)) * (resL N (i : Int) (j : Int)).getD p 0 = (if p = j then y j - y (rootOf N rs j) else 0) - (if p = i then y i - y (rootOf N rs i) else 0) := fun p _ => by
    rw [resL_get hi hj]
    by_cases h1 : p = j
    · subst h1
      by_cases h2 : p = i
      · subst h2; simp
      · simp [h2]
    · by_cases h2 : p = i
      · subst h2; simp [h1]
      · simp [h1, h2]
  rw [sumN_congr e, sumN_sub, sumN_single, sumN_single, if_pos hj, if_pos hi, hij]
  omega

end Go.Proofs.Ytmmgcajegokkoaa
