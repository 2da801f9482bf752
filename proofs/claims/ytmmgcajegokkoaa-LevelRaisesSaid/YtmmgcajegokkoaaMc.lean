/- The pivots of the elimination are above 0. -/
import Derived.Test.YtmmgcajegokkoaaMa
import Derived.Test.YtmmgcajegokkoaaMb
namespace Go.Proofs.Ytmmgcajegokkoaa
open Go.Sx Go.RowKit

/-! The pivots are above 0, no number leaves its bounds, and the solution solves. -/
theorem Valid.ends {N : Nat} {rs : List Rd} (hv : Valid (N : Int) rs) : Ends N rs := fun r hr => by
  have h := reading_spec (List.all_eq_true.1 hv.all r hr)
  unfold Rd.f Rd.t
  omega
theorem Valid.wt {N : Nat} {rs : List Rd} (hv : Valid (N : Int) rs) : WtPos rs := fun r hr => by
  have h := reading_spec (List.all_eq_true.1 hv.all r hr)
  omega
theorem Valid.lab {N : Nat} {rs : List Rd} (hv : Valid (N : Int) rs) : Lab N rs (firstsL N rs) := Lab.of (RdIn.of hv)
/-- The smallest point of a point's part. -/
def rootOf (N : Nat) (rs : List Rd) (p : Nat) : Nat := ((firstsL N rs).getD p 0).toNat
theorem at_nat (xs : List Int) (p : Nat) : at_ xs (p : Int) = xs.getD p 0 := by unfold at_; rw [Int.toNat_natCast]
theorem root_le {N : Nat} {rs : List Rd} (hv : Valid (N : Int) rs) {p : Nat} (hp : p < N) : rootOf N rs p ≤ p ∧ ((rootOf N rs p : Nat) : Int) = (firstsL N rs).getD p 0 := by
  have h := hv.lab.lo p (by omega) (by omega)
  rw [at_nat] at h
  unfold rootOf
  omega
theorem root_root {N : Nat} {rs : List Rd} (hv : Valid (N : Int) rs) {p : Nat} (hp : p < N) : Root N rs (rootOf N rs p) := by
  have h1 := root_le hv hp
  have h := hv.lab.con (at_ (firstsL N rs)) hv.lab.eq p (by omega) (by omega)
  rw [at_nat, ← h1.2, at_nat] at h
  exact (h.symm : _ = _)
theorem root_zero {N : Nat} {rs : List Rd} (hv : Valid (N : Int) rs) (hN : 0 < N) : Root N rs 0 := by
  have h1 := root_le hv hN
  have h2 : rootOf N rs 0 = 0 := by omega
  unfold Root
  rw [← h1.2, h2]
theorem const_of {N : Nat} {rs : List Rd} (hv : Valid (N : Int) rs) {x : Nat → Int} (h : ∀ r ∈ rs, x r.f = x r.t) {p : Nat} (hp : p < N) : x p = x (rootOf N rs p) := by
  have h1 := hv.lab.con (fun q => x q.toNat) (fun r hr => h r hr) p (by omega) (by omega)
  rw [at_nat] at h1
  simp only [Int.toNat_natCast] at h1
  exact h1.symm
theorem rsum_const (c : Int) : ∀ rs : List Rd, rsum rs (fun _ => c) = rs.length * c
  | [] => by simp [rsum]
  | r :: rs => by simp only [rsum, rsum_const c rs, List.length_cons]; rw [show ((rs.length + 1 : Nat) : Int) = rs.length + 1 by omega, Int.add_mul]; omega
theorem pos_step {N : Nat} {rs : List Rd} (hv : Valid (N : Int) rs) (v : Nat → Int) {p : Nat} (hp : p < N) (h0 : ∀ q, q < N → Root N rs q → v q = 0)
    (hz : ∀ q, q < N → ¬ Root N rs q → q ≠ p → v q * lapl rs v q = 0) (hvp : 0 < v p) : 0 < lapl rs v p ∧ lapl rs v p ≤ 24 * v p := by
  have hE := hv.ends.inN
  have e1 : en rs v v = v p * lapl rs v p := by
    rw [← parts_sum hE]
    refine sumN_one hp fun q hq hne => ?_
    by_cases hR : Root N rs q
    · rw [h0 q hq hR]; simp
    · exact hz q hq hR hne
  have hn := en_nonneg hv.wt v
  have hne : en rs v v ≠ 0 := fun h => by
    have h1 := const_of hv (en_zero hv.wt h) hp
    have h2 := root_le hv hp
    rw [h0 _ (by omega) (root_root hv hp)] at h1
    omega
  have hpos : 0 < v p * lapl rs v p := by omega
  have h1 : 0 < lapl rs v p := by
    rcases Int.lt_or_le 0 (lapl rs v p) with h | h
    · exact h
    · have := Int.mul_nonpos_of_nonneg_of_nonpos (show 0 ≤ v p by omega) h
      omega
  refine ⟨h1, ?_⟩
  have e2 : en rs v (fun q => if q = p then v p else 0) = v p * lapl rs v p := by
    rw [← parts_sum hE, sumN_one hp (fun q hq hne => by simp [hne])]
    simp
  have e3 := en_nonneg hv.wt (fun q => v q - (if q = p then v p else 0))
  rw [en_sub, en_comm rs v, en_comm rs (fun q => if q = p then v p else 0), en_sub, en_sub, en_comm rs (fun q => if q = p then v p else 0) v, e1, e2] at e3
  have e4 : en rs (fun q => if q = p then v p else 0) (fun q => if q = p then v p else 0) ≤ 24 * (v p * v p) := by
    have hsq := sq_nonneg (v p)
    refine Int.le_trans (rsum_le (h := fun _ => 3 * (v p * v p)) fun r hr => ?_) ?_
    · have hw := hv.wt r hr
      have hd : dlt (fun q => if q = p then v p else 0) r * dlt (fun q => if q = p then v p else 0) r ≤ v p * v p := by
        unfold dlt
        by_cases h2 : r.t = p <;> by_cases h3 : r.f = p <;> simp [h2, h3, Int.neg_mul_neg] <;> omega
      have hd0 := sq_nonneg (dlt (fun q => if q = p then v p else 0) r)
      have h4 : r.wt * (dlt (fun q => if q = p then v p else 0) r * dlt (fun q => if q = p then v p else 0) r) ≤ 3 * (dlt (fun q => if q = p then v p else 0) r * dlt (fun q => if q = p then v p else 0) r) :=
        Int.mul_le_mul_of_nonneg_right hw.2 hd0
      omega
    · rw [rsum_const]
      have := hv.len
      have h5 : (rs.length : Int) * (3 * (v p * v p)) ≤ 8 * (3 * (v p * v p)) := Int.mul_le_mul_of_nonneg_right (by omega) (by omega)
      omega
  have e5 : v p * lapl rs v p ≤ v p * (24 * v p) := by
    have : v p * (24 * v p) = 24 * (v p * v p) := by grind
    omega
  exact Int.le_of_mul_le_mul_left e5 hvp

theorem sumN_tail {g : Nat → Int} {M : Nat} : ∀ {N : Nat}, M ≤ N → (∀ q, M ≤ q → q < N → g q = 0) → sumN N g = sumN M g
  | 0, h, _ => by rw [show M = 0 by omega]
  | N + 1, h, e => by
    by_cases hM : M = N + 1
    · rw [hM]
    · rw [sumN, sumN_tail (by omega) (fun q h1 h2 => e q h1 (by omega)), e N (by omega) (by omega)]; omega
/-- The sum of a row's numbers times those of a solution. -/
def sF (f : Nat → Nat → Int) (k i : Nat) (x : Nat → Int) : Int := sumN (k + 1) (fun q => if q = 0 then 0 else f i q * Fk f k q x)
theorem sF_in (f : Nat → Nat → Int) {k : Nat} (hk : k ≤ 4) {i : Nat} (h1 : 1 ≤ i) (h2 : i ≤ k) (x : Nat → Int) : sF f k i x = Pk f k * x i := by
  obtain ⟨c1, c2, c3, c4⟩ := fk_cram f x i
  obtain rfl | rfl | rfl | rfl | rfl : k = 0 ∨ k = 1 ∨ k = 2 ∨ k = 3 ∨ k = 4 := by omega
  · omega
  · rw [← c1 h1 h2]; simp [sF, sumN]
  · rw [← c2 h1 h2]; simp [sF, sumN]
  · rw [← c3 h1 h2]; simp [sF, sumN]
  · rw [← c4 h1 h2]; simp [sF, sumN]
theorem sF_out (f : Nat → Nat → Int) {k : Nat} (hk : k ≤ 3) {i : Nat} (h2 : k < i) (x : Nat → Int) : Pk f k * x i - sF f k i x = Fk f k i x := by
  obtain ⟨c1, c2, c3⟩ := fk_bord f x i
  obtain rfl | rfl | rfl | rfl : k = 0 ∨ k = 1 ∨ k = 2 ∨ k = 3 := by omega
  · simp [sF, sumN, Pk, Fk]
  · rw [← c1 h2]; simp [sF, sumN]
  · rw [← c2 h2]; simp [sF, sumN]
  · rw [← c3 h2]; simp [sF, sumN]
theorem eqG_root {N : Nat} {rs : List Rd} {loads : List Int} (hv : Valid (N : Int) rs) {p q : Nat} (hp : p < N) (hq : q < N) (hR : Root N rs p) : eqG N rs loads p q = if p = q then 1 else 0 := by
  have h := (eqG_row (loads := loads) hv.ends hp (fun j => if j = q then 1 else 0)).1
  rw [if_pos hR, sumN_one hq (fun j _ hne => by simp [hne])] at h
  simpa using h
theorem eqG_entry {N : Nat} {rs : List Rd} {loads : List Int} (hv : Valid (N : Int) rs) {p q : Nat} (hp : p < N) (hq : q < N) (hR : ¬ Root N rs p) : eqG N rs loads p q = lapl rs (fun j => if j = q then 1 else 0) p := by
  have h := (eqG_row (loads := loads) hv.ends hp (fun j => if j = q then 1 else 0)).1
  rw [if_neg hR, sumN_one hq (fun j _ hne => by simp [hne])] at h
  simpa using h
theorem piv_step {N : Nat} {rs : List Rd} {loads : List Int} (hv : Valid (N : Int) rs) {k : Nat} (hk : k ≤ 3) (hk1 : k + 1 < N) (hP : 0 < Pk (eqG N rs loads) k) :
    0 < Pk (eqG N rs loads) (k + 1) ∧ Pk (eqG N rs loads) (k + 1) ≤ 24 * Pk (eqG N rs loads) k := by
  have hb := sF_out (eqG N rs loads) hk (Nat.lt_succ_self k) (colF (eqG N rs loads) (k + 1))
  have hb' : Pk (eqG N rs loads) k * eqG N rs loads (k + 1) (k + 1) - sF (eqG N rs loads) k (k + 1) (colF (eqG N rs loads) (k + 1)) = Pk (eqG N rs loads) (k + 1) := hb
  by_cases hR : Root N rs (k + 1)
  · have e : sF (eqG N rs loads) k (k + 1) (colF (eqG N rs loads) (k + 1)) = 0 := sumN_zero fun q hq => by
      rw [eqG_root hv hk1 (by omega) hR, if_neg (show ¬ k + 1 = q by omega)]
      simp
    rw [e, eqG_root hv hk1 hk1 hR, if_pos rfl] at hb'
    omega
  · generalize hf : eqG N rs loads = f at *
    let v : Nat → Int := fun q => if q = k + 1 then Pk f k else if 1 ≤ q ∧ q ≤ k then - Fk f k q (colF f (k + 1)) else 0
    have hrow : ∀ i, sumN N (fun q => f i q * v q) = Pk f k * f i (k + 1) - sF f k i (colF f (k + 1)) := fun i => by
      rw [sumN_tail (M := k + 2) (by omega) (fun q h1 _ => by simp [v, show ¬ q = k + 1 by omega, show ¬ (1 ≤ q ∧ q ≤ k) by omega])]
      have e1 : sumN (k + 1) (fun q => f i q * v q) = - sF f k i (colF f (k + 1)) := by
        unfold sF
        rw [← Int.neg_one_mul, ← sumN_mul]
        refine sumN_congr fun q hq => ?_
        by_cases h0 : q = 0
        · subst h0; simp [v]
        · simp [v, h0, show ¬ q = k + 1 by omega, show 1 ≤ q ∧ q ≤ k by omega]
          grind
      show sumN (k + 1) (fun q => f i q * v q) + f i (k + 1) * v (k + 1) = _
      rw [e1]
      simp only [v, if_true]
      grind
    have hin : ∀ i, 1 ≤ i → i ≤ k → sumN N (fun q => f i q * v q) = 0 := fun i h1 h2 => by
      rw [hrow, sF_in f (by omega) h1 h2]
      show Pk f k * f i (k + 1) - Pk f k * f i (k + 1) = 0
      omega
    have hR' : ∀ i, i < N → sumN N (fun q => f i q * v q) = if Root N rs i then v i else lapl rs v i := fun i hi => by
      rw [← hf]; exact (eqG_row (loads := loads) hv.ends hi v).1
    have h0 : ∀ q, q < N → Root N rs q → v q = 0 := fun q hq hRq => by
      by_cases h1 : 1 ≤ q ∧ q ≤ k
      · have := hR' q hq
        rw [if_pos hRq, hin q h1.1 h1.2] at this
        exact this.symm
      · have : q ≠ k + 1 := fun e => hR (e ▸ hRq)
        simp [v, h1, this]
    have hz : ∀ q, q < N → ¬ Root N rs q → q ≠ k + 1 → v q * lapl rs v q = 0 := fun q hq hRq hne => by
      by_cases h1 : 1 ≤ q ∧ q ≤ k
      · have := hR' q hq
        rw [if_neg hRq, hin q h1.1 h1.2] at this
        rw [← this]; simp
      · have : v q = 0 := by simp [v, h1, hne]
        rw [this]; simp
    have hvp : v (k + 1) = Pk f k := by simp [v]
    have hl : lapl rs v (k + 1) = Pk f (k + 1) := by
      have := hR' (k + 1) hk1
      rw [if_neg hR, hrow, hb'] at this
      exact this.symm
    have := pos_step hv v hk1 h0 hz (by rw [hvp]; exact hP)
    rw [hl, hvp] at this
    exact this
theorem piv {N : Nat} {rs : List Rd} (loads : List Int) (hv : Valid (N : Int) rs) : ∀ k, k < N → 0 < Pk (eqG N rs loads) k ∧ Pk (eqG N rs loads) k ≤ 24 ^ k
  | 0, _ => ⟨show (0 : Int) < 1 by decide, show (1 : Int) ≤ 24 ^ 0 by decide⟩
  | k + 1, h => by
    have hp := hv.pts
    have ih := piv loads hv k (by omega)
    have := piv_step (loads := loads) hv (by omega) h ih.1
    refine ⟨this.1, ?_⟩
    rw [Int.pow_succ]
    omega

end Go.Proofs.Ytmmgcajegokkoaa
