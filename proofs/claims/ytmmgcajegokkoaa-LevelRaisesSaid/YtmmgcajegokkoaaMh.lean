/- Tighter bounds. -/
import Derived.Test.YtmmgcajegokkoaaMg
namespace Go.Proofs.Ytmmgcajegokkoaa
open Go.Sx Go.RowKit

/-! Tighter bounds: of the common denominator, and of the best heights. -/
/-- The weights at a point. -/
def deg (rs : List Rd) (p : Nat) : Int := rsum rs fun r => if r.t = p ∨ r.f = p then r.wt else 0
def dg (N : Nat) (rs : List Rd) (p : Nat) : Int := if Root N rs p then 1 else deg rs p
theorem pos_deg {N : Nat} {rs : List Rd} (hv : Valid (N : Int) rs) (v : Nat → Int) {p : Nat} (hp : p < N) (h0 : ∀ q, q < N → Root N rs q → v q = 0)
    (hz : ∀ q, q < N → ¬ Root N rs q → q ≠ p → v q * lapl rs v q = 0) (hvp : 0 < v p) : 0 < lapl rs v p ∧ lapl rs v p ≤ deg rs p * v p := by
  have hE := hv.ends.inN
  have e1 : en rs v v = v p * lapl rs v p := by
    rw [← parts_sum hE]
    refine sumN_one hp fun q hq hne => ?_
    by_cases hR : Root N rs q
    · rw [h0 q hq hR]; simp
    · exact hz q hq hR hne
  have hn := en_nonneg hv.wt v
  have hne : en rs v v ≠ 0 := fun h => by
    have h1 := const_of hv (en_zero hv.wt h) hp
    have h2 := root_le hv hp
    rw [h0 _ (by omega) (root_root hv hp)] at h1
    omega
  have hpos : 0 < v p * lapl rs v p := by omega
  have h1 : 0 < lapl rs v p := by
    rcases Int.lt_or_le 0 (lapl rs v p) with h | h
    · exact h
    · have := Int.mul_nonpos_of_nonneg_of_nonpos (show 0 ≤ v p by omega) h
      omega
  refine ⟨h1, ?_⟩
  have e2 : en rs v (fun q => if q = p then v p else 0) = v p * lapl rs v p := by
    rw [← parts_sum hE, sumN_one hp (fun q hq hne => by simp [hne])]
    simp
  have e3 := en_nonneg hv.wt (fun q => v q - (if q = p then v p else 0))
  rw [en_sub, en_comm rs v, en_comm rs (fun q => if q = p then v p else 0), en_sub, en_sub, en_comm rs (fun q => if q = p then v p else 0) v, e1, e2] at e3
  have e4 : en rs (fun q => if q = p then v p else 0) (fun q => if q = p then v p else 0) ≤ deg rs p * (v p * v p) := by
    have hsq := sq_nonneg (v p)
    unfold en deg
    rw [Int.mul_comm (rsum rs _), ← rsum_mul]
    refine rsum_le fun r hr => ?_
    have hw := hv.wt r hr
    have hd0 := sq_nonneg (dlt (fun q => if q = p then v p else 0) r)
    have hd : dlt (fun q => if q = p then v p else 0) r * dlt (fun q => if q = p then v p else 0) r ≤ if r.t = p ∨ r.f = p then v p * v p else 0 := by
      unfold dlt
      by_cases h2 : r.t = p <;> by_cases h3 : r.f = p <;> simp [h2, h3, Int.neg_mul_neg] <;> omega
    have h4 := Int.mul_le_mul_of_nonneg_left hd (show 0 ≤ r.wt by omega)
    refine Int.le_trans h4 ?_
    split
    · rw [Int.mul_comm]; exact Int.le_refl _
    · simp
  have e5 : v p * lapl rs v p ≤ v p * (deg rs p * v p) := by
    have : v p * (deg rs p * v p) = deg rs p * (v p * v p) := by grind
    omega
  exact Int.le_of_mul_le_mul_left e5 hvp
theorem piv_deg {N : Nat} {rs : List Rd} {loads : List Int} (hv : Valid (N : Int) rs) {k : Nat} (hk : k ≤ 3) (hk1 : k + 1 < N) (hP : 0 < Pk (eqG N rs loads) k) :
    0 < Pk (eqG N rs loads) (k + 1) ∧ Pk (eqG N rs loads) (k + 1) ≤ dg N rs (k + 1) * Pk (eqG N rs loads) k := by
  have hb := sF_out (eqG N rs loads) hk (Nat.lt_succ_self k) (colF (eqG N rs loads) (k + 1))
  have hb' : Pk (eqG N rs loads) k * eqG N rs loads (k + 1) (k + 1) - sF (eqG N rs loads) k (k + 1) (colF (eqG N rs loads) (k + 1)) = Pk (eqG N rs loads) (k + 1) := hb
  by_cases hR : Root N rs (k + 1)
  · have e : sF (eqG N rs loads) k (k + 1) (colF (eqG N rs loads) (k + 1)) = 0 := sumN_zero fun q hq => by
      rw [eqG_root hv hk1 (by omega) hR, if_neg (show ¬ k + 1 = q by omega)]
      simp
    rw [e, eqG_root hv hk1 hk1 hR, if_pos rfl] at hb'
    unfold dg
    rw [if_pos hR]
    omega
  · generalize hf : eqG N rs loads = f at *
    let v : Nat → Int := fun q => if q = k + 1 then Pk f k else if 1 ≤ q ∧ q ≤ k then - Fk f k q (colF f (k + 1)) else 0
    have hrow : ∀ i, sumN N (fun q => f i q * v q) = Pk f k * f i (k + 1) - sF f k i (colF f (k + 1)) := fun i => by
      rw [sumN_tail (M := k + 2) (by omega) (fun q h1 _ => by simp [v, show ¬ q = k + 1 by omega, show ¬ (1 ≤ q ∧ q ≤ k) by omega])]
      have e1 : sumN (k + 1) (fun q => f i q * v q) = - sF f k i (colF f (k + 1)) := by
        unfold sF
        rw [← Int.neg_one_mul, ← sumN_mul]
        refine sumN_congr fun q hq => ?_
        by_cases h0 : q = 0
        · subst h0; simp [v]
        · simp [v, h0, show ¬ q = k + 1 by omega, show 1 ≤ q ∧ q ≤ k by omega]
          grind
      show sumN (k + 1) (fun q => f i q * v q) + f i (k + 1) * v (k + 1) = _
      rw [e1]
      simp only [v, if_true]
      grind
    have hin : ∀ i, 1 ≤ i → i ≤ k → sumN N (fun q => f i q * v q) = 0 := fun i h1 h2 => by
      rw [hrow, sF_in f (by omega) h1 h2]
      show Pk f k * f i (k + 1) - Pk f k * f i (k + 1) = 0
      omega
    have hR' : ∀ i, i < N → sumN N (fun q => f i q * v q) = if Root N rs i then v i else lapl rs v i := fun i hi => by
      rw [← hf]; exact (eqG_row (loads := loads) hv.ends hi v).1
    have h0 : ∀ q, q < N → Root N rs q → v q = 0 := fun q hq hRq => by
      by_cases h1 : 1 ≤ q ∧ q ≤ k
      · have := hR' q hq
        rw [if_pos hRq, hin q h1.1 h1.2] at this
        exact this.symm
      · have : q ≠ k + 1 := fun e => hR (e ▸ hRq)
        simp [v, h1, this]
    have hz : ∀ q, q < N → ¬ Root N rs q → q ≠ k + 1 → v q * lapl rs v q = 0 := fun q hq hRq hne => by
      by_cases h1 : 1 ≤ q ∧ q ≤ k
      · have := hR' q hq
        rw [if_neg hRq, hin q h1.1 h1.2] at this
        rw [← this]; simp
      · have : v q = 0 := by simp [v, h1, hne]
        rw [this]; simp
    have hvp : v (k + 1) = Pk f k := by simp [v]
    have hl : lapl rs v (k + 1) = Pk f (k + 1) := by
      have := hR' (k + 1) hk1
      rw [if_neg hR, hrow, hb'] at this
      exact this.symm
    have := pos_deg hv v hk1 h0 hz (by rw [hvp]; exact hP)
    rw [hl, hvp] at this
    unfold dg
    rw [if_neg hR]
    exact this
theorem deg_nn {rs : List Rd} (h : WtPos rs) (p : Nat) : 0 ≤ deg rs p := rsum_nonneg fun r hr => by have := h r hr; split <;> omega
theorem deg_sum {N : Nat} {rs : List Rd} (hv : Valid (N : Int) rs) : sumN N (deg rs) ≤ 48 := by
  unfold deg
  rw [sumN_rsum (fun p r => if r.t = p ∨ r.f = p then r.wt else 0)]
  have hl := hv.len
  refine Int.le_trans (rsum_le (h := fun _ => 6) fun r hr => ?_) (by rw [rsum_const]; omega)
  have hE := hv.ends r hr
  have hw := hv.wt r hr
  have hne := (reading_spec (List.all_eq_true.1 hv.all r hr))
  have hft : r.f ≠ r.t := by unfold Rd.f Rd.t; omega
  rw [sumN_congr (h := fun p => (if p = r.t then r.wt else 0) + (if p = r.f then r.wt else 0)) (fun p _ => by
    by_cases h1 : p = r.t
    · subst h1; simp [show ¬ r.t = r.f from fun e => hft e.symm]
    · by_cases h2 : p = r.f
      · subst h2; simp [hft]
      · simp [h1, h2, show ¬ r.t = p from fun e => h1 e.symm, show ¬ r.f = p from fun e => h2 e.symm]), sumN_add, sumN_single, sumN_single, if_pos hE.2.2.2, if_pos hE.2.2.1]
  omega
theorem amgm2 {a b s : Int} (ha : 0 ≤ a) (hb : 0 ≤ b) (h : a + b ≤ s) : 4 * (a * b) ≤ s * s := by
  have h1 := sq_nonneg (a - b)
  have h2 : (a + b) * (a + b) ≤ s * s := Int.mul_le_mul h h (by omega) (by omega)
  have e : (a + b) * (a + b) = (a - b) * (a - b) + 4 * (a * b) := by grind
  omega
theorem amgm4 {a b c d : Int} (ha : 0 ≤ a) (hb : 0 ≤ b) (hc : 0 ≤ c) (hd : 0 ≤ d) (h : a + b + c + d ≤ 48) : a * b * (c * d) ≤ 20736 := by
  have h1 := amgm2 ha hb (Int.le_refl _)
  have h2 := amgm2 hc hd (Int.le_refl _)
  have h3 := amgm2 (a := a + b) (b := c + d) (s := 48) (by omega) (by omega) (by omega)
  have p1 := Int.mul_nonneg ha hb
  have p2 := Int.mul_nonneg hc hd
  have h4 : (4 * (a * b)) * (4 * (c * d)) ≤ ((a + b) * (a + b)) * ((c + d) * (c + d)) := Int.mul_le_mul h1 h2 (by omega) (sq_nonneg _)
  have h5 : (a + b) * (c + d) ≤ 576 := by omega
  have h6 : 0 ≤ (a + b) * (c + d) := Int.mul_nonneg (by omega) (by omega)
  have h7 : ((a + b) * (c + d)) * ((a + b) * (c + d)) ≤ 576 * 576 := Int.mul_le_mul h5 h5 h6 (by omega)
  have e1 : ((a + b) * (a + b)) * ((c + d) * (c + d)) = ((a + b) * (c + d)) * ((a + b) * (c + d)) := by grind
  have e2 : (4 * (a * b)) * (4 * (c * d)) = 16 * (a * b * (c * d)) := by grind
  omega
theorem sumN_nn' {g : Nat → Int} : ∀ {n : Nat}, (∀ p, p < n → 0 ≤ g p) → 0 ≤ sumN n g
  | 0, _ => Int.le_refl _
  | n + 1, h => by
    have h1 := sumN_nn' (fun p hp => h p (by omega) : ∀ p, p < n → 0 ≤ g p)
    have h2 := h n (by omega)
    rw [sumN]; omega
theorem amgm51 {a b c d : Int} (ha : 0 ≤ a) (hb : 0 ≤ b) (hc : 0 ≤ c) (hd : 0 ≤ d) (h : a + b + c + d ≤ 51) : a * b * (c * d) ≤ 26406 := by
  have h1 := amgm2 ha hb (Int.le_refl _)
  have h2 := amgm2 hc hd (Int.le_refl _)
  have h3 := amgm2 (a := a + b) (b := c + d) (s := 51) (by omega) (by omega) (by omega)
  have p2 := Int.mul_nonneg hc hd
  have h4 : (4 * (a * b)) * (4 * (c * d)) ≤ ((a + b) * (a + b)) * ((c + d) * (c + d)) := Int.mul_le_mul h1 h2 (by omega) (sq_nonneg _)
  have h5 : (a + b) * (c + d) ≤ 650 := by omega
  have h6 : 0 ≤ (a + b) * (c + d) := Int.mul_nonneg (by omega) (by omega)
  have h7 : ((a + b) * (c + d)) * ((a + b) * (c + d)) ≤ 650 * 650 := Int.mul_le_mul h5 h5 h6 (by omega)
  have e1 : ((a + b) * (a + b)) * ((c + d) * (c + d)) = ((a + b) * (c + d)) * ((a + b) * (c + d)) := by grind
  have e2 : (4 * (a * b)) * (4 * (c * d)) = 16 * (a * b * (c * d)) := by grind
  omega
theorem denO_tight {N : Nat} {rs : List Rd} (hv : Valid (N : Int) rs) : denO N rs ≤ 26406 := by
  have hp := hv.pts
  obtain ⟨k, rfl⟩ : ∃ k, N = k + 1 := ⟨N - 1, by omega⟩
  have hD : denO (k + 1) rs = Pk (eqG (k + 1) rs []) k := (st_of (loads := []) hv k (by omega)).den
  rw [hD]
  generalize hf : eqG (k + 1) rs [] = f
  have hs := deg_sum hv
  have d : ∀ p, 0 ≤ deg rs p := deg_nn hv.wt
  have hstep : ∀ j, j ≤ 3 → j + 1 < k + 1 → 0 < Pk f j → 0 < Pk f (j + 1) ∧ Pk f (j + 1) ≤ max (deg rs (j + 1)) 1 * Pk f j := fun j h1 h2 h3 => by
    rw [← hf] at h3 ⊢
    have h4 := piv_deg (loads := []) hv h1 h2 h3
    refine ⟨h4.1, Int.le_trans h4.2 (Int.mul_le_mul_of_nonneg_right ?_ (by omega))⟩
    unfold dg
    split <;> omega
  have p0 : Pk f 0 = 1 := rfl
  have d0 := d 0
  have d1 := d 1
  have d2 := d 2
  have d3 := d 3
  have d4 := d 4
  obtain rfl | rfl | rfl | rfl | rfl : k = 0 ∨ k = 1 ∨ k = 2 ∨ k = 3 ∨ k = 4 := by omega
  · omega
  · have h1 := hstep 0 (by omega) (by omega) (by omega)
    simp only [sumN] at hs
    simp only [Nat.reduceAdd] at h1
    rw [p0] at h1
    omega
  · have h1 := hstep 0 (by omega) (by omega) (by omega)
    have h2 := hstep 1 (by omega) (by omega) h1.1
    simp only [sumN] at hs
    simp only [Nat.reduceAdd] at *
    rw [p0] at h1
    have h3 : max (deg rs 2) 1 * Pk f 1 ≤ max (deg rs 2) 1 * max (deg rs 1) 1 := Int.mul_le_mul_of_nonneg_left (by omega) (by omega)
    have h4 := amgm51 (a := max (deg rs 2) 1) (b := max (deg rs 1) 1) (c := 1) (d := 1) (by omega) (by omega) (by omega) (by omega) (by omega)
    omega
  · have h1 := hstep 0 (by omega) (by omega) (by omega)
    have h2 := hstep 1 (by omega) (by omega) h1.1
    have h3 := hstep 2 (by omega) (by omega) h2.1
    simp only [sumN] at hs
    simp only [Nat.reduceAdd] at *
    rw [p0] at h1
    have e1 : max (deg rs 2) 1 * Pk f 1 ≤ max (deg rs 2) 1 * max (deg rs 1) 1 := Int.mul_le_mul_of_nonneg_left (by omega) (by omega)
    have e2 : max (deg rs 3) 1 * Pk f 2 ≤ max (deg rs 3) 1 * (max (deg rs 2) 1 * max (deg rs 1) 1) := Int.mul_le_mul_of_nonneg_left (by omega) (by omega)
    have h4 := amgm51 (a := max (deg rs 3) 1) (b := 1) (c := max (deg rs 2) 1) (d := max (deg rs 1) 1) (by omega) (by omega) (by omega) (by omega) (by omega)
    rw [Int.mul_one] at h4
    omega
  · have h1 := hstep 0 (by omega) (by omega) (by omega)
    have h2 := hstep 1 (by omega) (by omega) h1.1
    have h3 := hstep 2 (by omega) (by omega) h2.1
    have h4 := hstep 3 (by omega) (by omega) h3.1
    simp only [sumN] at hs
    simp only [Nat.reduceAdd] at *
    rw [p0] at h1
    have e1 : max (deg rs 2) 1 * Pk f 1 ≤ max (deg rs 2) 1 * max (deg rs 1) 1 := Int.mul_le_mul_of_nonneg_left (by omega) (by omega)
    have e2 : max (deg rs 3) 1 * Pk f 2 ≤ max (deg rs 3) 1 * (max (deg rs 2) 1 * max (deg rs 1) 1) := Int.mul_le_mul_of_nonneg_left (by omega) (by omega)
    have e3 : max (deg rs 4) 1 * Pk f 3 ≤ max (deg rs 4) 1 * (max (deg rs 3) 1 * (max (deg rs 2) 1 * max (deg rs 1) 1)) := Int.mul_le_mul_of_nonneg_left (by omega) (by omega)
    have h5 := amgm51 (a := max (deg rs 4) 1) (b := max (deg rs 3) 1) (c := max (deg rs 2) 1) (d := max (deg rs 1) 1) (by omega) (by omega) (by omega) (by omega) (by omega)
    have e4 : max (deg rs 4) 1 * (max (deg rs 3) 1 * (max (deg rs 2) 1 * max (deg rs 1) 1)) = max (deg rs 4) 1 * max (deg rs 3) 1 * (max (deg rs 2) 1 * max (deg rs 1) 1) := by grind
    omega

/-! No height by the readings is above 4000. -/
def loadOf (ρ : Rd → Int) (p : Nat) (r : Rd) : Int := (if r.t = p then r.wt * ρ r else 0) - (if r.f = p then r.wt * ρ r else 0)
/-- Some reading leads out of a set of points at and above a height, to one that is not much lower. -/
theorem cut_low {N : Nat} {rs : List Rd} (hv : Valid (N : Int) rs) {x : Nat → Int} {ρ : Rd → Int} {D B : Int} (hD : 0 ≤ D) (hρ : ∀ r ∈ rs, Bn (ρ r) B) (h0 : ∀ p, p < N → Root N rs p → x p = 0)
    (h : ∀ p, p < N → ¬ Root N rs p → lapl rs x p = D * rsum rs (loadOf ρ p)) {c : Int} (hc : 0 < c) {p : Nat} (hp : p < N) (hpc : c ≤ x p) : ∃ q, q < N ∧ x q < c ∧ c - B * D ≤ x q := by
  apply Classical.byContradiction
  intro hno
  have hfar : ∀ q, q < N → x q < c → x q < c - B * D := fun q hq h1 => by
    rcases Int.lt_or_le (x q) (c - B * D) with h2 | h2
    · exact h2
    · exact absurd ⟨q, hq, h1, h2⟩ hno
  let y : Nat → Int := fun p => if c ≤ x p then 1 else 0
  have e1 : en rs x y = sumN N (fun p => y p * (D * rsum rs (loadOf ρ p))) := by
    rw [← parts_sum hv.ends.inN]
    refine sumN_congr fun q hq => ?_
    by_cases hR : Root N rs q
    · have : y q = 0 := by simp only [y]; rw [h0 q hq hR, if_neg (by omega)]
      rw [this]; simp
    · rw [h q hq hR]
  have e2 : sumN N (fun p => y p * (D * rsum rs (loadOf ρ p))) = rsum rs (fun r => r.wt * (D * ρ r * dlt y r)) := by
    rw [sumN_congr (h := fun p => rsum rs (fun r => D * (y p * loadOf ρ p r))) (fun p _ => by rw [rsum_mul, rsum_mul]; grind), sumN_rsum (fun p r => D * (y p * loadOf ρ p r))]
    refine rsum_congr fun r hr => ?_
    have hE := hv.ends r hr
    have e : ∀ p, p < N → D * (y p * loadOf ρ p r) = (if p = r.t then D * (y r.t * (r.wt * ρ r)) else 0) - (if p = r.f then D * (y r.f * (r.wt * ρ r)) else 0) := fun p _ => by
      unfold loadOf
      by_cases h1 : r.t = p
      · by_cases h2 : r.f = p
        · simp [h1, h2]
        · simp [h1, h2, show ¬ p = r.f from fun e => h2 e.symm]
      · by_cases h2 : r.f = p
        · simp [h1, h2, show ¬ p = r.t from fun e => h1 e.symm, Int.mul_neg]
        · simp [h1, h2, show ¬ p = r.t from fun e => h1 e.symm, show ¬ p = r.f from fun e => h2 e.symm]
    rw [sumN_congr e, sumN_sub, sumN_single, sumN_single, if_pos hE.2.2.2, if_pos hE.2.2.1]
    unfold dlt
    grind
  have e3 : rsum rs (fun r => r.wt * ((dlt x r - D * ρ r) * dlt y r)) = 0 := by
    rw [rsum_congr (h := fun r => r.wt * (dlt x r * dlt y r) - r.wt * (D * ρ r * dlt y r)) (fun r _ => by grind), rsum_sub]
    have : en rs x y = rsum rs (fun r => r.wt * (dlt x r * dlt y r)) := rfl
    rw [← this, e1, e2]
    omega
  have hterm : ∀ r ∈ rs, 0 ≤ r.wt * ((dlt x r - D * ρ r) * dlt y r) ∧ (y r.f ≠ y r.t → 0 < r.wt * ((dlt x r - D * ρ r) * dlt y r)) := fun r hr => by
    have hE := hv.ends r hr
    have hw := hv.wt r hr
    have hr' := hρ r hr
    have hb := (show Bn D D from ⟨by omega, Int.le_refl _⟩).mul hr'
    unfold Bn at hb
    have hDB : D * B = B * D := Int.mul_comm _ _
    by_cases h1 : c ≤ x r.t
    · by_cases h2 : c ≤ x r.f
      · have : dlt y r = 0 := by simp [dlt, y, h1, h2]
        rw [this]
        refine ⟨by simp, fun hne => absurd (by simp [y, h1, h2]) hne⟩
      · have h3 := hfar r.f hE.2.2.1 (by omega)
        have : dlt y r = 1 := by simp [dlt, y, h1, h2]
        rw [this, Int.mul_one]
        have h4 : 0 < dlt x r - D * ρ r := by unfold dlt; omega
        have := Int.mul_pos (show 0 < r.wt by omega) h4
        exact ⟨by omega, fun _ => this⟩
    · by_cases h2 : c ≤ x r.f
      · have h3 := hfar r.t hE.2.2.2 (by omega)
        have : dlt y r = -1 := by simp [dlt, y, h1, h2]
        rw [this]
        have h4 : 0 < (dlt x r - D * ρ r) * -1 := by unfold dlt; omega
        have := Int.mul_pos (show 0 < r.wt by omega) h4
        exact ⟨by omega, fun _ => this⟩
      · have : dlt y r = 0 := by simp [dlt, y, h1, h2]
        rw [this]
        refine ⟨by simp, fun hne => absurd (by simp [y, h1, h2]) hne⟩
  have h4 := rsum_null (fun r hr => (hterm r hr).1) e3
  have h5 : ∀ r ∈ rs, y r.f = y r.t := fun r hr => by
    by_cases e : y r.f = y r.t
    · exact e
    · have := (hterm r hr).2 e
      have := h4 r hr
      omega
  have h6 := const_of hv h5 hp
  have h7 := root_le hv hp
  have h8 : y p = 1 := by simp only [y]; rw [if_pos hpc]
  have h9 : y (rootOf N rs p) = 0 := by simp only [y]; rw [h0 _ (by omega) (root_root hv hp), if_neg (by omega)]
  omega
/-- How many of the points from 0 on are at or above a height. -/
def cntA (x : Nat → Int) (c : Int) (n : Nat) : Int := sumN n fun p => if c ≤ x p then 1 else 0
theorem cntA_le (x : Nat → Int) (c : Int) : ∀ n : Nat, cntA x c n ≤ n
  | 0 => Int.le_refl _
  | n + 1 => by
    have := cntA_le x c n
    unfold cntA at *
    rw [sumN]
    split <;> omega
theorem cntA_lt {x : Nat → Int} {c c' : Int} (hc : c' ≤ c) : ∀ {n : Nat}, cntA x c n ≤ cntA x c' n ∧ ∀ q, q < n → x q < c → c' ≤ x q → cntA x c n < cntA x c' n
  | 0 => ⟨Int.le_refl _, fun q hq => by omega⟩
  | n + 1 => by
    have ih := cntA_lt (x := x) hc (n := n)
    unfold cntA at *
    simp only [sumN]
    refine ⟨by have := ih.1; split <;> split <;> omega, fun q hq h1 h2 => ?_⟩
    by_cases hqn : q = n
    · subst hqn
      rw [if_neg (by omega), if_pos h2]
      have := ih.1
      omega
    · have := ih.2 q (by omega) h1 h2
      split <;> split <;> omega
theorem top_bound {N : Nat} {rs : List Rd} (hv : Valid (N : Int) rs) {x : Nat → Int} {ρ : Rd → Int} {D B : Int} (hD : 0 ≤ D) (hB : 0 ≤ B) (hρ : ∀ r ∈ rs, Bn (ρ r) B) (h0 : ∀ p, p < N → Root N rs p → x p = 0)
    (h : ∀ p, p < N → ¬ Root N rs p → lapl rs x p = D * rsum rs (loadOf ρ p)) : ∀ (m : Nat) (c : Int), 0 < c → (N : Int) - 1 - m ≤ cntA x c N → (∃ p, p < N ∧ c ≤ x p) → c ≤ (m + 1) * (B * D)
  | 0, c, hc, hcnt, ⟨p, hp, hpc⟩ => by
    obtain ⟨q, hq, h1, h2⟩ := cut_low hv hD hρ h0 h hc hp hpc
    have hpt := hv.pts
    by_cases hq0 : x q ≤ 0
    · omega
    · have h3 := (cntA_lt (x := x) (c := c) (c' := x q) (by omega) (n := N)).2 q hq h1 (Int.le_refl _)
      have h4 := (cntA_lt (x := x) (c := x q) (c' := 0) (by omega) (n := N)).2 0 (by omega) (by rw [h0 0 (by omega) (root_zero hv (by omega))]; omega) (by rw [h0 0 (by omega) (root_zero hv (by omega))]; omega)
      have h5 := cntA_le x 0 N
      omega
  | m + 1, c, hc, hcnt, ⟨p, hp, hpc⟩ => by
    obtain ⟨q, hq, h1, h2⟩ := cut_low hv hD hρ h0 h hc hp hpc
    have hBD : 0 ≤ B * D := Int.mul_nonneg hB hD
    by_cases hq0 : x q ≤ 0
    · have : (B * D) ≤ ((m + 1 : Nat) + 1 : Int) * (B * D) := by
        have : ((m + 1 : Nat) + 1 : Int) * (B * D) = (B * D) + ((m + 1 : Nat) : Int) * (B * D) := by grind
        have := Int.mul_nonneg (show 0 ≤ ((m + 1 : Nat) : Int) by omega) hBD
        omega
      omega
    · have h3 := (cntA_lt (x := x) (c := c) (c' := x q) (by omega) (n := N)).2 q hq h1 (Int.le_refl _)
      have ih := top_bound hv hD hB hρ h0 h m (x q) (by omega) (by omega) ⟨q, hq, Int.le_refl _⟩
      have e : ((m + 1 : Nat) + 1 : Int) * (B * D) = (m + 1) * (B * D) + B * D := by grind
      omega
theorem all_bound {N : Nat} {rs : List Rd} (hv : Valid (N : Int) rs) {x : Nat → Int} {ρ : Rd → Int} {D B : Int} (hD : 0 ≤ D) (hB : 0 ≤ B) (hρ : ∀ r ∈ rs, Bn (ρ r) B) (h0 : ∀ p, p < N → Root N rs p → x p = 0)
    (h : ∀ p, p < N → ¬ Root N rs p → lapl rs x p = D * rsum rs (loadOf ρ p)) {p : Nat} (hp : p < N) : Bn (x p) (4 * (B * D)) := by
  have hBD : 0 ≤ B * D := Int.mul_nonneg hB hD
  have hpt := hv.pts
  have key : ∀ (y : Nat → Int) (σ : Rd → Int), (∀ r ∈ rs, Bn (σ r) B) → (∀ p, p < N → Root N rs p → y p = 0) → (∀ p, p < N → ¬ Root N rs p → lapl rs y p = D * rsum rs (loadOf σ p)) → y p ≤ 4 * (B * D) := fun y σ h1 h2 h3 => by
    rcases Int.lt_or_le 0 (y p) with hy | hy
    · have hc : 0 ≤ cntA y (y p) N := sumN_nn' fun q _ => by split <;> omega
      have hc1 : 1 ≤ cntA y (y p) N := by
        have := (cntA_lt (x := y) (c := y p + 1) (c' := y p) (by omega) (n := N)).2 p hp (by omega) (Int.le_refl _)
        have h4 : 0 ≤ cntA y (y p + 1) N := sumN_nn' fun q _ => by split <;> omega
        omega
      have := top_bound hv hD hB h1 h2 h3 3 (y p) hy (by omega) ⟨p, hp, Int.le_refl _⟩
      omega
    · omega
  refine ⟨?_, key x ρ hρ h0 h⟩
  have := key (fun q => -1 * x q) (fun r => - ρ r) (fun r hr => (hρ r hr).neg) (fun q hq hR => by simp [h0 q hq hR]) (fun q hq hR => by
    rw [lapl_mul, h q hq hR]
    have e : rsum rs (loadOf (fun r => -ρ r) q) = -1 * rsum rs (loadOf ρ q) := by
      rw [← rsum_mul]
      exact rsum_congr fun r _ => by unfold loadOf; grind
    rw [e]; grind)
  omega

end Go.Proofs.Ytmmgcajegokkoaa
