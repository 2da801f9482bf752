/- Determinants of tables of weights are above 0. -/
import Derived.Test.YtmmgcajegokkoaaMk
import Derived.Test.YtmmgcajegokkoaaY1
namespace Go.Proofs.Ytmmgcajegokkoaa
open Go.Sx Go.RowKit

/-! Determinants of tables of weights. -/
structure Pts (N : Nat) (pts : List Int) : Prop where
  rng : ∀ k, k < pts.length → 0 ≤ pts.getD k 0 ∧ pts.getD k 0 < N
  inj : ∀ j k, j < pts.length → k < pts.length → pts.getD j 0 = pts.getD k 0 → j = k
/-- Numbers for some points, 0 for all others. -/
def ext (pts : List Int) (y : Nat → Int) (p : Nat) : Int := sumN pts.length fun k => if pts.getD k 0 = (p : Int) then y k else 0
theorem ext_at {N : Nat} {pts : List Int} (h : Pts N pts) (y : Nat → Int) {k : Nat} (hk : k < pts.length) : ext pts y (pts.getD k 0).toNat = y k := by
  have hr := h.rng k hk
  unfold ext
  rw [sumN_one hk (fun j hj hne => if_neg (fun e => hne (h.inj j k hj hk (by rw [e]; omega))))]
  rw [if_pos (by omega)]
theorem ext_out {pts : List Int} (y : Nat → Int) {p : Nat} (h : ∀ k, k < pts.length → pts.getD k 0 ≠ (p : Int)) : ext pts y p = 0 := sumN_zero fun k hk => if_neg (h k hk)
theorem lterm_sum {N : Nat} {rs : List Rd} (hv : Valid (N : Int) rs) {pts : List Int} (h : Pts N pts) (y : Nat → Int) {i : Nat} (hi : i < pts.length) {r : Rd} (hr : r ∈ rs) :
    sumN pts.length (fun k => lterm pts i k r * y k) = term (ext pts y) (pts.getD i 0).toNat r := by
  have hE := hv.ends r hr
  have hri := h.rng i hi
  have hsp := reading_spec (List.all_eq_true.1 hv.all r hr)
  have hft : r.fr ≠ r.to := hsp.2.2.1
  have hf : (r.f : Int) = r.fr := by unfold Rd.f; omega
  have ht : (r.t : Int) = r.to := by unfold Rd.t; omega
  have hxi := ext_at h y hi
  have e1 : sumN pts.length (fun k => ltP pts i k r * y k) = if r.fr = pts.getD i 0 ∨ r.to = pts.getD i 0 then r.wt * y i else 0 := by
    rw [sumN_one hi (fun k _ hne => by rw [ltP, if_neg (fun e => hne e.1.symm)]; simp), ltP]
    by_cases c : r.fr = pts.getD i 0 ∨ r.to = pts.getD i 0
    · rw [if_pos ⟨rfl, c⟩, if_pos c]
    · rw [if_neg (fun e => c e.2), if_neg c]; simp
  have hxf : ext pts y r.f = sumN pts.length (fun k => if pts.getD k 0 = r.fr then y k else 0) := by unfold ext; rw [hf]
  have hxt : ext pts y r.t = sumN pts.length (fun k => if pts.getD k 0 = r.to then y k else 0) := by unfold ext; rw [ht]
  have e2 : sumN pts.length (fun k => ltM pts i k r * y k) = (if r.fr = pts.getD i 0 then r.wt * ext pts y r.t else 0) + (if r.to = pts.getD i 0 then r.wt * ext pts y r.f else 0) := by
    by_cases c1 : r.fr = pts.getD i 0
    · have c2 : ¬ r.to = pts.getD i 0 := fun e => hft (c1.trans e.symm)
      rw [if_pos c1, if_neg c2, hxt, ← sumN_mul, Int.add_zero]
      refine sumN_congr fun k hk => ?_
      unfold ltM
      by_cases c3 : pts.getD k 0 = r.to
      · have hik : i ≠ k := fun e => c2 (by rw [← c3, e])
        rw [if_pos ⟨hik, .inl ⟨c1, c3.symm⟩⟩, if_pos c3]
      · rw [if_neg (fun e => by rcases e.2 with h1 | h1; exact c3 h1.2.symm; exact c2 h1.1), if_neg c3]; simp
    · by_cases c2 : r.to = pts.getD i 0
      · rw [if_neg c1, if_pos c2, hxf, ← sumN_mul, Int.zero_add]
        refine sumN_congr fun k hk => ?_
        unfold ltM
        by_cases c3 : pts.getD k 0 = r.fr
        · have hik : i ≠ k := fun e => c1 (by rw [← c3, e])
          rw [if_pos ⟨hik, .inr ⟨c2, c3.symm⟩⟩, if_pos c3]
        · rw [if_neg (fun e => by rcases e.2 with h1 | h1; exact c1 h1.1; exact c3 h1.2.symm), if_neg c3]; simp
      · rw [if_neg c1, if_neg c2, sumN_zero fun k hk => ?_]; rfl
        rw [ltM, if_neg (fun e => by rcases e.2 with h1 | h1; exact c1 h1.1; exact c2 h1.1)]; simp
  rw [sumN_congr (h := fun k => ltP pts i k r * y k - ltM pts i k r * y k) (fun k _ => by unfold lterm; rw [Int.sub_mul]), sumN_sub, e1, e2]
  unfold term dlt
  by_cases c1 : r.fr = pts.getD i 0
  · have c2 : ¬ r.to = pts.getD i 0 := fun e => hft (c1.trans e.symm)
    have c3 : r.f = (pts.getD i 0).toNat := by unfold Rd.f; rw [c1]
    have c4 : ¬ r.t = (pts.getD i 0).toNat := fun e => c2 (by omega)
    rw [if_pos (.inl c1), if_pos c1, if_neg c2, if_neg c4, if_pos c3, c3, hxi]
    grind
  · by_cases c2 : r.to = pts.getD i 0
    · have c3 : r.t = (pts.getD i 0).toNat := by unfold Rd.t; rw [c2]
      have c4 : ¬ r.f = (pts.getD i 0).toNat := fun e => c1 (by omega)
      rw [if_pos (.inr c2), if_neg c1, if_pos c2, if_pos c3, if_neg c4, c3, hxi]
      grind
    · have c3 : ¬ r.t = (pts.getD i 0).toNat := fun e => c2 (by omega)
      have c4 : ¬ r.f = (pts.getD i 0).toNat := fun e => c1 (by omega)
      rw [if_neg (fun e => by rcases e with e | e; exact c1 e; exact c2 e), if_neg c1, if_neg c2, if_neg c3, if_neg c4]
      omega
theorem lap_ext {N : Nat} {rs : List Rd} (hv : Valid (N : Int) rs) {pts : List Int} (h : Pts N pts) (y : Nat → Int) {i : Nat} (hi : i < pts.length) :
    sumN pts.length (fun k => lapE rs pts i k * y k) = lapl rs (ext pts y) (pts.getD i 0).toNat := by
  have e : ∀ k, lapE rs pts i k = rsum rs (lterm pts i k) := fun k => by rw [rsum_sumN]; rfl
  rw [sumN_congr (h := fun k => rsum rs (fun r => lterm pts i k r * y k)) (fun k _ => by
    rw [e, ← Int.mul_comm (y k), ← rsum_mul]; exact rsum_congr fun r _ => by rw [Int.mul_comm]), sumN_rsum (fun k r => lterm pts i k r * y k)]
  exact rsum_congr fun r hr => lterm_sum hv h y hi hr
theorem pos_gen {N : Nat} {rs : List Rd} (hv : Valid (N : Int) rs) (v : Nat → Int) {p : Nat} (hp : p < N) (h0 : ∃ z, z < N ∧ rootOf N rs z = rootOf N rs p ∧ v z = 0)
    (hz : ∀ q, q < N → q ≠ p → v q * lapl rs v q = 0) (hvp : 0 < v p) : 0 < lapl rs v p := by
  have e1 : en rs v v = v p * lapl rs v p := by
    rw [← parts_sum hv.ends.inN]
    exact sumN_one hp fun q hq hne => hz q hq hne
  have hn := en_nonneg hv.wt v
  have hne : en rs v v ≠ 0 := fun h => by
    obtain ⟨z, hzN, hzr, hz0⟩ := h0
    have h1 := const_of hv (en_zero hv.wt h) hp
    have h2 := const_of hv (en_zero hv.wt h) hzN
    rw [hzr, ← h1, hz0] at h2
    omega
  rcases Int.lt_or_le 0 (lapl rs v p) with h | h
  · exact h
  · have := Int.mul_nonpos_of_nonneg_of_nonpos (show 0 ≤ v p by omega) h
    omega
/-- Each part has a point outside. -/
def Miss (N : Nat) (rs : List Rd) (pts : List Int) : Prop := ∀ p, p < N → ∃ z, z < N ∧ rootOf N rs z = rootOf N rs p ∧ ∀ k, k < pts.length → pts.getD k 0 ≠ (z : Int)
theorem lap_shift (rs : List Rd) (p : Int) (pts : List Int) (i k : Nat) : lapE rs (p :: pts) (i + 1) (k + 1) = lapE rs pts i k := by
  unfold lapE lapS
  refine sumN_congr fun n _ => ?_
  have e : ∀ j, (p :: pts).getD (j + 1) 0 = pts.getD j 0 := fun _ => rfl
  unfold lterm ltP ltM
  simp only [e]
  by_cases hik : i = k
  · subst hik; simp
  · simp [hik]
theorem Pts.tail {N : Nat} {p : Int} {pts : List Int} (h : Pts N (p :: pts)) : Pts N pts :=
  ⟨fun k hk => by have := h.rng (k + 1) (by simpa using hk); simpa [List.getD] using this, fun j k hj hk e => by have := h.inj (j + 1) (k + 1) (by simpa using hj) (by simpa using hk) (by simpa [List.getD] using e); omega⟩
theorem det_pos {N : Nat} {rs : List Rd} (hv : Valid (N : Int) rs) : ∀ (pts : List Int), pts.length ≤ 4 → Pts N pts → Miss N rs pts → 0 < detF pts.length (lapE rs pts)
  | [], _, _, _ => by simp [detF]
  | p :: pts, hl, h, hm => by
    have hl' : pts.length ≤ 3 := by simp at hl; omega
    have ih := det_pos hv pts (by omega) h.tail (fun q hq => by
      obtain ⟨z, hz, hzr, hzn⟩ := hm q hq
      exact ⟨z, hz, hzr, fun k hk => by have := hzn (k + 1) (by simpa using hk); simpa [List.getD] using this⟩)
    let y : Nat → Int := fun k => detF (pts.length + 1) (repF (lapE rs (p :: pts)) k (fun i => if i = 0 then 1 else 0))
    have hy0 : y 0 = detF pts.length (lapE rs pts) := by
      simp only [y]
      rw [det_unit hl' (lapE rs (p :: pts)) (a := 0) (by omega)]
      refine detF_congr _ fun a b _ _ => ?_
      simp only [skipA]
      rw [if_neg (by omega), if_neg (by omega)]
      exact lap_shift rs p pts a b
    have hrow : ∀ i, i < pts.length + 1 → lapl rs (ext (p :: pts) y) ((p :: pts).getD i 0).toNat = detF (pts.length + 1) (lapE rs (p :: pts)) * (if i = 0 then 1 else 0) := fun i hi => by
      rw [← lap_ext hv h y (by simpa using hi)]
      exact cramer (by omega) (lapE rs (p :: pts)) (fun i => if i = 0 then 1 else 0) hi
    have hr0 := h.rng 0 (by simp)
    have hp0 : (p :: pts).getD 0 0 = p := rfl
    rw [hp0] at hr0
    have hvp : ext (p :: pts) y p.toNat = y 0 := ext_at h y (k := 0) (by simp)
    have hpos := pos_gen hv (ext (p :: pts) y) (p := p.toNat) (by omega) (by
      obtain ⟨z, hz, hzr, hzn⟩ := hm p.toNat (by omega)
      exact ⟨z, hz, hzr, ext_out y hzn⟩) (fun q hq hne => by
        by_cases hin : ∃ k, k < (p :: pts).length ∧ (p :: pts).getD k 0 = (q : Int)
        · obtain ⟨k, hk, hkq⟩ := hin
          have hk0 : k ≠ 0 := fun e => by
            subst e
            rw [hp0] at hkq
            omega
          have := hrow k (by simpa using hk)
          rw [hkq, Int.toNat_natCast, if_neg hk0] at this
          rw [this]; simp
        · rw [ext_out y (fun k hk e => hin ⟨k, hk, e⟩)]; simp) (by rw [hvp, hy0]; exact ih)
    have h0 := hrow 0 (by omega)
    rw [hp0, if_pos rfl, Int.mul_one] at h0
    rw [h0] at hpos
    exact hpos

end Go.Proofs.Ytmmgcajegokkoaa
