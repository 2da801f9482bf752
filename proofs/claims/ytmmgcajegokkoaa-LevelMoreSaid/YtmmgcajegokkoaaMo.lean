/- Residuals and misfits, both ways. -/
import Derived.Test.YtmmgcajegokkoaaZ5
namespace Go.Proofs.Ytmmgcajegokkoaa
open Go.Sx Go.RowKit

/-! A tight bound of the other side's denominator; residuals and misfits both ways. -/
theorem sumN_swap (g : Nat → Nat → Int) (m : Nat) : ∀ n : Nat, sumN n (fun p => sumN m (g p)) = sumN m (fun k => sumN n (fun p => g p k))
  | 0 => by simp only [sumN]; exact (sumN_zero fun _ _ => rfl).symm
  | n + 1 => by simp only [sumN]; rw [sumN_add, sumN_swap g m n]
theorem sumN_le {g h : Nat → Int} : ∀ {n : Nat}, (∀ p, p < n → g p ≤ h p) → sumN n g ≤ sumN n h
  | 0, _ => Int.le_refl _
  | n + 1, e => by
    have h1 := sumN_le (fun p hp => e p (by omega) : ∀ p, p < n → g p ≤ h p)
    have h2 := e n (by omega)
    rw [sumN, sumN]; omega
theorem deg_pts {N : Nat} {rs : List Rd} (hv : Valid (N : Int) rs) {pts : List Int} (h : Pts N pts) : sumN pts.length (fun k => deg rs (pts.getD k 0).toNat) ≤ 48 := by
  refine Int.le_trans ?_ (deg_sum hv)
  have e : sumN pts.length (fun k => deg rs (pts.getD k 0).toNat) = sumN N (fun p => ext pts (fun k => deg rs (pts.getD k 0).toNat) p) := by
    unfold ext
    rw [sumN_swap (fun p k => if pts.getD k 0 = (p : Int) then deg rs (pts.getD k 0).toNat else 0)]
    refine sumN_congr fun k hk => ?_
    have hr := h.rng k hk
    rw [sumN_one (p := (pts.getD k 0).toNat) (by omega) (fun q _ hne => if_neg (by omega)), if_pos (by omega)]
  rw [e]
  refine sumN_le fun p hp => ?_
  by_cases hin : ∃ k, k < pts.length ∧ pts.getD k 0 = (p : Int)
  · obtain ⟨k, hk, hkp⟩ := hin
    have := ext_at h (fun k => deg rs (pts.getD k 0).toNat) hk
    simp only [hkp, Int.toNat_natCast] at this
    rw [this]; exact Int.le_refl _
  · rw [ext_out _ (fun k hk e => hin ⟨k, hk, e⟩)]
    exact deg_nn hv.wt p
def prodDeg (rs : List Rd) : List Int → Int
  | [] => 1
  | p :: pts => deg rs p.toNat * prodDeg rs pts
theorem det_up {N : Nat} {rs : List Rd} (hv : Valid (N : Int) rs) : ∀ (pts : List Int), pts.length ≤ 4 → Pts N pts → (∀ k, k < pts.length → ¬ Root N rs (pts.getD k 0).toNat) → 0 < detF pts.length (lapE rs pts) ∧ detF pts.length (lapE rs pts) ≤ prodDeg rs pts
  | [], _, _, _ => by simp [detF, prodDeg]
  | p :: pts, hl, h, hnr => by
    have hl' : pts.length ≤ 3 := by simp at hl; omega
    have ih := det_up hv pts (by omega) h.tail (fun k hk => by have := hnr (k + 1) (by simpa using hk); simpa [List.getD] using this)
    let y : Nat → Int := fun k => detF (pts.length + 1) (repF (lapE rs (p :: pts)) k (fun i => if i = 0 then 1 else 0))
    have hy0 : y 0 = detF pts.length (lapE rs pts) := by
      simp only [y]
      rw [det_unit hl' (lapE rs (p :: pts)) (a := 0) (by omega)]
      refine detF_congr _ fun a b _ _ => ?_
      simp only [skipA]
      rw [if_neg (by omega), if_neg (by omega)]
      exact lap_shift rs p pts a b
    have hrow : ∀ i, i < pts.length + 1 → lapl rs (ext (p :: pts) y) ((p :: pts).getD i 0).toNat = detF (pts.length + 1) (lapE rs (p :: pts)) * (if i = 0 then 1 else 0) := fun i hi => by
      rw [← lap_ext hv h y (by simpa using hi)]
      exact cramer (by omega) (lapE rs (p :: pts)) (fun i => if i = 0 then 1 else 0) hi
    have hr0 := h.rng 0 (by simp)
    have hp0 : (p :: pts).getD 0 0 = p := rfl
    rw [hp0] at hr0
    have hvp : ext (p :: pts) y p.toNat = y 0 := ext_at h y (k := 0) (by simp)
    have hpos := pos_deg hv (ext (p :: pts) y) (p := p.toNat) (by omega) (fun q hq hR => ext_out y (fun k hk e => by
      have := hnr k hk
      rw [e, Int.toNat_natCast] at this
      exact this hR)) (fun q hq _ hne => by
        by_cases hin : ∃ k, k < (p :: pts).length ∧ (p :: pts).getD k 0 = (q : Int)
        · obtain ⟨k, hk, hkq⟩ := hin
          have hk0 : k ≠ 0 := fun e => by
            subst e
            rw [hp0] at hkq
            omega
          have := hrow k (by simpa using hk)
          rw [hkq, Int.toNat_natCast, if_neg hk0] at this
          rw [this]; simp
        · rw [ext_out y (fun k hk e => hin ⟨k, hk, e⟩)]; simp) (by rw [hvp, hy0]; exact ih.1)
    have h0 := hrow 0 (by omega)
    rw [hp0, if_pos rfl, Int.mul_one] at h0
    rw [h0, hvp, hy0] at hpos
    refine ⟨hpos.1, Int.le_trans hpos.2 ?_⟩
    exact Int.mul_le_mul_of_nonneg_left ih.2 (deg_nn hv.wt _)
theorem prodDeg_le {N : Nat} {rs : List Rd} (hv : Valid (N : Int) rs) {pts : List Int} (hl : pts.length ≤ 4) (h : Pts N pts) : prodDeg rs pts ≤ 26406 := by
  have hs := deg_pts hv h
  have d : ∀ p, 0 ≤ deg rs p := deg_nn hv.wt
  match pts, hl, hs with
  | [], _, _ => simp [prodDeg]
  | [a], _, hs =>
    simp [sumN] at hs
    simp [prodDeg]
    omega
  | [a, b], _, hs =>
    simp [sumN] at hs
    have := amgm51 (d a.toNat) (d b.toNat) (show (0 : Int) ≤ 1 by omega) (show (0 : Int) ≤ 1 by omega) (by omega)
    simp [prodDeg]
    simpa using this
  | [a, b, c], _, hs =>
    simp [sumN] at hs
    have := amgm51 (d a.toNat) (d b.toNat) (d c.toNat) (show (0 : Int) ≤ 1 by omega) (by omega)
    simp [prodDeg]
    rw [← Int.mul_assoc]
    simpa using this
  | [a, b, c, e], _, hs =>
    simp [sumN] at hs
    have := amgm51 (d a.toNat) (d b.toNat) (d c.toNat) (d e.toNat) (by omega)
    simp [prodDeg]
    rw [← Int.mul_assoc]
    exact this
theorem dR_tight {n : Int} {rs : List Rd} (hv : Valid n rs) : dR n rs ≤ 26406 := by
  obtain ⟨hN', hn⟩ := hv.nat
  have h4 : (freeK (firstsL n rs) n.toNat).length ≤ 4 := by have := free_len hN'; rwa [hn] at this
  have hP := free_pts n.toNat (firstsL n rs)
  have h := det_up hN' (freeK (firstsL n rs) n.toNat) h4 hP (fun k hk hR => by
    have hR' : (((freeK (firstsL n rs) n.toNat).getD k 0).toNat : Int) = (firstsL n rs).getD ((freeK (firstsL n rs) n.toNat).getD k 0).toNat 0 := by have h9 := hR; unfold Root at h9; rwa [hn] at h9
    have hr := hP.rng k hk
    exact filt_out (f := notRoot (firstsL n rs)) (N := n.toNat) (z := ((freeK (firstsL n rs) n.toNat).getD k 0).toNat) (by simp only [notRoot]; exact decide_eq_false (fun e => e hR'.symm)) k hk (by
      show (freeK (firstsL n rs) n.toNat).getD k 0 = _
      omega))
  have := prodDeg_le hN' h4 hP
  have e : dR n rs = detF (freeK (firstsL n rs) n.toNat).length (lapE rs (freeK (firstsL n rs) n.toNat)) := rfl
  omega

/-- A residual by heights over a denominator. -/
def resid (r : Rd) (den : Int) (x : Nat → Int) : Int := r.rise * den - (x r.t - x r.f)
def lvF (n : Int) (rs : List Rd) (k : Nat) : Int := resR rs (denO n.toNat rs) (solN n.toNat rs (bestL n.toNat rs)) k
def rlF (n : Int) (rs : List Rd) (k : Nat) : Int := resR rs (dR n rs) (oR n rs) k
theorem res_bn {r : Rd} {den : Int} {x y : Int} (h0 : 0 ≤ den) (hr : Bn r.rise 1000) (hx : Bn x (4000 * den)) (hy : Bn y (4000 * den)) : Bn (r.rise * den - (x - y)) (9000 * den) := by
  have h1 := hr.mul (show Bn den den from ⟨by omega, Int.le_refl _⟩)
  unfold Bn at *
  omega
theorem lv_bn {n : Int} {rs : List Rd} (hv : Valid n rs) {k : Nat} (hk : k < rs.length) : Bn (lvF n rs k) (9000 * denO n.toNat rs) := by
  obtain ⟨i1, i2, i3⟩ := rd_in hv hk
  have hd := denO_pos hv.nat.1
  have hat := hv.at hk
  have b1 := best_bn hv.nat.1 i1
  have b2 := best_bn hv.nat.1 i2
  unfold lvF resR
  rw [solZ_get _ _ _ i1, solZ_get _ _ _ i2]
  exact res_bn (by omega) hat.2.2.2.1 (b2.mono (by omega)) (b1.mono (by omega))
theorem rl_bn {n : Int} {rs : List Rd} (hv : Valid n rs) {k : Nat} (hk : k < rs.length) : Bn (rlF n rs k) (9000 * dR n rs) := by
  obtain ⟨i1, i2, i3⟩ := rd_in hv hk
  have hd := dR_pos hv
  have hat := hv.at hk
  exact res_bn (by omega) hat.2.2.2.1 (oR_bn hv i2) (oR_bn hv i1)
theorem lv_rl {n : Int} {rs : List Rd} (hv : Valid n rs) {k : Nat} (hk : k < rs.length) : rlF n rs k * denO n.toNat rs = lvF n rs k * dR n rs := by
  obtain ⟨i1, i2, i3⟩ := rd_in hv hk
  have e1 := oR_eq hv i1
  have e2 := oR_eq hv i2
  have s1 : (solN n.toNat rs (bestL n.toNat rs)).getD (rs.getD k default).fr.toNat 0 = bestV n.toNat rs (rs.getD k default).f := solZ_get _ _ _ i1
  have s2 : (solN n.toNat rs (bestL n.toNat rs)).getD (rs.getD k default).to.toNat 0 = bestV n.toNat rs (rs.getD k default).t := solZ_get _ _ _ i2
  unfold lvF rlF resR
  rw [s1, s2]
  unfold Rd.f Rd.t at *
  grind
def mS (rs : List Rd) (g : Nat → Int) (m : Nat) : Int := sumN m fun k => (rs.getD k default).wt * g k * g k
theorem mS_bn {n : Int} {rs : List Rd} (hv : Valid n rs) {g : Nat → Int} (hg : ∀ k, k < rs.length → Bn (g k) 237654000) : ∀ m, m ≤ rs.length → Bn (mS rs g m) (169438271148000000 * m)
  | 0, _ => by simp [mS, sumN, Bn]
  | m + 1, h => by
    have ih := mS_bn hv hg m (by omega)
    have h1 := hv.at (k := m) (by omega)
    have h2 := hg m (by omega)
    have h3 := ((show Bn (rs.getD m default).wt 3 from ⟨by omega, by omega⟩).mul h2).mul h2
    exact (ih.add h3).mono (by omega)
theorem mS_step {n : Int} {rs : List Rd} (hv : Valid n rs) {g : Nat → Int} (hg : ∀ k, k < rs.length → Bn (g k) 237654000) {m : Nat} (hm : m < rs.length) :
    Bn ((rs.getD m default).wt * g m) 712962000 ∧ Bn ((rs.getD m default).wt * g m * g m) 169438271148000000 ∧ mS rs g (m + 1) = mS rs g m + (rs.getD m default).wt * g m * g m := by
  have h1 := hv.at hm
  have h2 := hg m hm
  have h3 := (show Bn (rs.getD m default).wt 3 from ⟨by omega, by omega⟩).mul h2
  exact ⟨h3.mono (by omega), (h3.mul h2).mono (by omega), rfl⟩
theorem mS_eq {n : Int} {rs : List Rd} (hv : Valid n rs) : ∀ m, m ≤ rs.length → mS rs (rlF n rs) m * (denO n.toNat rs * denO n.toNat rs) = mS rs (lvF n rs) m * (dR n rs * dR n rs)
  | 0, _ => by simp [mS, sumN]
  | m + 1, h => by
    have ih := mS_eq hv m (by omega)
    have e := lv_rl hv (k := m) (by omega)
    have e1 : mS rs (rlF n rs) (m + 1) = mS rs (rlF n rs) m + (rs.getD m default).wt * rlF n rs m * rlF n rs m := rfl
    have e2 : mS rs (lvF n rs) (m + 1) = mS rs (lvF n rs) m + (rs.getD m default).wt * lvF n rs m * lvF n rs m := rfl
    rw [e1, e2, Int.add_mul, Int.add_mul, ih]
    have e3 : (rs.getD m default).wt * rlF n rs m * rlF n rs m * (denO n.toNat rs * denO n.toNat rs) = (rs.getD m default).wt * ((rlF n rs m * denO n.toNat rs) * (rlF n rs m * denO n.toNat rs)) := by grind
    rw [e3, e]
    grind

end Go.Proofs.Ytmmgcajegokkoaa
