/- Lowest terms, and the sum of all shares. -/
import Derived.Test.YtmmgcajegokkoaaMf
import Derived.Test.YtmmgcajegokkoaaU2
namespace Go.Proofs.Ytmmgcajegokkoaa
open Go.Sx Go.RowKit

/-! Lowest terms, and the sum of all shares. -/
theorem low_cop {num den : Int} (hd : 0 < den) : Int.gcd (num.tdiv (lowG num den)) (den.tdiv (lowG num den)) = 1 := by
  have hg := low_bound (num := num) hd
  have hc := low_cut num den
  have h : Int.gcd (num.tdiv (lowG num den) * lowG num den) (den.tdiv (lowG num den) * lowG num den) = Int.gcd num den := by rw [hc.1, hc.2]
  rw [Int.gcd_mul_right] at h
  have e : (lowG num den).natAbs = Int.gcd num den := by unfold lowG; simp
  rw [e] at h
  have hp : 0 < Int.gcd num den := Int.gcd_pos_of_ne_zero_right _ (by omega)
  exact Nat.eq_of_mul_eq_mul_right hp (by omega)
theorem dvd_of_cop {a b c : Int} (h : Int.gcd a b = 1) (hd : b ∣ a * c) : b ∣ c := by
  have h1 : b.natAbs ∣ a.natAbs * c.natAbs := by rw [← Int.natAbs_mul]; exact Int.natAbs_dvd_natAbs.2 hd
  have h2 : Nat.Coprime b.natAbs a.natAbs := by
    unfold Nat.Coprime
    rw [Nat.gcd_comm]
    exact h
  exact Int.natAbs_dvd_natAbs.1 (h2.dvd_of_dvd_mul_left h1)
/-- Equal quotients have the same lowest terms. -/
theorem low_eq {a b c d : Int} (hb : 0 < b) (hd : 0 < d) (h : a * d = c * b) : a.tdiv (lowG a b) = c.tdiv (lowG c d) ∧ b.tdiv (lowG a b) = d.tdiv (lowG c d) := by
  have hg := low_bound (num := a) hb
  have hk := low_bound (num := c) hd
  have ha := low_cut a b
  have hc := low_cut c d
  have p1 := low_cop (num := a) hb
  have p2 := low_cop (num := c) hd
  have q1 := low_pos (num := a) hb
  have q2 := low_pos (num := c) hd
  generalize a.tdiv (lowG a b) = x at *
  generalize b.tdiv (lowG a b) = y at *
  generalize c.tdiv (lowG c d) = z at *
  generalize d.tdiv (lowG c d) = t at *
  generalize lowG a b = g at *
  generalize lowG c d = k at *
  have e : x * t = z * y := by
    have e1 : (x * t) * (g * k) = (z * y) * (g * k) := by
      have : (x * g) * (t * k) = (z * k) * (y * g) := by rw [ha.1, ha.2, hc.1, hc.2]; exact h
      grind
    exact Int.eq_of_mul_eq_mul_right (show g * k ≠ 0 by have := Int.mul_pos hg hk; omega) e1
  have d1 : y ∣ t := dvd_of_cop p1 ⟨z, by rw [e, Int.mul_comm]⟩
  have d2 : t ∣ y := dvd_of_cop p2 ⟨x, by rw [← e, Int.mul_comm]⟩
  have hyt : y = t := Int.le_antisymm (Int.le_of_dvd (by omega) d1) (Int.le_of_dvd (by omega) d2)
  subst hyt
  exact ⟨Int.eq_of_mul_eq_mul_right (show y ≠ 0 by omega) e, rfl⟩
theorem lowV_eq {a b c d : Int} (hb : 0 < b) (hd : 0 < d) (h : a * d = c * b) : lowV a b = lowV c d := by
  have := low_eq hb hd h
  rw [lowV, lowV, this.1, this.2]

/-- Heights that are 0 at the smallest points and meet the same loads elsewhere are the same. -/
theorem sol_uniq {N : Nat} {rs : List Rd} (hv : Valid (N : Int) rs) {x y : Nat → Int} (hx : ∀ p, p < N → Root N rs p → x p = 0) (hy : ∀ p, p < N → Root N rs p → y p = 0)
    (h : ∀ p, p < N → ¬ Root N rs p → lapl rs x p = lapl rs y p) {p : Nat} (hp : p < N) : x p = y p := by
  have e : en rs (fun q => x q - y q) (fun q => x q - y q) = 0 := by
    rw [← parts_sum hv.ends.inN]
    refine sumN_zero fun q hq => ?_
    by_cases hR : Root N rs q
    · rw [hx q hq hR, hy q hq hR]; simp
    · rw [lapl_sub, h q hq hR]; simp
  have h1 := const_of hv (en_zero hv.wt e) hp
  have h2 := root_le hv hp
  have h3 := root_root hv hp
  have h4 : x (rootOf N rs p) = 0 := hx _ (by omega) h3
  have h5 : y (rootOf N rs p) = 0 := hy _ (by omega) h3
  simp only [h4, h5] at h1
  omega
def unitL (N j : Nat) : List Int := (List.replicate N 0).set j 1
theorem unitL_get {N j p : Nat} (hj : j < N) : (unitL N j).getD p 0 = if p = j then 1 else 0 := by
  have hz : ∀ q, (List.replicate N (0 : Int)).getD q 0 = 0 := fun q => by by_cases h : q < N <;> simp [List.getD, List.getElem?_replicate, h]
  rw [unitL, getD_set, hz]
  by_cases h : j = p
  · subst h; simp [hj]
  · simp [h, show ¬ p = j from fun e => h e.symm]
theorem unitL_bd (N j : Nat) : Bd (unitL N j) 48000 := fun q => by
  by_cases hj : j < N
  · rw [unitL_get hj]; split <;> omega
  · have e : unitL N j = List.replicate N 0 := by rw [unitL, List.set_eq_of_length_le (by simp; omega)]
    rw [e]
    have := zeros_bd N q
    omega
/-- The heights for one unit from the smallest point to j. -/
def gg (N : Nat) (rs : List Rd) (j : Nat) : Nat → Int := solV N rs (unitL N j)
theorem uu_gg {N : Nat} {rs : List Rd} (hv : Valid (N : Int) rs) {i j p : Nat} (hi : i < N) (hj : j < N) (hp : p < N) : uu N rs i j p = gg N rs j p - gg N rs i p := by
  have s1 := solved hv (loads := resL N (i : Int) (j : Int)) (fun q => by have := resL_bd N (i : Int) (j : Int) q; omega)
  have s2 := solved hv (unitL_bd N i)
  have s3 := solved hv (unitL_bd N j)
  refine sol_uniq hv (x := uu N rs i j) (y := fun p => gg N rs j p - gg N rs i p) (fun q hq hR => s1.root q hq hR) (fun q hq hR => ?_) (fun q hq hR => ?_) hp
  · show gg N rs j q - gg N rs i q = 0
    unfold gg
    rw [s2.root q hq hR, s3.root q hq hR]; rfl
  · rw [lapl_sub]
    unfold uu gg
    rw [s1.eq q hq hR, s2.eq q hq hR, s3.eq q hq hR, solD_eq hv, solD_eq hv, solD_eq hv, resL_get hi hj, unitL_get hi, unitL_get hj]
    grind
def nonroots (N : Nat) (rs : List Rd) : Int := sumN N fun p => if Root N rs p then 0 else 1
theorem foster {N : Nat} {rs : List Rd} (hv : Valid (N : Int) rs) : rsum rs (fun r => r.wt * RR N rs r.f r.t) = denO N rs * nonroots N rs := by
  have e1 : rsum rs (fun r => r.wt * RR N rs r.f r.t) = rsum rs (fun r => sumN N (fun j => term (gg N rs j) j r)) := rsum_congr fun r hr => by
    have hE := hv.ends r hr
    have e : ∀ j, term (gg N rs j) j r = (if j = r.t then r.wt * dlt (gg N rs r.t) r else 0) - (if j = r.f then r.wt * dlt (gg N rs r.f) r else 0) := fun j => by
      unfold term
      by_cases h1 : r.t = j
      · by_cases h2 : r.f = j
        · have h3 : r.f = r.t := h2.trans h1.symm
          simp [h1, h2]
        · simp [h1, h2, show ¬ j = r.f from fun e => h2 e.symm]
      · by_cases h2 : r.f = j
        · simp [h1, h2, show ¬ j = r.t from fun e => h1 e.symm]
        · simp [h1, h2, show ¬ j = r.t from fun e => h1 e.symm, show ¬ j = r.f from fun e => h2 e.symm]
    rw [sumN_congr (fun j _ => e j), sumN_sub, sumN_single, sumN_single, if_pos hE.2.2.2, if_pos hE.2.2.1]
    unfold RR dlt
    rw [uu_gg hv hE.2.2.1 hE.2.2.2 hE.2.2.2, uu_gg hv hE.2.2.1 hE.2.2.2 hE.2.2.1]
    grind
  rw [e1, ← sumN_rsum (fun j r => term (gg N rs j) j r)]
  unfold nonroots
  rw [← sumN_mul]
  refine sumN_congr fun j hj => ?_
  have s := solved hv (unitL_bd N j)
  show lapl rs (gg N rs j) j = _
  by_cases hR : Root N rs j
  · have h0 : ∀ p, p < N → gg N rs j p = 0 := fun p hp => sol_uniq hv (x := gg N rs j) (y := fun _ => 0) (fun q hq hR => s.root q hq hR) (fun _ _ _ => rfl) (fun q hq hRq => by
      unfold gg
      have hqj : ¬ q = j := by
        intro e
        subst e
        exact hRq hR
      rw [s.eq q hq hRq, unitL_get hj, if_neg hqj]
      unfold lapl
      rw [rsum_congr (h := fun _ => 0) (fun r _ => by unfold term dlt; simp), rsum_const]; simp) hp
    rw [if_pos hR, lapl_congr hv.ends.inN (y := fun _ => 0) h0]
    unfold lapl
    rw [rsum_congr (h := fun _ => 0) (fun r _ => by unfold term dlt; simp), rsum_const]; simp
  · rw [if_neg hR]
    unfold gg
    rw [s.eq j hj hR, unitL_get hj, if_pos rfl, solD_eq hv]
theorem rsum_sumN (g : Rd → Int) : ∀ rs : List Rd, rsum rs g = sumN rs.length (fun k => g (rs.getD k default))
  | [] => rfl
  | r :: rs => by
    have e : ∀ n (h : Nat → Int), sumN (n + 1) h = h 0 + sumN n (fun k => h (k + 1)) := by
      intro n
      induction n with
      | zero => intro h; simp [sumN]
      | succ n ih => intro h; rw [sumN, ih h, sumN]; omega
    rw [rsum, rsum_sumN g rs, List.length_cons, e]
    simp [List.getD]
/-- The sum of the first shares, times the common denominator. -/
def shS (N : Nat) (rs : List Rd) (k : Nat) : Int := sumN k fun j => (rs.getD j default).wt * RR N rs (rs.getD j default).f (rs.getD j default).t
theorem shS_all {N : Nat} {rs : List Rd} (hv : Valid (N : Int) rs) : shS N rs rs.length = denO N rs * nonroots N rs := by
  rw [← foster hv, rsum_sumN]; rfl
theorem shS_bn {N : Nat} {rs : List Rd} (hv : Valid (N : Int) rs) : ∀ k, k ≤ rs.length → Bn (shS N rs k) (3981312 * k)
  | 0, _ => by simp [shS, sumN, Bn]
  | k + 1, h => by
    have ih := shS_bn hv k (by omega)
    have h1 := hv.at (k := k) (by omega)
    have hE := hv.ends (rs.getD k default) (by simp [List.getD, show k < rs.length by omega])
    have := ih.add ((show Bn (rs.getD k default).wt 3 from ⟨by omega, by omega⟩).mul (RR_bn hv hE.2.2.1 hE.2.2.2))
    exact this.mono (by omega)
theorem roots_count (N : Nat) (rs : List Rd) : ∀ k, (((List.range k).filter fun p => (firstsL N rs).getD p 0 = (p : Int)).length : Int) + sumN k (fun p => if Root N rs p then 0 else 1) = k
  | 0 => rfl
  | k + 1 => by
    have ih := roots_count N rs k
    rw [List.range_succ, List.filter_append, List.length_append, sumN]
    by_cases h : Root N rs k
    · have h' : (firstsL (N : Int) rs).getD k 0 = (k : Int) := h.symm
      rw [if_pos h, List.filter_cons_of_pos (by exact decide_eq_true h')]
      simp only [List.filter_nil, List.length_cons, List.length_nil]
      omega
    · have h' : ¬ (firstsL (N : Int) rs).getD k 0 = (k : Int) := fun e => h e.symm
      rw [if_neg h, List.filter_cons_of_neg (by simpa using h')]
      simp only [List.filter_nil, List.length_nil]
      omega

end Go.Proofs.Ytmmgcajegokkoaa
