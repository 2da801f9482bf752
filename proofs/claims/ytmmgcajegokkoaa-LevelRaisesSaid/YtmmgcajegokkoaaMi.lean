/- Which claims of best heights are accepted. -/
import Derived.Test.YtmmgcajegokkoaaMh
namespace Go.Proofs.Ytmmgcajegokkoaa
open Go.Sx Go.RowKit

/-! Sums at the points; which claims of best heights are accepted; common denominators. -/
theorem surStep_get {xs : List Int} {r : Rd} (h1 : r.t < xs.length) (h2 : r.f < xs.length) (a : Int) (p : Nat) : (surStep xs r a).getD p 0 = xs.getD p 0 + loadOf (fun _ => a) p r := by
  unfold surStep loadOf
  simp only [getD_set, List.length_set]
  unfold Rd.t at h1 ⊢
  unfold Rd.f at h2 ⊢
  by_cases e1 : r.to.toNat = p
  · by_cases e2 : r.fr.toNat = p
    · subst e1; simp [e2, h1]
    · subst e1; simp [e2, h1]
  · by_cases e2 : r.fr.toNat = p
    · subst e2; simp [e1, h2]; omega
    · simp [e1, e2]
theorem surF_get {xs : List Int} {rs : List Rd} (hE : ∀ r ∈ rs, r.t < xs.length ∧ r.f < xs.length) (am : List Int) (p : Nat) : ∀ k, k ≤ rs.length →
    (surF xs rs am k).getD p 0 = xs.getD p 0 + sumN k (fun j => loadOf (fun _ => am.getD j 0) p (rs.getD j default))
  | 0, _ => by simp [surF, sumN]
  | k + 1, h => by
    have ih := surF_get hE am p k (by omega)
    have hr := hE (rs.getD k default) (by simp [List.getD, show k < rs.length by omega])
    rw [surF, surStep_get (by rw [surF_len]; exact hr.1) (by rw [surF_len]; exact hr.2), ih, sumN]
    omega
theorem surL_get {N : Nat} {rs : List Rd} (hv : Valid (N : Int) rs) (am : List Int) (p : Nat) : (surL N rs am).getD p 0 = sumN rs.length (fun j => loadOf (fun _ => am.getD j 0) p (rs.getD j default)) := by
  have hz : (List.replicate N (0 : Int)).getD p 0 = 0 := by by_cases h : p < N <;> simp [List.getD, List.getElem?_replicate, h]
  rw [surL, surF_get (fun r hr => by have := hv.ends r hr; simp; exact ⟨this.2.2.2, this.2.2.1⟩) am p _ (Nat.le_refl _), hz]
  omega
def bestR (rs : List Rd) (p : Nat) : Int := rsum rs (loadOf Rd.rise p)
theorem bestL_get {N : Nat} {rs : List Rd} (hv : Valid (N : Int) rs) (p : Nat) : (bestL N rs).getD p 0 = bestR rs p := by
  rw [bestL, surL_get hv, bestR, rsum_sumN]
  refine sumN_congr fun j hj => ?_
  have : (risesL rs).getD j 0 = (rs.getD j default).rise := by simp [risesL, List.getD, hj]
  rw [this]; rfl
def numF (nums : List Int) (p : Nat) : Int := nums.getD p 0
theorem resid_get {N : Nat} {rs : List Rd} (hv : Valid (N : Int) rs) (den : Int) (nums : List Int) (p : Nat) : (surL N rs (residL rs den nums)).getD p 0 = den * bestR rs p - lapl rs (numF nums) p := by
  rw [surL_get hv, bestR, lapl, rsum_sumN, rsum_sumN, ← sumN_mul, ← sumN_sub]
  refine sumN_congr fun j hj => ?_
  have : (residL rs den nums).getD j 0 = resR rs den nums j := by simp [residL, List.getD, hj]
  rw [this]
  unfold loadOf term dlt numF resR
  grind
/-- What holds at all points but the smallest ones holds at these, too. -/
theorem root_eq {N : Nat} {rs : List Rd} (hv : Valid (N : Int) rs) {x : Nat → Int} {ρ : Rd → Int} {D : Int} (h : ∀ p, p < N → ¬ Root N rs p → lapl rs x p = D * rsum rs (loadOf ρ p)) {p : Nat} (hp : p < N) : lapl rs x p = D * rsum rs (loadOf ρ p) := by
  by_cases hR : Root N rs p
  · let y : Nat → Int := fun q => if rootOf N rs q = p then 1 else 0
    have hy : ∀ r ∈ rs, dlt y r = 0 := fun r hr => by
      have := root_ends hv hr
      simp only [dlt, y, this]; omega
    have e1 : sumN N (fun q => y q * lapl rs x q) = 0 := by
      rw [parts_sum hv.ends.inN]
      unfold en
      rw [rsum_congr (h := fun _ => 0) (fun r hr => by rw [hy r hr]; simp), rsum_const]; simp
    have e2 : sumN N (fun q => y q * rsum rs (loadOf ρ q)) = 0 := by
      rw [sumN_congr (h := fun q => rsum rs (fun r => y q * loadOf ρ q r)) (fun q _ => (rsum_mul _ _ _).symm), sumN_rsum (fun q r => y q * loadOf ρ q r)]
      rw [rsum_congr (h := fun _ => 0) (fun r hr => ?_), rsum_const]
      · simp
      · have hE := hv.ends r hr
        have hd := hy r hr
        have e : ∀ q, y q * loadOf ρ q r = (if q = r.t then y r.t * (r.wt * ρ r) else 0) - (if q = r.f then y r.f * (r.wt * ρ r) else 0) := fun q => by
          unfold loadOf
          by_cases h1 : r.t = q
          · by_cases h2 : r.f = q
            · simp [h1, h2]
            · simp [h1, h2, show ¬ q = r.f from fun e => h2 e.symm]
          · by_cases h2 : r.f = q
            · simp [h1, h2, show ¬ q = r.t from fun e => h1 e.symm, Int.mul_neg]
            · simp [h1, h2, show ¬ q = r.t from fun e => h1 e.symm, show ¬ q = r.f from fun e => h2 e.symm]
        rw [sumN_congr (fun q _ => e q), sumN_sub, sumN_single, sumN_single, if_pos hE.2.2.2, if_pos hE.2.2.1]
        unfold dlt at hd
        rw [show y r.t = y r.f by omega]; omega
    have e3 : sumN N (fun q => y q * (lapl rs x q - D * rsum rs (loadOf ρ q))) = 0 := by
      rw [sumN_congr (h := fun q => y q * lapl rs x q - D * (y q * rsum rs (loadOf ρ q))) (fun q _ => by grind), sumN_sub, sumN_mul, e1, e2]; simp
    have hrp : rootOf N rs p = p := by
      have h1 := root_le hv hp
      have h2 : (p : Int) = (firstsL N rs).getD p 0 := hR
      omega
    rw [sumN_one hp (fun q hq hne => by
      by_cases hq2 : Root N rs q
      · have h1 := root_le hv hq
        have h2 : (q : Int) = (firstsL N rs).getD q 0 := hq2
        have : y q = 0 := by simp only [y]; rw [if_neg (by omega)]
        rw [this]; simp
      · rw [h q hq hq2]; simp)] at e3
    have hyp : y p = 1 := by simp only [y]; rw [if_pos hrp]
    rw [hyp] at e3
    omega
  · exact h p hp hR

/-- The best heights, times the common denominator. -/
def bestV (N : Nat) (rs : List Rd) : Nat → Int := solV N rs (bestL N rs)
theorem bestL_48 {N : Nat} {rs : List Rd} (hv : Valid (N : Int) rs) : Bd (bestL N rs) 48000 := bestL_bd hv N
theorem best_root {N : Nat} {rs : List Rd} (hv : Valid (N : Int) rs) {p : Nat} (hp : p < N) (hR : Root N rs p) : bestV N rs p = 0 := (solved hv (bestL_48 hv)).root p hp hR
theorem best_eq {N : Nat} {rs : List Rd} (hv : Valid (N : Int) rs) {p : Nat} (hp : p < N) : lapl rs (bestV N rs) p = denO N rs * bestR rs p :=
  root_eq hv (fun q hq hR => by
    have := (solved hv (bestL_48 hv)).eq q hq hR
    rw [solD_eq hv, bestL_get hv] at this
    exact this) hp
theorem best_bn {N : Nat} {rs : List Rd} (hv : Valid (N : Int) rs) {p : Nat} (hp : p < N) : Bn (bestV N rs p) (4 * (1000 * denO N rs)) := by
  have hd := denO_pos hv
  refine all_bound hv (x := bestV N rs) (ρ := Rd.rise) (D := denO N rs) (B := 1000) (by omega) (by omega) (fun r hr => ?_) (fun q hq hR => best_root hv hq hR) (fun q hq _ => best_eq hv hq) hp
  have h := reading_spec (List.all_eq_true.1 hv.all r hr)
  exact h.2.2.2.1
theorem zeroB_iff {xs : List Int} : zeroB xs = true ↔ ∀ j, j < xs.length → xs.getD j 0 = 0 := by
  refine ⟨fun h j hj => ?_, zero_yes⟩
  have := List.all_eq_true.1 h (xs.getD j 0) (by simp [List.getD, hj])
  exact of_decide_eq_true this
/-- A claim that is the best heights over some denominator is accepted. -/
theorem check_yes {n : Int} {rs : List Rd} {den : Int} {nums : List Int} (hv : Valid n rs) (hd : 1 ≤ den ∧ den ≤ 1000000) (hl : (nums.length : Int) = n) (hw : withinL nums 1000000000 = true)
    (h : ∀ p, p < n.toNat → numF nums p * denO n.toNat rs = bestV n.toNat rs p * den) : checkE n rs den nums = 0 := by
  have hN := hv.nat.1
  have hD := denO_pos hN
  rw [checkE, if_neg (not_not_intro (show validateI n rs = 0 from hv)), if_neg (not_not_intro ⟨hd, hl, hw⟩), if_pos, if_pos]
  · rw [zeroB_iff]
    intro p hp
    rw [surL_len] at hp
    rw [resid_get hN]
    have e1 : lapl rs (fun q => denO n.toNat rs * numF nums q) p = lapl rs (fun q => den * bestV n.toNat rs q) p := lapl_congr hN.ends.inN (fun q hq => by have := h q hq; grind) p
    rw [lapl_mul, lapl_mul, best_eq hN hp] at e1
    have e2 : denO n.toNat rs * lapl rs (numF nums) p = denO n.toNat rs * (den * bestR rs p) := by rw [e1]; grind
    have := Int.eq_of_mul_eq_mul_left (show denO n.toNat rs ≠ 0 by omega) e2
    omega
  · intro p hp hR
    have := h p hp
    rw [best_root hN hp hR] at this
    have h0 : numF nums p * denO n.toNat rs = 0 := by rw [this]; simp
    rcases Int.mul_eq_zero.1 h0 with h1 | h1
    · exact h1
    · omega
/-- An accepted claim is the best heights. -/
theorem check_only {n : Int} {rs : List Rd} {den : Int} {nums : List Int} (h : checkE n rs den nums = 0) {p : Nat} (hp : p < n.toNat) : numF nums p * denO n.toNat rs = bestV n.toNat rs p * den := by
  obtain ⟨hv, hd, hl, hw, h0, hz⟩ := checkE_ok h
  have hN := hv.nat.1
  rw [zeroB_iff] at hz
  have := sol_uniq hN (x := fun q => denO n.toNat rs * numF nums q) (y := fun q => den * bestV n.toNat rs q) (fun q hq hR => by
    have : numF nums q = 0 := h0 q hq hR
    rw [this]; simp) (fun q hq hR => by rw [best_root hN hq hR]; simp) (fun q hq _ => by
    have h1 := hz q (by rw [surL_len]; exact hq)
    rw [resid_get hN] at h1
    rw [lapl_mul, lapl_mul, best_eq hN hq, show lapl rs (numF nums) q = den * bestR rs q by omega]; grind) hp
  grind
theorem check_not {n : Int} {rs : List Rd} {den : Int} {nums : List Int} (hv : Valid n rs) (hd : 1 ≤ den ∧ den ≤ 1000000) (hl : (nums.length : Int) = n) (hw : withinL nums 1000000000 = true) (h : checkE n rs den nums ≠ 0) : checkE n rs den nums = 7 := by
  rw [checkE, if_neg (not_not_intro (show validateI n rs = 0 from hv)), if_neg (not_not_intro ⟨hd, hl, hw⟩)] at h ⊢
  split
  · next h1 =>
    rw [if_pos h1] at h
    split
    · next h2 => rw [if_pos h2] at h; exact absurd rfl h
    · rfl
  · rfl

/-- A height in lowest terms. -/
def hN (N : Nat) (rs : List Rd) (i : Nat) : Int := (bestV N rs i).tdiv (lowG (bestV N rs i) (denO N rs))
def hD (N : Nat) (rs : List Rd) (i : Nat) : Int := (denO N rs).tdiv (lowG (bestV N rs i) (denO N rs))
structure HIs (N : Nat) (rs : List Rd) (i : Nat) (g : Int) : Prop where
  pos : 0 < g
  num : hN N rs i * g = bestV N rs i
  den : hD N rs i * g = denO N rs
  dpos : 1 ≤ hD N rs i
  dle : hD N rs i ≤ 26406
  nb : Bn (hN N rs i) 105624000
theorem hIs {N : Nat} {rs : List Rd} (hv : Valid (N : Int) rs) {i : Nat} (hi : i < N) : ∃ g, HIs N rs i g := by
  have hd := denO_pos hv
  have ht := denO_tight hv
  have hb := (best_bn hv hi).mono (B := 105624000) (by omega)
  have hc := low_cut (bestV N rs i) (denO N rs)
  exact ⟨lowG (bestV N rs i) (denO N rs), low_bound (by omega), hc.1, hc.2, low_pos (by omega),
    by have := tdiv_bound (g := lowG (bestV N rs i) (denO N rs)) (a := denO N rs) (B := 26406) (by omega) (by omega) (by omega); unfold hD; omega,
    tdiv_bound hb.1 hb.2 (by omega)⟩
structure LcmI (D t : Int) (k : Nat) (d : Nat → Int) : Prop where
  pos : 1 ≤ t
  dvd : t ∣ D
  all : ∀ j, j < k → d j ∣ t
theorem LcmI.le {D t : Int} {k : Nat} {d : Nat → Int} (h : LcmI D t k d) (hD : 1 ≤ D) : t ≤ D := Int.le_of_dvd (by omega) h.dvd
theorem LcmI.zero (D : Int) (d : Nat → Int) : LcmI D 1 0 d := ⟨by omega, Int.one_dvd _, fun j hj => by omega⟩
theorem LcmI.step {D t a : Int} {k : Nat} {d : Nat → Int} (h : LcmI D t k d) (hd : 1 ≤ d k) (hdD : d k ∣ D) (ha : a = Int.gcd t (d k)) : LcmI D (t.tdiv a * d k) (k + 1) d := by
  have ht := h.pos
  have hap : 0 < a := by
    rw [ha]
    have : 0 < Int.gcd t (d k) := Int.gcd_pos_of_ne_zero_right _ (by omega)
    omega
  obtain ⟨u, hu⟩ : a ∣ t := by rw [ha]; exact Int.gcd_dvd_left _ _
  obtain ⟨v, hv⟩ : a ∣ d k := by rw [ha]; exact Int.gcd_dvd_right _ _
  have hcop : Int.gcd u v = 1 := by
    have h1 : Int.gcd (a * u) (a * v) = Int.gcd t (d k) := by rw [← hu, ← hv]
    rw [Int.gcd_mul_left] at h1
    have e : a.natAbs = Int.gcd t (d k) := by rw [ha]; simp
    rw [e] at h1
    have hp : 0 < Int.gcd t (d k) := Int.gcd_pos_of_ne_zero_right _ (by omega)
    exact Nat.eq_of_mul_eq_mul_left hp (by omega)
  have hta : t.tdiv a = u := by rw [hu]; exact Int.mul_tdiv_cancel_left _ (by omega)
  rw [hta]
  have hup : 0 < u := by
    rcases Int.lt_or_le 0 u with h1 | h1
    · exact h1
    · have := Int.mul_nonpos_of_nonneg_of_nonpos (show 0 ≤ a by omega) h1
      omega
  refine ⟨by have := Int.mul_pos hup (show 0 < d k by omega); omega, ?_, fun j hj => ?_⟩
  · obtain ⟨s, hs⟩ := h.dvd
    obtain ⟨q, hq⟩ := hdD
    have e1 : a * (u * s) = a * (v * q) := by
      have : t * s = d k * q := by rw [← hs, ← hq]
      rw [hu, hv] at this
      grind
    have e2 := Int.eq_of_mul_eq_mul_left (show a ≠ 0 by omega) e1
    have h3 : v ∣ s := dvd_of_cop hcop ⟨q, e2⟩
    obtain ⟨s', hs'⟩ := h3
    exact ⟨s', by rw [hs, hs', hu, hv]; grind⟩
  · by_cases hjk : j = k
    · subst hjk; exact ⟨u, by rw [Int.mul_comm]⟩
    · obtain ⟨m, hm⟩ := h.all j (by omega)
      exact ⟨m * v, by rw [hv]; have : a * u = d j * m := by rw [← hu, hm]
                       grind⟩
/-- The claim's number of a point. -/
def tN (N : Nat) (rs : List Rd) (den : Int) (i : Nat) : Int := hN N rs i * den.tdiv (hD N rs i)
theorem tN_eq {N : Nat} {rs : List Rd} (hv : Valid (N : Int) rs) {den : Int} {i : Nat} (hi : i < N) (h : hD N rs i ∣ den) : tN N rs den i * denO N rs = bestV N rs i * den := by
  obtain ⟨g, hg⟩ := hIs hv hi
  obtain ⟨m, rfl⟩ := h
  have hdp := hg.dpos
  rw [tN, Int.mul_tdiv_cancel_left _ (by omega), ← hg.num, ← hg.den]
  grind
theorem tN_bn {N : Nat} {rs : List Rd} (hv : Valid (N : Int) rs) {den : Int} {i : Nat} (hi : i < N) (h : hD N rs i ∣ den) (h0 : 1 ≤ den) (h9 : den ≤ 9 * denO N rs) : Bn (tN N rs den i) 950616000 := by
  have e := tN_eq hv hi h
  have hd := denO_pos hv
  have ht := denO_tight hv
  have hb := best_bn hv hi
  have h1 := hb.mul (show Bn den (9 * denO N rs) from ⟨by omega, h9⟩)
  rw [← e] at h1
  unfold Bn at h1 ⊢
  have e1 : 4 * (1000 * denO N rs) * (9 * denO N rs) = (36000 * denO N rs) * denO N rs := by grind
  rw [e1] at h1
  have h2 : tN N rs den i ≤ 36000 * denO N rs := Int.le_of_mul_le_mul_right h1.2 (by omega)
  have h3 : -(36000 * denO N rs) ≤ tN N rs den i := by
    refine Int.le_of_mul_le_mul_right (a := denO N rs) ?_ (by omega)
    rw [Int.neg_mul]; exact h1.1
  omega

end Go.Proofs.Ytmmgcajegokkoaa
