/- Errors: no detour is shorter. -/
import Derived.Test.YtmmgcajegokkoaaMe
namespace Go.Proofs.Ytmmgcajegokkoaa
open Go.Sx Go.RowKit

/-- By how much the heights for one unit from i to j differ there. -/
def RR (N : Nat) (rs : List Rd) (i j : Nat) : Int := uu N rs i j j - uu N rs i j i
theorem RR_en {N : Nat} {rs : List Rd} (hv : Valid (N : Int) rs) {i j : Nat} (hi : i < N) (hj : j < N) (hij : rootOf N rs i = rootOf N rs j) : en rs (uu N rs i j) (uu N rs i j) = denO N rs * RR N rs i j := en_uu hv hi hj hij _
theorem RR_nonneg {N : Nat} {rs : List Rd} (hv : Valid (N : Int) rs) {i j : Nat} (hi : i < N) (hj : j < N) (hij : rootOf N rs i = rootOf N rs j) : 0 ≤ RR N rs i j := by
  have h1 := en_nonneg hv.wt (uu N rs i j)
  rw [RR_en hv hi hj hij] at h1
  have h2 := denO_pos hv
  rcases Int.lt_or_le (RR N rs i j) 0 with h | h
  · have := Int.mul_neg_of_pos_of_neg (show 0 < denO N rs by omega) h
    omega
  · exact h
theorem RR_bn {N : Nat} {rs : List Rd} (hv : Valid (N : Int) rs) {i j : Nat} (hi : i < N) (hj : j < N) : Bn (RR N rs i j) 1327104 :=
  ((solV_bn hv (B := 2) (by omega) (resL_bd N (i : Int) (j : Int)) hj).sub (solV_bn hv (B := 2) (by omega) (resL_bd N (i : Int) (j : Int)) hi)).mono (by omega)
/-- No height is above that of the point where the unit goes out. -/
theorem uu_top {N : Nat} {rs : List Rd} (hv : Valid (N : Int) rs) {i k j : Nat} (hi : i < N) (hk : k < N) (hj : j < N) (hik : rootOf N rs i = rootOf N rs k) (hjk : rootOf N rs j = rootOf N rs k) : uu N rs i k j ≤ uu N rs i k k := by
  let v := uu N rs i k
  let t : Nat → Int := fun p => max (v p - v k) 0
  have e := en_uu hv hi hk hik t
  have h1 : en rs t t ≤ en rs v t := rsum_le fun r hr => by
    have hw := hv.wt r hr
    refine Int.mul_le_mul_of_nonneg_left ?_ (by omega)
    show (max (v r.t - v k) 0 - max (v r.f - v k) 0) * (max (v r.t - v k) 0 - max (v r.f - v k) 0) ≤ (v r.t - v r.f) * (max (v r.t - v k) 0 - max (v r.f - v k) 0)
    generalize v r.t = a
    generalize v r.f = b
    generalize v k = c
    rcases Int.le_total a c with h2 | h2 <;> rcases Int.le_total b c with h3 | h3
    · rw [show max (a - c) 0 = 0 by omega, show max (b - c) 0 = 0 by omega]; simp
    · rw [show max (a - c) 0 = 0 by omega, show max (b - c) 0 = b - c by omega]
      have : (c - b) * (c - b) ≤ (b - a) * (b - c) := by
        have h4 : (b - c) * (b - c) ≤ (b - a) * (b - c) := Int.mul_le_mul_of_nonneg_right (by omega) (by omega)
        have : (c - b) * (c - b) = (b - c) * (b - c) := by grind
        omega
      have e1 : (0 - (b - c)) * (0 - (b - c)) = (c - b) * (c - b) := by grind
      have e2 : (a - b) * (0 - (b - c)) = (b - a) * (b - c) := by grind
      omega
    · rw [show max (a - c) 0 = a - c by omega, show max (b - c) 0 = 0 by omega]
      have h4 : (a - c) * (a - c) ≤ (a - b) * (a - c) := Int.mul_le_mul_of_nonneg_right (by omega) (by omega)
      simpa using h4
    · rw [show max (a - c) 0 = a - c by omega, show max (b - c) 0 = b - c by omega]
      have e1 : (a - c - (b - c)) = a - b := by omega
      rw [e1]
      exact Int.le_refl _
  have h0 : t k = 0 := by simp [t]
  have hti : 0 ≤ t i := by simp only [t]; omega
  have hd := denO_pos hv
  have h2 : denO N rs * (t k - t i) ≤ 0 := Int.mul_nonpos_of_nonneg_of_nonpos (by omega) (by omega)
  have h3 := en_nonneg hv.wt t
  have e : en rs v t = denO N rs * (t k - t i) := e
  have h4 := en_zero hv.wt (x := t) (by omega)
  have h5 := const_of hv h4 hj
  have h6 := const_of hv h4 hk
  rw [hjk, ← h6, h0] at h5
  have h7 : max (v j - v k) 0 = 0 := h5
  show v j ≤ v k
  omega
theorem uu_low {N : Nat} {rs : List Rd} (hv : Valid (N : Int) rs) {k j i : Nat} (hk : k < N) (hj : j < N) (hi : i < N) (hkj : rootOf N rs k = rootOf N rs j) (hik : rootOf N rs i = rootOf N rs k) : uu N rs k j k ≤ uu N rs k j i := by
  let v := uu N rs k j
  let t : Nat → Int := fun p => max (v k - v p) 0
  have e := en_uu hv hk hj hkj t
  have h1 : en rs t t ≤ - en rs v t := by
    have e0 : - en rs v t = rsum rs (fun r => r.wt * (-(dlt v r) * dlt t r)) := by
      unfold en
      rw [← Int.neg_one_mul, ← rsum_mul]
      exact rsum_congr fun r _ => by grind
    rw [e0]
    refine rsum_le fun r hr => ?_
    have hw := hv.wt r hr
    refine Int.mul_le_mul_of_nonneg_left ?_ (by omega)
    show (max (v k - v r.t) 0 - max (v k - v r.f) 0) * (max (v k - v r.t) 0 - max (v k - v r.f) 0) ≤ -(v r.t - v r.f) * (max (v k - v r.t) 0 - max (v k - v r.f) 0)
    generalize v r.t = a
    generalize v r.f = b
    generalize v k = c
    rcases Int.le_total a c with h2 | h2 <;> rcases Int.le_total b c with h3 | h3
    · rw [show max (c - a) 0 = c - a by omega, show max (c - b) 0 = c - b by omega]
      have e1 : c - a - (c - b) = -(a - b) := by omega
      rw [e1]
      exact Int.le_refl _
    · rw [show max (c - a) 0 = c - a by omega, show max (c - b) 0 = 0 by omega]
      have h4 : (c - a) * (c - a) ≤ (b - a) * (c - a) := Int.mul_le_mul_of_nonneg_right (by omega) (by omega)
      have e1 : -(a - b) = b - a := by omega
      rw [e1, Int.sub_zero]
      exact h4
    · rw [show max (c - a) 0 = 0 by omega, show max (c - b) 0 = c - b by omega]
      have h4 : (c - b) * (c - b) ≤ (a - b) * (c - b) := Int.mul_le_mul_of_nonneg_right (by omega) (by omega)
      have e1 : (0 - (c - b)) * (0 - (c - b)) = (c - b) * (c - b) := by grind
      have e2 : -(a - b) * (0 - (c - b)) = (a - b) * (c - b) := by grind
      omega
    · rw [show max (c - a) 0 = 0 by omega, show max (c - b) 0 = 0 by omega]; simp
  have h0 : t k = 0 := by simp [t]
  have htj : 0 ≤ t j := by simp only [t]; omega
  have hd := denO_pos hv
  have h2 : 0 ≤ denO N rs * (t j - t k) := Int.mul_nonneg (by omega) (by omega)
  have h3 := en_nonneg hv.wt t
  have e : en rs v t = denO N rs * (t j - t k) := e
  have h4 := en_zero hv.wt (x := t) (by omega)
  have h5 := const_of hv h4 hi
  have h6 := const_of hv h4 hk
  rw [hik, ← h6, h0] at h5
  have h7 : max (v k - v i) 0 = 0 := h5
  show v k ≤ v i
  omega
/-- The error over a third point is no smaller. -/
theorem RR_tri {N : Nat} {rs : List Rd} (hv : Valid (N : Int) rs) {i j k : Nat} (hi : i < N) (hj : j < N) (hk : k < N) (hij : rootOf N rs i = rootOf N rs j) (hik : rootOf N rs i = rootOf N rs k) :
    RR N rs i j ≤ RR N rs i k + RR N rs k j := by
  have hkj : rootOf N rs k = rootOf N rs j := hik.symm.trans hij
  have e1 := en_uu hv hi hj hij (uu N rs i k)
  have e2 := en_uu hv hi hk hik (uu N rs i j)
  have e3 := en_uu hv hi hj hij (uu N rs k j)
  have e4 := en_uu hv hk hj hkj (uu N rs i j)
  rw [en_comm] at e2 e4
  have hd := denO_pos hv
  have h1 := uu_top hv hi hk hj hik hkj.symm
  have h2 := uu_low hv hk hj hi hkj hik
  have e5 : denO N rs * (uu N rs i j j - uu N rs i j i) = denO N rs * (uu N rs i k j - uu N rs i k i + (uu N rs k j j - uu N rs k j i)) := by
    have : denO N rs * (uu N rs i j j - uu N rs i j i) = denO N rs * (uu N rs i j k - uu N rs i j i) + denO N rs * (uu N rs i j j - uu N rs i j k) := by grind
    rw [this, ← e2, ← e4, e1, e3]; grind
  have e6 := Int.eq_of_mul_eq_mul_left (show denO N rs ≠ 0 by omega) e5
  unfold RR
  omega

/-- The three results of asking for an error. -/
def errE (n : Int) (rs : List Rd) (i j : Int) : Int :=
  if validateI n rs ≠ 0 then validateI n rs else if ¬ ((0 ≤ i ∧ i < n) ∧ (0 ≤ j ∧ j < n)) then 4 else if (firstsL n rs).getD i.toNat 0 ≠ (firstsL n rs).getD j.toNat 0 then 9 else 0
def errN (n : Int) (rs : List Rd) (i j : Int) : Int := if errE n rs i j = 0 then (RR n.toNat rs i.toNat j.toNat).tdiv (lowG (RR n.toNat rs i.toNat j.toNat) (denO n.toNat rs)) else 0
def errD (n : Int) (rs : List Rd) (i j : Int) : Int := if errE n rs i j = 0 then (denO n.toNat rs).tdiv (lowG (RR n.toNat rs i.toNat j.toNat) (denO n.toNat rs)) else 0
structure ErrOk (n : Int) (rs : List Rd) (i j : Int) : Prop where
  valid : Valid (n.toNat : Int) rs
  pos : 1 ≤ n
  i0 : 0 ≤ i
  iN : i.toNat < n.toNat
  j0 : 0 ≤ j
  jN : j.toNat < n.toNat
  same : rootOf n.toNat rs i.toNat = rootOf n.toNat rs j.toNat
theorem errE_ok {n : Int} {rs : List Rd} {i j : Int} (h : errE n rs i j = 0) : ErrOk n rs i j := by
  unfold errE at h
  split at h
  · omega
  · next h1 =>
    have hv : Valid n rs := Decidable.of_not_not (p := validateI n rs = 0) h1
    have hp := hv.pts
    have hn : ((n.toNat : Nat) : Int) = n := by omega
    split at h
    · omega
    · next h2 =>
      have h2 := Decidable.of_not_not h2
      split at h
      · omega
      · next h3 =>
        have h3 := Decidable.of_not_not h3
        refine ⟨by rw [hn]; exact hv, hp.1, h2.1.1, by omega, h2.2.1, by omega, ?_⟩
        unfold rootOf
        rw [hn, h3]
theorem errV_eq (n : Int) (rs : List Rd) (i j : Int) : errorV n rs i j = .tuple #[.agg #[.int .i64 (errN n rs i j), .int .i64 (errD n rs i j)], .int .i64 (errE n rs i j)] := by
  by_cases he : errE n rs i j = 0
  · have ho := errE_ok he
    have hn : ((n.toNat : Nat) : Int) = n := by have := ho.pos; omega
    have hv : validateI n rs = 0 := by have := ho.valid; rw [hn] at this; exact this
    have h2 : (0 ≤ i ∧ i < n) ∧ (0 ≤ j ∧ j < n) := by have := ho.iN; have := ho.jN; have := ho.i0; have := ho.j0; omega
    have h3 : (firstsL n rs).getD i.toNat 0 = (firstsL n rs).getD j.toNat 0 := by
      have h4 := root_le ho.valid ho.iN
      have h5 := root_le ho.valid ho.jN
      rw [hn] at h4 h5
      rw [← h4.2, ← h5.2, ho.same]
    rw [errN, if_pos he, errD, if_pos he, he, errorV, if_neg (not_not_intro hv), if_neg (not_not_intro h2), if_neg (not_not_intro h3), resV, lowV, solD_eq ho.valid, solZ_get _ _ _ ho.iN, solZ_get _ _ _ ho.jN]
    have hi : ((i.toNat : Nat) : Int) = i := by have := ho.i0; omega
    have hj : ((j.toNat : Nat) : Int) = j := by have := ho.j0; omega
    unfold RR uu
    rw [hi, hj]
  · rw [errN, if_neg he, errD, if_neg he]
    unfold errE at he ⊢
    unfold errorV
    split
    · next h => rfl
    · next h =>
      rw [if_neg h] at he
      split
      · rfl
      · next h2 =>
        rw [if_neg h2] at he
        split
        · rfl
        · next h3 => rw [if_neg h3] at he; exact absurd rfl he
theorem tdiv_cut {a g : Int} (h : g ∣ a) : a.tdiv g * g = a := Int.tdiv_mul_cancel h
theorem low_cut (num den : Int) : num.tdiv (lowG num den) * lowG num den = num ∧ den.tdiv (lowG num den) * lowG num den = den :=
  ⟨tdiv_cut (Int.gcd_dvd_left num den), tdiv_cut (Int.gcd_dvd_right num den)⟩
/-- What an error's numbers keep. -/
structure ErrIs (n : Int) (rs : List Rd) (i j g : Int) : Prop where
  pos : 0 < g
  num : errN n rs i j * g = RR n.toNat rs i.toNat j.toNat
  den : errD n rs i j * g = denO n.toNat rs
  dpos : 1 ≤ errD n rs i j
  dle : errD n rs i j ≤ 331776
  nb : Bn (errN n rs i j) 1327104
  nn : 0 ≤ errN n rs i j
theorem errIs {n : Int} {rs : List Rd} {i j : Int} (h : errE n rs i j = 0) : ∃ g, ErrIs n rs i j g := by
  have ho := errE_ok h
  have hd := denO_pos ho.valid
  have hg := low_bound (num := RR n.toNat rs i.toNat j.toNat) (den := denO n.toNat rs) (by omega)
  have hc := low_cut (RR n.toNat rs i.toNat j.toNat) (denO n.toNat rs)
  have hb := RR_bn ho.valid ho.iN ho.jN
  have hn := RR_nonneg ho.valid ho.iN ho.jN ho.same
  refine ⟨lowG (RR n.toNat rs i.toNat j.toNat) (denO n.toNat rs), hg, by rw [errN, if_pos h]; exact hc.1, by rw [errD, if_pos h]; exact hc.2, ?_, ?_, ?_, ?_⟩
  · rw [errD, if_pos h]
    rcases Int.lt_or_le 0 ((denO n.toNat rs).tdiv (lowG (RR n.toNat rs i.toNat j.toNat) (denO n.toNat rs))) with h1 | h1
    · omega
    · have := Int.mul_nonpos_of_nonpos_of_nonneg h1 (show 0 ≤ lowG (RR n.toNat rs i.toNat j.toNat) (denO n.toNat rs) by omega)
      omega
  · rw [errD, if_pos h]
    have := tdiv_bound (g := lowG (RR n.toNat rs i.toNat j.toNat) (denO n.toNat rs)) (a := denO n.toNat rs) (B := 331776) (by omega) (by omega) (by omega)
    omega
  · rw [errN, if_pos h]
    exact tdiv_bound hb.1 hb.2 (by omega)
  · rw [errN, if_pos h]
    exact Int.tdiv_nonneg hn (by omega)
/-- The law's inequality. -/
theorem err_tri {n : Int} {rs : List Rd} {i j k : Int} (h1 : errE n rs i j = 0) (h2 : errE n rs i k = 0) (h3 : errE n rs k j = 0) :
    errN n rs i j * errD n rs i k * errD n rs k j ≤ (errN n rs i k * errD n rs k j + errN n rs k j * errD n rs i k) * errD n rs i j := by
  have o1 := errE_ok h1
  have o2 := errE_ok h2
  obtain ⟨ga, a⟩ := errIs h1
  obtain ⟨gb, b⟩ := errIs h2
  obtain ⟨gc, c⟩ := errIs h3
  have ht := RR_tri o1.valid o1.iN o1.jN o2.jN o1.same o2.same
  have hD := denO_pos o1.valid
  rw [← a.num, ← b.num, ← c.num] at ht
  have key : (errN n rs i j * errD n rs i k * errD n rs k j) * (ga * gb * gc) ≤ ((errN n rs i k * errD n rs k j + errN n rs k j * errD n rs i k) * errD n rs i j) * (ga * gb * gc) := by
    have e1 : (errN n rs i j * errD n rs i k * errD n rs k j) * (ga * gb * gc) = (errN n rs i j * ga) * ((errD n rs i k * gb) * (errD n rs k j * gc)) := by grind
    have e2 : ((errN n rs i k * errD n rs k j + errN n rs k j * errD n rs i k) * errD n rs i j) * (ga * gb * gc) = (errN n rs i k * gb) * ((errD n rs k j * gc) * (errD n rs i j * ga)) + (errN n rs k j * gc) * ((errD n rs i k * gb) * (errD n rs i j * ga)) := by grind
    rw [e1, e2, a.den, b.den, c.den]
    have h4 : 0 ≤ denO n.toNat rs * denO n.toNat rs := Int.mul_nonneg (by omega) (by omega)
    have h5 := Int.mul_le_mul_of_nonneg_right ht h4
    rw [Int.add_mul] at h5
    exact h5
  have hpos : 0 < ga * gb * gc := Int.mul_pos (Int.mul_pos a.pos b.pos) c.pos
  exact Int.le_of_mul_le_mul_right key hpos

end Go.Proofs.Ytmmgcajegokkoaa
