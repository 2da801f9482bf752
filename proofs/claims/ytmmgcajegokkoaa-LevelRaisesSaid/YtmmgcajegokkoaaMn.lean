/- The error of two points is a quotient of determinants. -/
import Derived.Test.YtmmgcajegokkoaaMl
namespace Go.Proofs.Ytmmgcajegokkoaa
open Go.Sx Go.RowKit

/-! The error of two points is a quotient of determinants. -/
def inOne (xs : List Int) (i : Int) (q : Nat) : Bool := decide (xs.getD q 0 = xs.getD i.toNat 0) && decide ((q : Int) ≠ i)
def inTwo (xs : List Int) (i j : Int) (q : Nat) : Bool := inOne xs i q && decide ((q : Int) ≠ j)
def oneK (xs : List Int) (i : Int) (k : Nat) : List Int := ((List.range k).filter (inOne xs i)).map Int.ofNat
def twoK (xs : List Int) (i j : Int) (k : Nat) : List Int := ((List.range k).filter (inTwo xs i j)).map Int.ofNat
theorem oneK_yes {xs : List Int} {i : Int} {k : Nat} (h : inOne xs i k = true) : oneK xs i (k + 1) = oneK xs i k ++ [(k : Int)] := by simp [oneK, List.range_succ, h]
theorem oneK_no {xs : List Int} {i : Int} {k : Nat} (h : inOne xs i k = false) : oneK xs i (k + 1) = oneK xs i k := by simp [oneK, List.range_succ, h]
theorem twoK_yes {xs : List Int} {i j : Int} {k : Nat} (h : inTwo xs i j k = true) : twoK xs i j (k + 1) = twoK xs i j k ++ [(k : Int)] := by simp [twoK, List.range_succ, h]
theorem twoK_no {xs : List Int} {i j : Int} {k : Nat} (h : inTwo xs i j k = false) : twoK xs i j (k + 1) = twoK xs i j k := by simp [twoK, List.range_succ, h]
theorem filt_len (f : Nat → Bool) (k : Nat) : (((List.range k).filter f).map Int.ofNat).length ≤ k := by
  have := List.length_filter_le f (List.range k)
  simpa using this
theorem filt_pts {f : Nat → Bool} {N : Nat} : Pts N (((List.range N).filter f).map Int.ofNat) := by
  have hnd : ((List.range N).filter f).Nodup := List.nodup_range.filter _
  have hget : ∀ k, k < (((List.range N).filter f).map Int.ofNat).length → ∃ q, q ∈ (List.range N).filter f ∧ (((List.range N).filter f).map Int.ofNat).getD k 0 = (q : Int) ∧ ((List.range N).filter f)[k]? = some q := fun k hk => by
    have hk' : k < ((List.range N).filter f).length := by simpa using hk
    refine ⟨((List.range N).filter f)[k], List.getElem_mem _, ?_, ?_⟩
    · simp [List.getD, hk']
    · simp [hk']
  refine ⟨fun k hk => ?_, fun j k hj hk e => ?_⟩
  · obtain ⟨q, hq, e, _⟩ := hget k hk
    rw [List.mem_filter, List.mem_range] at hq
    rw [e]; omega
  · obtain ⟨q1, _, e1, g1⟩ := hget j hj
    obtain ⟨q2, _, e2, g2⟩ := hget k hk
    rw [e1, e2] at e
    have : q1 = q2 := by omega
    subst this
    have hj' : j < ((List.range N).filter f).length := by simpa using hj
    exact (List.getElem?_inj hj' hnd).1 (g1.trans g2.symm)
theorem filt_out {f : Nat → Bool} {N z : Nat} (h : f z = false) : ∀ k, k < (((List.range N).filter f).map Int.ofNat).length → (((List.range N).filter f).map Int.ofNat).getD k 0 ≠ (z : Int) := fun k hk e => by
  have hk' : k < ((List.range N).filter f).length := by simpa using hk
  have hm := List.getElem_mem hk'
  rw [List.mem_filter] at hm
  have e2 : (((List.range N).filter f)[k] : Int) = (z : Int) := by simpa [List.getD, hk'] using e
  have e3 : ((List.range N).filter f)[k] = z := by omega
  rw [e3, h] at hm
  exact absurd hm.2 (by simp)
theorem range_split {N j : Nat} (h : j < N) : List.range N = List.range j ++ j :: (List.range (N - j - 1)).map (fun q => q + j + 1) := by
  apply List.ext_getElem
  · simp; omega
  · intro q h1 h2
    simp only [List.getElem_range]
    by_cases hq : q < j
    · rw [List.getElem_append_left (by simpa using hq)]; simp
    · rw [List.getElem_append_right (by simp; omega)]
      by_cases hqj : q = j
      · subst hqj; simp
      · obtain ⟨d, rfl⟩ : ∃ d, q = j + d + 1 := ⟨q - j - 1, by omega⟩
        have e : j + d + 1 - (List.range j).length = d + 1 := by simp; omega
        simp only [e, List.getElem_cons_succ, List.getElem_map, List.getElem_range]
        omega
/-- The second list is the first one without j. -/
theorem one_two {xs : List Int} {i : Int} {j N : Nat} (hj : j < N) (hin : inOne xs i j = true) : ∃ A B : List Int, oneK xs i N = A ++ (j : Int) :: B ∧ twoK xs i (j : Int) N = A ++ B := by
  refine ⟨((List.range j).filter (inOne xs i)).map Int.ofNat, (((List.range (N - j - 1)).map (fun q => q + j + 1)).filter (inOne xs i)).map Int.ofNat, ?_, ?_⟩
  · unfold oneK
    rw [range_split hj, List.filter_append, List.filter_cons_of_pos (by exact hin), List.map_append]
    rfl
  · unfold twoK
    rw [range_split hj, List.filter_append, List.filter_cons_of_neg (by simp [inTwo]), List.map_append]
    congr 2
    · refine List.filter_congr fun q hq => ?_
      have := List.mem_range.1 hq
      simp [inTwo]
      intro _; omega
    · refine List.filter_congr fun q hq => ?_
      obtain ⟨q', _, rfl⟩ := List.mem_map.1 hq
      simp [inTwo]
      intro _; omega
theorem skip_get (A B : List Int) (j : Int) (k : Nat) : (A ++ B).getD k 0 = (A ++ j :: B).getD (skipA A.length k) 0 := by
  unfold skipA
  by_cases h : k < A.length
  · rw [if_pos h, List.getD_eq_getElem?_getD, List.getD_eq_getElem?_getD, List.getElem?_append_left h, List.getElem?_append_left h]
  · rw [if_neg h, List.getD_eq_getElem?_getD, List.getD_eq_getElem?_getD, List.getElem?_append_right (by omega), List.getElem?_append_right (by omega)]
    rw [show k + 1 - A.length = (k - A.length) + 1 by omega, List.getElem?_cons_succ]
theorem skip_inj {a i k : Nat} : skipA a i = skipA a k ↔ i = k := by unfold skipA; split <;> split <;> omega
theorem lap_skip (rs : List Rd) (A B : List Int) (j : Int) (i k : Nat) : lapE rs (A ++ B) i k = lapE rs (A ++ j :: B) (skipA A.length i) (skipA A.length k) := by
  unfold lapE lapS
  refine sumN_congr fun n _ => ?_
  unfold lterm ltP ltM
  rw [skip_get A B j i, skip_get A B j k]
  by_cases h : i = k
  · have h2 := (skip_inj (a := A.length)).2 h
    simp [h, h2]
  · have h2 : ¬ skipA A.length i = skipA A.length k := fun e => h ((skip_inj (a := A.length)).1 e)
    simp [h, h2]
theorem root_firsts {N : Nat} {rs : List Rd} (hv : Valid (N : Int) rs) {p q : Nat} (hp : p < N) (hq : q < N) : rootOf N rs p = rootOf N rs q ↔ (firstsL N rs).getD p 0 = (firstsL N rs).getD q 0 := by
  have h1 := root_le hv hp
  have h2 := root_le hv hq
  omega
theorem res_eq {N : Nat} {rs : List Rd} (hv : Valid (N : Int) rs) {i j : Nat} (hi : i < N) (hj : j < N) (hne : i ≠ j) (hij : rootOf N rs i = rootOf N rs j) :
    let one := oneK (firstsL N rs) (i : Int) N
    let two := twoK (firstsL N rs) (i : Int) (j : Int) N
    detF two.length (lapE rs two) * denO N rs = RR N rs i j * detF one.length (lapE rs one) ∧ 0 < detF one.length (lapE rs one) ∧ one.length ≤ 4 ∧ two.length ≤ 4 := by
  intro one two
  have hpt := hv.pts
  have hin : inOne (firstsL N rs) (i : Int) j = true := by
    unfold inOne
    rw [Int.toNat_natCast, (root_firsts hv hj hi).1 hij.symm]
    simp; omega
  have hni : inOne (firstsL N rs) (i : Int) i = false := by simp [inOne]
  obtain ⟨A, B, h1, h2⟩ := one_two hj hin
  have hone : one = A ++ (j : Int) :: B := h1
  have htwo : two = A ++ B := h2
  have hP : Pts N one := filt_pts
  have hout : ∀ z, inOne (firstsL N rs) (i : Int) z = false → ∀ k, k < one.length → one.getD k 0 ≠ (z : Int) := fun z h => filt_out h
  have hother : ∀ z, z < N → rootOf N rs z ≠ rootOf N rs i → inOne (firstsL N rs) (i : Int) z = false := fun z hz h => by
    have : ¬ (firstsL N rs).getD z 0 = (firstsL N rs).getD i 0 := fun e => h ((root_firsts hv hz hi).2 e)
    unfold inOne
    rw [Int.toNat_natCast, decide_eq_false this]; rfl
  have hM : Miss N rs one := fun p hp => by
    by_cases hpi : rootOf N rs p = rootOf N rs i
    · exact ⟨i, hi, hpi.symm, hout i hni⟩
    · exact ⟨p, hp, rfl, hout p (hother p hp hpi)⟩
  have hlen : one.length ≤ 4 := by
    -- the point i is missing
    have hnd : ((List.range N).filter (inOne (firstsL N rs) (i : Int))).length < (List.range N).length :=
      List.length_filter_lt_length_iff_exists.2 ⟨i, List.mem_range.2 hi, by simp [hni]⟩
    have : one.length = ((List.range N).filter (inOne (firstsL N rs) (i : Int))).length := by simp [one, oneK]
    rw [List.length_range] at hnd
    omega
  have hlen1 : one.length = A.length + B.length + 1 := by rw [hone]; simp; omega
  have hlen2 : two.length = A.length + B.length := by rw [htwo]; simp
  have hd1 := det_pos hv one hlen hP hM
  have ha : A.length < one.length := by omega
  have hga : one.getD A.length 0 = (j : Int) := by rw [hone]; simp [List.getD]
  let y : Nat → Int := fun k => detF one.length (repF (lapE rs one) k (fun q => if q = A.length then 1 else 0))
  have hya : y A.length = detF two.length (lapE rs two) := by
    have e := det_unit (K := two.length) (by omega) (lapE rs one) (a := A.length) (by omega)
    simp only [y]
    rw [show one.length = two.length + 1 by omega, e]
    refine detF_congr _ fun a b _ _ => ?_
    rw [htwo, hone]
    exact (lap_skip rs A B (j : Int) a b).symm
  have hxj : ext one y j = y A.length := by
    have := ext_at hP y ha
    rwa [hga, Int.toNat_natCast] at this
  have hxi : ext one y i = 0 := ext_out y (hout i hni)
  have hrow : ∀ k, k < one.length → lapl rs (ext one y) (one.getD k 0).toNat = detF one.length (lapE rs one) * (if k = A.length then 1 else 0) := fun k hk => by
    rw [← lap_ext hv hP y hk]
    exact cramer hlen (lapE rs one) (fun q => if q = A.length then 1 else 0) hk
  have hzero : ∀ q, q < N → rootOf N rs q ≠ rootOf N rs i → ext one y q = 0 := fun q hq h => ext_out y (hout q (hother q hq h))
  have e1 : en rs (ext one y) (fun p => uu N rs i j p - uu N rs i j i) = RR N rs i j * detF one.length (lapE rs one) := by
    rw [← parts_sum hv.ends.inN, sumN_one hj]
    · have := hrow A.length ha
      rw [hga, Int.toNat_natCast, if_pos rfl, Int.mul_one] at this
      rw [this]; rfl
    · intro q hq hqj
      by_cases hqi : q = i
      · subst hqi; simp
      · by_cases hqr : rootOf N rs q = rootOf N rs i
        · have hinq : ∃ k, k < one.length ∧ one.getD k 0 = (q : Int) := by
            have hmem : (q : Int) ∈ one := by
              refine List.mem_map.2 ⟨q, List.mem_filter.2 ⟨List.mem_range.2 hq, ?_⟩, rfl⟩
              unfold inOne
              rw [Int.toNat_natCast, (root_firsts hv hq hi).1 hqr]
              simp; omega
            obtain ⟨k, hk, hkq⟩ := List.mem_iff_getElem.1 hmem
            exact ⟨k, hk, by simp [List.getD, hk, hkq]⟩
          obtain ⟨k, hk, hkq⟩ := hinq
          have hka : k ≠ A.length := fun e => by
            subst e
            rw [hga] at hkq
            omega
          have := hrow k hk
          rw [hkq, Int.toNat_natCast, if_neg hka] at this
          rw [this]; simp
        · have : lapl rs (ext one y) q = 0 := by
            unfold lapl
            rw [rsum_congr (h := fun _ => 0) (fun r hr => ?_), rsum_const]
            · simp
            · have hE := hv.ends r hr
              have hre := root_ends hv hr
              unfold term
              by_cases c1 : r.t = q
              · have hz1 := hzero r.t hE.2.2.2 (by rw [c1]; exact hqr)
                have hz2 := hzero r.f hE.2.2.1 (by rw [hre, c1]; exact hqr)
                unfold dlt
                rw [hz1, hz2]; simp
              · by_cases c2 : r.f = q
                · have hz1 := hzero r.t hE.2.2.2 (by rw [← hre, c2]; exact hqr)
                  have hz2 := hzero r.f hE.2.2.1 (by rw [c2]; exact hqr)
                  unfold dlt
                  rw [hz1, hz2]; simp
                · rw [if_neg c1, if_neg c2]; rfl
          rw [this]; simp
  have e2 : en rs (ext one y) (fun p => uu N rs i j p - uu N rs i j i) = en rs (uu N rs i j) (ext one y) := by
    rw [en_comm]
    exact rsum_congr fun r _ => by unfold dlt; grind
  rw [e2, en_uu hv hi hj hij, hxj, hxi, hya] at e1
  refine ⟨?_, hd1, hlen, by omega⟩
  rw [← e1]; grind

end Go.Proofs.Ytmmgcajegokkoaa
