/- Sums over readings, and the rows of the equations of a survey. -/
import Derived.Test.YtmmgcajegokkoaaJ1
namespace Go.Proofs.Ytmmgcajegokkoaa
open Go.Sx Go.RowKit

/-! Sums over points and over readings. -/
def sumN : Nat → (Nat → Int) → Int
  | 0, _ => 0
  | n + 1, g => sumN n g + g n
theorem sumN_congr {g h : Nat → Int} : ∀ {n : Nat}, (∀ p, p < n → g p = h p) → sumN n g = sumN n h
  | 0, _ => rfl
  | n + 1, e => by rw [sumN, sumN, sumN_congr (fun p hp => e p (by omega)), e n (by omega)]
theorem sumN_zero {g : Nat → Int} {n : Nat} (h : ∀ p, p < n → g p = 0) : sumN n g = 0 := by
  induction n with
  | zero => rfl
  | succ n ih => rw [sumN, ih (fun p hp => h p (by omega)), h n (by omega)]; rfl
theorem sumN_add (g h : Nat → Int) : ∀ n, sumN n (fun p => g p + h p) = sumN n g + sumN n h
  | 0 => rfl
  | n + 1 => by simp only [sumN, sumN_add g h n]; omega
theorem sumN_sub (g h : Nat → Int) : ∀ n, sumN n (fun p => g p - h p) = sumN n g - sumN n h
  | 0 => rfl
  | n + 1 => by simp only [sumN, sumN_sub g h n]; omega
theorem sumN_mul (c : Int) (g : Nat → Int) : ∀ n, sumN n (fun p => c * g p) = c * sumN n g
  | 0 => by simp [sumN]
  | n + 1 => by simp only [sumN, sumN_mul c g n]; rw [Int.mul_add]
theorem sumN_single {p : Nat} (c : Int) : ∀ {n : Nat}, sumN n (fun q => if q = p then c else 0) = if p < n then c else 0
  | 0 => by simp [sumN]
  | n + 1 => by
    simp only [sumN]
    rw [sumN_single]
    by_cases h : n = p
    · subst h; simp
    · by_cases h2 : p < n
      · simp [h, h2, show p < n + 1 by omega]
      · simp [h, h2, show ¬ p < n + 1 by omega]
theorem sumN_one {g : Nat → Int} {p n : Nat} (hp : p < n) (h : ∀ q, q < n → q ≠ p → g q = 0) : sumN n g = g p := by
  rw [sumN_congr (h := fun q => if q = p then g p else 0) (fun q hq => by by_cases e : q = p; (subst e; simp); (simp [e, h q hq e])), sumN_single, if_pos hp]
def rsum : List Rd → (Rd → Int) → Int
  | [], _ => 0
  | r :: rs, g => g r + rsum rs g
theorem rsum_congr {g h : Rd → Int} : ∀ {rs : List Rd}, (∀ r ∈ rs, g r = h r) → rsum rs g = rsum rs h
  | [], _ => rfl
  | r :: rs, e => by rw [rsum, rsum, e r (by simp), rsum_congr (fun q hq => e q (by simp [hq]))]
theorem rsum_add (g h : Rd → Int) : ∀ rs, rsum rs (fun r => g r + h r) = rsum rs g + rsum rs h
  | [] => rfl
  | r :: rs => by simp only [rsum, rsum_add g h rs]; omega
theorem rsum_sub (g h : Rd → Int) : ∀ rs, rsum rs (fun r => g r - h r) = rsum rs g - rsum rs h
  | [] => rfl
  | r :: rs => by simp only [rsum, rsum_sub g h rs]; omega
theorem rsum_mul (c : Int) (g : Rd → Int) : ∀ rs, rsum rs (fun r => c * g r) = c * rsum rs g
  | [] => by simp [rsum]
  | r :: rs => by simp only [rsum, rsum_mul c g rs]; rw [Int.mul_add]
theorem rsum_nonneg {g : Rd → Int} : ∀ {rs : List Rd}, (∀ r ∈ rs, 0 ≤ g r) → 0 ≤ rsum rs g
  | [], _ => Int.le_refl _
  | r :: rs, h => by
    have h1 := h r (by simp)
    have h2 := rsum_nonneg (fun q hq => h q (List.mem_cons_of_mem _ hq) : ∀ q ∈ rs, 0 ≤ g q)
    simp only [rsum]; omega
theorem rsum_le {g h : Rd → Int} : ∀ {rs : List Rd}, (∀ r ∈ rs, g r ≤ h r) → rsum rs g ≤ rsum rs h
  | [], _ => Int.le_refl _
  | r :: rs, e => by
    have h1 := e r (by simp)
    have h2 := rsum_le (fun q hq => e q (List.mem_cons_of_mem _ hq) : ∀ q ∈ rs, g q ≤ h q)
    simp only [rsum]; omega
theorem rsum_null {g : Rd → Int} : ∀ {rs : List Rd}, (∀ r ∈ rs, 0 ≤ g r) → rsum rs g = 0 → ∀ r ∈ rs, g r = 0
  | [], _, _, r, hr => by simp at hr
  | q :: rs, h, e, r, hr => by
    have h1 := h q (by simp)
    have h2 := rsum_nonneg (fun q hq => h q (List.mem_cons_of_mem _ hq) : ∀ q ∈ rs, 0 ≤ g q)
    simp only [rsum] at e
    rcases List.mem_cons.1 hr with rfl | hr
    · omega
    · exact rsum_null (fun q hq => h q (List.mem_cons_of_mem _ hq)) (by omega) r hr
theorem sumN_rsum (g : Nat → Rd → Int) (n : Nat) : ∀ rs : List Rd, sumN n (fun p => rsum rs (g p)) = rsum rs (fun r => sumN n (fun p => g p r))
  | [] => by simp only [rsum]; exact sumN_zero (fun _ _ => rfl)
  | r :: rs => by simp only [rsum]; rw [sumN_add, sumN_rsum g n rs]

abbrev Rd.f (r : Rd) : Nat := r.fr.toNat
abbrev Rd.t (r : Rd) : Nat := r.to.toNat
/-- By how much a reading's ends differ. -/
def dlt (x : Nat → Int) (r : Rd) : Int := x r.t - x r.f
def term (x : Nat → Int) (p : Nat) (r : Rd) : Int := (if r.t = p then r.wt * dlt x r else 0) - (if r.f = p then r.wt * dlt x r else 0)
/-- What comes in at a point. -/
def lapl (rs : List Rd) (x : Nat → Int) (p : Nat) : Int := rsum rs (term x p)
def en (rs : List Rd) (x y : Nat → Int) : Int := rsum rs (fun r => r.wt * (dlt x r * dlt y r))
def InN (N : Nat) (rs : List Rd) : Prop := ∀ r ∈ rs, r.f < N ∧ r.t < N
theorem term_sum {N : Nat} {r : Rd} (h : r.f < N ∧ r.t < N) (x y : Nat → Int) : sumN N (fun p => y p * term x p r) = r.wt * (dlt x r * dlt y r) := by
  have e : ∀ p, p < N → y p * term x p r = (if p = r.t then y r.t * (r.wt * dlt x r) else 0) - (if p = r.f then y r.f * (r.wt * dlt x r) else 0) := by
    intro p _
    unfold term
    by_cases h1 : r.t = p
    · by_cases h2 : r.f = p
      · simp [h1, h2]
      · simp [h1, h2, show ¬ p = r.f from fun e => h2 e.symm]
    · by_cases h2 : r.f = p
      · simp [h1, h2, show ¬ p = r.t from fun e => h1 e.symm, Int.mul_neg]
      · simp [h1, h2, show ¬ p = r.t from fun e => h1 e.symm, show ¬ p = r.f from fun e => h2 e.symm]
  rw [sumN_congr e, sumN_sub, sumN_single, sumN_single, if_pos h.2, if_pos h.1]
  unfold dlt
  grind
theorem parts_sum {N : Nat} {rs : List Rd} (h : InN N rs) (x y : Nat → Int) : sumN N (fun p => y p * lapl rs x p) = en rs x y := by
  unfold lapl en
  rw [sumN_congr (h := fun p => rsum rs (fun r => y p * term x p r)) (fun p _ => (rsum_mul _ _ _).symm), sumN_rsum (fun p r => y p * term x p r)]
  exact rsum_congr fun r hr => term_sum (h r hr) x y
theorem en_comm (rs : List Rd) (x y : Nat → Int) : en rs x y = en rs y x := rsum_congr fun r _ => by rw [Int.mul_comm (dlt x r)]
theorem en_sub (rs : List Rd) (x y z : Nat → Int) : en rs (fun p => x p - y p) z = en rs x z - en rs y z := by
  unfold en
  rw [← rsum_sub]
  exact rsum_congr fun r _ => by unfold dlt; grind
theorem lapl_congr {N : Nat} {rs : List Rd} (h : InN N rs) {x y : Nat → Int} (e : ∀ p, p < N → x p = y p) (p : Nat) : lapl rs x p = lapl rs y p := by
  unfold lapl
  exact rsum_congr fun r hr => by unfold term dlt; rw [e _ (h r hr).1, e _ (h r hr).2]
theorem term_add (x y : Nat → Int) (p : Nat) (r : Rd) : term (fun q => x q + y q) p r = term x p r + term y p r := by unfold term dlt; grind
theorem term_sub (x y : Nat → Int) (p : Nat) (r : Rd) : term (fun q => x q - y q) p r = term x p r - term y p r := by unfold term dlt; grind
theorem term_mul (c : Int) (x : Nat → Int) (p : Nat) (r : Rd) : term (fun q => c * x q) p r = c * term x p r := by unfold term dlt; grind
theorem lapl_add (rs : List Rd) (x y : Nat → Int) (p : Nat) : lapl rs (fun q => x q + y q) p = lapl rs x p + lapl rs y p := by
  unfold lapl; rw [← rsum_add]; exact rsum_congr fun r _ => term_add x y p r
theorem lapl_sub (rs : List Rd) (x y : Nat → Int) (p : Nat) : lapl rs (fun q => x q - y q) p = lapl rs x p - lapl rs y p := by
  unfold lapl; rw [← rsum_sub]; exact rsum_congr fun r _ => term_sub x y p r
theorem lapl_mul (rs : List Rd) (c : Int) (x : Nat → Int) (p : Nat) : lapl rs (fun q => c * x q) p = c * lapl rs x p := by
  unfold lapl; rw [← rsum_mul]; exact rsum_congr fun r _ => term_mul c x p r
theorem sq_nonneg (a : Int) : 0 ≤ a * a := by
  rcases Int.le_total 0 a with h | h
  · exact Int.mul_nonneg h h
  · exact Int.mul_nonneg_of_nonpos_of_nonpos h h
def WtPos (rs : List Rd) : Prop := ∀ r ∈ rs, 1 ≤ r.wt ∧ r.wt ≤ 3
theorem en_nonneg {rs : List Rd} (h : WtPos rs) (x : Nat → Int) : 0 ≤ en rs x x :=
  rsum_nonneg fun r hr => Int.mul_nonneg (by have := h r hr; omega) (sq_nonneg _)
theorem en_zero {rs : List Rd} (h : WtPos rs) {x : Nat → Int} (e : en rs x x = 0) : ∀ r ∈ rs, x r.f = x r.t := by
  intro r hr
  have h1 := rsum_null (fun r hr => Int.mul_nonneg (by have := h r hr; omega) (sq_nonneg _)) e r hr
  have h2 := h r hr
  rcases Int.mul_eq_zero.1 h1 with h3 | h3
  · omega
  · rcases Int.mul_eq_zero.1 h3 with h4 | h4 <;> (unfold dlt at h4; omega)
/-! The rows of the equations. -/
theorem getM_setM {m : List (List Int)} {N c : Nat} (h : Sh m N c) {i j : Nat} (hi : i < N) (hj : j < c) (v : Int) (a b : Nat) : getM (setM m i j v) a b = if a = i ∧ b = j then v else getM m a b := by
  have hl : i < m.length := by rw [h.1]; exact hi
  have hr := h.2 i hi
  have hr' : j < (m[i]?.getD []).length := by
    have e : m.getD i [] = m[i]?.getD [] := rfl
    rw [← e, hr]; exact hj
  simp only [getM, setM, List.getD, List.getElem?_set]
  by_cases hia : i = a
  · subst hia
    simp only [hl, if_true, Option.getD_some, List.getElem?_set]
    by_cases hjb : j = b
    · subst hjb
      simp [hr']
    · simp [hjb, show ¬ b = j from fun e => hjb e.symm]
  · simp [hia, show ¬ a = i from fun e => hia e.symm]
def rowN (N : Nat) (m : List (List Int)) (p : Nat) (x : Nat → Int) : Int := sumN N (fun q => getM m p q * x q)
theorem addTo_get {m : List (List Int)} {N c : Nat} (h : Sh m N c) {i j : Nat} (hi : i < N) (hj : j < c) (v : Int) (a b : Nat) : getM (addTo m i j v) a b = getM m a b + if a = i ∧ b = j then v else 0 := by
  rw [addTo, getM_setM h hi hj]
  by_cases e : a = i ∧ b = j
  · obtain ⟨rfl, rfl⟩ := e; simp
  · rw [if_neg e, if_neg e]; omega
theorem subTo_eq (m : List (List Int)) (i j : Nat) (v : Int) : subTo m i j v = addTo m i j (-v) := by unfold subTo addTo; rw [Int.sub_eq_add_neg]
theorem addTo_row {m : List (List Int)} {N c : Nat} (h : Sh m N c) (hc : N ≤ c) {i j : Nat} (hi : i < N) (hj : j < N) (v : Int) (p : Nat) (x : Nat → Int) :
    rowN N (addTo m i j v) p x = rowN N m p x + if p = i then v * x j else 0 := by
  unfold rowN
  rw [sumN_congr (h := fun q => getM m p q * x q + if q = j then (if p = i then v * x j else 0) else 0) (fun q _ => ?_), sumN_add, sumN_single, if_pos hj]
  rw [addTo_get h hi (by omega)]
  by_cases e : p = i
  · by_cases e2 : q = j
    · subst e2; simp [e, Int.add_mul]
    · simp [e2]
  · simp [e]
theorem Sh.addTo {m : List (List Int)} {N c : Nat} (h : Sh m N c) (i j : Nat) (v : Int) : Sh (addTo m i j v) N c := h.set i j _
theorem addR1_row {first : List Int} {m : List (List Int)} {N : Nat} (h : Sh m N (N + 1)) {r : Rd} (hf : r.f < N) (ht : r.t < N) (h0 : 0 ≤ r.fr) (p : Nat) (x : Nat → Int) :
    rowN N (addR1 first m r) p x = rowN N m p x + (if (p : Int) ≠ first.getD p 0 then (if r.f = p then - (r.wt * dlt x r) else 0) else 0) ∧ getM (addR1 first m r) p N = getM m p N := by
  unfold addR1
  split
  · next hr =>
    rw [subTo_eq, addTo_row (h.addTo _ _ _) (by omega) hf ht, addTo_row h (by omega) hf hf, addTo_get (h.addTo _ _ _) hf (show r.to.toNat < N + 1 by unfold Rd.t at ht; omega), addTo_get h hf (show r.fr.toNat < N + 1 by unfold Rd.f at hf; omega)]
    have e1 : N ≠ r.to.toNat := by unfold Rd.t at ht; omega
    have e2 : N ≠ r.fr.toNat := by unfold Rd.f at hf; omega
    refine ⟨?_, by simp [e1, e2]⟩
    by_cases e : p = r.fr.toNat
    · have : (p : Int) = r.fr := by omega
      rw [if_pos e, if_pos e, if_pos (show (p : Int) ≠ first.getD p 0 by rw [this, e]; exact hr), if_pos (show r.f = p from e.symm)]
      unfold dlt Rd.f Rd.t
      grind
    · rw [if_neg e, if_neg e]
      simp [show ¬ r.f = p from fun h => e h.symm]
  · next hr =>
    refine ⟨?_, rfl⟩
    by_cases e : p = r.fr.toNat
    · have : (p : Int) = r.fr := by omega
      rw [if_neg (show ¬ (p : Int) ≠ first.getD p 0 by rw [this, e]; exact hr)]
      omega
    · simp [show ¬ r.f = p from fun h => e h.symm]
theorem addR2_row {first : List Int} {m : List (List Int)} {N : Nat} (h : Sh m N (N + 1)) {r : Rd} (hf : r.f < N) (ht : r.t < N) (h0 : 0 ≤ r.to) (p : Nat) (x : Nat → Int) :
    rowN N (addR2 first m r) p x = rowN N m p x + (if (p : Int) ≠ first.getD p 0 then (if r.t = p then r.wt * dlt x r else 0) else 0) ∧ getM (addR2 first m r) p N = getM m p N := by
  unfold addR2
  split
  · next hr =>
    rw [subTo_eq, addTo_row (h.addTo _ _ _) (by omega) ht hf, addTo_row h (by omega) ht ht, addTo_get (h.addTo _ _ _) ht (show r.fr.toNat < N + 1 by unfold Rd.f at hf; omega), addTo_get h ht (show r.to.toNat < N + 1 by unfold Rd.t at ht; omega)]
    have e1 : N ≠ r.to.toNat := by unfold Rd.t at ht; omega
    have e2 : N ≠ r.fr.toNat := by unfold Rd.f at hf; omega
    refine ⟨?_, by simp [e1, e2]⟩
    by_cases e : p = r.to.toNat
    · have : (p : Int) = r.to := by omega
      rw [if_pos e, if_pos e, if_pos (show (p : Int) ≠ first.getD p 0 by rw [this, e]; exact hr), if_pos (show r.t = p from e.symm)]
      unfold dlt Rd.f Rd.t
      grind
    · rw [if_neg e, if_neg e]
      simp [show ¬ r.t = p from fun h => e h.symm]
  · next hr =>
    refine ⟨?_, rfl⟩
    by_cases e : p = r.to.toNat
    · have : (p : Int) = r.to := by omega
      rw [if_neg (show ¬ (p : Int) ≠ first.getD p 0 by rw [this, e]; exact hr)]
      omega
    · simp [show ¬ r.t = p from fun h => e h.symm]
def Ends (N : Nat) (rs : List Rd) : Prop := ∀ r ∈ rs, 0 ≤ r.fr ∧ 0 ≤ r.to ∧ r.f < N ∧ r.t < N
theorem Ends.inN {N : Nat} {rs : List Rd} (h : Ends N rs) : InN N rs := fun r hr => (h r hr).2.2
theorem eqF_row {first : List Int} {N : Nat} (p : Nat) (x : Nat → Int) : ∀ (rs : List Rd) {m : List (List Int)}, Sh m N (N + 1) → Ends N rs →
    rowN N (eqF first m rs) p x = rowN N m p x + (if (p : Int) ≠ first.getD p 0 then lapl rs x p else 0) ∧ getM (eqF first m rs) p N = getM m p N
  | [], m, _, _ => by simp [eqF, lapl, rsum]
  | r :: rs, m, h, hE => by
    have hr := hE r (by simp)
    have h1 := addR1_row (first := first) h hr.2.2.1 hr.2.2.2 hr.1 p x
    have h2 := addR2_row (first := first) (h.addR1 (first := first) r) hr.2.2.1 hr.2.2.2 hr.2.1 p x
    have h3 := eqF_row (first := first) p x rs ((h.addR1 (first := first) r).addR2 (first := first) r) (fun q hq => hE q (List.mem_cons_of_mem _ hq))
    have e : eqF first m (r :: rs) = eqF first (addR2 first (addR1 first m r) r) rs := rfl
    rw [e, h3.1, h3.2, h2.1, h2.2, h1.1, h1.2]
    refine ⟨?_, rfl⟩
    have e2 : lapl (r :: rs) x p = term x p r + lapl rs x p := rfl
    rw [e2]
    unfold term
    by_cases hp : (p : Int) ≠ first.getD p 0
    · simp only [if_pos hp]
      split <;> split <;> omega
    · simp only [if_neg hp]; omega
/-- The point is the smallest of its part. -/
def Root (N : Nat) (rs : List Rd) (p : Nat) : Prop := (p : Int) = (firstsL N rs).getD p 0
instance (N : Nat) (rs : List Rd) (p : Nat) : Decidable (Root N rs p) := inferInstanceAs (Decidable (_ = _))
theorem m0_row {N : Nat} {rs : List Rd} {loads : List Int} {p : Nat} (hp : p < N) (x : Nat → Int) :
    rowN N (m0 N (firstsL N rs) loads N) p x = (if Root N rs p then x p else 0) ∧ getM (m0 N (firstsL N rs) loads N) p N = (if Root N rs p then 0 else loads.getD p 0) := by
  have e : ∀ q, getM (m0 N (firstsL N rs) loads N) p q = (rowInit N (firstsL N rs) loads p).getD q 0 := fun q => by unfold getM; rw [m0_get hp]
  have hz : ∀ q, (List.replicate (N + 1) (0 : Int)).getD q 0 = 0 := fun q => by by_cases h : q < N + 1 <;> simp [List.getD, List.getElem?_replicate, h]
  by_cases hR : Root N rs p
  · rw [if_pos hR, if_pos hR]
    have e2 : ∀ q, getM (m0 N (firstsL N rs) loads N) p q = if q = p then 1 else 0 := fun q => by
      rw [e, rowInit, if_pos (show (p : Int) = (firstsL (N : Int) rs).getD p 0 from hR), getD_set, hz]
      by_cases hq : q = p
      · subst hq; simp; omega
      · simp [hq, show ¬ p = q from fun h => hq h.symm]
    refine ⟨?_, by rw [e2]; simp [show ¬ N = p by omega]⟩
    unfold rowN
    rw [sumN_one hp (fun q _ hne => by rw [e2]; simp [hne]), e2]
    simp
  · rw [if_neg hR, if_neg hR]
    have e2 : ∀ q, getM (m0 N (firstsL N rs) loads N) p q = if q = N then loads.getD p 0 else 0 := fun q => by
      rw [e, rowInit, if_neg (show ¬ (p : Int) = (firstsL (N : Int) rs).getD p 0 from hR), getD_set, hz]
      by_cases hq : q = N
      · subst hq; simp
      · simp [hq, show ¬ N = q from fun h => hq h.symm]
    refine ⟨?_, by rw [e2]; simp⟩
    unfold rowN
    exact sumN_zero fun q hq => by rw [e2]; simp [show ¬ q = N by omega]
theorem eqG_row {N : Nat} {rs : List Rd} {loads : List Int} (hE : Ends N rs) {p : Nat} (hp : p < N) (x : Nat → Int) :
    sumN N (fun q => eqG N rs loads p q * x q) = (if Root N rs p then x p else lapl rs x p) ∧ eqG N rs loads p N = (if Root N rs p then 0 else loads.getD p 0) := by
  have h := eqF_row (first := firstsL N rs) p x rs (m0_sh N (firstsL N rs) loads N) hE
  have h0 := m0_row (loads := loads) (rs := rs) hp x
  rw [h0.1, h0.2] at h
  refine ⟨?_, h.2⟩
  have e : sumN N (fun q => eqG N rs loads p q * x q) = rowN N (eqF (firstsL N rs) (m0 N (firstsL N rs) loads N) rs) p x := rfl
  rw [e, h.1]
  by_cases hR : Root N rs p
  · rw [if_pos hR, if_pos hR, if_neg (not_not_intro (show (p : Int) = (firstsL (N : Int) rs).getD p 0 from hR))]; omega
  · rw [if_neg hR, if_neg hR, if_pos (show ¬ (p : Int) = (firstsL (N : Int) rs).getD p 0 from hR)]; omega

end Go.Proofs.Ytmmgcajegokkoaa
