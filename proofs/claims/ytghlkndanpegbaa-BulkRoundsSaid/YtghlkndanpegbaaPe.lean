/- The plan along the corner; costs that do not cross. -/
import Derived.Test.YtghlkndanpegbaaPd
set_option linter.unusedVariables false
set_option linter.unusedSimpArgs false
namespace Go.Tp
open Go.Sand

structure CS where
  i : Nat
  j : Nat
  h : Nat → Int
  w : Nat → Int
  x : Mat
def put2 (x : Mat) (i j : Nat) (v : Int) : Mat := fun p q => if p = i ∧ q = j then v else x p q
theorem put2_k (x : Mat) (i j : Nat) (v : Int) : put2 x i j v i j = v := if_pos ⟨rfl, rfl⟩
theorem put2_ne (x : Mat) {i j p q : Nat} (v : Int) (h : ¬ (p = i ∧ q = j)) : put2 x i j v p q = x p q := if_neg h
def CS.n (c : CS) : Int := min (c.h c.i) (c.w c.j)
def cstep (S B : Nat) (c : CS) : CS :=
  if c.i < S ∧ c.j < B then
    { i := if c.h c.i - c.n = 0 then c.i + 1 else c.i, j := if c.h c.i - c.n = 0 then c.j else c.j + 1, h := put c.h c.i (c.h c.i - c.n), w := put c.w c.j (c.w c.j - c.n), x := put2 c.x c.i c.j c.n }
  else c
def crn (S B : Nat) (s d : Nat → Int) : Nat → CS
  | 0 => ⟨0, 0, s, d, fun _ _ => 0⟩
  | k + 1 => cstep S B (crn S B s d k)
structure CI (S B : Nat) (s d : Nat → Int) (c : CS) : Prop where
  hn : ∀ i, i < S → 0 ≤ c.h i ∧ c.h i ≤ s i
  wn : ∀ j, j < B → 0 ≤ c.w j ∧ c.w j ≤ d j
  xn : ∀ i j, i < S → j < B → 0 ≤ c.x i j
  row : ∀ i, i < S → sm B (c.x i) + c.h i = s i
  col : ∀ j, j < B → (sm S fun i => c.x i j) + c.w j = d j
  z : ∀ p q, c.i < p ∨ c.j < q ∨ (p = c.i ∧ q = c.j) → c.x p q = 0
  dh : ∀ p, p < c.i → p < S → c.h p = 0
  dw : ∀ q, q < c.j → q < B → c.w q = 0
  ib : c.i ≤ S
  jb : c.j ≤ B
variable {S B : Nat} {s d : Nat → Int}
theorem sm_put2_row {x : Mat} {i j : Nat} {v : Int} (hj : j < B) (p : Nat) : sm B (put2 x i j v p) = sm B (x p) + if p = i then v - x i j else 0 := by
  have e : sm B (put2 x i j v p) = sm B (fun q => x p q + if q = j then (if p = i then v - x i j else 0) else 0) := sm_congr fun q _ => by
    by_cases h : p = i ∧ q = j
    · obtain ⟨rfl, rfl⟩ := h
      rw [put2_k, if_pos rfl, if_pos rfl]; omega
    · rw [put2_ne _ _ h]
      by_cases h2 : q = j
      · rw [if_pos h2, if_neg (fun h3 => h ⟨h3, h2⟩)]; omega
      · rw [if_neg h2]; omega
  rw [e, sm_add]
  congr 1
  rw [sm_at (k := j) hj fun t _ hne => if_neg hne, if_pos rfl]
theorem sm_put2_col {x : Mat} {i j : Nat} {v : Int} (hi : i < S) (q : Nat) : (sm S fun p => put2 x i j v p q) = (sm S fun p => x p q) + if q = j then v - x i j else 0 := by
  have e : (sm S fun p => put2 x i j v p q) = sm S (fun p => x p q + if p = i then (if q = j then v - x i j else 0) else 0) := sm_congr fun p _ => by
    by_cases h : p = i ∧ q = j
    · obtain ⟨rfl, rfl⟩ := h
      rw [put2_k, if_pos rfl, if_pos rfl]; omega
    · rw [put2_ne _ _ h]
      by_cases h2 : p = i
      · rw [if_pos h2, if_neg (fun h3 => h ⟨h2, h3⟩)]; omega
      · rw [if_neg h2]; omega
  rw [e, sm_add]
  congr 1
  rw [sm_at (k := i) hi fun t _ hne => if_neg hne, if_pos rfl]
theorem CI.step {c : CS} (h : CI S B s d c) (hi : c.i < S) (hj : c.j < B) : CI S B s d (cstep S B c) := by
  have h1 := h.hn c.i hi
  have h2 := h.wn c.j hj
  have hx0 : c.x c.i c.j = 0 := h.z _ _ (.inr (.inr ⟨rfl, rfl⟩))
  have hn : 0 ≤ c.n ∧ c.n ≤ c.h c.i ∧ c.n ≤ c.w c.j ∧ (c.n = c.h c.i ∨ c.n = c.w c.j) := by unfold CS.n; omega
  have e : cstep S B c = { i := if c.h c.i - c.n = 0 then c.i + 1 else c.i, j := if c.h c.i - c.n = 0 then c.j else c.j + 1, h := put c.h c.i (c.h c.i - c.n), w := put c.w c.j (c.w c.j - c.n), x := put2 c.x c.i c.j c.n } := if_pos ⟨hi, hj⟩
  rw [e]
  refine ⟨fun p hp => ?_, fun q hq => ?_, fun p q hp hq => ?_, fun p hp => ?_, fun q hq => ?_, fun p q hpq => ?_, fun p hp hpS => ?_, fun q hq hqB => ?_, ?_, ?_⟩
  · show 0 ≤ put c.h c.i _ p ∧ put c.h c.i _ p ≤ s p
    have := h.hn p hp
    by_cases e : p = c.i
    · subst e; rw [put_k]; omega
    · rw [put_ne _ _ e]; exact this
  · show 0 ≤ put c.w c.j _ q ∧ put c.w c.j _ q ≤ d q
    have := h.wn q hq
    by_cases e : q = c.j
    · subst e; rw [put_k]; omega
    · rw [put_ne _ _ e]; exact this
  · show 0 ≤ put2 c.x _ _ _ p q
    by_cases e : p = c.i ∧ q = c.j
    · obtain ⟨rfl, rfl⟩ := e; rw [put2_k]; exact hn.1
    · rw [put2_ne _ _ e]; exact h.xn p q hp hq
  · show sm B (put2 c.x _ _ _ p) + put c.h c.i _ p = s p
    rw [sm_put2_row hj, hx0]
    have := h.row p hp
    by_cases e : p = c.i
    · subst e; rw [put_k, if_pos rfl]; omega
    · rw [put_ne _ _ e, if_neg e]; omega
  · show (sm S fun i => put2 c.x _ _ _ i q) + put c.w c.j _ q = d q
    rw [sm_put2_col hi, hx0]
    have := h.col q hq
    by_cases e : q = c.j
    · subst e; rw [put_k, if_pos rfl]; omega
    · rw [put_ne _ _ e, if_neg e]; omega
  · show put2 c.x _ _ _ p q = 0
    simp only at hpq
    have hne : ¬ (p = c.i ∧ q = c.j) := fun h3 => by split at hpq <;> omega
    rw [put2_ne _ _ hne]
    refine h.z p q ?_
    split at hpq <;> omega
  · show put c.h c.i _ p = 0
    simp only at hp
    by_cases e : p = c.i
    · subst e
      rw [put_k]
      split at hp
      · assumption
      · omega
    · rw [put_ne _ _ e]
      refine h.dh p ?_ hpS
      split at hp <;> omega
  · show put c.w c.j _ q = 0
    simp only at hq
    by_cases e : q = c.j
    · subst e
      rw [put_k]
      split at hq
      · omega
      · omega
    · rw [put_ne _ _ e]
      refine h.dw q ?_ hqB
      split at hq <;> omega
  · have := h.ib
    simp only
    split <;> omega
  · have := h.jb
    simp only
    split <;> omega
theorem CI.zero (hs : ∀ i, i < S → 0 ≤ s i) (hd : ∀ j, j < B → 0 ≤ d j) : CI S B s d (crn S B s d 0) :=
  ⟨fun i hi => ⟨hs i hi, Int.le_refl _⟩, fun j hj => ⟨hd j hj, Int.le_refl _⟩, fun _ _ _ _ => Int.le_refl _, fun i _ => by show sm B (fun _ => 0) + s i = s i; rw [sm_zero]; omega, fun j _ => by show (sm S fun _ => 0) + d j = d j; rw [sm_zero]; omega, fun _ _ _ => rfl, fun p hp => absurd hp (Nat.not_lt_zero _), fun q hq => absurd hq (Nat.not_lt_zero _), Nat.zero_le _, Nat.zero_le _⟩
theorem cstep_stop {c : CS} (h : ¬ (c.i < S ∧ c.j < B)) : cstep S B c = c := if_neg h
theorem CI.all (hs : ∀ i, i < S → 0 ≤ s i) (hd : ∀ j, j < B → 0 ≤ d j) : ∀ k, CI S B s d (crn S B s d k)
  | 0 => CI.zero hs hd
  | k + 1 => by
    have ih := CI.all hs hd k
    by_cases h : (crn S B s d k).i < S ∧ (crn S B s d k).j < B
    · exact ih.step h.1 h.2
    · show CI S B s d (cstep S B _)
      rw [cstep_stop h]; exact ih
theorem cstep_sum {c : CS} (hi : c.i < S) (hj : c.j < B) : (cstep S B c).i + (cstep S B c).j = c.i + c.j + 1 := by
  unfold cstep
  rw [if_pos ⟨hi, hj⟩]
  simp only
  split <;> omega
theorem crn_stop {k : Nat} (h : ¬ ((crn S B s d k).i < S ∧ (crn S B s d k).j < B)) : ∀ m, crn S B s d (k + m) = crn S B s d k
  | 0 => rfl
  | m + 1 => by
    show cstep S B (crn S B s d (k + m)) = _
    rw [crn_stop h m, cstep_stop h]
/-- The plan along the corner. -/
def cornX (S B : Nat) (s d : Nat → Int) : Mat := (crn S B s d (S + B)).x
theorem corn_eq {k : Nat} (hk : (crn S B s d k).i + (crn S B s d k).j = k) (hc : CI S B s d (crn S B s d k)) (h : ¬ ((crn S B s d k).i < S ∧ (crn S B s d k).j < B)) : cornX S B s d = (crn S B s d k).x := by
  have h1 := hc.ib
  have h2 := hc.jb
  have := crn_stop h (S + B - k)
  rw [show k + (S + B - k) = S + B by omega] at this
  unfold cornX
  rw [this]
theorem crn_fin : ∀ k, (∃ q, q ≤ k ∧ (crn S B s d q).i + (crn S B s d q).j = q ∧ ¬ ((crn S B s d q).i < S ∧ (crn S B s d q).j < B)) ∨ (crn S B s d k).i + (crn S B s d k).j = k
  | 0 => .inr rfl
  | k + 1 => by
    rcases crn_fin k with ⟨q, h1, h2, h3⟩ | h
    · exact .inl ⟨q, by omega, h2, h3⟩
    · by_cases h2 : (crn S B s d k).i < S ∧ (crn S B s d k).j < B
      · exact .inr (by rw [show crn S B s d (k + 1) = cstep S B (crn S B s d k) from rfl, cstep_sum h2.1 h2.2]; omega)
      · exact .inl ⟨k, by omega, h, h2⟩
theorem corn_end (hs : ∀ i, i < S → 0 ≤ s i) (hd : ∀ j, j < B → 0 ≤ d j) : ∃ k, ¬ ((crn S B s d k).i < S ∧ (crn S B s d k).j < B) ∧ cornX S B s d = (crn S B s d k).x ∧ CI S B s d (crn S B s d k) := by
  rcases crn_fin (S := S) (B := B) (s := s) (d := d) (S + B) with ⟨q, h1, h2, h3⟩ | h
  · exact ⟨q, h3, corn_eq h2 (CI.all hs hd q) h3, CI.all hs hd q⟩
  · exact ⟨S + B, by omega, rfl, CI.all hs hd _⟩
theorem sm_zero_of {f : Nat → Int} {n : Nat} (h : ∀ i, i < n → 0 ≤ f i) (e : sm n f = 0) : ∀ i, i < n → f i = 0 := fun i hi => by
  have h1 := sm_one (f := f) h i hi
  have h2 := h i hi
  omega
theorem CI.plan {c : CS} (h : CI S B s d c) (hf : ¬ (c.i < S ∧ c.j < B)) (he : sm S s = sm B d) : Pl S B s d c.x := by
  have e1 : (sm S fun i => sm B (c.x i)) + sm S c.h = sm S s := by rw [← sm_add]; exact sm_congr fun i hi => h.row i hi
  have e2 : (sm B fun j => sm S fun i => c.x i j) + sm B c.w = sm B d := by rw [← sm_add]; exact sm_congr fun j hj => h.col j hj
  have e3 : (sm S fun i => sm B (c.x i)) = sm B fun j => sm S fun i => c.x i j := sm_swap S B
  have e4 : sm S c.h = sm B c.w := by omega
  have hh : (∀ i, i < S → c.h i = 0) ∧ ∀ j, j < B → c.w j = 0 := by
    by_cases hi : c.i < S
    · have hj : B ≤ c.j := by omega
      have hw : ∀ j, j < B → c.w j = 0 := fun j hj2 => h.dw j (by omega) hj2
      have : sm B c.w = 0 := (sm_congr hw).trans (sm_zero B)
      exact ⟨sm_zero_of (fun i hi => (h.hn i hi).1) (by omega), hw⟩
    · have hz : ∀ i, i < S → c.h i = 0 := fun i hi2 => h.dh i (by omega) hi2
      have : sm S c.h = 0 := (sm_congr hz).trans (sm_zero S)
      exact ⟨hz, sm_zero_of (fun j hj => (h.wn j hj).1) (by omega)⟩
  exact ⟨h.xn, fun i hi => by have := h.row i hi; have := hh.1 i hi; omega, fun j hj => by have := h.col j hj; have := hh.2 j hj; omega⟩
theorem corn_plan (hs : ∀ i, i < S → 0 ≤ s i) (hd : ∀ j, j < B → 0 ≤ d j) (he : sm S s = sm B d) : Pl S B s d (cornX S B s d) := by
  obtain ⟨k, h1, h2, h3⟩ := corn_end hs hd
  rw [h2]
  exact h3.plan h1 he
/-- Costs that do not cross. -/
def Sq (S B : Nat) (c : Mat) : Prop := ∀ i k j l, i < k → k < S → j < l → l < B → c i j + c k l ≤ c i l + c k j
theorem sq_adj {c : Mat} (h : ∀ i j, i + 1 < S → j + 1 < B → c i j + c (i + 1) (j + 1) ≤ c i (j + 1) + c (i + 1) j) : Sq S B c := by
  have h1 : ∀ i j l, i + 1 < S → j < l → l < B → c i j + c (i + 1) l ≤ c i l + c (i + 1) j := fun i j l hi hjl hl => by
    induction l with
    | zero => omega
    | succ l ih =>
      have h2 := h i l hi hl
      by_cases e : j = l
      · subst e; exact h2
      · have := ih (by omega) (by omega)
        omega
  intro i k j l hik hk hjl hl
  induction k with
  | zero => omega
  | succ k ih =>
    have h2 := h1 k j l hk hjl hl
    by_cases e : i = k
    · subst e; exact h2
    · have := ih (by omega) (by omega)
      omega
/-- Prices along the corner. -/
structure CM (S B : Nat) (c : Mat) (s : CS) (u v : Nat → Int) : Prop where
  hon : ∀ p q, p ≤ s.i → q ≤ s.j → p < S → q < B → u p + v q ≤ c p q
  cur : s.i < S → s.j < B → u s.i + v s.j = c s.i s.j
  ti : ∀ p q, p < S → q < B → 0 < s.x p q → u p + v q = c p q
theorem CM.step {c : Mat} {t : CS} {u v : Nat → Int} (hc : CI S B s d t) (h : CM S B c t u v) (hq : Sq S B c) (hi : t.i < S) (hj : t.j < B) : ∃ u v, CM S B c (cstep S B t) u v := by
  have e : cstep S B t = { i := if t.h t.i - t.n = 0 then t.i + 1 else t.i, j := if t.h t.i - t.n = 0 then t.j else t.j + 1, h := put t.h t.i (t.h t.i - t.n), w := put t.w t.j (t.w t.j - t.n), x := put2 t.x t.i t.j t.n } := if_pos ⟨hi, hj⟩
  have hcur := h.cur hi hj
  have hxb : ∀ p q, 0 < t.x p q → p ≤ t.i ∧ q ≤ t.j := fun p q hp => by
    by_cases h1 : t.i < p
    · have := hc.z p q (.inl h1); omega
    · by_cases h2 : t.j < q
      · have := hc.z p q (.inr (.inl h2)); omega
      · omega
  have hx2 : ∀ p q, 0 < put2 t.x t.i t.j t.n p q → p ≤ t.i ∧ q ≤ t.j := fun p q hp => by
    by_cases e : p = t.i ∧ q = t.j
    · omega
    · rw [put2_ne _ _ e] at hp; exact hxb p q hp
  have hti2 : ∀ p q, p < S → q < B → 0 < put2 t.x t.i t.j t.n p q → u p + v q = c p q := fun p q hp hq2 hx => by
    by_cases e : p = t.i ∧ q = t.j
    · obtain ⟨rfl, rfl⟩ := e; exact hcur
    · rw [put2_ne _ _ e] at hx; exact h.ti p q hp hq2 hx
  rw [e]
  by_cases h0 : t.h t.i - t.n = 0
  · simp only [if_pos h0]
    refine ⟨put u (t.i + 1) (c (t.i + 1) t.j - v t.j), v, fun p q hp hq1 hpS hqB => ?_, fun h1 h2 => ?_, fun p q hp hq2 hx => ?_⟩
    · simp only at hp hq1
      by_cases e : p = t.i + 1
      · subst e
        rw [put_k]
        by_cases e2 : q = t.j
        · subst e2; omega
        · have h3 := hq t.i (t.i + 1) q t.j (by omega) hpS (by omega) hj
          have h4 := h.hon t.i q (Nat.le_refl _) hq1 hi hqB
          omega
      · rw [put_ne _ _ e]; exact h.hon p q (by omega) hq1 hpS hqB
    · simp only
      rw [put_k]; omega
    · have h3 := hx2 p q hx
      rw [put_ne _ _ (by omega)]
      exact hti2 p q hp hq2 hx
  · simp only [if_neg h0]
    refine ⟨u, put v (t.j + 1) (c t.i (t.j + 1) - u t.i), fun p q hp hq1 hpS hqB => ?_, fun h1 h2 => ?_, fun p q hp hq2 hx => ?_⟩
    · simp only at hp hq1
      by_cases e : q = t.j + 1
      · subst e
        rw [put_k]
        by_cases e2 : p = t.i
        · subst e2; omega
        · have h3 := hq p t.i t.j (t.j + 1) (by omega) hi (by omega) hqB
          have h4 := h.hon p t.j hp (Nat.le_refl _) hpS hj
          omega
      · rw [put_ne _ _ e]; exact h.hon p q hp (by omega) hpS hqB
    · simp only
      rw [put_k]; omega
    · have h3 := hx2 p q hx
      rw [put_ne _ _ (by omega)]
      exact hti2 p q hp hq2 hx
theorem CM.all {c : Mat} (hs : ∀ i, i < S → 0 ≤ s i) (hd : ∀ j, j < B → 0 ≤ d j) (hq : Sq S B c) : ∀ k, ∃ u v, CM S B c (crn S B s d k) u v
  | 0 => ⟨fun _ => c 0 0, fun _ => 0, fun p q hp hq _ _ => by
      have h1 : p ≤ 0 := hp
      have h2 : q ≤ 0 := hq
      rw [show p = 0 by omega, show q = 0 by omega]; omega, fun _ _ => by show c 0 0 + 0 = c 0 0; omega, fun p q _ _ hx => absurd hx (by show ¬ (0 : Int) < 0; omega)⟩
  | k + 1 => by
    obtain ⟨u, v, h⟩ := CM.all hs hd hq k
    by_cases h2 : (crn S B s d k).i < S ∧ (crn S B s d k).j < B
    · exact h.step (CI.all hs hd k) hq h2.1 h2.2
    · refine ⟨u, v, ?_⟩
      show CM S B c (cstep S B _) u v
      rw [cstep_stop h2]; exact h
theorem low_of (f : Nat → Int) : ∀ n, ∃ L, ∀ p, p < n → L ≤ f p
  | 0 => ⟨0, fun p hp => absurd hp (Nat.not_lt_zero _)⟩
  | n + 1 => by
    obtain ⟨L, h⟩ := low_of f n
    refine ⟨min L (f n), fun p hp => ?_⟩
    by_cases e : p = n
    · subst e; omega
    · have := h p (by omega); omega
theorem corn_best {c : Mat} (hs : ∀ i, i < S → 0 ≤ s i) (hd : ∀ j, j < B → 0 ≤ d j) (he : sm S s = sm B d) (hq : Sq S B c) : Mn S B s d c (cst S B c (cornX S B s d)) := by
  obtain ⟨k, h1, h2, h3⟩ := corn_end hs hd
  obtain ⟨u, v, hm⟩ := CM.all (c := c) hs hd hq k
  have hp := h3.plan h1 he
  rw [h2]
  generalize crn S B s d k = t at *
  have hxb : ∀ p q, 0 < t.x p q → p ≤ t.i ∧ q ≤ t.j := fun p q hp => by
    by_cases h1 : t.i < p
    · have := h3.z p q (.inl h1); omega
    · by_cases h2 : t.j < q
      · have := h3.z p q (.inr (.inl h2)); omega
      · omega
  by_cases hi : t.i < S
  · -- the buyers are all served
    have hjB : B ≤ t.j := by omega
    have hL : ∀ p, ∃ L, ∀ q, q < B → L ≤ c p q - v q := fun p => low_of _ B
    obtain ⟨L, hL⟩ := Classical.skolem.1 hL
    refine Mn.of (u := fun p => if p ≤ t.i then u p else L p) (v := v) hp (fun p q hpS hqB => ?_) (fun p q hpS hqB hx => ?_)
    · show (if p ≤ t.i then u p else L p) + v q ≤ c p q
      by_cases h4 : p ≤ t.i
      · rw [if_pos h4]; exact hm.hon p q h4 (by omega) hpS hqB
      · rw [if_neg h4]; have := hL p q hqB; omega
    · show (if p ≤ t.i then u p else L p) + v q = c p q
      rw [if_pos (hxb p q hx).1]
      exact hm.ti p q hpS hqB hx
  · have hL : ∀ q, ∃ L, ∀ p, p < S → L ≤ c p q - u p := fun q => low_of _ S
    obtain ⟨L, hL⟩ := Classical.skolem.1 hL
    refine Mn.of (u := u) (v := fun q => if q ≤ t.j then v q else L q) hp (fun p q hpS hqB => ?_) (fun p q hpS hqB hx => ?_)
    · show u p + (if q ≤ t.j then v q else L q) ≤ c p q
      by_cases h4 : q ≤ t.j
      · rw [if_pos h4]; exact hm.hon p q (by omega) h4 hpS hqB
      · rw [if_neg h4]; have := hL q p hpS; omega
    · show u p + (if q ≤ t.j then v q else L q) = c p q
      rw [if_pos (hxb p q hx).2]
      exact hm.ti p q hpS hqB hx
end Go.Tp
