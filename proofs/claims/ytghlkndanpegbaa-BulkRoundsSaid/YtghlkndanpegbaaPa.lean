/- Transport: plans, their cost, honest prices; the smallest cost. -/
import Derived.Test.YtghlkndanpegbaaSs
set_option linter.unusedVariables false
set_option linter.unusedSimpArgs false
namespace Go.Tp
open Go.Sand

abbrev Mat := Nat → Nat → Int
/-- A plan. -/
structure Pl (S B : Nat) (s d : Nat → Int) (x : Mat) : Prop where
  nn : ∀ i j, i < S → j < B → 0 ≤ x i j
  row : ∀ i, i < S → sm B (x i) = s i
  col : ∀ j, j < B → (sm S fun i => x i j) = d j
def cst (S B : Nat) (c x : Mat) : Int := sm S fun i => sm B fun j => x i j * c i j
def Hon (S B : Nat) (c : Mat) (u v : Nat → Int) : Prop := ∀ i j, i < S → j < B → u i + v j ≤ c i j
def wth (S B : Nat) (s d u v : Nat → Int) : Int := (sm S fun i => u i * s i) + sm B fun j => v j * d j
variable {S B : Nat} {s d : Nat → Int} {c x : Mat} {u v : Nat → Int}
theorem sm_mulr {f : Nat → Int} (k : Int) (n : Nat) : sm n (fun i => f i * k) = sm n f * k := by
  rw [Int.mul_comm, ← sm_mul]
  exact sm_congr fun i _ => Int.mul_comm _ _
theorem sm_sub {f h : Nat → Int} (n : Nat) : sm n (fun i => f i - h i) = sm n f - sm n h := by
  have : sm n (fun i => f i - h i) = sm n (fun i => f i + -(h i)) := sm_congr fun i _ => Int.sub_eq_add_neg
  rw [this, sm_add, sm_neg]; omega
/-- What a plan costs above the worth of prices. -/
theorem gap (h : Pl S B s d x) (u v : Nat → Int) : cst S B c x - wth S B s d u v = sm S fun i => sm B fun j => x i j * (c i j - u i - v j) := by
  have e1 : (sm S fun i => sm B fun j => x i j * (c i j - u i - v j)) = sm S fun i => ((sm B fun j => x i j * c i j) - u i * s i) - sm B fun j => x i j * v j := by
    refine sm_congr fun i hi => ?_
    have : (sm B fun j => x i j * (c i j - u i - v j)) = sm B fun j => (x i j * c i j - u i * x i j) - x i j * v j :=
      sm_congr fun j _ => by rw [Int.mul_sub, Int.mul_sub, Int.mul_comm (x i j) (u i)]
    rw [this, sm_sub, sm_sub, sm_mul, h.row i hi]
  have e2 : (sm S fun i => sm B fun j => x i j * v j) = sm B fun j => v j * d j := by
    rw [sm_swap]
    refine sm_congr fun j hj => ?_
    rw [sm_mulr, h.col j hj, Int.mul_comm]
  rw [e1, sm_sub, sm_sub, e2]
  unfold cst wth
  omega
theorem weak (h : Pl S B s d x) (hh : Hon S B c u v) : wth S B s d u v ≤ cst S B c x := by
  have h1 := gap (c := c) h u v
  have h2 : 0 ≤ sm S fun i => sm B fun j => x i j * (c i j - u i - v j) :=
    sm_nonneg fun i hi => sm_nonneg fun j hj => Int.mul_nonneg (h.nn i j hi hj) (by have := hh i j hi hj; omega)
  omega
/-- Prices that fit wherever there are tons. -/
def Tight (S B : Nat) (c x : Mat) (u v : Nat → Int) : Prop := ∀ i j, i < S → j < B → 0 < x i j → u i + v j = c i j
theorem tight (h : Pl S B s d x) (ht : Tight S B c x u v) : cst S B c x = wth S B s d u v := by
  have h1 := gap (c := c) h u v
  have h2 : (sm S fun i => sm B fun j => x i j * (c i j - u i - v j)) = 0 := by
    rw [← sm_zero S]
    refine sm_congr fun i hi => ?_
    rw [← sm_zero B]
    refine sm_congr fun j hj => ?_
    have h3 := h.nn i j hi hj
    by_cases h4 : 0 < x i j
    · have := ht i j hi hj h4
      rw [show c i j - u i - v j = 0 by omega, Int.mul_zero]
    · rw [show x i j = 0 by omega, Int.zero_mul]
  omega
/-- The smallest cost, with a plan and with prices that prove it. -/
structure Mn (S B : Nat) (s d : Nat → Int) (c : Mat) (n : Int) : Prop where
  pl : ∃ x, Pl S B s d x ∧ cst S B c x = n
  pr : ∃ u v, Hon S B c u v ∧ wth S B s d u v = n
theorem Mn.le {n : Int} (h : Mn S B s d c n) (hx : Pl S B s d x) : n ≤ cst S B c x := by
  obtain ⟨u, v, hh, e⟩ := h.pr
  rw [← e]
  exact weak hx hh
theorem Mn.ge {n : Int} (h : Mn S B s d c n) (hh : Hon S B c u v) : wth S B s d u v ≤ n := by
  obtain ⟨x, hx, e⟩ := h.pl
  rw [← e]
  exact weak hx hh
theorem Mn.eq {n m : Int} (h : Mn S B s d c n) (h2 : Mn S B s d c m) : n = m := by
  obtain ⟨x, hx, e⟩ := h.pl
  obtain ⟨y, hy, e2⟩ := h2.pl
  have h3 := h.le hy
  have h4 := h2.le hx
  omega
theorem Mn.of (h : Pl S B s d x) (hh : Hon S B c u v) (ht : Tight S B c x u v) : Mn S B s d c (cst S B c x) := ⟨⟨x, h, rfl⟩, u, v, hh, (tight h ht).symm⟩
theorem Mn.of2 {n : Int} (h : Pl S B s d x) (hh : Hon S B c u v) (e : cst S B c x = n) (e2 : wth S B s d u v = n) : Mn S B s d c n := ⟨⟨x, h, e⟩, u, v, hh, e2⟩
theorem Pl.cst_nn (h : Pl S B s d x) (hc : ∀ i j, i < S → j < B → 0 ≤ c i j) : 0 ≤ cst S B c x := sm_nonneg fun i hi => sm_nonneg fun j hj => Int.mul_nonneg (h.nn i j hi hj) (hc i j hi hj)
theorem Pl.congr {y : Mat} (h : Pl S B s d x) (e : ∀ i j, i < S → j < B → x i j = y i j) : Pl S B s d y :=
  ⟨fun i j hi hj => by rw [← e i j hi hj]; exact h.nn i j hi hj, fun i hi => by rw [← h.row i hi]; exact sm_congr fun j hj => (e i j hi hj).symm, fun j hj => by rw [← h.col j hj]; exact sm_congr fun i hi => (e i j hi hj).symm⟩
theorem cst_congr {y c2 : Mat} (e : ∀ i j, i < S → j < B → x i j = y i j) (e2 : ∀ i j, i < S → j < B → c i j = c2 i j) : cst S B c x = cst S B c2 y :=
  sm_congr fun i hi => sm_congr fun j hj => by rw [e i j hi hj, e2 i j hi hj]
theorem Mn.congr {n : Int} {s2 d2 : Nat → Int} {c2 : Mat} (h : Mn S B s d c n) (es : ∀ i, i < S → s i = s2 i) (ed : ∀ j, j < B → d j = d2 j) (ec : ∀ i j, i < S → j < B → c i j = c2 i j) : Mn S B s2 d2 c2 n := by
  obtain ⟨⟨x, hx, e⟩, u, v, hh, e2⟩ := h
  refine ⟨⟨x, ⟨hx.nn, fun i hi => by rw [hx.row i hi, es i hi], fun j hj => by rw [hx.col j hj, ed j hj]⟩, by rw [← e]; exact (cst_congr (fun _ _ _ _ => rfl) ec).symm⟩, u, v, fun i j hi hj => by rw [← ec i j hi hj]; exact hh i j hi hj, ?_⟩
  rw [← e2]
  unfold wth
  rw [sm_congr (f := fun i => u i * s2 i) (h := fun i => u i * s i) fun i hi => by rw [es i hi], sm_congr (f := fun j => v j * d2 j) (h := fun j => v j * d j) fun j hj => by rw [ed j hj]]
theorem Pl.turn (h : Pl S B s d x) : Pl B S d s (fun j i => x i j) := ⟨fun j i hj hi => h.nn i j hi hj, h.col, h.row⟩
theorem cst_turn : cst B S (fun j i => c i j) (fun j i => x i j) = cst S B c x := by
  unfold cst
  rw [sm_swap]
theorem Mn.turn {n : Int} (h : Mn S B s d c n) : Mn B S d s (fun j i => c i j) n := by
  obtain ⟨⟨x, hx, e⟩, u, v, hh, e2⟩ := h
  refine ⟨⟨_, hx.turn, by rw [cst_turn, e]⟩, v, u, fun j i hj hi => by have := hh i j hi hj; show v j + u i ≤ c i j; omega, ?_⟩
  rw [← e2]
  unfold wth
  omega
/-- A toll at a store. -/
theorem Mn.toll {n : Int} (h : Mn S B s d c n) {k : Nat} (hk : k < S) (by_ : Int) : Mn S B s d (fun i j => c i j + if i = k then by_ else 0) (n + by_ * s k) := by
  obtain ⟨⟨x, hx, e⟩, u, v, hh, e2⟩ := h
  have e3 : ∀ g : Nat → Int, (sm S fun i => g i * if i = k then by_ else 0) = g k * by_ := fun g => by rw [sm_pt, if_pos hk]
  refine ⟨⟨x, hx, ?_⟩, fun i => u i + if i = k then by_ else 0, v, fun i j hi hj => ?_, ?_⟩
  · rw [← e]
    unfold cst
    have : (sm S fun i => sm B fun j => x i j * (c i j + if i = k then by_ else 0)) = sm S fun i => (sm B fun j => x i j * c i j) + s i * (if i = k then by_ else 0) := by
      refine sm_congr fun i hi => ?_
      rw [sm_congr (h := fun j => x i j * c i j + x i j * (if i = k then by_ else 0)) fun j _ => Int.mul_add _ _ _, sm_add, sm_mulr, hx.row i hi]
    rw [this, sm_add, e3, Int.mul_comm]
  · have := hh i j hi hj
    show (u i + _) + v j ≤ c i j + _
    omega
  · rw [← e2]
    unfold wth
    rw [sm_congr (f := fun i => (u i + if i = k then by_ else 0) * s i) (h := fun i => u i * s i + s i * (if i = k then by_ else 0)) fun i _ => by rw [Int.add_mul, Int.mul_comm (if i = k then by_ else 0)], sm_add, e3, Int.mul_comm (s k)]
    omega
theorem Pl.add {s2 d2 : Nat → Int} {y : Mat} (h : Pl S B s d x) (h2 : Pl S B s2 d2 y) : Pl S B (fun i => s i + s2 i) (fun j => d j + d2 j) (fun i j => x i j + y i j) :=
  ⟨fun i j hi hj => Int.add_nonneg (h.nn i j hi hj) (h2.nn i j hi hj), fun i hi => by rw [sm_add, h.row i hi, h2.row i hi], fun j hj => by rw [sm_add, h.col j hj, h2.col j hj]⟩
theorem cst_add {y : Mat} : cst S B c (fun i j => x i j + y i j) = cst S B c x + cst S B c y := by
  unfold cst
  rw [← sm_add]
  refine sm_congr fun i _ => ?_
  rw [← sm_add]
  exact sm_congr fun j _ => Int.add_mul _ _ _
theorem Mn.add {n m k : Int} {s2 d2 : Nat → Int} (h : Mn S B s d c m) (h2 : Mn S B s2 d2 c k) (h3 : Mn S B (fun i => s i + s2 i) (fun j => d j + d2 j) c n) : n ≤ m + k := by
  obtain ⟨⟨x, hx, e⟩, _⟩ := h
  obtain ⟨⟨y, hy, e2⟩, _⟩ := h2
  have := h3.le (hx.add hy)
  rw [cst_add] at this
  omega
/-- The numbers of the stores behind a store are smaller by 1. -/
def up (j k : Nat) : Nat := if k < j then k else k + 1
theorem sm_up {f : Nat → Int} {j : Nat} : ∀ {n : Nat}, j ≤ n → sm (n + 1) f = sm n (fun k => f (up j k)) + f j
  | n, hj => by
    induction n with
    | zero => have : j = 0 := by omega
              subst this; show sm 0 f + f 0 = 0 + f 0; rfl
    | succ n ih =>
      by_cases e : j = n + 1
      · subst e
        show sm (n + 1) f + f (n + 1) = sm (n + 1) (fun k => f (up (n + 1) k)) + f (n + 1)
        rw [sm_congr (h := f) (f := fun k => f (up (n + 1) k)) fun k hk => by unfold up; rw [if_pos hk]]
      · show sm (n + 1) f + f (n + 1) = (sm n (fun k => f (up j k)) + f (up j n)) + f j
        rw [ih (by omega), show up j n = n + 1 by unfold up; rw [if_neg (by omega)]]
        omega
/-- Two stores as one. -/
theorem Mn.merge {n m : Int} {i j : Nat} {s2 : Nat → Int} {c2 : Mat} (hi : i < S + 1) (hj : j < S + 1) (hij : i ≠ j) (h : Mn (S + 1) B s d c m) (h2 : Mn S B s2 d c2 n)
    (es : ∀ k, k < S → s2 k = s (up j k) + if up j k = i then s j else 0) (ec : ∀ k q, k < S → q < B → c2 k q ≤ c (up j k) q ∧ (up j k = i → c2 k q ≤ c j q)) : n ≤ m := by
  obtain ⟨⟨x, hx, e⟩, _⟩ := h
  obtain ⟨i', hi', rfl⟩ : ∃ i', i' < S ∧ up j i' = i := by
    by_cases h1 : i < j
    · exact ⟨i, by omega, by unfold up; rw [if_pos h1]⟩
    · exact ⟨i - 1, by omega, by unfold up; rw [if_neg (by omega)]; omega⟩
  have hup : ∀ k, k < S → up j k < S + 1 := fun k hk => by unfold up; split <;> omega
  have hinj : ∀ k, up j k = up j i' ↔ k = i' := fun k => by unfold up; split <;> split <;> omega
  have hpt : ∀ g : Int, (sm S fun k => if k = i' then g else 0) = g := fun g => by
    have := sm_pt (f := fun _ => 1) g i' S
    rw [if_pos hi', Int.one_mul] at this
    exact (sm_congr fun k _ => (Int.one_mul _).symm).trans this
  have hy : Pl S B s2 d (fun k q => x (up j k) q + if k = i' then x j q else 0) := by
    refine ⟨fun k q hk hq => ?_, fun k hk => ?_, fun q hq => ?_⟩
    · have h3 := hx.nn (up j k) q (hup k hk) hq
      have h4 := hx.nn j q hj hq
      show 0 ≤ x (up j k) q + _
      split <;> omega
    · rw [es k hk, sm_add, hx.row _ (hup k hk)]
      congr 1
      by_cases h3 : k = i'
      · rw [if_pos ((hinj k).2 h3), ← hx.row j hj]
        exact sm_congr fun q _ => if_pos h3
      · rw [if_neg fun h4 => h3 ((hinj k).1 h4)]
        exact (sm_congr fun q _ => if_neg h3).trans (sm_zero B)
    · rw [sm_add, hpt, ← hx.col q hq, sm_up (f := fun i => x i q) (show j ≤ S by omega)]
  have h3 := h2.le hy
  refine Int.le_trans h3 ?_
  rw [← e]
  unfold cst
  rw [sm_up (f := fun i => sm B fun q => x i q * c i q) (show j ≤ S by omega)]
  have h5 : (sm S fun k => sm B fun q => (x (up j k) q + if k = i' then x j q else 0) * c2 k q) ≤ sm S fun k => (sm B fun q => x (up j k) q * c (up j k) q) + if k = i' then sm B fun q => x j q * c j q else 0 := by
    refine sm_le fun k hk => ?_
    rw [sm_congr (h := fun q => x (up j k) q * c2 k q + (if k = i' then x j q else 0) * c2 k q) fun q _ => Int.add_mul _ _ _, sm_add]
    refine Int.add_le_add (sm_le fun q hq => Int.mul_le_mul_of_nonneg_left (ec k q hk hq).1 (hx.nn _ _ (hup k hk) hq)) ?_
    by_cases h6 : k = i'
    · rw [if_pos h6]
      refine sm_le fun q hq => ?_
      rw [if_pos h6]
      exact Int.mul_le_mul_of_nonneg_left ((ec k q hk hq).2 ((hinj k).2 h6)) (hx.nn _ _ hj hq)
    · rw [if_neg h6]
      refine Int.le_of_eq ((sm_congr fun q _ => ?_).trans (sm_zero B))
      rw [if_neg h6, Int.zero_mul]
  rw [sm_add, hpt] at h5
  exact h5
end Go.Tp
