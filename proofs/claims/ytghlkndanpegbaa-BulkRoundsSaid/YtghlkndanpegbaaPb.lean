/- Rounds: tons shifted along them, and what that costs. -/
import Derived.Test.YtghlkndanpegbaaPa
set_option linter.unusedVariables false
set_option linter.unusedSimpArgs false
namespace Go.Tp
open Go.Sand

def sgn (t : Nat) : Int := if t % 2 = 0 then 1 else -1
theorem sgn_e (m : Nat) : sgn (2 * m) = 1 := by unfold sgn; rw [if_pos (by omega)]
theorem sgn_o (m : Nat) : sgn (2 * m + 1) = -1 := by unfold sgn; rw [if_neg (by omega)]
def at1 (p : Nat × Nat) (i j : Nat) : Int := if p.1 = i ∧ p.2 = j then 1 else 0
/-- By how much a pair changes, for each ton, behind n pairs. -/
def net (n : Nat) (g : Nat → Nat × Nat) (i j : Nat) : Int := sm n fun t => sgn t * at1 (g t) i j
/-- A round. -/
structure Rnd (S B n : Nat) (g : Nat → Nat × Nat) : Prop where
  four : 4 ≤ n
  even : n % 2 = 0
  bd : ∀ t, t < n → (g t).1 < S ∧ (g t).2 < B
  a0 : ∀ m, 2 * m + 1 < n → (g (2 * m)).1 = (g (2 * m + 1)).1
  a1 : ∀ m, 2 * m + 2 < n → (g (2 * m + 1)).2 = (g (2 * m + 2)).2
  cl : (g (n - 1)).2 = (g 0).2
  dis : ∀ a b, a < b → b < n → g a ≠ g b
variable {S B n : Nat} {s d : Nat → Int} {c x : Mat} {g : Nat → Nat × Nat}
theorem sm_pair (f : Nat → Int) : ∀ m, sm (2 * m) f = sm m fun t => f (2 * t) + f (2 * t + 1)
  | 0 => rfl
  | m + 1 => by
    show sm (2 * m) f + f (2 * m) + f (2 * m + 1) = sm m _ + (f (2 * m) + f (2 * m + 1))
    rw [sm_pair f m]; omega
theorem sm_alt0 {f : Nat → Int} {m : Nat} (h : ∀ t, t < m → f (2 * t) = f (2 * t + 1)) : (sm (2 * m) fun t => sgn t * f t) = 0 := by
  rw [sm_pair]
  refine (sm_congr fun t ht => ?_).trans (sm_zero m)
  rw [sgn_e, sgn_o, h t ht]; omega
theorem sm_alt1 {f : Nat → Int} : ∀ {m : Nat}, (∀ t, t < m → f (2 * t + 1) = f (2 * t + 2)) → (sm (2 * (m + 1)) fun t => sgn t * f t) = f 0 - f (2 * m + 1)
  | 0, _ => by show 0 + sgn 0 * f 0 + sgn 1 * f 1 = f 0 - f 1; rw [show sgn 0 = 1 from rfl, show sgn 1 = -1 from rfl]; omega
  | m + 1, h => by
    have ih := sm_alt1 (f := f) (m := m) fun t ht => h t (by omega)
    show (sm (2 * (m + 1)) fun t => sgn t * f t) + sgn (2 * (m + 1)) * f (2 * (m + 1)) + sgn (2 * (m + 1) + 1) * f (2 * (m + 1) + 1) = _
    rw [ih, sgn_e, sgn_o]
    have := h m (by omega)
    rw [show 2 * m + 2 = 2 * (m + 1) by omega] at this
    omega
theorem sm_at {f : Nat → Int} {k : Nat} : ∀ {n : Nat}, k < n → (∀ t, t < n → t ≠ k → f t = 0) → sm n f = f k
  | 0, h, _ => absurd h (Nat.not_lt_zero _)
  | n + 1, h, h2 => by
    show sm n f + f n = f k
    by_cases e : k = n
    · subst e
      rw [(sm_congr fun t ht => h2 t (by omega) (by omega)).trans (sm_zero k)]; omega
    · rw [sm_at (by omega) fun t ht hne => h2 t (by omega) hne, h2 n (by omega) (fun h => e h.symm)]; omega
theorem at1_row {p : Nat × Nat} (h : p.2 < B) (f : Nat → Int) (i : Nat) : (sm B fun j => at1 p i j * f j) = if p.1 = i then f p.2 else 0 := by
  by_cases e : p.1 = i
  · rw [if_pos e, sm_at (k := p.2) h fun t ht hne => by unfold at1; rw [if_neg (fun h => hne h.2.symm), Int.zero_mul]]
    unfold at1
    rw [if_pos ⟨e, rfl⟩, Int.one_mul]
  · rw [if_neg e]
    exact (sm_congr fun t ht => by unfold at1; rw [if_neg (fun h => e h.1), Int.zero_mul]).trans (sm_zero B)
theorem at1_row1 {p : Nat × Nat} (h : p.2 < B) (i : Nat) : (sm B fun j => at1 p i j) = if p.1 = i then 1 else 0 := by
  rw [← at1_row (B := B) h (fun _ => 1) i]
  exact sm_congr fun j _ => (Int.mul_one _).symm
theorem at1_col1 {p : Nat × Nat} (h : p.1 < S) (j : Nat) : (sm S fun i => at1 p i j) = if p.2 = j then 1 else 0 := by
  by_cases e : p.2 = j
  · rw [if_pos e, sm_at (k := p.1) h fun t ht hne => by unfold at1; rw [if_neg (fun h => hne h.1.symm)]]
    unfold at1
    rw [if_pos ⟨rfl, e⟩]
  · rw [if_neg e]
    exact (sm_congr fun t ht => by unfold at1; rw [if_neg (fun h => e h.2)]).trans (sm_zero S)
theorem Rnd.row0 (h : Rnd S B n g) (i : Nat) : (sm B fun j => net n g i j) = 0 := by
  obtain ⟨m, rfl⟩ : ∃ m, n = 2 * m := ⟨n / 2, by have := h.even; omega⟩
  unfold net
  rw [sm_swap]
  rw [sm_congr (h := fun t => sgn t * if (g t).1 = i then 1 else 0) fun t ht => by rw [sm_mul, at1_row1 (h.bd t ht).2]]
  exact sm_alt0 (f := fun t => if (g t).1 = i then 1 else 0) fun t ht => by rw [h.a0 t (by omega)]
theorem Rnd.col0 (h : Rnd S B n g) (j : Nat) : (sm S fun i => net n g i j) = 0 := by
  obtain ⟨m, rfl⟩ : ∃ m, n = 2 * (m + 1) := ⟨n / 2 - 1, by have := h.even; have := h.four; omega⟩
  unfold net
  rw [sm_swap]
  rw [sm_congr (h := fun t => sgn t * if (g t).2 = j then 1 else 0) fun t ht => by rw [sm_mul, at1_col1 (h.bd t ht).1]]
  rw [sm_alt1 (f := fun t => if (g t).2 = j then 1 else 0) fun t ht => by rw [h.a1 t (by omega)]]
  have := h.cl
  rw [show 2 * (m + 1) - 1 = 2 * m + 1 by omega] at this
  rw [this]; omega
/-- What is left behind n pairs. -/
def alo (x : Mat) (n : Nat) (g : Nat → Nat × Nat) (a : Int) : Mat := fun i j => x i j + a * net n g i j
theorem net_at (h : ∀ a b, a < b → b < n → g a ≠ g b) {k : Nat} (hk : k < n) : net n g (g k).1 (g k).2 = sgn k := by
  unfold net
  rw [sm_at hk fun t ht hne => ?_]
  · unfold at1; rw [if_pos ⟨rfl, rfl⟩, Int.mul_one]
  · unfold at1
    rw [if_neg, Int.mul_zero]
    intro h2
    have e : g t = g k := Prod.ext h2.1 h2.2
    rcases Nat.lt_or_gt_of_ne hne with h3 | h3
    · exact h t k h3 hk e
    · exact h k t h3 ht e.symm
theorem net_no {i j : Nat} (h : ∀ t, t < n → g t ≠ (i, j)) : net n g i j = 0 := by
  unfold net
  exact (sm_congr fun t ht => by unfold at1; rw [if_neg (fun h2 => h t ht (Prod.ext h2.1 h2.2)), Int.mul_zero]).trans (sm_zero n)
theorem alo_nn (h : Rnd S B n g) {a : Int} (ha : 0 ≤ a) (hx : ∀ i j, i < S → j < B → 0 ≤ x i j) (hm : ∀ m, 2 * m + 1 < n → a ≤ x (g (2 * m + 1)).1 (g (2 * m + 1)).2) {i j : Nat} (hi : i < S) (hj : j < B) : 0 ≤ alo x n g a i j := by
  have h0 := hx i j hi hj
  unfold alo
  by_cases e : ∃ t, t < n ∧ g t = (i, j)
  · obtain ⟨t, ht, e⟩ := e
    have h1 := net_at h.dis ht
    rw [e] at h1
    rw [h1]
    by_cases h2 : t % 2 = 0
    · unfold sgn; rw [if_pos h2]; omega
    · have := hm (t / 2) (by omega)
      rw [show 2 * (t / 2) + 1 = t by omega, e] at this
      unfold sgn; rw [if_neg h2]
      show 0 ≤ x i j + a * -1
      have h3 : a ≤ x i j := this
      omega
  · rw [net_no fun t ht h2 => e ⟨t, ht, h2⟩]; omega
theorem alo_pl (h : Rnd S B n g) (hp : Pl S B s d x) {a : Int} (ha : 0 ≤ a) (hm : ∀ m, 2 * m + 1 < n → a ≤ x (g (2 * m + 1)).1 (g (2 * m + 1)).2) : Pl S B s d (alo x n g a) :=
  ⟨fun i j hi hj => alo_nn h ha hp.nn hm hi hj, fun i hi => by
    unfold alo
    rw [sm_add, sm_mul, h.row0, hp.row i hi]; omega, fun j hj => by
    unfold alo
    rw [sm_add, sm_mul, h.col0, hp.col j hj]; omega⟩
/-- What a round costs, for each ton. -/
def rcst (c : Mat) (n : Nat) (g : Nat → Nat × Nat) : Int := sm n fun t => sgn t * c (g t).1 (g t).2
theorem alo_cst (h : ∀ t, t < n → (g t).1 < S ∧ (g t).2 < B) (a : Int) : cst S B c (alo x n g a) = cst S B c x + a * rcst c n g := by
  have e1 : (sm S fun i => sm B fun j => net n g i j * c i j) = rcst c n g := by
    unfold net rcst
    have e2 : (sm S fun i => sm B fun j => (sm n fun t => sgn t * at1 (g t) i j) * c i j) = sm S fun i => sm n fun t => sgn t * (if (g t).1 = i then c i (g t).2 else 0) := by
      refine sm_congr fun i _ => ?_
      rw [sm_congr (h := fun j => sm n fun t => sgn t * (at1 (g t) i j * c i j)) fun j _ => by rw [← sm_mulr]; exact sm_congr fun t _ => Int.mul_assoc _ _ _, sm_swap]
      refine sm_congr fun t ht => ?_
      rw [sm_mul, at1_row (h t ht).2]
    rw [e2, sm_swap]
    refine sm_congr fun t ht => ?_
    rw [sm_mul, sm_at (k := (g t).1) (h t ht).1 fun i _ hne => if_neg fun h => hne h.symm, if_pos rfl]
  unfold cst alo
  rw [← e1, ← sm_mul, ← sm_add]
  refine sm_congr fun i _ => ?_
  rw [← sm_mul, ← sm_add]
  refine sm_congr fun j _ => ?_
  rw [Int.add_mul, Int.mul_assoc]
/-- As much as possible. -/
def amt (x : Mat) (g : Nat → Nat × Nat) : Nat → Int
  | 0 => 30
  | t + 1 => if t % 2 = 1 then min (amt x g t) (x (g t).1 (g t).2) else amt x g t
theorem amt_le : ∀ (n : Nat) {t : Nat}, t < n → t % 2 = 1 → amt x g n ≤ x (g t).1 (g t).2
  | 0, _, h, _ => absurd h (Nat.not_lt_zero _)
  | n + 1, t, h, h2 => by
    unfold amt
    by_cases e : t = n
    · subst e; rw [if_pos h2]; omega
    · have := amt_le n (t := t) (by omega) h2
      split <;> omega
theorem amt_30 : ∀ n, amt x g n ≤ 30
  | 0 => Int.le_refl _
  | n + 1 => by have := amt_30 n; unfold amt; split <;> omega
theorem amt_lo {k : Int} (hk : k ≤ 30) : ∀ (n : Nat), (∀ t, t < n → t % 2 = 1 → k ≤ x (g t).1 (g t).2) → k ≤ amt x g n
  | 0, _ => hk
  | n + 1, h => by
    have := amt_lo hk n fun t ht => h t (by omega)
    unfold amt
    split
    · have := h n (by omega) (by omega); omega
    · exact this
end Go.Tp
