/- Determinants of lists of rows, along the first row. -/
import Derived.Test.YtkkipbkkijoneaaSs
set_option linter.unusedVariables false
set_option linter.unusedSimpArgs false
namespace Go.Proofs.Ytkkipbkkijoneaa
open Go.Sand

abbrev Row := Nat → Int
def sg (j : Nat) : Int := if j % 2 = 0 then 1 else -1
theorem sg_succ (j : Nat) : sg (j + 1) = - sg j := by unfold sg; split <;> split <;> omega
theorem sg_zero : sg 0 = 1 := rfl
def sk (j b : Nat) : Nat := if b < j then b else b + 1
def del (j : Nat) (r : Row) : Row := fun b => r (sk j b)
/-- The determinant of k rows (of their first k columns). -/
def dt : Nat → List Row → Int
  | 0, _ => 1
  | _ + 1, [] => 0
  | k + 1, r :: rs => sm (k + 1) fun j => sg j * r j * dt k (rs.map (del j))
theorem dt_cons (k : Nat) (r : Row) (rs : List Row) : dt (k + 1) (r :: rs) = sm (k + 1) fun j => sg j * r j * dt k (rs.map (del j)) := rfl
def lin (a b : Int) (u v : Row) : Row := fun q => a * u q + b * v q
theorem dt_lin (a b : Int) : ∀ (l1 : List Row) (k : Nat) (u v : Row) (l2 : List Row), k = l1.length + 1 + l2.length →
    dt k (l1 ++ lin a b u v :: l2) = a * dt k (l1 ++ u :: l2) + b * dt k (l1 ++ v :: l2)
  | [], k, u, v, l2, h => by
    obtain ⟨k, rfl⟩ : ∃ m, k = m + 1 := ⟨k - 1, by simp at h; omega⟩
    simp only [List.nil_append, dt_cons]
    rw [← sm_mul, ← sm_mul, ← sm_add]
    exact sm_congr fun j _ => by unfold lin; grind
  | r :: l1, k, u, v, l2, h => by
    obtain ⟨k, rfl⟩ : ∃ m, k = m + 1 := ⟨k - 1, by simp at h; omega⟩
    simp only [List.cons_append, dt_cons]
    rw [← sm_mul, ← sm_mul, ← sm_add]
    refine sm_congr fun j _ => ?_
    have ih := dt_lin a b (l1.map (del j)) k (del j u) (del j v) (l2.map (del j)) (by simp only [List.length_map, List.length_cons] at h ⊢; omega)
    simp only [List.map_append, List.map_cons]
    rw [show del j (lin a b u v) = lin a b (del j u) (del j v) from rfl, ih]
    grind
/-- Only the first entry of the first row. -/
theorem dt_one {k : Nat} {r : Row} {rs : List Row} (h : ∀ j, 0 < j → j < k + 1 → r j = 0) : dt (k + 1) (r :: rs) = r 0 * dt k (rs.map (del 0)) := by
  rw [dt_cons]
  have : ∀ n, n ≤ k + 1 → 0 < n → sm n (fun j => sg j * r j * dt k (rs.map (del j))) = r 0 * dt k (rs.map (del 0)) := by
    intro n
    induction n with
    | zero => intro _ h0; omega
    | succ n ih =>
      intro hn _
      show sm n _ + _ = _
      by_cases h0 : n = 0
      · subst h0
        show (0 : Int) + sg 0 * r 0 * _ = _
        rw [sg_zero]; grind
      · rw [ih (by omega) (by omega)]
        show r 0 * _ + sg n * r n * _ = _
        rw [h n (by omega) (by omega)]
        simp
  exact this (k + 1) (Nat.le_refl _) (by omega)
theorem sm_neg {f : Nat → Int} (n : Nat) : sm n (fun i => - f i) = - sm n f := by
  have := sm_mul (f := f) (-1) n
  rw [show (fun i => - f i) = fun i => -1 * f i from funext fun i => by omega, this]
  omega
theorem sm_comm (f : Nat → Nat → Int) (m : Nat) : ∀ n, sm n (fun i => sm m fun j => f i j) = sm m (fun j => sm n fun i => f i j)
  | 0 => by
    show (0 : Int) = sm m fun j => 0
    rw [sm_zero]
  | n + 1 => by
    show sm n _ + sm m (fun j => f n j) = sm m fun j => sm n (fun i => f i j) + f n j
    rw [sm_add, sm_comm f m n]
/-- A sum over all but one. -/
theorem sm_skip (h : Nat → Int) (j : Nat) : ∀ n, j ≤ n → sm n (fun l => h (sk j l)) = sm (n + 1) (fun m => if m = j then 0 else h m)
  | 0, hj => by
    obtain rfl : j = 0 := by omega
    rfl
  | n + 1, hj => by
    by_cases e : j = n + 1
    · subst e
      show sm (n + 1) (fun l => h (sk (n + 1) l)) = sm (n + 1) (fun m => if m = n + 1 then 0 else h m) + (if n + 1 = n + 1 then 0 else h (n + 1))
      rw [if_pos rfl, Int.add_zero]
      exact sm_congr fun i hi => by unfold sk; rw [if_pos hi, if_neg (by omega)]
    · show sm n (fun l => h (sk j l)) + h (sk j n) = sm (n + 1) (fun m => if m = j then 0 else h m) + (if n + 1 = j then 0 else h (n + 1))
      rw [sm_skip h j n (by omega), if_neg (by omega), show sk j n = n + 1 by unfold sk; rw [if_neg (by omega)]]
theorem del_del {j m : Nat} (h : j < m) (r : Row) : del (m - 1) (del j r) = del j (del m r) := by
  funext b
  show r (sk j (sk (m - 1) b)) = r (sk m (sk j b))
  congr 1
  unfold sk
  repeat' split
  all_goals omega
theorem sg_pred {m : Nat} (h : 0 < m) : sg (m - 1) = - sg m := by
  obtain ⟨k, rfl⟩ : ∃ k, m = k + 1 := ⟨m - 1, by omega⟩
  rw [Nat.add_sub_cancel, sg_succ, Int.neg_neg]
/-- The two first rows are equal. -/
theorem dt_two (k : Nat) (r : Row) (rs : List Row) : dt (k + 2) (r :: r :: rs) = 0 := by
  have e1 : dt (k + 2) (r :: r :: rs) = sm (k + 2) fun j => sm (k + 2) fun m => if m = j then 0 else if j < m then - (sg j * sg m * (r j * r m) * dt k ((rs.map (del m)).map (del j))) else sg j * sg m * (r j * r m) * dt k ((rs.map (del j)).map (del m)) := by
    rw [dt_cons]
    refine sm_congr fun j hj => ?_
    rw [List.map_cons, dt_cons, ← sm_mul]
    rw [← sm_skip (fun m => if j < m then - (sg j * sg m * (r j * r m) * dt k ((rs.map (del m)).map (del j))) else sg j * sg m * (r j * r m) * dt k ((rs.map (del j)).map (del m))) j (k + 1) (by omega)]
    refine sm_congr fun l hl => ?_
    by_cases hlj : l < j
    · have e : sk j l = l := if_pos hlj
      simp only [e]
      rw [if_neg (by omega)]
      show sg j * r j * (sg l * r (sk j l) * _) = _
      rw [e]; grind
    · have e : sk j l = l + 1 := if_neg hlj
      simp only [e]
      rw [if_pos (by omega)]
      show sg j * r j * (sg l * r (sk j l) * dt k ((rs.map (del j)).map (del l))) = _
      have e2 : (rs.map (del j)).map (del l) = (rs.map (del (l + 1))).map (del j) := by
        rw [List.map_map, List.map_map]
        exact List.map_congr_left fun x _ => del_del (j := j) (m := l + 1) (by omega) x
      rw [e, e2, sg_succ]; grind
  have e2 : dt (k + 2) (r :: r :: rs) = - dt (k + 2) (r :: r :: rs) := by
    rw [e1]
    conv => lhs; rw [sm_comm]
    rw [← sm_neg]
    refine sm_congr fun j hj => ?_
    rw [← sm_neg]
    refine sm_congr fun m hm => ?_
    by_cases h1 : m = j
    · subst h1; simp
    · rw [if_neg h1, if_neg (fun h => h1 h.symm)]
      by_cases h2 : j < m
      · rw [if_pos h2, if_neg (by omega)]; grind
      · rw [if_neg h2, if_pos (by omega)]; grind
  omega
theorem dt_adj : ∀ (l1 : List Row) (k : Nat) (r : Row) (l2 : List Row), k = l1.length + 2 + l2.length → dt k (l1 ++ r :: r :: l2) = 0
  | [], k, r, l2, h => by
    obtain ⟨k, rfl⟩ : ∃ m, k = m + 2 := ⟨k - 2, by simp at h; omega⟩
    exact dt_two k r l2
  | x :: l1, k, r, l2, h => by
    obtain ⟨k, rfl⟩ : ∃ m, k = m + 1 := ⟨k - 1, by simp at h; omega⟩
    rw [List.cons_append, dt_cons, sm_congr (h := fun _ => 0) fun j _ => ?_, sm_zero]
    simp only [List.map_append, List.map_cons]
    rw [dt_adj (l1.map (del j)) k (del j r) (l2.map (del j)) (by simp only [List.length_map, List.length_cons] at h ⊢; omega)]
    simp
theorem dt_swap (l1 : List Row) (k : Nat) (u v : Row) (l2 : List Row) (h : k = l1.length + 2 + l2.length) : dt k (l1 ++ u :: v :: l2) = - dt k (l1 ++ v :: u :: l2) := by
  have h0 := dt_adj l1 k (lin 1 1 u v) l2 h
  rw [dt_lin 1 1 l1 k u v _ (by simp; omega)] at h0
  have h1 := dt_lin 1 1 (l1 ++ [u]) k u v l2 (by simp; omega)
  have h2 := dt_lin 1 1 (l1 ++ [v]) k u v l2 (by simp; omega)
  simp only [List.append_assoc, List.singleton_append] at h1 h2
  rw [h1, h2, dt_adj l1 k u l2 h, dt_adj l1 k v l2 h] at h0
  omega
theorem dt_perm {l l' : List Row} (hp : List.Perm l l') : ∀ (l1 : List Row) (k : Nat), k = l1.length + l.length → (dt k (l1 ++ l) = 0 ↔ dt k (l1 ++ l') = 0) := by
  induction hp with
  | nil => intro l1 k _; exact Iff.rfl
  | cons x hp ih =>
    intro l1 k h
    have := ih (l1 ++ [x]) k (by simp at h ⊢; omega)
    simpa using this
  | swap x y l =>
    intro l1 k h
    rw [dt_swap l1 k y x l (by simp at h; omega)]
    omega
  | trans h1 h2 ih1 ih2 =>
    intro l1 k h
    rw [ih1 l1 k h, ih2 l1 k (by rw [← h1.length_eq]; exact h)]
theorem dt_rep : ∀ (l2 l1 : List Row) (k : Nat) (r : Row) (l3 : List Row), k = l1.length + (l2.length + (2 + l3.length)) → dt k (l1 ++ r :: (l2 ++ r :: l3)) = 0
  | [], l1, k, r, l3, h => dt_adj l1 k r l3 (by simp at h; omega)
  | x :: l2, l1, k, r, l3, h => by
    rw [List.cons_append, dt_swap l1 k r x _ (by simp at h ⊢; omega)]
    have := dt_rep l2 (l1 ++ [x]) k r l3 (by simp at h ⊢; omega)
    simp only [List.append_assoc, List.singleton_append] at this
    rw [this]; rfl
theorem dt_mem {k : Nat} {r : Row} {rs : List Row} (h : r ∈ rs) (hk : k = rs.length + 1) : dt k (r :: rs) = 0 := by
  obtain ⟨a, b, rfl⟩ := List.append_of_mem h
  exact dt_rep a [] k r b (by simp at hk ⊢; omega)
end Go.Proofs.Ytkkipbkkijoneaa
