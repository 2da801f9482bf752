/- A proof that reaches the bound: what a way of passes changes, and that at the end nothing is left but a hollow's worth. Plain mathematics. -/
import Derived.Test.YtfgjojoipbbacaaQDY
set_option linter.unusedVariables false
set_option linter.unusedSimpArgs false
namespace Go.Proofs.Ytfgjojoipbbacaa
open Go.Sx Go.RowKit

abbrev Wt (m : List (List Int)) (c j : Nat) : Int := (m.getD c []).getD j 0
theorem addAt_wt (m : List (List Int)) (c j : Nat) (v : Int) (hc : c < m.length) (hj : j < (m.getD c []).length) (c2 j2 : Nat) : Wt (addAt m c j v) c2 j2 = Wt m c2 j2 + if c = c2 ∧ j = j2 then v else 0 := by
  unfold Wt
  by_cases e : c = c2
  · subst e
    have e1 : (addAt m c j v).getD c [] = (m.getD c []).set j ((m.getD c []).getD j 0 + v) := by unfold addAt; simp [List.getD, hc]
    rw [e1]
    generalize m.getD c [] = r at hj ⊢
    by_cases e2 : j = j2
    · subst e2
      rw [if_pos ⟨rfl, rfl⟩]
      generalize r.getD j 0 + v = y
      simp [List.getD, hj]
    · rw [if_neg (fun h => e2 h.2), Int.add_zero]
      generalize r.getD j 0 + v = y
      simp [List.getD, List.getElem?_set, e2]
  · rw [if_neg (fun h => e h.1), Int.add_zero]
    have e1 : (addAt m c j v).getD c2 [] = m.getD c2 [] := by unfold addAt; simp [List.getD, List.getElem?_set, e]
    rw [e1]
/-- Sums of something of each cell. -/
def sumG (g : Int → Int) (m : List (List Int)) : Int := (m.map fun r => (r.map g).sum).sum
theorem sum_set (g : Int → Int) : ∀ (r : List Int) (j : Nat) (y : Int), j < r.length → ((r.set j y).map g).sum = (r.map g).sum + g y - g (r.getD j 0)
  | [], _, _, h => absurd h (Nat.not_lt_zero _)
  | x :: r, 0, y, _ => by simp; omega
  | x :: r, j + 1, y, h => by
    have ih := sum_set g r j y (by simpa using h)
    simp only [List.set_cons_succ, List.map_cons, List.sum_cons, List.getD_cons_succ] at ih ⊢
    omega
theorem sumG_add (g : Int → Int) : ∀ (m : List (List Int)) (c j : Nat) (v : Int), c < m.length → j < (m.getD c []).length → sumG g (addAt m c j v) = sumG g m + g (Wt m c j + v) - g (Wt m c j)
  | [], _, _, _, h, _ => absurd h (Nat.not_lt_zero _)
  | r :: m, 0, j, v, _, hj => by
    have h := sum_set g r j (r.getD j 0 + v) (by simpa using hj)
    simp only [addAt, Wt, sumG, List.getD_cons_zero, List.set_cons_zero, List.map_cons, List.sum_cons] at h ⊢
    omega
  | r :: m, c + 1, j, v, h, hj => by
    have ih := sumG_add g m c j v (by simpa using h) (by simpa using hj)
    simp only [addAt, Wt, sumG, List.getD_cons_succ, List.set_cons_succ, List.map_cons, List.sum_cons] at ih ⊢
    omega
def absV (x : Int) : Int := max x (-x)
abbrev absS (m : List (List Int)) : Int := sumG absV m
theorem row_ge : ∀ (r : List Int) (j : Nat), 0 ≤ (r.map absV).sum ∧ absV (r.getD j 0) ≤ (r.map absV).sum
  | [], j => by simp [absV]
  | x :: r, 0 => by
    have ih := row_ge r 0
    simp only [List.map_cons, List.sum_cons, List.getD_cons_zero]
    have : 0 ≤ absV x := by unfold absV; omega
    omega
  | x :: r, j + 1 => by
    have ih := row_ge r j
    simp only [List.map_cons, List.sum_cons, List.getD_cons_succ]
    have : 0 ≤ absV x := by unfold absV; omega
    omega
theorem abs_ge : ∀ (m : List (List Int)) (c j : Nat), 0 ≤ absS m ∧ absV (Wt m c j) ≤ absS m
  | [], c, j => by simp [absS, sumG, absV, Wt]
  | r :: m, 0, j => by
    have h1 := row_ge r j
    have ih := abs_ge m 0 j
    simp only [absS, sumG, Wt, List.map_cons, List.sum_cons, List.getD_cons_zero] at ih ⊢
    omega
  | r :: m, c + 1, j => by
    have h1 := row_ge r j
    have ih := abs_ge m c j
    simp only [absS, sumG, Wt, List.map_cons, List.sum_cons, List.getD_cons_succ] at ih ⊢
    omega
theorem rowA_le {B : Int} : ∀ (r : List Int), (∀ j, absV (r.getD j 0) ≤ B) → (r.map absV).sum ≤ B * r.length
  | [], _ => by simp
  | x :: r, h => by
    have h0 := h 0
    have ih := rowA_le r fun j => h (j + 1)
    simp only [List.map_cons, List.sum_cons, List.length_cons, List.getD_cons_zero] at h0 ⊢
    have e : B * ((r.length + 1 : Nat) : Int) = B * r.length + B := by push_cast; rw [Int.mul_add, Int.mul_one]
    omega
theorem abs_le {B : Int} {D : Nat} (hB : 0 ≤ B) : ∀ (m : List (List Int)), (∀ k, k < m.length → (m.getD k []).length ≤ D) → (∀ c j, absV (Wt m c j) ≤ B) → absS m ≤ B * D * m.length
  | [], _, _ => by simp [absS, sumG]
  | r :: m, hl, h => by
    have h0 := rowA_le r fun j => h 0 j
    have hl0 := hl 0 (by simp)
    have ih := abs_le hB m (fun k hk => hl (k + 1) (by simpa using hk)) fun c j => h (c + 1) j
    simp only [absS, sumG, List.map_cons, List.sum_cons, List.length_cons, List.getD_cons_zero] at hl0 ih ⊢
    have e : B * D * ((m.length + 1 : Nat) : Int) = B * D * m.length + B * D := by push_cast; rw [Int.mul_add, Int.mul_one]
    have h1 : B * (r.length : Int) ≤ B * (D : Int) := Int.mul_le_mul_of_nonneg_left (by omega) hB
    omega
theorem abs_VB {ls : List (List Int)} (hv : VB ls) : absS ls ≤ 1200 := by
  have h1 := abs_le (B := 50) (D := 4) (by decide) ls (fun k hk => by rw [hv.c k hk]; exact hv.d.2) fun c j => by
    have := hv.w c j
    unfold absV Wt; omega
  have := hv.n
  omega

/-- What a pass changes at a block. -/
def ef1 (q : Ps) (c j : Nat) : Int := (if q.t.toNat = c ∧ (q.h - 1).toNat = j then q.a else 0) - (if q.c.toNat = c ∧ q.h.toNat = j then q.a else 0)
def eff : List Ps → Nat → Nat → Int
  | [], _, _ => 0
  | q :: l, c, j => ef1 q c j + eff l c j
abbrev BX := Nat → Nat → Bool
abbrev loX (X : BX) (q : Ps) : Bool := X q.c.toNat q.h.toNat
abbrev upX (X : BX) (q : Ps) : Bool := X q.t.toNat (q.h - 1).toNat
/-- No way leads out. -/
def CLX (ps : List Ps) (X : BX) : Prop := ∀ q ∈ ps, (loX X q = true → upX X q = true) ∧ (upX X q = true → 0 < q.a → loX X q = true)
def NNX (n D : Nat) (m : List (List Int)) (X : BX) : Prop := ∀ c j, c < n → j < D → X c j = true → 0 ≤ Wt m c j
def atB (q : Ps) (c j : Nat) : Prop := q.c.toNat = c ∧ q.h.toNat = j
def atA (q : Ps) (c j : Nat) : Prop := q.t.toNat = c ∧ (q.h - 1).toNat = j
/-- The same pass, but for the amount. -/
def sameP (a b : Ps) : Prop := a.c = b.c ∧ a.h = b.h ∧ a.t = b.t
theorem eff_set : ∀ {ps : List Ps} {k : Nat} {q : Ps} (hk : k < ps.length) (c j : Nat), eff (ps.set k q) c j = eff ps c j + ef1 q c j - ef1 (ps.getD k default) c j
  | [], _, _, h, _, _ => absurd h (Nat.not_lt_zero _)
  | x :: l, 0, q, _, c, j => by simp [eff]; omega
  | x :: l, k + 1, q, h, c, j => by
    have ih := eff_set (ps := l) (k := k) (q := q) (by simpa using h) c j
    simp only [List.set_cons_succ, eff, List.getD_cons_succ] at ih ⊢
    omega
/-- What a way that brings something changes. -/
structure PSent (n D : Nat) (c0 j0 : Nat) (s : Int) (seen : BX) (ps : List Ps) (m : List (List Int)) (ps' : List Ps) (m' : List (List Int)) : Prop where
  sink : ∃ c j, c < n ∧ j < D ∧ Wt m c j < 0 ∧ Wt m c j + s ≤ 0 ∧ m' = addAt m c j s ∧ ∀ c2 j2, eff ps' c2 j2 = eff ps c2 j2 + (if c = c2 ∧ j = j2 then s else 0) - (if c0 = c2 ∧ j0 = j2 then s else 0)
  len : ps'.length = ps.length
  same : ∀ k, sameP (ps'.getD k default) (ps.getD k default)
  amt : ∀ k, k < ps.length → 0 ≤ (ps'.getD k default).a ∧ (ps'.getD k default).a ≤ (ps.getD k default).a + s
  keep : ∀ k, k < ps.length → (loX seen (ps.getD k default) = true ∨ upX seen (ps.getD k default) = true) → ps'.getD k default = ps.getD k default
  cl : ∀ X, CLX ps X → NNX n D m X → X c0 j0 = false ∧ CLX ps' X ∧ NNX n D m' X
theorem PSent.base {n D c0 j0 : Nat} {s : Int} {seen : BX} {ps : List Ps} {m : List (List Int)} (hl : m.length = n) (hr : ∀ k, k < n → (m.getD k []).length = D) (hc : c0 < n) (hj : j0 < D) (h0 : 0 < s) (hs : Wt m c0 j0 + s ≤ 0) (ha : ∀ k, k < ps.length → 0 ≤ (ps.getD k default).a) :
    PSent n D c0 j0 s seen ps m ps (addAt m c0 j0 s) := by
  have hw := addAt_wt m c0 j0 s (by omega) (by rw [hr _ hc]; exact hj)
  refine ⟨⟨c0, j0, hc, hj, by omega, hs, rfl, fun c2 j2 => by split <;> omega⟩, rfl, fun k => ⟨rfl, rfl, rfl⟩, fun k hk => ⟨ha k hk, by omega⟩, fun _ _ _ => rfl, fun X hX hN => ?_⟩
  refine ⟨?_, hX, fun c j hc2 hj2 hx => ?_⟩
  · cases h : X c0 j0 with
    | false => rfl
    | true => have := hN c0 j0 hc hj h; omega
  · rw [hw]
    have := hN c j hc2 hj2 hx
    split
    · rename_i e
      obtain ⟨rfl, rfl⟩ := e
      omega
    · omega
theorem getD_mem' {ps : List Ps} {k : Nat} (hk : k < ps.length) : ps.getD k default ∈ ps := by simp [List.getD, hk]
theorem setP_at {ps : List Ps} {k : Nat} {q : Ps} (hk : k < ps.length) (i : Nat) : (ps.set k q).getD i default = if i = k then q else ps.getD i default := by
  by_cases e : i = k
  · subst e; simp [List.getD, hk]
  · rw [if_neg e]; simp [List.getD, List.getElem?_set, Ne.symm e]
theorem mem_at {ps : List Ps} {q : Ps} (h : q ∈ ps) : ∃ k, k < ps.length ∧ ps.getD k default = q := by
  obtain ⟨k, hk, e⟩ := List.getElem_of_mem h
  exact ⟨k, hk, by simp [List.getD, hk, e]⟩
/-- One more step at the way's beginning: up, by passing more (d = s), or down, by passing less (d = -s). -/
theorem PSent.step {n D c0 j0 c1 j1 k : Nat} {s d : Int} {seen seen1 : BX} {ps ps1 : List Ps} {m m1 : List (List Int)} (h : PSent n D c1 j1 s seen1 ps m ps1 m1) (hk : k < ps.length) (h0 : 0 < s)
    (hsub : ∀ c j, seen c j = true → seen1 c j = true) (hf : seen1 c0 j0 = true) (hu : seen c0 j0 = false) (hv : seen c1 j1 = false)
    (hd : (atB (ps.getD k default) c0 j0 ∧ atA (ps.getD k default) c1 j1 ∧ d = s) ∨ (atA (ps.getD k default) c0 j0 ∧ atB (ps.getD k default) c1 j1 ∧ d = -s ∧ s ≤ (ps.getD k default).a)) (ha0 : 0 ≤ (ps.getD k default).a) :
    PSent n D c0 j0 s seen ps m (ps1.set k { ps1.getD k default with a := (ps1.getD k default).a + d }) m1 := by
  have hk1 : k < ps1.length := by rw [h.len]; exact hk
  have e1 : ps1.getD k default = ps.getD k default := h.keep k hk (by
    unfold loX upX
    rcases hd with ⟨⟨rfl, rfl⟩, _⟩ | ⟨⟨rfl, rfl⟩, _⟩
    · exact .inl hf
    · exact .inr hf)
  have hat := fun i => setP_at (q := { ps1.getD k default with a := (ps1.getD k default).a + d }) hk1 i
  refine ⟨?_, by rw [List.length_set]; exact h.len, fun i => ?_, fun i hi => ?_, fun i hi hs => ?_, fun X hX hN => ?_⟩
  · obtain ⟨c, j, h1, h2, h3, h4, h5, h6⟩ := h.sink
    refine ⟨c, j, h1, h2, h3, h4, h5, fun c2 j2 => ?_⟩
    rw [eff_set hk1, h6, e1]
    unfold ef1
    simp only
    rcases hd with ⟨⟨b1, b2⟩, ⟨a1, a2⟩, rfl⟩ | ⟨⟨a1, a2⟩, ⟨b1, b2⟩, rfl, _⟩ <;> subst a1 <;> subst a2 <;> subst b1 <;> subst b2 <;> (repeat' split) <;> omega
  · rw [hat]
    split
    · rename_i e; subst e; exact ⟨(h.same i).1, (h.same i).2.1, (h.same i).2.2⟩
    · exact h.same i
  · rw [hat]
    have h1 := h.amt i hi
    split
    · rename_i e; subst e
      rw [e1] at h1 ⊢
      rcases hd with ⟨_, _, rfl⟩ | ⟨_, _, rfl, h9⟩ <;> simp only <;> omega
    · exact h1
  · rw [hat]
    split
    · rename_i e; subst e
      exfalso
      unfold loX upX at hs
      rcases hd with ⟨⟨rfl, rfl⟩, ⟨rfl, rfl⟩, _⟩ | ⟨⟨rfl, rfl⟩, ⟨rfl, rfl⟩, _⟩
      · rcases hs with hs | hs
        · rw [hs] at hu; cases hu
        · rw [hs] at hv; cases hv
      · rcases hs with hs | hs
        · rw [hs] at hv; cases hv
        · rw [hs] at hu; cases hu
    · exact h.keep i hi (hs.imp (hsub _ _) (hsub _ _))
  · obtain ⟨h1, h2, h3⟩ := h.cl X hX hN
    have hq := hX _ (getD_mem' hk)
    have hx0 : X c0 j0 = false := by
      cases e : X c0 j0 with
      | false => rfl
      | true =>
        exfalso
        unfold loX upX at hq
        rcases hd with ⟨⟨rfl, rfl⟩, ⟨rfl, rfl⟩, _⟩ | ⟨⟨rfl, rfl⟩, ⟨rfl, rfl⟩, _, h9⟩
        · rw [hq.1 e] at h1; cases h1
        · rw [hq.2 e (by omega)] at h1; cases h1
    refine ⟨hx0, fun q hm => ?_, h3⟩
    obtain ⟨i, hi, rfl⟩ := mem_at hm
    rw [List.length_set] at hi
    rw [hat]
    split
    · rename_i e; subst e
      rw [e1]
      unfold loX upX
      simp only
      rcases hd with ⟨⟨rfl, rfl⟩, ⟨rfl, rfl⟩, _⟩ | ⟨⟨rfl, rfl⟩, ⟨rfl, rfl⟩, _⟩
      · exact ⟨fun h9 => (by rw [hx0] at h9; cases h9), fun h9 => (by rw [h1] at h9; cases h9)⟩
      · exact ⟨fun h9 => (by rw [h1] at h9; cases h9), fun h9 => (by rw [hx0] at h9; cases h9)⟩
    · exact h2 _ (getD_mem' hi)
end Go.Proofs.Ytfgjojoipbbacaa
