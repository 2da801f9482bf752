/- Proofs of a bound: what passes do, and that no hollow is worth more than what is left above nothing. Plain mathematics. -/
import Derived.Test.YtfgjojoipbbacaaQMN
import Derived.Test.YtfgjojoipbbacaaQSk
set_option linter.unusedVariables false
set_option linter.unusedSimpArgs false
namespace Go.Proofs.Ytfgjojoipbbacaa
open Go.Sx Go.RowKit

structure Ps where
  c : Int
  h : Int
  t : Int
  a : Int
  deriving Inhabited
def rP : Rec Ps where
  cells := fun r => [.int .i64 r.c, .int .i64 r.h, .int .i64 r.t, .int .i64 r.a]
  sz := 4
  len := fun _ => rfl
  one := fun r v hv => by simp at hv; rcases hv with rfl | rfl | rfl | rfl <;> rfl
  pos := by decide
/-- A pass, by the document. -/
def psB (ls : List (List Int)) (q : Ps) : Bool := decide ((0 ≤ q.c ∧ q.c < ls.length) ∧ (1 ≤ q.h ∧ q.h < dep ls) ∧ (0 ≤ q.t ∧ q.t < ls.length) ∧ q.c - 1 ≤ q.t ∧ q.t ≤ q.c + 1)
def amB (q : Ps) : Bool := decide (1 ≤ q.a ∧ q.a ≤ 1000)
def prE (ls : List (List Int)) : List Ps → Int
  | [] => 0
  | q :: r => if psB ls q = true then if amB q = true then prE ls r else 1 else 4
def prI (ls : List (List Int)) (ps : List Ps) : Int := if validI ls ≠ 0 then validI ls else if 60 < ps.length then 3 else prE ls ps
theorem prE_all {ls : List (List Int)} : ∀ {ps : List Ps}, prE ls ps = 0 → ∀ q ∈ ps, psB ls q = true ∧ amB q = true
  | [], _, q, hq => by cases hq
  | p :: r, h, q, hq => by
    unfold prE at h
    by_cases h1 : psB ls p = true
    · rw [if_pos h1] at h
      by_cases h2 : amB p = true
      · rw [if_pos h2] at h
        rcases List.mem_cons.1 hq with rfl | hq
        · exact ⟨h1, h2⟩
        · exact prE_all h q hq
      · rw [if_neg h2] at h; cases h
    · rw [if_neg h1] at h; cases h
def addAt (m : List (List Int)) (c j : Nat) (v : Int) : List (List Int) := m.set c ((m.getD c []).set j ((m.getD c []).getD j 0 + v))
def sendP (m : List (List Int)) (q : Ps) : List (List Int) := addAt (addAt m q.c.toNat q.h.toNat (-q.a)) q.t.toNat (q.h - 1).toNat q.a
def posR (r : List Int) : Int := (r.map fun x => max x 0).sum
def posS (m : List (List Int)) : Int := (m.map posR).sum
def prV (ls : List (List Int)) (ps : List Ps) : Int := if prI ls ps = 0 then posS (ps.foldl sendP ls) else 0
/-- What lies in a hollow. -/
def hoS : List (List Int) → List Int → Int
  | [], _ => 0
  | r :: m, xs => (r.take (xs.getD 0 0).toNat).sum + hoS m xs.tail
theorem take_pos : ∀ (r : List Int) (k : Nat), (r.take k).sum ≤ posR r
  | [], k => by simp [posR]
  | x :: r, 0 => by
    have h := take_pos r 0
    simp only [List.take_zero, List.sum_nil, posR, List.map_cons, List.sum_cons] at h ⊢
    omega
  | x :: r, k + 1 => by
    have h := take_pos r k
    simp only [List.take_succ_cons, List.sum_cons, posR, List.map_cons] at h ⊢
    omega
theorem hoS_pos : ∀ (m : List (List Int)) (xs : List Int), hoS m xs ≤ posS m
  | [], xs => by simp [hoS, posS]
  | r :: m, xs => by
    have h1 := take_pos r (xs.getD 0 0).toNat
    have h2 := hoS_pos m xs.tail
    simp only [hoS, posS, List.map_cons, List.sum_cons] at h2 ⊢
    omega
theorem take_add : ∀ (r : List Int) (j k : Nat) (v : Int), j < r.length → ((r.set j (r.getD j 0 + v)).take k).sum = (r.take k).sum + if j < k then v else 0
  | [], j, k, v, h => by simp at h
  | x :: r, 0, 0, v, _ => by simp
  | x :: r, 0, k + 1, v, _ => by
    simp only [List.set_cons_zero, List.getD_cons_zero, List.take_succ_cons, List.sum_cons, Nat.zero_lt_succ, if_true]
    omega
  | x :: r, j + 1, 0, v, _ => by simp
  | x :: r, j + 1, k + 1, v, h => by
    have ih := take_add r j k v (by simpa using h)
    simp only [List.set_cons_succ, List.getD_cons_succ, List.take_succ_cons, List.sum_cons, Nat.add_lt_add_iff_right] at ih ⊢
    omega
theorem hoS_add : ∀ (m : List (List Int)) (xs : List Int) (c j : Nat) (v : Int), c < m.length → j < (m.getD c []).length → hoS (addAt m c j v) xs = hoS m xs + if j < (xs.getD c 0).toNat then v else 0
  | [], _, _, _, _, h, _ => by simp at h
  | r :: m, xs, 0, j, v, _, hj => by
    have h := take_add r j (xs.getD 0 0).toNat v (by simpa using hj)
    simp only [addAt, List.getD_cons_zero, List.set_cons_zero, hoS] at h ⊢
    omega
  | r :: m, xs, c + 1, j, v, h, hj => by
    have ih := hoS_add m xs.tail c j v (by simpa using h) (by simpa using hj)
    have e : xs.tail.getD c 0 = xs.getD (c + 1) 0 := by cases xs <;> simp
    rw [e] at ih
    simp only [addAt, List.getD_cons_succ, List.set_cons_succ, hoS] at ih ⊢
    omega
theorem addAt_len (m : List (List Int)) (c j : Nat) (v : Int) : (addAt m c j v).length = m.length := by simp [addAt]
theorem addAt_row (m : List (List Int)) (c j k : Nat) (v : Int) : ((addAt m c j v).getD k []).length = (m.getD k []).length := by
  unfold addAt
  by_cases h : k < m.length
  · by_cases e : c = k
    · subst e; simp [List.getD, h]
    · simp [List.getD, List.getElem?_set, e]
  · simp [List.getD, h]
/-- A pass takes nothing out of a hollow whose sides hold. -/
theorem send_ho {ls m : List (List Int)} {xs : List Int} {q : Ps} (hl : m.length = ls.length) (hr : ∀ k, k < ls.length → (m.getD k []).length = dep ls) (hq : psB ls q = true) (ha : amB q = true)
    (hs : ∀ c t : Nat, c < ls.length → t < ls.length → c ≤ t + 1 → t ≤ c + 1 → xs.getD c 0 ≤ xs.getD t 0 + 1) : hoS m xs ≤ hoS (sendP m q) xs := by
  have h := of_decide_eq_true hq
  have h2 := of_decide_eq_true ha
  unfold sendP
  rw [hoS_add _ _ _ _ _ (by rw [addAt_len]; omega) (by rw [addAt_row, hr _ (by omega)]; omega), hoS_add _ _ _ _ _ (by omega) (by rw [hr _ (by omega)]; omega)]
  have h3 := hs q.c.toNat q.t.toNat (by omega) (by omega) (by omega) (by omega)
  split <;> split <;> omega
theorem send_all {ls : List (List Int)} {xs : List Int} (hs : ∀ c t : Nat, c < ls.length → t < ls.length → c ≤ t + 1 → t ≤ c + 1 → xs.getD c 0 ≤ xs.getD t 0 + 1) : ∀ (ps : List Ps) (m : List (List Int)), m.length = ls.length → (∀ k, k < ls.length → (m.getD k []).length = dep ls) → (∀ q ∈ ps, psB ls q = true ∧ amB q = true) → hoS m xs ≤ hoS (ps.foldl sendP m) xs
  | [], m, _, _, _ => Int.le_refl _
  | q :: ps, m, hl, hr, ha => by
    have h1 := send_ho hl hr (ha q (.head _)).1 (ha q (.head _)).2 hs
    refine Int.le_trans h1 (send_all hs ps (sendP m q) ?_ ?_ fun p hp => ha p (.tail _ hp))
    · unfold sendP; rw [addAt_len, addAt_len]; exact hl
    · intro k hk; unfold sendP; rw [addAt_row, addAt_row]; exact hr k hk
/-- No hollow whose sides hold is worth more than a proof says. -/
theorem proof_bounds {ls : List (List Int)} {ps : List Ps} {xs : List Int} (h : prI ls ps = 0) (hs : ∀ c t : Nat, c < ls.length → t < ls.length → c ≤ t + 1 → t ≤ c + 1 → xs.getD c 0 ≤ xs.getD t 0 + 1) : hoS ls xs ≤ prV ls ps := by
  have hv : ¬ validI ls ≠ 0 := by
    intro h1
    unfold prI at h
    rw [if_pos h1] at h
    exact h1 h
  have h60 : ¬ 60 < ps.length := by
    intro h1
    unfold prI at h
    rw [if_neg hv, if_pos h1] at h
    cases h
  have he : prE ls ps = 0 := by
    unfold prI at h
    rwa [if_neg hv, if_neg h60] at h
  have hb := vb_of hv
  unfold prV
  rw [if_pos h]
  exact Int.le_trans (send_all hs ps ls rfl (fun k hk => hb.c k hk) (prE_all he)) (hoS_pos _ _)
/-- The map of the blocks, column by column: as far as it has come. -/
def keyI (D i : Nat) : List Int := [((i / D : Nat) : Int), ((i % D : Nat) : Int)]
def entK (D : Nat) (m : List (List Int)) (k : Nat) : List Ent := (List.range k).map fun i => (keyI D i, (m.getD (i / D) []).getD (i % D) 0)
theorem entK_len (D : Nat) (m : List (List Int)) (k : Nat) : (entK D m k).length = k := by simp [entK]
theorem entK_two {D : Nat} {m : List (List Int)} {k : Nat} : ∀ q ∈ entK D m k, q.1.length = 2 := fun q hq => by
  obtain ⟨i, _, rfl⟩ := List.mem_map.1 hq
  rfl
theorem entK_next (D : Nat) (m : List (List Int)) (k : Nat) : entK D m (k + 1) = entK D m k ++ [(keyI D k, (m.getD (k / D) []).getD (k % D) 0)] := by simp [entK, List.range_succ]
theorem keyI_inj {D i j : Nat} (hD : 0 < D) (h : keyI D i = keyI D j) : i = j := by
  unfold keyI at h
  simp only [List.cons.injEq, Int.natCast_inj, and_true] at h
  rw [← Nat.div_add_mod i D, ← Nat.div_add_mod j D, h.1, h.2]
theorem lookE_none {xs : List Int} : ∀ {es : List Ent} {s : Nat}, (∀ q ∈ es, xs ≠ q.1) → lookE xs es s = none
  | [], _, _ => rfl
  | e :: r, s, h => by
    unfold lookE
    rw [if_neg (h e (.head _))]
    exact lookE_none fun q hq => h q (.tail _ hq)
theorem lookE_at {xs : List Int} {v : Int} : ∀ {es : List Ent} {s i : Nat}, es[i]? = some (xs, v) → (∀ j, j < i → ∀ q, es[j]? = some q → xs ≠ q.1) → lookE xs es s = some (s + i, v)
  | [], _, _, h, _ => by simp at h
  | e :: r, s, 0, h, _ => by
    simp only [List.getElem?_cons_zero, Option.some.injEq] at h
    subst h
    simp [lookE]
  | e :: r, s, i + 1, h, hn => by
    unfold lookE
    rw [if_neg (hn 0 (by omega) e rfl)]
    rw [lookE_at (i := i) (by simpa using h) (fun j hj q hq => hn (j + 1) (by omega) q (by simpa using hq)), show s + 1 + i = s + (i + 1) by omega]
theorem entK_get {D : Nat} {m : List (List Int)} {k i : Nat} (hi : i < k) : (entK D m k)[i]? = some (keyI D i, (m.getD (i / D) []).getD (i % D) 0) := by
  simp [entK, hi]
theorem entK_look {D : Nat} (hD : 0 < D) {m : List (List Int)} {k i : Nat} (hi : i < k) : lookE (keyI D i) (entK D m k) 0 = some (i, (m.getD (i / D) []).getD (i % D) 0) := by
  have h := lookE_at (s := 0) (entK_get (D := D) (m := m) hi) (fun j hj q hq => by
    rw [entK_get (by omega)] at hq
    simp only [Option.some.injEq] at hq
    subst hq
    intro e
    have := keyI_inj hD e
    omega)
  rwa [Nat.zero_add] at h
theorem entK_new {D : Nat} (hD : 0 < D) {m : List (List Int)} {k : Nat} : lookE (keyI D k) (entK D m k) 0 = none := lookE_none fun q hq => by
  obtain ⟨i, hi, rfl⟩ := List.mem_map.1 hq
  intro e
  have h1 := keyI_inj hD e
  have h2 := List.mem_range.1 hi
  omega
theorem key_of {D c j : Nat} (hj : j < D) : keyI D (c * D + j) = [(c : Int), (j : Int)] := by
  unfold keyI
  rw [show (c * D + j) / D = c by rw [Nat.mul_comm, Nat.mul_add_div (by omega), Nat.div_eq_of_lt hj, Nat.add_zero], show (c * D + j) % D = j by rw [Nat.mul_comm, Nat.mul_add_mod, Nat.mod_eq_of_lt hj]]
theorem idx_of {D c j : Nat} (hj : j < D) : (c * D + j) / D = c ∧ (c * D + j) % D = j := by
  refine ⟨?_, ?_⟩
  · rw [Nat.mul_comm, Nat.mul_add_div (by omega), Nat.div_eq_of_lt hj, Nat.add_zero]
  · rw [Nat.mul_comm, Nat.mul_add_mod, Nat.mod_eq_of_lt hj]
/-- One block more or less. -/
theorem entK_set {D : Nat} (hD : 0 < D) {m : List (List Int)} {k c j : Nat} {v : Int} (hc : c < m.length) (hj : j < D) (hr : (m.getD c []).length = D) :
    (entK D m k).set (c * D + j) (keyI D (c * D + j), (m.getD c []).getD j 0 + v) = entK D (addAt m c j v) k := by
  apply List.ext_getElem?
  intro i
  obtain ⟨e1, e2⟩ := idx_of (c := c) hj
  rw [List.getElem?_set]
  by_cases hi : i < k
  · rw [entK_get hi, entK_get hi]
    by_cases e : c * D + j = i
    · subst e
      rw [if_pos rfl, entK_len, if_pos hi, e1, e2]
      congr 2
      unfold addAt
      have hjr : j < (m[c]'hc).length := by have := hr; simp [List.getD, hc] at this; omega
      simp [List.getD, hc, hjr]
    · rw [if_neg e]
      congr 2
      unfold addAt
      by_cases e3 : i / D = c
      · have h4 : i % D ≠ j := fun h4 => e (by rw [← Nat.div_add_mod i D, e3, h4, Nat.mul_comm])
        rw [e3]
        simp [List.getD, hc, List.getElem?_set, Ne.symm h4]
      · simp [List.getD, List.getElem?_set, Ne.symm e3]
  · have h1 : (entK D m k)[i]? = none := List.getElem?_eq_none (by rw [entK_len]; omega)
    have h2 : (entK D (addAt m c j v) k)[i]? = none := List.getElem?_eq_none (by rw [entK_len]; omega)
    rw [h1, h2, entK_len]
    by_cases e : c * D + j = i
    · rw [if_pos e, if_neg (by omega)]
    · rw [if_neg e]
theorem sum_snoc (l : List Int) (x : Int) : (l ++ [x]).sum = l.sum + x := by simp
end Go.Proofs.Ytfgjojoipbbacaa
