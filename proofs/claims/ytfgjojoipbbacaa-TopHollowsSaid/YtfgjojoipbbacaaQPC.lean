/- A proof that reaches the bound: the end: what is left above nothing is what a hollow is worth. Plain mathematics. -/
import Derived.Test.YtfgjojoipbbacaaQPB
set_option linter.unusedVariables false
set_option linter.unusedSimpArgs false
namespace Go.Proofs.Ytfgjojoipbbacaa
open Go.Sx Go.RowKit

theorem prefix_k (f : Nat → Bool) : ∀ D : Nat, (∀ j, j + 1 < D → f (j + 1) = true → f j = true) → ∃ k, k ≤ D ∧ ∀ j, j < D → (f j = true ↔ j < k)
  | 0, _ => ⟨0, Nat.le_refl _, fun j h => absurd h (Nat.not_lt_zero _)⟩
  | D + 1, h => by
    obtain ⟨k, h1, h2⟩ := prefix_k f D fun j hj => h j (by omega)
    cases e : f D with
    | true =>
      have hall : ∀ i, i ≤ D → f (D - i) = true := fun i => by
        induction i with
        | zero => intro _; exact e
        | succ i ih => intro hi; exact h (D - (i + 1)) (by omega) (by rw [show D - (i + 1) + 1 = D - i from by omega]; exact ih (by omega))
      exact ⟨D + 1, Nat.le_refl _, fun j hj => ⟨fun _ => hj, fun _ => by have := hall (D - j) (by omega); rwa [show D - (D - j) = j from by omega] at this⟩⟩
    | false =>
      refine ⟨k, by omega, fun j hj => ?_⟩
      by_cases ej : j = D
      · subst ej; rw [e]; exact ⟨fun h => (by cases h), fun h9 => by omega⟩
      · exact h2 j (by omega)
theorem row_pos : ∀ (r : List Int) (k : Nat), (∀ j, j < r.length → (j < k → 0 ≤ r.getD j 0) ∧ (¬ j < k → r.getD j 0 ≤ 0)) → (r.take k).sum = posR r
  | [], k, _ => by simp [posR]
  | x :: r, 0, h => by
    have h0 := (h 0 (by simp)).2 (Nat.lt_irrefl _)
    have ih := row_pos r 0 fun j hj => by have := h (j + 1) (by simpa using hj); exact ⟨fun h9 => absurd h9 (Nat.not_lt_zero _), fun _ => this.2 (by omega)⟩
    simp only [List.take_zero, List.sum_nil, posR, List.map_cons, List.sum_cons, List.getD_cons_zero] at h0 ih ⊢
    omega
  | x :: r, k + 1, h => by
    have h0 := (h 0 (by simp)).1 (Nat.succ_pos _)
    have ih := row_pos r k fun j hj => by have := h (j + 1) (by simpa using hj); exact ⟨fun h9 => this.1 (by omega), fun h9 => this.2 (by omega)⟩
    simp only [List.take_succ_cons, List.sum_cons, posR, List.map_cons, List.getD_cons_zero] at h0 ih ⊢
    omega
theorem ho_pos : ∀ (m : List (List Int)) (xs : List Int), (∀ c, c < m.length → ∀ j, j < (m.getD c []).length → (j < (xs.getD c 0).toNat → 0 ≤ Wt m c j) ∧ (¬ j < (xs.getD c 0).toNat → Wt m c j ≤ 0)) → hoS m xs = posS m
  | [], xs, _ => rfl
  | r :: m, xs, h => by
    have h0 := row_pos r (xs.getD 0 0).toNat fun j hj => by have := h 0 (by simp) j (by simpa using hj); simpa [Wt] using this
    have ih := ho_pos m xs.tail fun c hc j hj => by
      have := h (c + 1) (by simpa using hc) j (by simpa using hj)
      have e : xs.tail.getD c 0 = xs.getD (c + 1) 0 := by cases xs <;> simp
      rw [e]; simpa [Wt] using this
    simp only [hoS, posS, List.map_cons, List.sum_cons] at ih ⊢
    omega
/-- Passes that keep within a set and its outside change nothing of what lies in it. -/
theorem fold_ho {ls : List (List Int)} {xs : List Int} : ∀ (ps : List Ps) (m : List (List Int)), m.length = ls.length → (∀ k, k < ls.length → (m.getD k []).length = dep ls) → (∀ q ∈ ps, psB ls q = true ∧ (q.a = 0 ∨ (q.h.toNat < (xs.getD q.c.toNat 0).toNat ↔ (q.h - 1).toNat < (xs.getD q.t.toNat 0).toNat))) → hoS (ps.foldl sendP m) xs = hoS m xs
  | [], m, _, _, _ => rfl
  | q :: ps, m, hl, hr, ha => by
    have h1 := ha q (.head _)
    have hq := of_decide_eq_true h1.1
    have e : hoS (sendP m q) xs = hoS m xs := by
      unfold sendP
      rw [hoS_add _ _ _ _ _ (by rw [addAt_len]; omega) (by rw [addAt_row, hr _ (by omega)]; omega), hoS_add _ _ _ _ _ (by omega) (by rw [hr _ (by omega)]; omega)]
      rcases h1.2 with h2 | h2
      · rw [h2]; split <;> split <;> omega
      · split <;> split <;> omega
    rw [List.foldl_cons, fold_ho ps (sendP m q) (by unfold sendP; rw [addAt_len, addAt_len]; exact hl) (fun k hk => by unfold sendP; rw [addAt_row, addAt_row]; exact hr k hk) fun p hp => ha p (.tail _ hp), e]
/-- What passes change, cell by cell. -/
theorem fold_wt {ls : List (List Int)} : ∀ (ps : List Ps) (m : List (List Int)), m.length = ls.length → (∀ k, k < ls.length → (m.getD k []).length = dep ls) → (∀ q ∈ ps, psB ls q = true) →
    (ps.foldl sendP m).length = ls.length ∧ (∀ k, k < ls.length → ((ps.foldl sendP m).getD k []).length = dep ls) ∧ ∀ c j, Wt (ps.foldl sendP m) c j = Wt m c j + eff ps c j
  | [], m, hl, hr, _ => ⟨hl, hr, fun c j => by simp [eff]⟩
  | q :: ps, m, hl, hr, ha => by
    have hq := of_decide_eq_true (ha q (.head _))
    have hl2 : (sendP m q).length = ls.length := by unfold sendP; rw [addAt_len, addAt_len]; exact hl
    have hr2 : ∀ k, k < ls.length → ((sendP m q).getD k []).length = dep ls := fun k hk => by unfold sendP; rw [addAt_row, addAt_row]; exact hr k hk
    obtain ⟨h1, h2, h3⟩ := fold_wt ps (sendP m q) hl2 hr2 fun p hp => ha p (.tail _ hp)
    refine ⟨h1, h2, fun c j => ?_⟩
    rw [List.foldl_cons, h3]
    unfold sendP
    rw [addAt_wt _ _ _ _ (by rw [addAt_len]; omega) (by rw [addAt_row, hr _ (by omega)]; omega), addAt_wt _ _ _ _ (by omega) (by rw [hr _ (by omega)]; omega)]
    simp only [eff, ef1]
    split <;> split <;> omega
theorem rows_ext {n D : Nat} {a b : List (List Int)} (ha : a.length = n) (hb : b.length = n) (ra : ∀ k, k < n → (a.getD k []).length = D) (rb : ∀ k, k < n → (b.getD k []).length = D) (h : ∀ c j, Wt a c j = Wt b c j) : a = b := by
  apply List.ext_getElem (by omega)
  intro i h1 h2
  have e1 : a.getD i [] = a[i] := by simp [List.getD, h1]
  have e2 : b.getD i [] = b[i] := by simp [List.getD, h2]
  have r1 := ra i (by omega)
  have r2 := rb i (by omega)
  apply List.ext_getElem (by rw [← e1, ← e2, r1, r2])
  intro j h3 h4
  have := h i j
  unfold Wt at this
  rw [e1, e2] at this
  simpa [List.getD, h3, h4] using this
theorem eff_filter : ∀ (ps : List Ps) (c j : Nat), eff (ps.filter fun q => decide (q.a ≠ 0)) c j = eff ps c j
  | [], _, _ => rfl
  | q :: l, c, j => by
    have ih := eff_filter l c j
    by_cases h : q.a = 0
    · rw [List.filter_cons_of_neg (by simpa using h), ih]
      have e : ef1 q c j = 0 := by unfold ef1; rw [h]; split <;> split <;> rfl
      simp only [eff, e]; omega
    · rw [List.filter_cons_of_pos (by simpa using h)]
      simp only [eff, ih]
theorem prE_ok {ls : List (List Int)} : ∀ {ps : List Ps}, (∀ q ∈ ps, psB ls q = true ∧ amB q = true) → prE ls ps = 0
  | [], _ => rfl
  | q :: r, h => by
    have h1 := h q (.head _)
    unfold prE
    rw [if_pos h1.1, if_pos h1.2]
    exact prE_ok fun p hp => h p (.tail _ hp)
/-- All passes that a bog allows are there. -/
def Full (ls : List (List Int)) (ps : List Ps) : Prop := ∀ q, psB ls q = true → ∃ p ∈ ps, sameP p q
/-- When every block is done, the passes with an amount prove what a hollow is worth. -/
theorem proof_ends {ls : List (List Int)} {ps : List Ps} {m : List (List Int)} (hv : ¬ validI ls ≠ 0) (h : PInv ls ps m) (hf : Full ls ps) (h60 : ps.length ≤ 60) (hd : ∀ c j, c < ls.length → j < dep ls → DoneB ls ps m c j) :
    prI ls (ps.filter fun q => decide (q.a ≠ 0)) = 0 ∧ ∃ xs, HO ls xs ∧ worH ls xs = prV ls (ps.filter fun q => decide (q.a ≠ 0)) := by
  have hb := vb_of hv
  classical
  let U : BX := fun c j => decide (∃ X : BX, X c j = true ∧ CLX ps X ∧ NNX ls.length (dep ls) m X)
  have hU : CLX ps U := fun q hq => ⟨fun h1 => by
      obtain ⟨X, h2, h3, h4⟩ := of_decide_eq_true h1
      exact decide_eq_true ⟨X, (h3 q hq).1 h2, h3, h4⟩, fun h1 h0 => by
      obtain ⟨X, h2, h3, h4⟩ := of_decide_eq_true h1
      exact decide_eq_true ⟨X, (h3 q hq).2 h2 h0, h3, h4⟩⟩
  have hN : ∀ c j, c < ls.length → j < dep ls → U c j = true → 0 ≤ Wt m c j := fun c j hc hj h1 => by
    obtain ⟨X, h2, h3, h4⟩ := of_decide_eq_true h1
    exact h4 c j hc hj h2
  have hL : ∀ c j, c < ls.length → j < dep ls → ¬ U c j = true → Wt m c j ≤ 0 := fun c j hc hj h1 => by
    rcases hd c j hc hj with h2 | h2
    · exact h2
    · exact absurd (decide_eq_true h2) h1
  have hup : ∀ c t j, c < ls.length → t < ls.length → c ≤ t + 1 → t ≤ c + 1 → j + 1 < dep ls → U c (j + 1) = true → U t j = true := fun c t j hc ht h1 h2 hj hu => by
    obtain ⟨p, hp, e1, e2, e3⟩ := hf ⟨(c : Nat), ((j + 1 : Nat) : Int), (t : Nat), 0⟩ (decide_eq_true (by simp only; omega))
    have h3 := (hU p hp).1
    unfold loX upX at h3
    rw [e1, e2, e3] at h3
    simp only [Int.toNat_natCast] at h3
    have e4 : (((j + 1 : Nat) : Int) - 1).toNat = j := by omega
    rw [e4] at h3
    exact h3 hu
  have hk : ∀ c, ∃ k, c < ls.length → k ≤ dep ls ∧ ∀ j, j < dep ls → (U c j = true ↔ j < k) := fun c => by
    by_cases hc : c < ls.length
    · obtain ⟨k, h1, h2⟩ := prefix_k (U c) (dep ls) fun j hj hu => hup c c j hc hc (by omega) (by omega) hj hu
      exact ⟨k, fun _ => ⟨h1, h2⟩⟩
    · exact ⟨0, fun h9 => absurd h9 hc⟩
  obtain ⟨K, hK⟩ := Classical.skolem.1 hk
  have hxs : ∀ c, c < ls.length → ((List.range ls.length).map fun c => (K c : Int)).getD c 0 = K c := fun c hc => by simp [List.getD, hc]
  have hxs0 : ∀ c, ¬ c < ls.length → ((List.range ls.length).map fun c => (K c : Int)).getD c 0 = 0 := fun c hc => by simp [List.getD, hc]
  generalize hX : ((List.range ls.length).map fun c => (K c : Int)) = xs at hxs hxs0
  have hstep : ∀ c t, c < ls.length → t < ls.length → c ≤ t + 1 → t ≤ c + 1 → (K c : Int) ≤ K t + 1 := fun c t hc ht h1 h2 => by
    obtain ⟨k1, k2⟩ := hK c hc
    obtain ⟨k3, k4⟩ := hK t ht
    by_cases e : K c ≤ 1
    · omega
    · have h3 := (k2 (K c - 1) (by omega)).2 (by omega)
      rw [show K c - 1 = (K c - 2) + 1 from by omega] at h3
      have h4 := hup c t (K c - 2) hc ht h1 h2 (by omega) h3
      have h5 := (k4 (K c - 2) (by omega)).1 h4
      omega
  have ho : HO ls xs := by
    refine ⟨⟨hb, by rw [← hX]; simp, fun k => ?_⟩, fun k hk2 => ?_⟩
    · by_cases hk3 : k < ls.length
      · rw [hxs k hk3]; have := (hK k hk3).1; omega
      · rw [hxs0 k hk3]; have := hb.d; omega
    · rw [hxs k (by omega), hxs (k + 1) hk2]
      have h1 := hstep k (k + 1) (by omega) hk2 (by omega) (by omega)
      have h2 := hstep (k + 1) k hk2 (by omega) (by omega) (by omega)
      omega
  have hpm : ∀ q ∈ (ps.filter fun q => decide (q.a ≠ 0)), psB ls q = true ∧ amB q = true := fun q hq => by
    obtain ⟨h1, h2⟩ := List.mem_filter.1 hq
    have h3 := of_decide_eq_true h2
    have h4 := h.a0 q h1
    have h5 := abs_VB hb
    have h6 := (abs_ge m 0 0).1
    exact ⟨h.psb q h1, decide_eq_true (by omega)⟩
  have hI : prI ls (ps.filter fun q => decide (q.a ≠ 0)) = 0 := by
    unfold prI
    rw [if_neg hv, if_neg (by have := List.length_filter_le (fun q : Ps => decide (q.a ≠ 0)) ps; omega)]
    exact prE_ok hpm
  refine ⟨hI, xs, ho, ?_⟩
  obtain ⟨f1, f2, f3⟩ := fold_wt ps ls rfl (fun k hk => hb.c k hk) h.psb
  obtain ⟨g1, g2, g3⟩ := fold_wt (ps.filter fun q => decide (q.a ≠ 0)) ls rfl (fun k hk => hb.c k hk) fun q hq => (hpm q hq).1
  have em : ps.foldl sendP ls = m := rows_ext f1 h.len f2 h.row fun c j => by rw [f3, h.wt]
  have em2 : (ps.filter fun q => decide (q.a ≠ 0)).foldl sendP ls = m := rows_ext g1 h.len g2 h.row fun c j => by rw [g3, eff_filter, h.wt]
  unfold prV
  rw [if_pos hI, em2]
  have h1 : hoS m xs = posS m := ho_pos m xs fun c hc j hj => by
    rw [h.len] at hc
    rw [h.row c hc] at hj
    rw [hxs c hc, Int.toNat_natCast]
    exact ⟨fun h9 => hN c j hc hj (((hK c hc).2 j hj).2 h9), fun h9 => hL c j hc hj fun h8 => h9 (((hK c hc).2 j hj).1 h8)⟩
  have h2 : hoS m xs = hoS ls xs := by
    rw [← em]
    refine fold_ho ps ls rfl (fun k hk => hb.c k hk) fun q hq => ⟨h.psb q hq, ?_⟩
    by_cases h0 : q.a = 0
    · exact .inl h0
    · right
      have hp := of_decide_eq_true (h.psb q hq)
      have ha := h.a0 q hq
      rw [hxs _ (by omega), hxs _ (by omega), Int.toNat_natCast, Int.toNat_natCast]
      rw [← (hK q.c.toNat (by omega)).2 q.h.toNat (by omega), ← (hK q.t.toNat (by omega)).2 (q.h - 1).toNat (by omega)]
      exact ⟨(hU q hq).1, fun h9 => (hU q hq).2 h9 (by omega)⟩
  rw [← h1, h2, hoS_worK]
  unfold worH
  rw [ho.len]
end Go.Proofs.Ytfgjojoipbbacaa
