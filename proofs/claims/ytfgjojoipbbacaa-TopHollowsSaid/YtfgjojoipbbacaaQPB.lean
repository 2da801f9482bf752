/- A proof that reaches the bound: the search's state, the sends of one block, and the end. Plain mathematics. -/
import Derived.Test.YtfgjojoipbbacaaQPA
import Derived.Test.YtfgjojoipbbacaaQEB
set_option linter.unusedVariables false
set_option linter.unusedSimpArgs false
namespace Go.Proofs.Ytfgjojoipbbacaa
open Go.Sx Go.RowKit

/-- A search that brings nothing: what it has newly seen has nothing below 0, and no way leads out of what is seen. -/
structure SZero (n D c0 j0 : Nat) (seen S : BX) (ps : List Ps) (m : List (List Int)) : Prop where
  sub : ∀ c j, seen c j = true → S c j = true
  me : S c0 j0 = true
  new : ∀ c j, S c j = true → seen c j = false → (c < n ∧ j < D) ∧ 0 ≤ Wt m c j ∧ ∀ q ∈ ps, (atB q c j → upX S q = true) ∧ (atA q c j → 0 < q.a → loX S q = true)
structure SLoop (n D c0 j0 : Nat) (seen S : BX) (ps : List Ps) (m : List (List Int)) (k : Nat) : Prop where
  rng : c0 < n ∧ j0 < D ∧ 0 ≤ Wt m c0 j0
  sub : ∀ c j, seen c j = true → S c j = true
  me : S c0 j0 = true
  new : ∀ c j, S c j = true → seen c j = false → ¬ (c = c0 ∧ j = j0) → (c < n ∧ j < D) ∧ 0 ≤ Wt m c j ∧ ∀ q ∈ ps, (atB q c j → upX S q = true) ∧ (atA q c j → 0 < q.a → loX S q = true)
  mine : ∀ i, i < k → (atB (ps.getD i default) c0 j0 → upX S (ps.getD i default) = true) ∧ (atA (ps.getD i default) c0 j0 → 0 < (ps.getD i default).a → loX S (ps.getD i default) = true)
def putX (S : BX) (c0 j0 : Nat) : BX := fun c j => S c j || decide (c = c0 ∧ j = j0)
theorem putX_iff {S : BX} {c0 j0 c j : Nat} : putX S c0 j0 c j = true ↔ S c j = true ∨ (c = c0 ∧ j = j0) := by simp [putX]
theorem SLoop.zero {n D c0 j0 : Nat} {seen : BX} {ps : List Ps} {m : List (List Int)} (hc : c0 < n) (hj : j0 < D) (hw : 0 ≤ Wt m c0 j0) : SLoop n D c0 j0 seen (putX seen c0 j0) ps m 0 :=
  ⟨⟨hc, hj, hw⟩, fun c j h => putX_iff.2 (.inl h), putX_iff.2 (.inr ⟨rfl, rfl⟩), fun c j h h2 h3 => (by
    rcases putX_iff.1 h with h4 | h4
    · rw [h2] at h4; cases h4
    · exact absurd h4 h3), fun i h => absurd h (Nat.not_lt_zero _)⟩
theorem SLoop.skip {n D c0 j0 k : Nat} {seen S : BX} {ps : List Ps} {m : List (List Int)} (h : SLoop n D c0 j0 seen S ps m k) (h1 : (atB (ps.getD k default) c0 j0 → upX S (ps.getD k default) = true) ∧ (atA (ps.getD k default) c0 j0 → 0 < (ps.getD k default).a → loX S (ps.getD k default) = true)) : SLoop n D c0 j0 seen S ps m (k + 1) :=
  ⟨h.rng, h.sub, h.me, h.new, fun i hi => by
    by_cases e : i = k
    · subst e; exact h1
    · exact h.mine i (by omega)⟩
theorem SLoop.more {n D c0 j0 c1 j1 k : Nat} {seen S T : BX} {ps : List Ps} {m : List (List Int)} (h : SLoop n D c0 j0 seen S ps m k) (hz : SZero n D c1 j1 S T ps m) : SLoop n D c0 j0 seen T ps m k := by
  refine ⟨h.rng, fun c j hs => hz.sub _ _ (h.sub _ _ hs), hz.sub _ _ h.me, fun c j hs hn h3 => ?_, fun i hi => ?_⟩
  · cases e : S c j with
    | true =>
      obtain ⟨h1, h2, h4⟩ := h.new c j e hn h3
      exact ⟨h1, h2, fun q hq => ⟨fun hb => hz.sub _ _ ((h4 q hq).1 hb), fun ha h0 => hz.sub _ _ ((h4 q hq).2 ha h0)⟩⟩
    | false => exact hz.new c j hs e
  · have h1 := h.mine i hi
    exact ⟨fun hb => hz.sub _ _ (h1.1 hb), fun ha h0 => hz.sub _ _ (h1.2 ha h0)⟩
theorem SLoop.done {n D c0 j0 : Nat} {seen S : BX} {ps : List Ps} {m : List (List Int)} (h : SLoop n D c0 j0 seen S ps m ps.length) : SZero n D c0 j0 seen S ps m := by
  refine ⟨h.sub, h.me, fun c j hs hn => ?_⟩
  by_cases e : c = c0 ∧ j = j0
  · obtain ⟨rfl, rfl⟩ := e
    refine ⟨⟨h.rng.1, h.rng.2.1⟩, h.rng.2.2, fun q hq => ?_⟩
    obtain ⟨i, hi, rfl⟩ := mem_at hq
    exact h.mine i hi
  · exact h.new c j hs hn e
theorem SZero.start {n D c0 j0 : Nat} {S : BX} {ps : List Ps} {m : List (List Int)} (h : SZero n D c0 j0 (fun _ _ => false) S ps m) : S c0 j0 = true ∧ CLX ps S ∧ NNX n D m S := by
  refine ⟨h.me, fun q hq => ⟨fun h1 => ?_, fun h1 h0 => ?_⟩, fun c j hc hj hs => (h.new c j hs rfl).2.1⟩
  · exact ((h.new _ _ h1 rfl).2.2 q hq).1 ⟨rfl, rfl⟩
  · exact ((h.new _ _ h1 rfl).2.2 q hq).2 ⟨rfl, rfl⟩ h0
/-- How many blocks are not seen. -/
def unB (n D : Nat) (S : BX) : Nat := ((List.range (n * D)).filter fun i => !S (i / D) (i % D)).length
theorem filt_lt {α : Type} {f g : α → Bool} {x : α} : ∀ {l : List α}, x ∈ l → (∀ y, g y = true → f y = true) → f x = true → g x = false → (l.filter g).length < (l.filter f).length
  | [], h, _, _, _ => absurd h List.not_mem_nil
  | y :: l, h, hs, h1, h2 => by
    have hle : (l.filter g).length ≤ (l.filter f).length := by
      clear h h1 h2
      induction l with
      | nil => exact Nat.le_refl _
      | cons z l ih =>
        simp only [List.filter_cons]
        cases e : g z with
        | true => rw [hs z e]; simpa using ih
        | false => cases f z <;> simp <;> omega
    rcases List.mem_cons.1 h with rfl | h
    · simp only [List.filter_cons, h1, h2]; simp; omega
    · have ih := filt_lt h hs h1 h2
      simp only [List.filter_cons]
      cases e : g y with
      | true => rw [hs y e]; simpa using ih
      | false => cases f y <;> simp <;> omega
theorem unB_lt {n D c0 j0 : Nat} {S T : BX} (hc : c0 < n) (hj : j0 < D) (hs : ∀ c j, S c j = true → T c j = true) (h1 : S c0 j0 = false) (h2 : T c0 j0 = true) : unB n D T < unB n D S := by
  have hd := idx_of (c := c0) hj
  refine filt_lt (x := c0 * D + j0) (List.mem_range.2 ?_) (fun i hi => ?_) ?_ ?_
  · have : (c0 + 1) * D ≤ n * D := Nat.mul_le_mul_right _ hc
    have e : (c0 + 1) * D = c0 * D + D := by rw [Nat.add_mul, Nat.one_mul]
    omega
  · cases e : S (i / D) (i % D) with
    | false => rfl
    | true => rw [hs _ _ e] at hi; cases hi
  · rw [hd.1, hd.2, h1]; rfl
  · rw [hd.1, hd.2, h2]; rfl
/-- Passes and what is behind them. -/
structure PInv (ls : List (List Int)) (ps : List Ps) (m : List (List Int)) : Prop where
  psb : ∀ q ∈ ps, psB ls q = true
  a0 : ∀ q ∈ ps, 0 ≤ q.a ∧ 2 * q.a + absS m ≤ absS ls
  len : m.length = ls.length
  row : ∀ k, k < ls.length → (m.getD k []).length = dep ls
  wt : ∀ c j, Wt m c j = Wt ls c j + eff ps c j
  ab : absS m ≤ absS ls
theorem psB_same {ls : List (List Int)} {a b : Ps} (h : sameP a b) : psB ls a = psB ls b := by
  obtain ⟨h1, h2, h3⟩ := h
  unfold psB; rw [h1, h2, h3]
theorem PInv.at {ls : List (List Int)} {ps : List Ps} {m : List (List Int)} (h : PInv ls ps m) (hv : VB ls) {k : Nat} (hk : k < ps.length) : psB ls (ps.getD k default) = true ∧ 0 ≤ (ps.getD k default).a ∧ (ps.getD k default).a ≤ 600 := by
  have h1 := h.a0 _ (getD_mem' hk)
  have h2 := abs_VB hv
  have h3 := (abs_ge m 0 0).1
  exact ⟨h.psb _ (getD_mem' hk), h1.1, by omega⟩
theorem PInv.wb {ls : List (List Int)} {ps : List Ps} {m : List (List Int)} (h : PInv ls ps m) (hv : VB ls) (c j : Nat) : -1200 ≤ Wt m c j ∧ Wt m c j ≤ 1200 := by
  have h1 := h.ab
  have h2 := abs_VB hv
  have h3 := (abs_ge m c j).2
  unfold absV at h3
  omega
/-- One more amount went the whole way. -/
theorem PInv.sent {ls : List (List Int)} {ps ps' : List Ps} {m m' : List (List Int)} {c0 j0 : Nat} {s : Int} {seen : BX} (h : PInv ls ps m) (hc : c0 < ls.length) (hj : j0 < dep ls) (hp : PSent ls.length (dep ls) c0 j0 s seen ps m ps' m') (h0 : 0 < s) (hw : s ≤ Wt m c0 j0) :
    PInv ls ps' (addAt m' c0 j0 (-s)) ∧ ∀ c j, Wt (addAt m' c0 j0 (-s)) c j = (if c = c0 ∧ j = j0 then Wt m c0 j0 - s else Wt m' c j) := by
  obtain ⟨c, j, h1, h2, h3, h4, h5, h6⟩ := hp.sink
  have hne : ¬ (c = c0 ∧ j = j0) := by rintro ⟨rfl, rfl⟩; omega
  have hm1 := addAt_wt m c j s (by rw [h.len]; exact h1) (by rw [h.row _ h1]; exact h2)
  have hl' : m'.length = ls.length := by rw [h5, addAt_len]; exact h.len
  have hr' : ∀ k, k < ls.length → (m'.getD k []).length = dep ls := fun k hk => by rw [h5, addAt_row]; exact h.row k hk
  have hm2 := addAt_wt m' c0 j0 (-s) (by omega) (by rw [hr' _ hc]; exact hj)
  have hw0 : Wt m' c0 j0 = Wt m c0 j0 := by rw [h5, hm1, if_neg hne, Int.add_zero]
  have ha1 := sumG_add absV m c j s (by rw [h.len]; exact h1) (by rw [h.row _ h1]; exact h2)
  have ha2 := sumG_add absV m' c0 j0 (-s) (by omega) (by rw [hr' _ hc]; exact hj)
  rw [← h5] at ha1
  rw [hw0] at ha2
  have hav : absS (addAt m' c0 j0 (-s)) = absS m - 2 * s := by
    unfold absS
    unfold absV at ha1 ha2 ⊢
    omega
  refine ⟨⟨fun q hq => ?_, fun q hq => ?_, by rw [addAt_len]; exact hl', fun k hk => by rw [addAt_row]; exact hr' k hk, fun c2 j2 => ?_, by have := h.ab; rw [hav]; omega⟩, fun c2 j2 => ?_⟩
  · obtain ⟨k, hk, rfl⟩ := mem_at hq
    rw [hp.len] at hk
    rw [psB_same (hp.same k)]
    exact h.psb _ (getD_mem' hk)
  · obtain ⟨k, hk, rfl⟩ := mem_at hq
    rw [hp.len] at hk
    have h7 := hp.amt k hk
    have h8 := h.a0 _ (getD_mem' hk)
    rw [hav]; omega
  · rw [hm2, h5, hm1, h.wt, h6]
    by_cases e1 : c = c2 ∧ j = j2 <;> by_cases e2 : c0 = c2 ∧ j0 = j2 <;> simp only [e1, e2, if_true, if_false, and_self] <;> omega
  · rw [hm2]
    by_cases e : c2 = c0 ∧ j2 = j0
    · obtain ⟨rfl, rfl⟩ := e
      rw [if_pos ⟨rfl, rfl⟩, if_pos ⟨rfl, rfl⟩, hw0]; omega
    · rw [if_neg e, if_neg (fun h9 => e ⟨h9.1.symm, h9.2.symm⟩), Int.add_zero]
theorem PSent.sh {n D c0 j0 : Nat} {s : Int} {seen : BX} {ps ps' : List Ps} {m m' : List (List Int)} (h : PSent n D c0 j0 s seen ps m ps' m') (hs : Sh n D 1200 m) (h0 : 0 < s) : Sh n D 1200 m' := by
  obtain ⟨c, j, h1, h2, h3, h4, h5, h6⟩ := h.sink
  have hm1 := addAt_wt m c j s (by rw [hs.len]; exact h1) (by rw [hs.row _ h1]; exact h2)
  refine ⟨by rw [h5, addAt_len]; exact hs.len, fun k hk => by rw [h5, addAt_row]; exact hs.row k hk, fun c2 j2 => ?_⟩
  have h7 := hs.bd c2 j2
  have h8 := hm1 c2 j2
  rw [← h5] at h8
  unfold Wt at h3 h4 h8
  rw [h8]
  split
  · rename_i e; obtain ⟨rfl, rfl⟩ := e; omega
  · omega
theorem PInv.sh {ls : List (List Int)} {ps : List Ps} {m : List (List Int)} (h : PInv ls ps m) (hv : VB ls) : Sh ls.length (dep ls) 1200 m := ⟨h.len, h.row, fun c j => h.wb hv c j⟩
/-- What stays true from send to send. -/
structure PKeep (ls : List (List Int)) (ps : List Ps) (m : List (List Int)) (ps' : List Ps) (m' : List (List Int)) : Prop where
  inv : PInv ls ps' m'
  len : ps'.length = ps.length
  same : ∀ k, sameP (ps'.getD k default) (ps.getD k default)
  le0 : ∀ c j, c < ls.length → j < dep ls → Wt m c j ≤ 0 → Wt m' c j ≤ 0
  cl : ∀ X, CLX ps X → NNX ls.length (dep ls) m X → CLX ps' X ∧ NNX ls.length (dep ls) m' X
theorem PKeep.refl {ls : List (List Int)} {ps : List Ps} {m : List (List Int)} (h : PInv ls ps m) : PKeep ls ps m ps m := ⟨h, rfl, fun k => ⟨rfl, rfl, rfl⟩, fun _ _ _ _ h => h, fun X h1 h2 => ⟨h1, h2⟩⟩
theorem PKeep.trans {ls : List (List Int)} {ps ps1 ps2 : List Ps} {m m1 m2 : List (List Int)} (h : PKeep ls ps m ps1 m1) (h2 : PKeep ls ps1 m1 ps2 m2) : PKeep ls ps m ps2 m2 :=
  ⟨h2.inv, h2.len.trans h.len, fun k => ⟨(h2.same k).1.trans (h.same k).1, (h2.same k).2.1.trans (h.same k).2.1, (h2.same k).2.2.trans (h.same k).2.2⟩, fun c j hc hj h0 => h2.le0 c j hc hj (h.le0 c j hc hj h0), fun X h3 h4 => by
    obtain ⟨h5, h6⟩ := h.cl X h3 h4
    exact h2.cl X h5 h6⟩
theorem PKeep.sent {ls : List (List Int)} {ps ps' : List Ps} {m m' : List (List Int)} {c0 j0 : Nat} {s : Int} {seen : BX} (h : PInv ls ps m) (hc : c0 < ls.length) (hj : j0 < dep ls) (hp : PSent ls.length (dep ls) c0 j0 s seen ps m ps' m') (h0 : 0 < s) (hw : s ≤ Wt m c0 j0) :
    PKeep ls ps m ps' (addAt m' c0 j0 (-s)) := by
  obtain ⟨h1, h2⟩ := h.sent hc hj hp h0 hw
  obtain ⟨c, j, g1, g2, g3, g4, g5, g6⟩ := hp.sink
  have hm1 := addAt_wt m c j s (by rw [h.len]; exact g1) (by rw [h.row _ g1]; exact g2)
  refine ⟨h1, hp.len, hp.same, fun c2 j2 hc2 hj2 h9 => ?_, fun X hX hN => ?_⟩
  · rw [h2]
    split
    · rename_i e
      obtain ⟨rfl, rfl⟩ := e
      omega
    · rw [g5, hm1]
      split
      · rename_i e; obtain ⟨rfl, rfl⟩ := e; omega
      · omega
  · obtain ⟨f1, f2, f3⟩ := hp.cl X hX hN
    refine ⟨f2, fun c2 j2 hc2 hj2 hx => ?_⟩
    rw [h2]
    split
    · rename_i e
      obtain ⟨rfl, rfl⟩ := e
      rw [f1] at hx; cases hx
    · exact f3 c2 j2 hc2 hj2 hx
/-- A block from which nothing more can be sent. -/
def DoneB (ls : List (List Int)) (ps : List Ps) (m : List (List Int)) (c j : Nat) : Prop := Wt m c j ≤ 0 ∨ ∃ X : BX, X c j = true ∧ CLX ps X ∧ NNX ls.length (dep ls) m X
theorem DoneB.keep {ls : List (List Int)} {ps ps' : List Ps} {m m' : List (List Int)} {c j : Nat} (h : DoneB ls ps m c j) (hc : c < ls.length) (hj : j < dep ls) (hk : PKeep ls ps m ps' m') : DoneB ls ps' m' c j := by
  rcases h with h | ⟨X, h1, h2, h3⟩
  · exact .inl (hk.le0 c j hc hj h)
  · obtain ⟨h4, h5⟩ := hk.cl X h2 h3
    exact .inr ⟨X, h1, h4, h5⟩
end Go.Proofs.Ytfgjojoipbbacaa
