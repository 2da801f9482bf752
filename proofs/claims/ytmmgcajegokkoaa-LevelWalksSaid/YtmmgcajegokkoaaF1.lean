/- Elimination without fractions, in memory. -/
import Derived.Test.YtmmgcajegokkoaaE1
set_option linter.unusedVariables false
set_option linter.unusedSimpArgs false
namespace Go.Proofs.Ytmmgcajegokkoaa
open Go.Sx Go.RowKit

def tabM (N c : Nat) (f : Nat → Nat → Int) : List (List Int) := (List.range N).map fun i => (List.range c).map (f i)
theorem tabM_len (N c : Nat) (f : Nat → Nat → Int) : (tabM N c f).length = N := by simp [tabM]
theorem tabM_row {N c : Nat} {f : Nat → Nat → Int} {i : Nat} (h : i < N) : (tabM N c f).getD i [] = (List.range c).map (f i) := by simp [tabM, List.getD, h]
theorem tabM_sh (N c : Nat) (f : Nat → Nat → Int) : Sh (tabM N c f) N c := ⟨tabM_len _ _ _, fun i hi => by rw [tabM_row hi]; simp⟩
theorem getM_tab {N c : Nat} {f : Nat → Nat → Int} {i j : Nat} (hi : i < N) (hj : j < c) : getM (tabM N c f) i j = f i j := by
  rw [getM, tabM_row hi]
  simp [List.getD, hj]
theorem tabM_congr {N c : Nat} {f g : Nat → Nat → Int} (h : ∀ i, i < N → ∀ j, j < c → f i j = g i j) : tabM N c f = tabM N c g := by
  unfold tabM
  refine List.map_congr_left fun i hi => List.map_congr_left fun j hj => ?_
  exact h i (List.mem_range.1 hi) j (List.mem_range.1 hj)
theorem tab_of_sh {m : List (List Int)} {N c : Nat} (h : Sh m N c) : m = tabM N c (getM m) := by
  apply List.ext_getElem
  · rw [h.1, tabM_len]
  · intro i h1 h2
    have hi : i < N := by rw [h.1] at h1; exact h1
    have hr := h.2 i hi
    simp only [List.getD, List.getElem?_eq_getElem h1, Option.getD_some] at hr
    simp only [tabM, List.getElem_map, List.getElem_range]
    apply List.ext_getElem
    · simp [hr]
    · intro j h3 h4
      simp [getM, List.getD, h1, h3]
theorem setM_tab {N c : Nat} {f : Nat → Nat → Int} {i j : Nat} {v : Int} (hi : i < N) (hj : j < c) : setM (tabM N c f) i j v = tabM N c (fun a b => if a = i ∧ b = j then v else f a b) := by
  have hs : Sh (setM (tabM N c f) i j v) N c := (tabM_sh N c f).set _ _ _
  rw [tab_of_sh hs]
  refine tabM_congr fun a ha b hb => ?_
  simp only [getM, setM, List.getD, List.getElem?_set, tabM_len]
  by_cases hia : i = a
  · subst hia
    simp only [hi, if_true, Option.getD_some, List.getElem?_set]
    have hl : ((tabM N c f)[i]?.getD []).length = c := by
      have := (tabM_sh N c f).2 i hi
      simpa [List.getD] using this
    by_cases hjb : j = b
    · subst hjb
      simp [hl, hj]
    · rw [if_neg hjb, if_neg (by intro h; exact hjb h.2.symm)]
      exact getM_tab hi hb
  · rw [if_neg hia, if_neg (by intro h; exact hia h.1.symm)]
    exact getM_tab ha hb

/-- One round of the elimination: the pivot, and the numbers behind it. -/
def eStep (k : Nat) (b : Int) (f : Nat → Nat → Int) (i j : Nat) : Int := if i = k then f k j else (f k k * f i j - f i k * f k j).tdiv b
def eS (f : Nat → Nat → Int) : Nat → Int × (Nat → Nat → Int)
  | 0 => (1, f)
  | k + 1 => ((eS f k).2 k k, eStep k (eS f k).1 (eS f k).2)
/-- No number leaves its bounds, and none is divided by 0. -/
def eSafe (N c : Nat) (f : Nat → Nat → Int) : Prop := ∀ k, k < N → (eS f k).1 ≠ 0 ∧ ∀ i, i < N → i ≠ k → ∀ j, j < c →
  (-4000000000000000000 ≤ (eS f k).2 k k * (eS f k).2 i j ∧ (eS f k).2 k k * (eS f k).2 i j ≤ 4000000000000000000) ∧
  (-4000000000000000000 ≤ (eS f k).2 i k * (eS f k).2 k j ∧ (eS f k).2 i k * (eS f k).2 k j ≤ 4000000000000000000)
/-- In the midst of a round. -/
def eMid (k : Nat) (b : Int) (f : Nat → Nat → Int) (i j : Nat) (a c : Nat) : Int := if a < i ∨ (a = i ∧ c < j) then eStep k b f a c else f a c
theorem eMid_zero (k : Nat) (b : Int) (f : Nat → Nat → Int) : eMid k b f 0 0 = f := by
  funext a c; simp [eMid]
theorem eMid_row (k : Nat) (b : Int) (f : Nat → Nat → Int) (N c i : Nat) : tabM N c (eMid k b f i c) = tabM N c (eMid k b f (i + 1) 0) := by
  refine tabM_congr fun a ha x hx => ?_
  simp only [eMid]
  by_cases h : a < i ∨ (a = i ∧ x < c)
  · rw [if_pos h, if_pos (by omega)]
  · rw [if_neg h, if_neg (by omega)]
theorem eMid_skip (k : Nat) (b : Int) (f : Nat → Nat → Int) (N c : Nat) : tabM N c (eMid k b f k 0) = tabM N c (eMid k b f (k + 1) 0) := by
  refine tabM_congr fun a ha x hx => ?_
  simp only [eMid]
  by_cases h2 : a = k
  · subst h2; rw [if_neg (by omega), if_pos (by omega), eStep, if_pos rfl]
  · by_cases h : a < k
    · rw [if_pos (Or.inl h), if_pos (Or.inl (Nat.lt_succ_of_lt h))]
    · rw [if_neg (fun hc => by omega), if_neg (fun hc => by omega)]
theorem eMid_all (k : Nat) (b : Int) (f : Nat → Nat → Int) (N c : Nat) : tabM N c (eMid k b f N 0) = tabM N c (eStep k b f) := by
  refine tabM_congr fun a ha x hx => ?_
  simp only [eMid, if_pos (Or.inl ha)]
theorem eMid_set {k : Nat} {b : Int} {f : Nat → Nat → Int} {N c i j : Nat} (hi : i < N) (hj : j < c) (hne : i ≠ k) :
    setM (tabM N c (eMid k b f i j)) i j ((f k k * f i j - f i k * f k j).tdiv b) = tabM N c (eMid k b f i (j + 1)) := by
  rw [setM_tab hi hj]
  refine tabM_congr fun a ha x hx => ?_
  by_cases h : a = i ∧ x = j
  · obtain ⟨rfl, rfl⟩ := h
    rw [if_pos ⟨rfl, rfl⟩, eMid, if_pos (Or.inr ⟨rfl, Nat.lt_succ_self _⟩), eStep, if_neg hne]
  · rw [if_neg h]
    simp only [eMid]
    by_cases h2 : a < i ∨ (a = i ∧ x < j)
    · rw [if_pos h2, if_pos (by omega)]
    · rw [if_neg h2, if_neg (by omega)]
theorem eMid_get {k : Nat} {b : Int} {f : Nat → Nat → Int} {i j : Nat} : eMid k b f i j i j = f i j := by simp [eMid]
theorem eMid_get0 {k : Nat} {b : Int} {f : Nat → Nat → Int} {i x : Nat} : eMid k b f i 0 i x = f i x := by simp [eMid]
theorem eMid_getk {k : Nat} {b : Int} {f : Nat → Nat → Int} {i j x : Nat} : eMid k b f i j k x = f k x := by
  simp only [eMid]; split
  · rw [eStep, if_pos rfl]
  · rfl
abbrev eT (N c : Nat) (f : Nat → Nat → Int) (k i j : Nat) : List (List Int) := tabM N c (eMid k (eS f k).1 (eS f k).2 i j)


set_option maxRecDepth 100000 in
set_option maxHeartbeats 1000000 in
theorem eliminate_ok (w0 w : World) (bO : Nat) (ids : List Nat) (R : Heap) (N c : Nat) (f : Nat → Nat → Int) (hids : ids.length = N) (hNc : N ≤ 100 ∧ c ≤ 100 ∧ N ≤ c) (hs : eSafe N c f) (hN : New w0 w (outB bO ids c :: (rowsH 3 ids (tabM N c f) ++ R))) :
    Calls Try.prog 106 #[.slice (some ⟨bO, 0, none⟩) N N] w (Post (X := Unit) (fun _ => .int .i64 (eS f N).1) (fun _ => True) (fun _ => outB bO ids c :: (rowsH 3 ids (tabM N c (eS f N).2) ++ R)) w0) := by
  refine callsM hN Try.func106 rfl (n := 76) rfl (by simp) ?_
  refine TC.seq ?_
  refine TC.region ?_
  refine TL.pure (PV.assign rfl) rfl (by decide) ?_
  refine TL.nil ?_
  refine TQ.thenC ?_
  refine TC.seq ?_
  refine TC.region ?_
  refine TL.pure (PV.assign rfl) rfl (by decide) ?_
  refine TL.nil ?_
  refine TQ.thenC ?_
  refine TC.seq ?_
  refine TC.seq ?_
  refine TC.region ?_
  refine TL.pure (PV.move rfl) rfl (by decide) ?_
  refine TL.pure (PV.len rfl Tb.sl_27) rfl (by decide) ?_
  refine TL.pure (PV.move rfl) rfl (by decide) ?_
  refine TL.nil ?_
  refine TQ.thenC ?_
  refine TC.block ?_
  refine TC.loopK [0, 2, 10] (X := Nat) (fun k => k ≤ N) (fun k => [(11, .int .i64 k), (3, .int .i64 (eS f k).1)]) (fun k => outB bO ids c :: (rowsH 3 ids (tabM N c (eS f k).2) ++ R)) (fun k => N - k) 0 (Nat.zero_le _) (by repeat (first | exact True.intro | refine And.intro rfl ?_)) (by repeat (first | exact List.Sublist.slnil | exact List.nil_sublist _ | exact List.Sublist.refl _ | refine List.Sublist.cons_cons _ ?_ | refine List.Sublist.cons _ ?_ | refine List.Sublist.trans ?_ (List.sublist_append_right _ _))) ?_
  intro k hk
  refine TC.seq ?_
  refine TC.region ?_
  refine TL.pure (PV.lss rfl rfl) rfl (by decide) ?_
  refine TL.nil ?_
  refine TQ.thenC ?_
  refine TC.seq ?_
  first | refine TC.condD rfl (fun hltk => ?_) (fun hltk => ?_) | refine TC.cond rfl (fun hltk => ?_) (fun hltk => ?_)
  · skip
    refine TC.skip ?_
    refine TQ.thenC ?_
    refine TC.seq ?_
    refine TC.block ?_
    refine TC.seq ?_
    refine TC.region ?_
    refine TL.pure (PV.move rfl) rfl (by decide) ?_
    refine TL.pure (PV.assign rfl) rfl (by decide) ?_
    refine TL.nil ?_
    refine TQ.thenC ?_
    refine TC.seq ?_
    refine TC.region ?_
    refine TL.pure (PV.move rfl) rfl (by decide) ?_
    refine TL.pure (PV.move rfl) rfl (by decide) ?_
    refine TL.pure (PV.index1 rfl rfl Tb.elm_27 rfl (by omega)) rfl (by decide) ?_
    refine TL.pure (PV.loadHead rfl Tb.one_31 (by repeat (first | exact List.Mem.head _ | refine List.Mem.tail _ ?_ | refine List.mem_append_right _ ?_)) (by omega)) rfl (by decide) ?_
    refine TL.pure (PV.move rfl) rfl (by decide) ?_
    refine TL.pure (PV.index1 rfl rfl Tb.elm_31 rfl (by omega)) rfl (by decide) ?_
    refine TL.pure (PV.loadRow (m := tabM N c (eS f k).2) rfl Tb.one_3 (.tail _ (List.mem_append_left _ (mem_rowsH (m := tabM N c (eS f k).2) (by omega) (Nat.lt_of_lt_of_eq (by omega) (tabM_len _ _ _).symm)))) (Nat.lt_of_lt_of_eq (by omega) ((tabM_sh _ _ _).2 k (by omega)).symm)) rfl (by decide) ?_
    refine TL.pure (PV.assign rfl) rfl (by decide) ?_
    refine TL.nil ?_
    refine TQ.thenC ?_
    refine TC.seq ?_
    refine TC.seq ?_
    refine TC.region ?_
    refine TL.pure (PV.move rfl) rfl (by decide) ?_
    refine TL.pure (PV.len rfl Tb.sl_27) rfl (by decide) ?_
    refine TL.pure (PV.move rfl) rfl (by decide) ?_
    refine TL.nil ?_
    refine TQ.thenC ?_
    refine TC.block ?_
    refine TC.loopK [0, 2, 3, 4, 5, 10, 11, 22] (X := Nat) (fun i => i ≤ N) (fun i => [(23, .int .i64 i)]) (fun i => outB bO ids c :: (rowsH 3 ids (eT N c f k i 0) ++ R)) (fun i => N - i) 0 (Nat.zero_le _) (by repeat (first | exact True.intro | refine And.intro rfl ?_)) (by rw [eT, eMid_zero]; exact List.Sublist.refl _) ?_
    intro i hi
    refine TC.seq ?_
    refine TC.region ?_
    refine TL.pure (PV.lss rfl rfl) rfl (by decide) ?_
    refine TL.nil ?_
    refine TQ.thenC ?_
    refine TC.seq ?_
    first | refine TC.condD rfl (fun hlti => ?_) (fun hlti => ?_) | refine TC.cond rfl (fun hlti => ?_) (fun hlti => ?_)
    · skip
      refine TC.skip ?_
      refine TQ.thenC ?_
      refine TC.seq ?_
      refine TC.block ?_
      refine TC.seq ?_
      refine TC.region ?_
      refine TL.pure (PV.move rfl) rfl (by decide) ?_
      refine TL.pure (PV.assign rfl) rfl (by decide) ?_
      refine TL.nil ?_
      refine TQ.thenC ?_
      refine TC.seq ?_
      refine TC.seq ?_
      refine TC.region ?_
      refine TL.pure (PV.move rfl) rfl (by decide) ?_
      refine TL.pure (PV.move rfl) rfl (by decide) ?_
      refine TL.pure (PV.eql rfl rfl) rfl (by decide) ?_
      refine TL.nil ?_
      refine TQ.thenC ?_
      first | refine TC.condD rfl (fun hne => ?_) (fun hne => ?_) | refine TC.cond rfl (fun hne => ?_) (fun hne => ?_)
      · skip
        refine TC.exit ?_
        refine TQ.thenE ?_
        refine TQ.blkS ?_
        refine TQ.thenC ?_
        refine TC.region ?_
        refine TL.pure (PV.add rfl rfl (by omega)) rfl (by decide) ?_
        refine TL.pure (PV.move rfl) rfl (by decide) ?_
        refine TL.nil ?_
        refine TQ.thenN ?_
        first | (refine TQ.congrG (G' := outB bO ids c :: (rowsH 3 ids (eT N c f k (i + 1) 0) ++ R)) (by rw [eT, eT, ← eMid_row, show j = c by omega]) ?_) | (refine TQ.congrG (G' := outB bO ids c :: (rowsH 3 ids (eT N c f k (i + 1) 0) ++ R)) (by rw [eT, eT, show i = k by omega, eMid_skip]) ?_)
        refine TQ.backK (i + 1) (by repeat (first | exact True.intro | refine And.intro rfl ?_)) (by repeat (first | exact True.intro | refine And.intro rfl ?_)) (List.Sublist.refl _) (by omega) (by omega)
      · skip
        refine TC.skip ?_
        refine TQ.thenC ?_
        refine TC.seq ?_
        refine TC.region ?_
        refine TL.pure (PV.move rfl) rfl (by decide) ?_
        refine TL.pure (PV.move rfl) rfl (by decide) ?_
        refine TL.pure (PV.index1 rfl rfl Tb.elm_27 rfl (by omega)) rfl (by decide) ?_
        refine TL.pure (PV.loadHead rfl Tb.one_31 (by repeat (first | exact List.Mem.head _ | refine List.Mem.tail _ ?_ | refine List.mem_append_right _ ?_)) (by omega)) rfl (by decide) ?_
        refine TL.pure (PV.move rfl) rfl (by decide) ?_
        refine TL.pure (PV.index1 rfl rfl Tb.elm_31 rfl (by omega)) rfl (by decide) ?_
        refine TL.pure (PV.loadRow (m := eT N c f k i 0) rfl Tb.one_3 (.tail _ (List.mem_append_left _ (mem_rowsH (m := eT N c f k i 0) (by omega) (Nat.lt_of_lt_of_eq (by omega) (tabM_len _ _ _).symm)))) (Nat.lt_of_lt_of_eq (by omega) ((tabM_sh _ _ _).2 i (by omega)).symm)) rfl (by decide) ?_
        refine TL.pure (PV.assign rfl) rfl (by decide) ?_
        refine TL.nil ?_
        refine TQ.thenC ?_
        refine TC.seq ?_
        refine TC.region ?_
        refine TL.pure (PV.move rfl) rfl (by decide) ?_
        refine TL.pure (PV.move rfl) rfl (by decide) ?_
        refine TL.pure (PV.index1 rfl rfl Tb.elm_27 rfl (by omega)) rfl (by decide) ?_
        refine TL.pure (PV.loadHead rfl Tb.one_31 (by repeat (first | exact List.Mem.head _ | refine List.Mem.tail _ ?_ | refine List.mem_append_right _ ?_)) (by omega)) rfl (by decide) ?_
        refine TL.pure (PV.len rfl Tb.sl_31) rfl (by decide) ?_
        refine TL.pure (PV.move rfl) rfl (by decide) ?_
        refine TL.nil ?_
        refine TQ.thenC ?_
        refine TC.block ?_
        refine TC.loopK [0, 2, 3, 4, 5, 6, 7, 10, 11, 22, 23, 40] (X := Nat) (fun j => j ≤ c) (fun j => [(41, .int .i64 j)]) (fun j => outB bO ids c :: (rowsH 3 ids (eT N c f k i j) ++ R)) (fun j => c - j) 0 (Nat.zero_le _) (by repeat (first | exact True.intro | refine And.intro rfl ?_)) (by repeat (first | exact List.Sublist.slnil | exact List.nil_sublist _ | exact List.Sublist.refl _ | refine List.Sublist.cons_cons _ ?_ | refine List.Sublist.cons _ ?_ | refine List.Sublist.trans ?_ (List.sublist_append_right _ _))) ?_
        intro j hj
        refine TC.seq ?_
        refine TC.region ?_
        refine TL.pure (PV.lss rfl rfl) rfl (by decide) ?_
        refine TL.nil ?_
        refine TQ.thenC ?_
        refine TC.seq ?_
        first | refine TC.condD rfl (fun hltj => ?_) (fun hltj => ?_) | refine TC.cond rfl (fun hltj => ?_) (fun hltj => ?_)
        · skip
          refine TC.skip ?_
          refine TQ.thenC ?_
          refine TC.seq ?_
          refine TC.block ?_
          refine TC.seq ?_
          refine TC.region ?_
          refine TL.pure (PV.move rfl) rfl (by decide) ?_
          refine TL.pure (PV.assign rfl) rfl (by decide) ?_
          refine TL.nil ?_
          refine TQ.thenC ?_
          refine TC.draw 27 Tb.mixed (by kernel_rfl) ?_
          simp only [List.take_succ_cons, List.take_zero, List.drop_succ_cons, List.drop_zero]
          have hne : i ≠ k := fun h => hne (by rw [h])
          have hsk := hs k (by omega)
          have hsj := hsk.2 i (by omega) hne j (by omega)
          obtain ⟨hs1, hs2⟩ := hsj
          have e1 : getM (eT N c f k i j) i j = (eS f k).2 i j := (getM_tab (by omega) (by omega)).trans eMid_get
          have e2 : getM (eT N c f k i j) k j = (eS f k).2 k j := (getM_tab (by omega) (by omega)).trans eMid_getk
          have e3 : getM (eT N c f k i 0) i k = (eS f k).2 i k := (getM_tab (by omega) (by omega)).trans eMid_get0
          have e4 : getM (tabM N c (eS f k).2) k k = (eS f k).2 k k := getM_tab (by omega) (by omega)
          refine TS.pure (PV.move rfl) rfl (by decide) ?_
          refine TS.pure (PV.move rfl) rfl (by decide) ?_
          refine TS.pure (PV.index1 rfl rfl Tb.elm_27 rfl (by omega)) rfl (by decide) ?_
          refine TS.pure (PV.loadHead rfl Tb.one_31 (by repeat (first | exact List.Mem.head _ | refine List.Mem.tail _ ?_ | refine List.mem_append_right _ ?_)) (by omega)) rfl (by decide) ?_
          refine TS.pure (PV.move rfl) rfl (by decide) ?_
          refine TS.pure (PV.move rfl) rfl (by decide) ?_
          refine TS.pure (PV.move rfl) rfl (by decide) ?_
          refine TS.pure (PV.move rfl) rfl (by decide) ?_
          refine TS.pure (PV.index1 rfl rfl Tb.elm_27 rfl (by omega)) rfl (by decide) ?_
          refine TS.pure (PV.loadHead rfl Tb.one_31 (by repeat (first | exact List.Mem.head _ | refine List.Mem.tail _ ?_ | refine List.mem_append_right _ ?_)) (by omega)) rfl (by decide) ?_
          refine TS.pure (PV.move rfl) rfl (by decide) ?_
          refine TS.pure (PV.index1 rfl rfl Tb.elm_31 rfl (by omega)) rfl (by decide) ?_
          refine TS.pure (PV.loadRow (m := eT N c f k i j) rfl Tb.one_3 (.tail _ (List.mem_append_left _ (mem_rowsH (m := eT N c f k i j) (by omega) (Nat.lt_of_lt_of_eq (by omega) (tabM_len _ _ _).symm)))) (Nat.lt_of_lt_of_eq (by omega) ((tabM_sh _ _ _).2 i (by omega)).symm)) rfl (by decide) ?_
          refine TS.pure (PV.mul rfl rfl (by rw [e1, e4]; omega)) rfl (by decide) ?_
          refine TS.pure (PV.move rfl) rfl (by decide) ?_
          refine TS.pure (PV.move rfl) rfl (by decide) ?_
          refine TS.pure (PV.move rfl) rfl (by decide) ?_
          refine TS.pure (PV.index1 rfl rfl Tb.elm_27 rfl (by omega)) rfl (by decide) ?_
          refine TS.pure (PV.loadHead rfl Tb.one_31 (by repeat (first | exact List.Mem.head _ | refine List.Mem.tail _ ?_ | refine List.mem_append_right _ ?_)) (by omega)) rfl (by decide) ?_
          refine TS.pure (PV.move rfl) rfl (by decide) ?_
          refine TS.pure (PV.index1 rfl rfl Tb.elm_31 rfl (by omega)) rfl (by decide) ?_
          refine TS.pure (PV.loadRow (m := eT N c f k i j) rfl Tb.one_3 (.tail _ (List.mem_append_left _ (mem_rowsH (m := eT N c f k i j) (by omega) (Nat.lt_of_lt_of_eq (by omega) (tabM_len _ _ _).symm)))) (Nat.lt_of_lt_of_eq (by omega) ((tabM_sh _ _ _).2 k (by omega)).symm)) rfl (by decide) ?_
          refine TS.pure (PV.mul rfl rfl (by rw [e2, e3]; omega)) rfl (by decide) ?_
          refine TS.pure (PV.sub rfl rfl (by rw [e1, e2, e3, e4]; omega)) rfl (by decide) ?_
          refine TS.pure (PV.move rfl) rfl (by decide) ?_
          refine TS.pure (PV.quo rfl rfl hsk.1 (by rw [e1, e2, e3, e4]; have := tdiv_bound (g := (eS f k).1) (a := (eS f k).2 k k * (eS f k).2 i j - (eS f k).2 i k * (eS f k).2 k j) (B := 8000000000000000000) (by omega) (by omega) (by omega); omega)) rfl (by decide) ?_
          refine TS.pure (PV.index1 rfl rfl Tb.elm_31 rfl (by omega)) rfl (by decide) ?_
          refine TS.nil ?_
          refine TL.storeRow (m := eT N c f k i j) rfl rfl Tb.cells_3 (Upd.tail _ (Upd.appL _ (upd_rowsH (m := eT N c f k i j) _ (by omega) (Nat.lt_of_lt_of_eq (by omega) (tabM_len _ _ _).symm)))) (Nat.lt_of_lt_of_eq (by omega) ((tabM_sh _ _ _).2 i (by omega)).symm) rfl rfl ?_
          refine TL.congrG (G' := outB bO ids c :: (rowsH 3 ids (eT N c f k i (j + 1)) ++ R)) (by rw [e1, e2, e3, e4, eT, ← eMid_set (by omega) (by omega) hne]; rfl) ?_
          refine TL.nil ?_
          refine TQ.blkN ?_
          refine TQ.thenC ?_
          refine TC.region ?_
          refine TL.pure (PV.add rfl rfl (by omega)) rfl (by decide) ?_
          refine TL.pure (PV.move rfl) rfl (by decide) ?_
          refine TL.nil ?_
          refine TQ.thenN ?_
          refine TQ.backK (j + 1) (by repeat (first | exact True.intro | refine And.intro rfl ?_)) (by repeat (first | exact True.intro | refine And.intro rfl ?_)) (by repeat (first | exact List.Sublist.slnil | exact List.nil_sublist _ | exact List.Sublist.refl _ | refine List.Sublist.cons_cons _ ?_ | refine List.Sublist.cons _ ?_ | refine List.Sublist.trans ?_ (List.sublist_append_right _ _))) (by omega) (by omega)
        · skip
          refine TC.exit ?_
          refine TQ.thenE ?_
          refine TQ.thenE ?_
          refine TQ.blkS ?_
          refine TQ.blkN ?_
          refine TQ.thenC ?_
          refine TC.region ?_
          refine TL.pure (PV.add rfl rfl (by omega)) rfl (by decide) ?_
          refine TL.pure (PV.move rfl) rfl (by decide) ?_
          refine TL.nil ?_
          refine TQ.thenN ?_
          first | (refine TQ.congrG (G' := outB bO ids c :: (rowsH 3 ids (eT N c f k (i + 1) 0) ++ R)) (by rw [eT, eT, ← eMid_row, show j = c by omega]) ?_) | (refine TQ.congrG (G' := outB bO ids c :: (rowsH 3 ids (eT N c f k (i + 1) 0) ++ R)) (by rw [eT, eT, show i = k by omega, eMid_skip]) ?_)
          refine TQ.backK (i + 1) (by repeat (first | exact True.intro | refine And.intro rfl ?_)) (by repeat (first | exact True.intro | refine And.intro rfl ?_)) (List.Sublist.refl _) (by omega) (by omega)
    · skip
      refine TC.exit ?_
      refine TQ.thenE ?_
      refine TQ.thenE ?_
      refine TQ.blkS ?_
      refine TQ.thenC ?_
      refine TC.region ?_
      refine TL.pure (PV.move rfl) rfl (by decide) ?_
      refine TL.pure (PV.assign rfl) rfl (by decide) ?_
      refine TL.nil ?_
      refine TQ.blkN ?_
      refine TQ.thenC ?_
      refine TC.region ?_
      refine TL.pure (PV.add rfl rfl (by omega)) rfl (by decide) ?_
      refine TL.pure (PV.move rfl) rfl (by decide) ?_
      refine TL.nil ?_
      refine TQ.thenN ?_
      refine TQ.congrG (G' := outB bO ids c :: (rowsH 3 ids (tabM N c (eS f (k + 1)).2) ++ R)) (by rw [eT, show i = N by omega, eMid_all]; rfl) ?_
      refine TQ.backK (k + 1) ⟨rfl, by rw [← show getM (tabM N c (eS f k).2) k k = (eS f (k + 1)).1 from getM_tab (by omega) (by omega)]; rfl, trivial⟩ (by repeat (first | exact True.intro | refine And.intro rfl ?_)) (by repeat (first | exact List.Sublist.slnil | exact List.nil_sublist _ | exact List.Sublist.refl _ | refine List.Sublist.cons_cons _ ?_ | refine List.Sublist.cons _ ?_ | refine List.Sublist.trans ?_ (List.sublist_append_right _ _))) (by omega) (by omega)
  · skip
    refine TC.exit ?_
    refine TQ.thenE ?_
    refine TQ.thenE ?_
    refine TQ.blkS ?_
    refine TQ.thenC ?_
    refine TC.seq ?_
    refine TC.region ?_
    refine TL.pure (PV.move rfl) rfl (by decide) ?_
    refine TL.pure (PV.assign rfl) rfl (by decide) ?_
    refine TL.nil ?_
    refine TQ.thenC ?_
    refine TC.ret ?_
    refine TQ.retE1 rfl rfl ?_
    exact ⟨(), by rw [show N = k by omega], trivial, by rw [show N = k by omega]; exact List.Sublist.refl _⟩

end Go.Proofs.Ytmmgcajegokkoaa
