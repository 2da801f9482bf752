/- Mirrors: mathematics and contracts. -/
import Derived.Test.YtfgjojoipbbacaaDM
set_option linter.unusedVariables false
set_option linter.unusedSimpArgs false
namespace Go.Proofs.Ytfgjojoipbbacaa
open Go.Sx Go.RowKit

theorem gD_rev {α : Type} (l : List α) (d : α) {j : Nat} (h : j < l.length) : l.reverse.getD j d = l.getD (l.length - 1 - j) d := by
  simp only [List.getD_eq_getElem?_getD]
  rw [List.getElem?_reverse h]
theorem VB.rev {ls : List (List Int)} (h : VB ls) : VB ls.reverse := by
  have hn := h.n
  have hd : dep ls.reverse = dep ls := by unfold dep; rw [gD_rev _ _ (by omega)]; exact h.c _ (by omega)
  refine ⟨by simpa using h.n, by rw [hd]; exact h.d, fun k hk => ?_, fun k j => ?_⟩
  · rw [List.length_reverse] at hk
    rw [gD_rev _ _ hk, hd]; exact h.c _ (by omega)
  · by_cases hk : k < ls.length
    · rw [gD_rev _ _ hk]; exact h.w _ _
    · have e : ls.reverse.getD k [] = [] := by rw [List.getD_eq_getElem?_getD, List.getElem?_eq_none (by simp; omega)]; rfl
      rw [e]; simp
theorem dep_rev {ls : List (List Int)} (h : VB ls) : dep ls.reverse = dep ls := by
  have hn := h.n
  unfold dep; rw [gD_rev _ _ (by omega)]; exact h.c _ (by omega)
theorem vb_valid {ls : List (List Int)} (h : VB ls) : validI ls = 0 := by
  have h1 := h.n
  have h2 := h.d
  refine valid_0 (by omega) (by omega) fun k hk => ?_
  unfold colB
  simp only [Bool.and_eq_true, decide_eq_true_eq, List.all_eq_true]
  refine ⟨h.c k hk, fun x hx => ?_⟩
  obtain ⟨j, hj, rfl⟩ := List.getElem_of_mem hx
  have := h.w k j
  rw [show (ls.getD k []).getD j 0 = (ls.getD k [])[j] by simp only [List.getD_eq_getElem?_getD] at hj ⊢; simp [hj]] at this
  exact decide_eq_true this
theorem right_rev (xs : List Int) : rightB xs.reverse = rightB xs := by
  have key : ∀ xs : List Int, rightB xs = true → rightB xs.reverse = true := fun xs h => right_yes fun k hk => by
    rw [List.length_reverse] at hk
    have := right_at h (k := xs.length - 1 - (k + 1)) (by omega)
    unfold stepB at this ⊢
    rw [gD_rev _ _ (by omega), gD_rev _ _ (by omega)]
    rw [show xs.length - 1 - (k + 1) + 1 = xs.length - 1 - k by omega] at this
    unfold wiB at this ⊢
    have := of_decide_eq_true this
    exact decide_eq_true (by omega)
  rw [Bool.eq_iff_iff]
  refine ⟨fun h => ?_, key xs⟩
  have := key _ h
  rwa [List.reverse_reverse] at this
theorem hol_rev {ls : List (List Int)} (h : VB ls) (xs : List Int) : holI ls.reverse xs.reverse = holI ls xs := by
  have e : numI ls.reverse xs.reverse = numI ls xs := by
    unfold numI
    rw [vb_valid h, vb_valid h.rev, dep_rev h, List.length_reverse, List.length_reverse, List.all_reverse]
  unfold holI
  rw [e, right_rev]
theorem wor_rev {ls : List (List Int)} {xs : List Int} (hl : xs.length = ls.length) : ∀ m, m ≤ ls.length → worK ls.reverse xs.reverse m = worK ls xs ls.length - worK ls xs (ls.length - m)
  | 0, _ => by simp [worK]
  | m + 1, h => by
    show worK _ _ m + _ = _
    rw [wor_rev hl m (by omega), gD_rev _ _ (by omega), gD_rev _ _ (by omega), hl]
    have e : ls.length - m = (ls.length - (m + 1)) + 1 := by omega
    rw [e, show ls.length - 1 - m = ls.length - (m + 1) by omega]
    show _ - (worK _ _ _ + _) + _ = _
    omega
theorem worH_rev {ls : List (List Int)} {xs : List Int} (hl : xs.length = ls.length) : worH ls.reverse xs.reverse = worH ls xs := by
  unfold worH
  rw [List.length_reverse, hl, wor_rev hl _ (Nat.le_refl _), Nat.sub_self]
  show _ - 0 = _
  omega
theorem mirrors {ls : List (List Int)} (h : ¬ validI ls ≠ 0) (xs : List Int) : holI ls.reverse xs.reverse = holI ls xs ∧ (if holI ls.reverse xs.reverse = 0 then worH ls.reverse xs.reverse else 0) = if holI ls xs = 0 then worH ls xs else 0 := by
  have hv := vb_of h
  have e := hol_rev hv xs
  refine ⟨e, ?_⟩
  rw [e]
  by_cases h0 : holI ls xs = 0
  · rw [if_pos h0, if_pos h0, worH_rev (ho_of (show ¬ holI ls xs ≠ 0 by rw [h0]; decide)).len]
  · rw [if_neg h0, if_neg h0]
def mirR (ls : List (List Int)) : List (List Int) := if validI ls ≠ 0 then [] else ls.reverse
theorem mirR_no {ls : List (List Int)} (h : validI ls ≠ 0) : mirR ls = [] := if_pos h
theorem mirR_ok {ls : List (List Int)} (h : ¬ validI ls ≠ 0) : mirR ls = ls.reverse := if_neg h
/-! A slice that is turned round, under way. -/
abbrev D0 : HD × List Int := (none, [])
def revK (ps : List (HD × List Int)) (i : Nat) : List (HD × List Int) := (List.range ps.length).map fun j => if j < i ∨ ps.length - i ≤ j then ps.getD (ps.length - 1 - j) D0 else ps.getD j D0
theorem revK_len (ps : List (HD × List Int)) (i : Nat) : (revK ps i).length = ps.length := by simp [revK]
theorem revK_zero (ps : List (HD × List Int)) : revK ps 0 = ps := by
  apply List.ext_getElem (by simp [revK])
  intro j h1 h2
  simp [revK, List.getD, h2]
  omega
theorem revK_at {ps : List (HD × List Int)} {i j : Nat} (hj : j < ps.length) : (revK ps i).getD j D0 = if j < i ∨ ps.length - i ≤ j then ps.getD (ps.length - 1 - j) D0 else ps.getD j D0 := by
  simp only [revK, List.getD_eq_getElem?_getD, List.getElem?_map]
  simp [hj]
theorem revK_end {ps : List (HD × List Int)} {i : Nat} (h : ¬ ((i : Int) < (ps.length : Int) - 1 - i)) : revK ps i = ps.reverse := by
  apply List.ext_getElem (by simp [revK])
  intro j h1 h2
  have hj : j < ps.length := by simpa using h2
  rw [show ps.reverse[j] = ps.reverse.getD j D0 by simp [List.getD, hj], gD_rev _ _ hj]
  rw [show (revK ps i)[j] = (revK ps i).getD j D0 by simp [List.getD, revK_len, hj], revK_at hj]
  split
  · rfl
  · rw [show j = ps.length - 1 - j by omega]
    congr 1
    omega
theorem revK_next {ps : List (HD × List Int)} {i : Nat} (h : (i : Int) < (ps.length : Int) - 1 - i) : (((revK ps i).map gvI).set i (gvI ((revK ps i).getD (ps.length - 1 - i) D0))).set (ps.length - 1 - i) (gvI ((revK ps i).getD i D0)) = (revK ps (i + 1)).map gvI := by
  apply List.ext_getElem (by simp [revK])
  intro j h1 h2
  have hj : j < ps.length := by simpa [revK] using h2
  rw [List.getElem_map, show (revK ps (i + 1))[j]'(by simpa [revK] using hj) = (revK ps (i + 1)).getD j D0 by simp [List.getD, revK_len, hj], revK_at hj]
  rw [List.getElem_set, List.getElem_set, List.getElem_map, show (revK ps i)[j]'(by simpa [revK] using hj) = (revK ps i).getD j D0 by simp [List.getD, revK_len, hj], revK_at hj, revK_at (j := i) (by omega), revK_at (j := ps.length - 1 - i) (by omega)]
  by_cases e1 : ps.length - 1 - i = j
  · subst e1
    rw [if_pos rfl, if_neg (by omega), if_pos (by omega)]
    congr 2
    omega
  · rw [if_neg e1]
    by_cases e2 : i = j
    · subst e2
      rw [if_pos rfl, if_neg (by omega), if_pos (by omega)]
    · rw [if_neg e2]
      by_cases e3 : j < i ∨ ps.length - i ≤ j
      · rw [if_pos e3, if_pos (by omega)]
      · rw [if_neg e3, if_neg (by omega)]
theorem revK_next' {ps : List (HD × List Int)} {i : Nat} (h : (i : Int) < (ps.length : Int) - 1 - i) : (((revK ps i).map gvI).set (ps.length - 1 - i) (gvI ((revK ps i).getD i D0))).set i (gvI ((revK ps i).getD (ps.length - 1 - i) D0)) = (revK ps (i + 1)).map gvI := by
  rw [List.set_comm _ _ (by omega)]; exact revK_next h
theorem bl_rev (ps : List (HD × List Int)) : (bl ps.reverse).Perm (bl ps) := by
  unfold bl
  exact List.Perm.flatMap_right _ (List.reverse_perm _)
/-- Heads of new rows, then the old ones. -/
def mxP (y : HD × List (HD × List Int)) (A : List (HD × List Int)) : List (HD × List Int) := A ++ y.2.drop A.length
theorem mxP_len {y : HD × List (HD × List Int)} {A : List (HD × List Int)} (h : A.length ≤ y.2.length) : (mxP y A).length = y.2.length := by simp [mxP]; omega
theorem mxP_ok {y : HD × List (HD × List Int)} {A : List (HD × List Int)} (h : goP y) (hl : A.length ≤ y.2.length) : gok y.1 y.2.length 1 ((mxP y A).map gvI) := gok_len h (by rw [List.length_map, mxP_len hl])
theorem mxP_zero (y : HD × List (HD × List Int)) : mxP y [] = y.2 := by simp [mxP]
theorem mxP_end {y : HD × List (HD × List Int)} {A : List (HD × List Int)} (h : A.length = y.2.length) : mxP y A = A := by simp [mxP, h]
theorem mxP_put {y : HD × List (HD × List Int)} {A : List (HD × List Int)} {z : HD × List Int} {k : Nat} (h : A.length = k) (hk : k < y.2.length) : (mxP y (A ++ [z])).map gvI = ((mxP y A).map gvI).set k (gvI z) := by
  subst h
  unfold mxP
  rw [show (A ++ y.2.drop A.length).map gvI = A.map gvI ++ (y.2.drop A.length).map gvI from List.map_append, List.set_append_right _ _ (by simp), List.length_map, Nat.sub_self, show y.2.drop A.length = y.2[A.length] :: y.2.drop (A.length + 1) from List.drop_eq_getElem_cons hk, List.map_cons, List.set_cons_zero]
  simp
theorem mxP_gr {l m : List (List Int)} {y : HD × List (HD × List Int)} {A : List (HD × List Int)} (h : GrP m y) (hA : A.length = y.2.length) (hl : A.length = l.length) (hc : CpI l.reverse A) : GrP l.reverse (y.1, mxP y A) := by
  rw [mxP_end hA]
  refine ⟨by rw [hc.eq, List.take_of_length_le (by rw [List.length_reverse]; omega)], ?_, hc.all⟩
  show gok y.1 A.length 1 _
  rw [hA]
  exact gok_len h.ok (by simp [hA])
theorem mx_sub (y : HD × List (HD × List Int)) (p : Nat × Obj) (A R : Heap) : List.Sublist (bl [] ++ (p :: (gbP y ++ R))) (p :: ((gbP y ++ A) ++ R)) := by
  rw [List.append_assoc]
  exact List.Sublist.cons_cons _ (List.Sublist.append_left (List.sublist_append_right _ _) _)
theorem GrP.rev {l : List (List Int)} {y : HD × List (HD × List Int)} (h : GrP l y) : GrP l.reverse (y.1, y.2.reverse) :=
  ⟨by rw [List.map_reverse, h.eq], by
    show gok y.1 y.2.reverse.length 1 _
    rw [List.length_reverse]
    exact gok_len h.ok (by simp), fun z hz => h.all z (List.mem_reverse.1 hz)⟩


set_option maxRecDepth 100000 in
set_option maxHeartbeats 2000000 in
theorem reverse_ok {w0 w : World} {b cap : Nat} {sp : List Value} {ps : List (HD × List Int)} {R : Heap} (hn : New w0 w ((b, Obj.cells (ps.map gvI ++ sp).toArray 25 (0, 0)) :: R)) (hg : goP (some (b, cap, sp), ps)) (hl : ps.length ≤ 1000000) :
    Calls Try.prog 80 #[.slice (some ⟨b, 0, none⟩) ps.length cap] w (Post (X := Unit) (fun _ => .tuple #[]) (fun _ => True) (fun _ => (b, Obj.cells (ps.reverse.map gvI ++ sp).toArray 25 (0, 0)) :: R) w0) := by
  refine callsM hn Try.func80 rfl (n := 28) rfl (by simp) ?_
  refine TC.seq ?_
  refine TC.region ?_
  refine TL.pure (PV.move rfl) rfl (by decide) ?_
  refine TL.pure (PV.len rfl Tb.sl_22) rfl (by decide) ?_
  refine TL.pure (PV.sub rfl rfl (by omega)) rfl (by decide) ?_
  refine TL.pure (PV.assign rfl) rfl (by decide) ?_
  refine TL.pure (PV.assign rfl) rfl (by decide) ?_
  refine TL.nil ?_
  refine TQ.thenC ?_
  refine TC.block ?_
  refine TC.loopK [0] (X := Nat × Int) (fun x => x.1 ≤ ps.length ∧ x.2 = (ps.length : Int) - 1 - x.1) (fun x => [(2, .int .i64 x.1), (3, .int .i64 x.2)]) (fun x => (b, Obj.cells ((revK ps x.1).map gvI ++ sp).toArray 25 (0, 0)) :: R) (fun x => ps.length - x.1) (0, (ps.length : Int) - 1) ⟨Nat.zero_le _, by simp⟩ (by repeat (first | exact True.intro | refine And.intro rfl ?_)) (by rw [revK_zero]; exact List.Sublist.refl _) ?_
  intro x hx
  refine TC.seq ?_
  refine TC.seq ?_
  refine TC.region ?_
  refine TL.pure (PV.move rfl) rfl (by decide) ?_
  refine TL.pure (PV.move rfl) rfl (by decide) ?_
  refine TL.pure (PV.lss rfl rfl) rfl (by decide) ?_
  refine TL.nil ?_
  refine TQ.thenC ?_
  first | refine TC.condD rfl (fun hlt => ?_) (fun hlt => ?_) | refine TC.cond rfl (fun hlt => ?_) (fun hlt => ?_)
  · skip
    refine TC.skip ?_
    refine TQ.thenC ?_
    refine TC.seq ?_
    refine TC.block ?_
    obtain ⟨m, hm⟩ : ∃ m : Nat, x.2 = (m : Int) := ⟨ps.length - 1 - x.1, by omega⟩
    have hm2 : m = ps.length - 1 - x.1 := by omega
    have hok2 : gok (some (b, cap, sp)) ps.length 1 ((revK ps x.1).map gvI) := gok_len hg (by simp [revK])
    have hok : goP (some (b, cap, sp), (revK ps x.1)) := by show gok _ (revK ps x.1).length 1 _; rw [revK_len]; exact hok2
    refine TC.mix [true, true, true, true, true, true, true, false, true, true, true, false, false, false, false, false] R 6 Tb.mixed rfl (by kernel_rfl) (by kernel_rfl) (by kernel_rfl) (by kernel_rfl) (by repeat (first | exact List.Sublist.slnil | exact List.nil_sublist _ | exact List.Sublist.refl _ | refine List.Sublist.cons_cons _ ?_ | refine List.Sublist.cons _ ?_ | refine List.Sublist.trans ?_ (List.sublist_append_right _ _))) ?_
    refine TB.op (SOK.pure (PV.move rfl) rfl) (by decide) ?_
    refine TB.op (SOK.pure (PV.move rfl) rfl) (by decide) ?_
    refine TB.op (SOK.pure (PV.move rfl) rfl) (by decide) ?_
    refine TB.op (SOK.pure (PV.move rfl) rfl) (by decide) ?_
    refine TB.op (SOK.pure (PV.move rfl) rfl) (by decide) ?_
    refine TB.op (SOK.pure (PV.move rfl) rfl) (by decide) ?_
    refine TB.op (SOK.pure (PV.indexG (h := some (b, cap, sp)) (len := ps.length) (ys := (revK ps x.1).map gvI) (j := m) rfl rfl hok2 Tb.elm_22 (by first | rfl | exact hm) (by omega)) rfl) (by decide) ?_
    refine TB.no ?_
    refine TB.op (SOK.pure (PV.move rfl) rfl) (by decide) ?_
    refine TB.op (SOK.pure (PV.move rfl) rfl) (by decide) ?_
    refine TB.op (SOK.pure (PV.indexG (h := some (b, cap, sp)) (len := ps.length) (ys := (revK ps x.1).map gvI) (j := x.1) rfl rfl hok2 Tb.elm_22 (by first | rfl | exact hm) (by omega)) rfl) (by decide) ?_
    refine TB.no ?_
    refine TB.no ?_
    refine TB.no ?_
    refine TB.no ?_
    refine TB.no ?_
    refine TB.fin ?_
    refine TX.step [7, 11] (by kernel_rfl) (by decide) ⟨⟨_, rfl, ?_⟩, ⟨_, rfl, ?_⟩, trivial⟩
    · skip
      refine TL.pure (PV.loadGP (y := (some (b, cap, sp), revK ps x.1)) (j := m) (v := gvI ((revK ps x.1).getD m D0)) rfl Tb.one_25 (fun q9 hq9 => by rw [List.mem_singleton.1 hq9]; exact List.Mem.head _) hok (by show m < (revK ps x.1).length; rw [revK_len]; omega) rfl) rfl (by decide) ?_
      refine TL.nil ?_
      refine TX.next (.inl (by repeat (first | exact List.Sublist.slnil | exact List.nil_sublist _ | exact List.Sublist.refl _ | refine List.Sublist.cons_cons _ ?_ | refine List.Sublist.cons _ ?_ | refine List.Sublist.trans ?_ (List.sublist_append_right _ _)))) ?_
      refine TX.step [11] (by kernel_rfl) (by decide) ⟨⟨_, rfl, ?_⟩, trivial⟩
      refine TL.pure (PV.loadGP (y := (some (b, cap, sp), revK ps x.1)) (j := x.1) (v := gvI ((revK ps x.1).getD x.1 D0)) rfl Tb.one_25 (fun q9 hq9 => by rw [List.mem_singleton.1 hq9]; exact List.Mem.head _) hok (by show x.1 < (revK ps x.1).length; rw [revK_len]; omega) rfl) rfl (by decide) ?_
      refine TL.nil ?_
      refine TX.next (.inl (by repeat (first | exact List.Sublist.slnil | exact List.nil_sublist _ | exact List.Sublist.refl _ | refine List.Sublist.cons_cons _ ?_ | refine List.Sublist.cons _ ?_ | refine List.Sublist.trans ?_ (List.sublist_append_right _ _)))) ?_
      refine TX.step [12] (by kernel_rfl) (by decide) ⟨⟨_, rfl, ?_⟩, trivial⟩
      refine TL.pure (PV.indexG (h := some (b, cap, sp)) (len := ps.length) (ys := (revK ps x.1).map gvI) (j := x.1) rfl rfl hok2 Tb.elm_22 (by first | rfl | exact hm) (by omega)) rfl (by decide) ?_
      refine TL.nil ?_
      refine TX.next (.inl (by repeat (first | exact List.Sublist.slnil | exact List.nil_sublist _ | exact List.Sublist.refl _ | refine List.Sublist.cons_cons _ ?_ | refine List.Sublist.cons _ ?_ | refine List.Sublist.trans ?_ (List.sublist_append_right _ _)))) ?_
      refine TX.step [13] (by kernel_rfl) (by decide) ⟨⟨_, rfl, ?_⟩, trivial⟩
      refine TL.put1 (h := some (b, cap, sp)) (len := ps.length) (e := 25) (ys := _) (j := x.1) (v := gvI ((revK ps x.1).getD m D0)) rfl rfl Tb.cells_25 (gvI_one _) (gok_len hok2 (by simp [revK])) rfl (PutH.here _ _ _ _) (by omega) rfl rfl ?_
      refine TL.nil ?_
      refine TX.next (.inl (by repeat (first | exact List.Sublist.slnil | exact List.nil_sublist _ | exact List.Sublist.refl _ | refine List.Sublist.cons_cons _ ?_ | refine List.Sublist.cons _ ?_ | refine List.Sublist.trans ?_ (List.sublist_append_right _ _)))) ?_
      refine TX.step [14] (by kernel_rfl) (by decide) ⟨⟨_, rfl, ?_⟩, trivial⟩
      refine TL.pure (PV.indexG (h := some (b, cap, sp)) (len := ps.length) (ys := (revK ps x.1).map gvI) (j := m) rfl rfl hok2 Tb.elm_22 (by first | rfl | exact hm) (by omega)) rfl (by decide) ?_
      refine TL.nil ?_
      refine TX.next (.inr (by kernel_rfl)) ?_
      refine TX.step [15] (by kernel_rfl) (by decide) ⟨⟨_, rfl, ?_⟩, trivial⟩
      refine TL.put1 (h := some (b, cap, sp)) (len := ps.length) (e := 25) (ys := _) (j := m) (v := gvI ((revK ps x.1).getD x.1 D0)) rfl rfl Tb.cells_25 (gvI_one _) (gok_len hok2 (by simp [revK])) rfl (PutH.here _ _ _ _) (by omega) rfl rfl ?_
      refine TL.nil ?_
      refine TX.next (.inr (by kernel_rfl)) ?_
      refine TX.done (by kernel_rfl) ?_
      refine TQ.blkN ?_
      refine TQ.thenC ?_
      refine TC.region ?_
      refine TL.pure (PV.move rfl) rfl (by decide) ?_
      refine TL.pure (PV.add rfl rfl (by omega)) rfl (by decide) ?_
      refine TL.pure (PV.move rfl) rfl (by decide) ?_
      refine TL.pure (PV.sub rfl rfl (by omega)) rfl (by decide) ?_
      refine TL.pure (PV.assign rfl) rfl (by decide) ?_
      refine TL.pure (PV.assign rfl) rfl (by decide) ?_
      refine TL.nil ?_
      refine TQ.thenN ?_
      refine TQ.backK (x.1 + 1, x.2 - 1) (by repeat (first | exact True.intro | refine And.intro rfl ?_)) (by repeat (first | exact True.intro | refine And.intro rfl ?_)) (by subst hm2; first | (rw [← revK_next (by omega)]; exact List.Sublist.refl _) | (rw [← revK_next' (by omega)]; exact List.Sublist.refl _)) ⟨by simp only; omega, by simp only; omega⟩ (by simp only; omega)
    · skip
      refine TL.pure (PV.loadGP (y := (some (b, cap, sp), revK ps x.1)) (j := x.1) (v := gvI ((revK ps x.1).getD x.1 D0)) rfl Tb.one_25 (fun q9 hq9 => by rw [List.mem_singleton.1 hq9]; exact List.Mem.head _) hok (by show x.1 < (revK ps x.1).length; rw [revK_len]; omega) rfl) rfl (by decide) ?_
      refine TL.nil ?_
      refine TX.next (.inl (by repeat (first | exact List.Sublist.slnil | exact List.nil_sublist _ | exact List.Sublist.refl _ | refine List.Sublist.cons_cons _ ?_ | refine List.Sublist.cons _ ?_ | refine List.Sublist.trans ?_ (List.sublist_append_right _ _)))) ?_
      refine TX.step [7] (by kernel_rfl) (by decide) ⟨⟨_, rfl, ?_⟩, trivial⟩
      refine TL.pure (PV.loadGP (y := (some (b, cap, sp), revK ps x.1)) (j := m) (v := gvI ((revK ps x.1).getD m D0)) rfl Tb.one_25 (fun q9 hq9 => by rw [List.mem_singleton.1 hq9]; exact List.Mem.head _) hok (by show m < (revK ps x.1).length; rw [revK_len]; omega) rfl) rfl (by decide) ?_
      refine TL.nil ?_
      refine TX.next (.inl (by repeat (first | exact List.Sublist.slnil | exact List.nil_sublist _ | exact List.Sublist.refl _ | refine List.Sublist.cons_cons _ ?_ | refine List.Sublist.cons _ ?_ | refine List.Sublist.trans ?_ (List.sublist_append_right _ _)))) ?_
      refine TX.step [12] (by kernel_rfl) (by decide) ⟨⟨_, rfl, ?_⟩, trivial⟩
      refine TL.pure (PV.indexG (h := some (b, cap, sp)) (len := ps.length) (ys := (revK ps x.1).map gvI) (j := x.1) rfl rfl hok2 Tb.elm_22 (by first | rfl | exact hm) (by omega)) rfl (by decide) ?_
      refine TL.nil ?_
      refine TX.next (.inl (by repeat (first | exact List.Sublist.slnil | exact List.nil_sublist _ | exact List.Sublist.refl _ | refine List.Sublist.cons_cons _ ?_ | refine List.Sublist.cons _ ?_ | refine List.Sublist.trans ?_ (List.sublist_append_right _ _)))) ?_
      refine TX.step [13] (by kernel_rfl) (by decide) ⟨⟨_, rfl, ?_⟩, trivial⟩
      refine TL.put1 (h := some (b, cap, sp)) (len := ps.length) (e := 25) (ys := _) (j := x.1) (v := gvI ((revK ps x.1).getD m D0)) rfl rfl Tb.cells_25 (gvI_one _) (gok_len hok2 (by simp [revK])) rfl (PutH.here _ _ _ _) (by omega) rfl rfl ?_
      refine TL.nil ?_
      refine TX.next (.inl (by repeat (first | exact List.Sublist.slnil | exact List.nil_sublist _ | exact List.Sublist.refl _ | refine List.Sublist.cons_cons _ ?_ | refine List.Sublist.cons _ ?_ | refine List.Sublist.trans ?_ (List.sublist_append_right _ _)))) ?_
      refine TX.step [14] (by kernel_rfl) (by decide) ⟨⟨_, rfl, ?_⟩, trivial⟩
      refine TL.pure (PV.indexG (h := some (b, cap, sp)) (len := ps.length) (ys := (revK ps x.1).map gvI) (j := m) rfl rfl hok2 Tb.elm_22 (by first | rfl | exact hm) (by omega)) rfl (by decide) ?_
      refine TL.nil ?_
      refine TX.next (.inr (by kernel_rfl)) ?_
      refine TX.step [15] (by kernel_rfl) (by decide) ⟨⟨_, rfl, ?_⟩, trivial⟩
      refine TL.put1 (h := some (b, cap, sp)) (len := ps.length) (e := 25) (ys := _) (j := m) (v := gvI ((revK ps x.1).getD x.1 D0)) rfl rfl Tb.cells_25 (gvI_one _) (gok_len hok2 (by simp [revK])) rfl (PutH.here _ _ _ _) (by omega) rfl rfl ?_
      refine TL.nil ?_
      refine TX.next (.inr (by kernel_rfl)) ?_
      refine TX.done (by kernel_rfl) ?_
      refine TQ.blkN ?_
      refine TQ.thenC ?_
      refine TC.region ?_
      refine TL.pure (PV.move rfl) rfl (by decide) ?_
      refine TL.pure (PV.add rfl rfl (by omega)) rfl (by decide) ?_
      refine TL.pure (PV.move rfl) rfl (by decide) ?_
      refine TL.pure (PV.sub rfl rfl (by omega)) rfl (by decide) ?_
      refine TL.pure (PV.assign rfl) rfl (by decide) ?_
      refine TL.pure (PV.assign rfl) rfl (by decide) ?_
      refine TL.nil ?_
      refine TQ.thenN ?_
      refine TQ.backK (x.1 + 1, x.2 - 1) (by repeat (first | exact True.intro | refine And.intro rfl ?_)) (by repeat (first | exact True.intro | refine And.intro rfl ?_)) (by subst hm2; first | (rw [← revK_next (by omega)]; exact List.Sublist.refl _) | (rw [← revK_next' (by omega)]; exact List.Sublist.refl _)) ⟨by simp only; omega, by simp only; omega⟩ (by simp only; omega)
  · skip
    refine TC.exit ?_
    refine TQ.thenE ?_
    refine TQ.thenE ?_
    refine TQ.blkS ?_
    refine TQ.retN rfl (Res.nil) ?_
    exact ⟨(), rfl, trivial, by rw [← revK_end (i := x.1) (by omega)]; exact List.Sublist.refl _⟩

set_option maxRecDepth 100000 in
set_option maxHeartbeats 1000000 in
theorem Mirror_ok (w0 : World) (p : Option Addr) (cap : Nat) (ls : List (List Int)) (hr : LsAt w0 p ls) :
    Calls Try.prog 43 #[bv p ls.length cap] w0 (Post (X := HD × List (HD × List Int)) (fun z => .tuple #[.agg #[gvP z], .int .i64 (validI ls)]) (fun z => GrP (mirR ls) z) (fun z => gbP z ++ bl z.2) w0) := by
  refine calls Try.func43 rfl (n := 18) rfl (by simp) ?_
  refine TC.seq ?_
  refine TC.region ?_
  refine TL.box rfl rfl (by decide) (fun b0 hb0 => ?_)
  refine TL.alloc Tb.zero_24 rfl (by decide) (fun b1 hb1 => ?_)
  refine TL.pure (PV.assign rfl) rfl (by decide) ?_
  refine TL.nil ?_
  refine TQ.thenC ?_
  refine TC.seq ?_
  refine TC.seq ?_
  refine TC.region ?_
  refine TL.pure (PV.loadBox rfl Tb.agg_24 (by repeat (first | exact List.Mem.head _ | refine List.Mem.tail _ ?_ | refine List.mem_append_right _ ?_)) rfl) rfl (by decide) ?_
  refine TL.call rfl Tb.gofn_21 (fun a w hs => validate_ok w _ _ _ (hr.new hs.new)) rfl (by decide) (fun _ _ => ?_)
  refine TL.pure (PV.assign rfl) rfl (by decide) ?_
  refine TL.nil ?_
  refine TQ.thenC ?_
  refine TC.seq ?_
  refine TC.region ?_
  refine TL.pure (PV.move rfl) rfl (by decide) ?_
  refine TL.pure (PV.neq rfl rfl) rfl (by decide) ?_
  refine TL.nil ?_
  refine TQ.thenC ?_
  first | refine TC.condD rfl (fun hbad => ?_) (fun hbad => ?_) | refine TC.cond rfl (fun hbad => ?_) (fun hbad => ?_)
  · skip
    refine TC.seq ?_
    refine TC.region ?_
    refine TL.pure (PV.build rfl Tb.zero_24 Tb.pl_24 rfl) rfl (by decide) ?_
    refine TL.pure (PV.move rfl) rfl (by decide) ?_
    refine TL.storeAgg rfl rfl Tb.cells_24 (by repeat (first | exact Upd.head _ | apply Upd.tail | apply Upd.appR)) rfl rfl (by first | rfl | exact sv_one _ _ _) rfl rfl ?_
    refine TL.pure (PV.assign rfl) rfl (by decide) ?_
    refine TL.nil ?_
    refine TQ.thenC ?_
    refine TC.ret ?_
    refine TQ.thenR ?_
    refine TQ.retR rfl (Res.agg rfl Tb.agg_24 (by repeat (first | exact List.Mem.head _ | refine List.Mem.tail _ ?_ | refine List.mem_append_right _ ?_)) rfl (Res.tmp rfl Res.nil)) ?_
    simp only [tup]
    exact ⟨(none, []), rfl, by rw [mirR_no hbad]; exact GrP.nil, List.nil_sublist _⟩
  · skip
    refine TC.skip ?_
    refine TQ.thenC ?_
    refine TC.seq ?_
    have hv := vb_of hbad
    have hn9 := hv.n
    refine TC.region ?_
    refine TL.pure (PV.loadBox rfl Tb.agg_24 (by repeat (first | exact List.Mem.head _ | refine List.Mem.tail _ ?_ | refine List.mem_append_right _ ?_)) rfl) rfl (by decide) ?_
    refine TL.call rfl Tb.gofn_79 (fun a w hs => copied_ok w _ _ _ (hr.new hs.new) hv) rfl (by decide) (fun y9 hy9 => ?_)
    refine TL.alloc Tb.zero_24 rfl (by decide) (fun b2 hb2 => ?_)
    refine TL.storeAgg rfl rfl Tb.cells_24 (by repeat (first | exact Upd.head _ | apply Upd.tail | apply Upd.appR)) rfl rfl (gvP_all _) rfl rfl ?_
    refine TL.nil ?_
    refine TQ.thenC ?_
    refine TC.seq ?_
    have hyl := hy9.len
    obtain ⟨_ | ⟨b9, cap9, sp9⟩, ps⟩ := y9
    · exact absurd hy9.ok.2 (by show ¬ ps.length = 0; have : ps.length = ls.length := hyl; omega)
    have hps : ps.length = ls.length := hyl
    refine TC.region ?_
    refine TL.pure (PV.fieldAddr rfl Tb.fo_24_0) rfl (by decide) ?_
    refine TL.pure (PV.load rfl Tb.one_22 (by repeat (first | exact List.Mem.head _ | refine List.Mem.tail _ ?_ | refine List.mem_append_right _ ?_)) rfl) rfl (by decide) ?_
    refine TL.callW (X := Unit) (fun _ => .tuple #[]) (fun _ => True) (fun _ => (b9, Obj.cells (ps.reverse.map gvI ++ sp9).toArray 25 (0, 0)) :: ((b2, Obj.cells #[gvP (some (b9, cap9, sp9), ps)] 24 (0, 0)) :: (bl ps ++ [(b1, Obj.cells #[.slice none 0 0] 24 (0, 0)), (b0, Obj.cells #[.slice p ls.length cap] 24 (0, 0))]))) rfl Tb.gofn_80 (fun a w hs => reverse_ok (R := (b2, Obj.cells #[gvP (some (b9, cap9, sp9), ps)] 24 (0, 0)) :: (bl ps ++ [(b1, Obj.cells #[.slice none 0 0] 24 (0, 0)), (b0, Obj.cells #[.slice p ls.length cap] 24 (0, 0))])) (hs.new.perm (List.Perm.swap _ _ _)) hy9.ok (by omega)) rfl (by decide) (fun _ _ => ?_)
    refine TL.nil ?_
    refine TQ.thenC ?_
    refine TC.seq ?_
    refine TC.perm (G' := (b9, Obj.cells (ps.reverse.map gvI ++ sp9).toArray 25 (0, 0)) :: (bl ps.reverse ++ [(b2, Obj.cells #[gvP (some (b9, cap9, sp9), ps)] 24 (0, 0)), (b1, Obj.cells #[.slice none 0 0] 24 (0, 0)), (b0, Obj.cells #[.slice p ls.length cap] 24 (0, 0))])) (List.Perm.cons _ (((bl_rev ps).append_right _).trans List.perm_middle)) ?_
    refine TC.region ?_
    refine TL.pure (PV.loadBox rfl Tb.agg_24 (by repeat (first | exact List.Mem.head _ | refine List.Mem.tail _ ?_ | refine List.mem_append_right _ ?_)) rfl) rfl (by decide) ?_
    refine TL.storeAgg rfl rfl Tb.cells_24 (by repeat (first | exact Upd.head _ | apply Upd.tail | apply Upd.appR)) rfl rfl (gvP_all _) rfl rfl ?_
    refine TL.pure (PV.assign rfl) rfl (by decide) ?_
    refine TL.nil ?_
    refine TQ.thenC ?_
    refine TC.ret ?_
    refine TQ.retR rfl (Res.agg rfl Tb.agg_24 (by repeat (first | exact List.Mem.head _ | refine List.Mem.tail _ ?_ | refine List.mem_append_right _ ?_)) rfl (Res.tmp rfl Res.nil)) ?_
    simp only [tup]
    exact ⟨(some (b9, cap9, sp9), ps.reverse), by rw [Decidable.of_not_not hbad]; show Value.tuple #[.agg #[gval _ ps.length], _] = Value.tuple #[.agg #[gval _ ps.reverse.length], _]; rw [List.length_reverse], by rw [mirR_ok hbad]; exact hy9.rev, List.Sublist.cons_cons _ (List.sublist_append_left _ _)⟩

set_option maxRecDepth 100000 in
set_option maxHeartbeats 2000000 in
theorem rMirror_ok (w0 : World) (p : Option Addr) (cap : Nat) (ls : List (List Int)) (hr : LsAt w0 p ls) :
    Calls Try.prog 44 #[bv p ls.length cap] w0 (Post (X := HD × List (HD × List Int)) (fun z => .tuple #[.agg #[gvP z], .int .i64 (validI ls)]) (fun z => GrP (mirR ls) z) (fun z => gbP z ++ bl z.2) w0) := by
  refine calls Try.func44 rfl (n := 39) rfl (by simp) ?_
  refine TC.seq ?_
  refine TC.region ?_
  refine TL.box rfl rfl (by decide) (fun b0 hb0 => ?_)
  refine TL.alloc Tb.zero_24 rfl (by decide) (fun b1 hb1 => ?_)
  refine TL.pure (PV.assign rfl) rfl (by decide) ?_
  refine TL.nil ?_
  refine TQ.thenC ?_
  refine TC.seq ?_
  refine TC.region ?_
  refine TL.pure (PV.loadBox rfl Tb.agg_24 (by repeat (first | exact List.Mem.head _ | refine List.Mem.tail _ ?_ | refine List.mem_append_right _ ?_)) rfl) rfl (by decide) ?_
  refine TL.call rfl Tb.gofn_22 (fun a w hs => rvalidate_ok w _ _ _ (hr.new hs.new)) rfl (by decide) (fun _ _ => ?_)
  refine TL.pure (PV.assign rfl) rfl (by decide) ?_
  refine TL.nil ?_
  refine TQ.thenC ?_
  refine TC.seq ?_
  refine TC.seq ?_
  refine TC.region ?_
  refine TL.pure (PV.move rfl) rfl (by decide) ?_
  refine TL.pure (PV.neq rfl rfl) rfl (by decide) ?_
  refine TL.nil ?_
  refine TQ.thenC ?_
  first | refine TC.condD rfl (fun hbad => ?_) (fun hbad => ?_) | refine TC.cond rfl (fun hbad => ?_) (fun hbad => ?_)
  · skip
    refine TC.seq ?_
    refine TC.region ?_
    refine TL.pure (PV.build rfl Tb.zero_24 Tb.pl_24 rfl) rfl (by decide) ?_
    refine TL.pure (PV.move rfl) rfl (by decide) ?_
    refine TL.storeAgg rfl rfl Tb.cells_24 (by repeat (first | exact Upd.head _ | apply Upd.tail | apply Upd.appR)) rfl rfl (by first | rfl | exact sv_one _ _ _) rfl rfl ?_
    refine TL.pure (PV.assign rfl) rfl (by decide) ?_
    refine TL.nil ?_
    refine TQ.thenC ?_
    refine TC.ret ?_
    refine TQ.thenR ?_
    refine TQ.retR rfl (Res.agg rfl Tb.agg_24 (by repeat (first | exact List.Mem.head _ | refine List.Mem.tail _ ?_ | refine List.mem_append_right _ ?_)) rfl (Res.tmp rfl Res.nil)) ?_
    simp only [tup]
    exact ⟨(none, []), rfl, by rw [mirR_no hbad]; exact GrP.nil, List.nil_sublist _⟩
  · skip
    refine TC.skip ?_
    refine TQ.thenC ?_
    refine TC.seq ?_
    have hv := vb_of hbad
    have hn9 := hv.n
    have hd9 := hv.d
    refine TC.region ?_
    refine TL.pure (PV.loadBox rfl Tb.agg_24 (by repeat (first | exact List.Mem.head _ | refine List.Mem.tail _ ?_ | refine List.mem_append_right _ ?_)) rfl) rfl (by decide) ?_
    refine TL.call rfl Tb.gofn_42 (fun a w hs => Copy_ok w _ _ _ (hr.new hs.new) (by omega) (fun j => Nat.le_trans (row_le hv j) (by omega))) rfl (by decide) (fun y9 hy9 => ?_)
    refine TL.alloc Tb.zero_24 rfl (by decide) (fun b2 hb2 => ?_)
    refine TL.storeAgg rfl rfl Tb.cells_24 (by repeat (first | exact Upd.head _ | apply Upd.tail | apply Upd.appR)) rfl rfl (gvP_all _) rfl rfl ?_
    refine TL.nil ?_
    refine TQ.thenC ?_
    refine TC.seq ?_
    have hyl := hy9.len
    refine TC.region ?_
    refine TL.pure (PV.fieldAddr rfl Tb.fo_24_0) rfl (by decide) ?_
    refine TL.pure (PV.load rfl Tb.one_22 (by repeat (first | exact List.Mem.head _ | refine List.Mem.tail _ ?_ | refine List.mem_append_right _ ?_)) rfl) rfl (by decide) ?_
    refine TL.pure (PV.len rfl Tb.sl_22) rfl (by decide) ?_
    refine TL.pure (PV.assign rfl) rfl (by decide) ?_
    refine TL.nil ?_
    refine TQ.thenC ?_
    refine TC.seq ?_
    refine TC.seq ?_
    refine TC.region ?_
    refine TL.pure (PV.assign rfl) rfl (by decide) ?_
    refine TL.nil ?_
    refine TQ.thenC ?_
    refine TC.block ?_
    refine TC.lit [(1, _), (2, _), (3, _), (5, _), (6, _), (7, _)] (by repeat (first | exact True.intro | refine And.intro rfl ?_)) ?_
    refine TC.loopK [1, 2, 3, 5, 6] (X := Nat × List (HD × List Int)) (fun x => x.2.length = x.1 ∧ CpI ls.reverse x.2) (fun x => [(7, .int .i64 x.1)]) (fun x => bl x.2 ++ ((b2, Obj.cells #[gvP y9] 24 (0, 0)) :: (gblk y9.1 25 ((mxP y9 x.2).map gvI) ++ [(b1, Obj.cells #[.slice none 0 0] 24 (0, 0)), (b0, Obj.cells #[.slice p ls.length cap] 24 (0, 0))]))) (fun x => ls.length - x.1) (0, []) ⟨rfl, CpI.nil _⟩ (by repeat (first | exact True.intro | refine And.intro rfl ?_)) (by rw [mxP_zero]; exact mx_sub _ _ _ _) ?_
    intro x hx
    have hle := hx.2.le
    have hx1 := hx.1
    rw [List.length_reverse] at hle
    refine TC.lit [(1, _), (2, _), (3, _), (5, _), (6, _), (7, _)] (by repeat (first | exact True.intro | refine And.intro rfl ?_)) ?_
    refine TC.seq ?_
    refine TC.seq ?_
    refine TC.region ?_
    refine TL.pure (PV.move rfl) rfl (by decide) ?_
    refine TL.pure (PV.move rfl) rfl (by decide) ?_
    refine TL.pure (PV.lss rfl rfl) rfl (by decide) ?_
    refine TL.nil ?_
    refine TQ.thenC ?_
    first | refine TC.condD rfl (fun hlt => ?_) (fun hlt => ?_) | refine TC.cond rfl (fun hlt => ?_) (fun hlt => ?_)
    · skip
      refine TC.skip ?_
      refine TQ.thenC ?_
      refine TC.seq ?_
      refine TC.block ?_
      obtain ⟨q2, hq2p, pj, cj, hq2, hjx⟩ := hr (ls.length - 1 - x.1) (by omega)
      have hrl := hv.c (ls.length - 1 - x.1) (by omega)
      have hm9 : (ls.length : Int) - 1 - x.1 = ((ls.length - 1 - x.1 : Nat) : Int) := by omega
      refine TC.mix [true, true, true, false, true, true, true, true, true, true, true, true, false, false, false] [(b2, Obj.cells #[gvP y9] 24 (0, 0)), (b1, Obj.cells #[.slice none 0 0] 24 (0, 0)), (b0, Obj.cells #[.slice p ls.length cap] 24 (0, 0))] 4 Tb.mixed rfl (by kernel_rfl) (by kernel_rfl) (by kernel_rfl) (by kernel_rfl) (by repeat (first | exact List.Sublist.slnil | exact List.nil_sublist _ | exact List.Sublist.refl _ | refine List.Sublist.cons_cons _ ?_ | refine List.Sublist.cons _ ?_ | refine List.Sublist.trans ?_ (List.sublist_append_right _ _))) ?_
      refine TB.op (SOK.pure (PV.fieldAddr rfl Tb.fo_24_0) rfl) (by decide) ?_
      refine TB.op (SOK.pure (PV.load rfl Tb.one_22 (by repeat (first | exact List.Mem.head _ | refine List.Mem.tail _ ?_ | refine List.mem_append_right _ ?_)) rfl) rfl) (by decide) ?_
      refine TB.op (SOK.pure (PV.move rfl) rfl) (by decide) ?_
      refine TB.no ?_
      refine TB.op (SOK.pure (PV.fieldAddr rfl Tb.fo_24_0) rfl) (by decide) ?_
      refine TB.op (SOK.pure (PV.load rfl Tb.one_22 (by repeat (first | exact List.Mem.head _ | refine List.Mem.tail _ ?_ | refine List.mem_append_right _ ?_)) rfl) rfl) (by decide) ?_
      refine TB.op (SOK.pure (PV.move rfl) rfl) (by decide) ?_
      refine TB.op (SOK.pure (PV.sub rfl rfl (by omega)) rfl) (by decide) ?_
      refine TB.op (SOK.pure (PV.move rfl) rfl) (by decide) ?_
      refine TB.op (SOK.pure (PV.sub rfl rfl (by omega)) rfl) (by decide) ?_
      refine TB.op (SOK.pure (PV.indexA (j := ls.length - 1 - x.1) rfl hq2p rfl Tb.elm_22 hm9 (by omega)) rfl) (by decide) ?_
      refine TB.op (SOK.pure (PV.loadOld rfl Tb.one_25 hq2) rfl) (by decide) ?_
      refine TB.no ?_
      refine TB.no ?_
      refine TB.no ?_
      refine TB.fin ?_
      refine TX.step [3] (by kernel_rfl) (by decide) ⟨⟨_, rfl, ?_⟩, trivial⟩
      refine TL.buildSlice0 Tb.sl_25 Tb.zi_3 rfl (by decide) (fun bA hbA => ?_)
      refine TL.nil ?_
      refine TX.next (.inl (by repeat (first | exact List.Sublist.slnil | exact List.nil_sublist _ | exact List.Sublist.refl _ | refine List.Sublist.cons_cons _ ?_ | refine List.Sublist.cons _ ?_ | refine List.Sublist.trans ?_ (List.sublist_append_right _ _)))) ?_
      refine TX.step [12] (by kernel_rfl) (by decide) ⟨⟨_, rfl, ?_⟩, trivial⟩
      refine TL.append0 (m := (ls.getD (ls.length - 1 - x.1) []).length) (news := ival (ls.getD (ls.length - 1 - x.1) [])) (bA := bA) rfl rfl Tb.sl_25 Tb.zi_3 rfl (by repeat (first | exact Take.head _ | apply Take.tail | apply Take.appR)) (fun w' hN2 => ints_src Tb.sl_25 rfl (hjx.new hN2)) (by omega) (by omega) rfl (by decide) (fun h9 ho9 => ?_)
      refine TL.nil ?_
      refine TX.next (.inl (by repeat (first | exact List.Sublist.slnil | exact List.nil_sublist _ | exact List.Sublist.refl _ | refine List.Sublist.cons_cons _ ?_ | refine List.Sublist.cons _ ?_ | refine List.Sublist.trans ?_ (List.sublist_append_right _ _)))) ?_
      refine TX.step [13] (by kernel_rfl) (by decide) ⟨⟨_, rfl, ?_⟩, trivial⟩
      refine TL.pure (PV.indexG (j := x.1) rfl rfl hy9.ok Tb.elm_22 rfl (by omega)) rfl (by decide) ?_
      refine TL.nil ?_
      refine TX.next (.inr (by kernel_rfl)) ?_
      refine TX.step [14] (by kernel_rfl) (by decide) ⟨⟨_, rfl, ?_⟩, trivial⟩
      refine TL.put1 (h := y9.1) (len := y9.2.length) (e := 25) (ys := (mxP y9 x.2).map gvI) (ys' := (mxP y9 (x.2 ++ [(h9, (ls.getD (ls.length - 1 - x.1) []))])).map gvI) (j := x.1) (v := gvI (h9, (ls.getD (ls.length - 1 - x.1) []))) rfl rfl Tb.cells_25 (gvI_one _) (mxP_ok hy9.ok (by omega)) (mxP_put hx.1 (by omega)) (by repeat (first | exact PutH.here _ _ _ _ | apply PutH.tail | apply PutH.app)) (by omega) rfl rfl ?_
      refine TL.nil ?_
      refine TX.next (.inr (by kernel_rfl)) ?_
      refine TX.done (by kernel_rfl) ?_
      refine TQ.blkN ?_
      refine TQ.thenC ?_
      refine TC.region ?_
      refine TL.pure (PV.move rfl) rfl (by decide) ?_
      refine TL.pure (PV.add rfl rfl (by omega)) rfl (by decide) ?_
      refine TL.pure (PV.assign rfl) rfl (by decide) ?_
      refine TL.nil ?_
      refine TQ.thenN ?_
      refine TQ.backK (x.1 + 1, x.2 ++ [(h9, (ls.getD (ls.length - 1 - x.1) []))]) (by repeat (first | exact True.intro | refine And.intro rfl ?_)) (by repeat (first | exact True.intro | refine And.intro rfl ?_)) (by rw [bl_snoc]; simp only [List.append_assoc]; exact List.Sublist.refl _) ⟨by simp only [List.length_append, List.length_singleton]; omega, by have h7 := hx.2.snoc (h9 := h9) (by rw [List.length_reverse]; omega) (by rw [gD_rev _ _ (by omega), hx.1]; exact ho9); rw [gD_rev _ _ (by omega), hx.1] at h7; exact h7⟩ (by simp only; omega)
    · skip
      refine TC.exit ?_
      refine TQ.thenE ?_
      refine TQ.thenE ?_
      refine TQ.blkS ?_
      refine TQ.thenC ?_
      refine TC.seq ?_
      refine TC.perm (G' := gblk y9.1 25 ((mxP y9 x.2).map gvI) ++ (bl x.2 ++ ((b2, Obj.cells #[gvP y9] 24 (0, 0)) :: [(b1, Obj.cells #[.slice none 0 0] 24 (0, 0)), (b0, Obj.cells #[.slice p ls.length cap] 24 (0, 0))]))) ((List.perm_append_comm_assoc _ _ _).trans (List.perm_middle.append_left _)) ?_
      refine TC.region ?_
      refine TL.pure (PV.loadBox rfl Tb.agg_24 (by repeat (first | exact List.Mem.head _ | refine List.Mem.tail _ ?_ | refine List.mem_append_right _ ?_)) rfl) rfl (by decide) ?_
      refine TL.storeAgg rfl rfl Tb.cells_24 (by repeat (first | exact Upd.head _ | apply Upd.tail | apply Upd.appR)) rfl rfl (gvP_all _) rfl rfl ?_
      refine TL.pure (PV.assign rfl) rfl (by decide) ?_
      refine TL.nil ?_
      refine TQ.thenC ?_
      refine TC.ret ?_
      refine TQ.retR rfl (Res.agg rfl Tb.agg_24 (by repeat (first | exact List.Mem.head _ | refine List.Mem.tail _ ?_ | refine List.mem_append_right _ ?_)) rfl (Res.tmp rfl Res.nil)) ?_
      simp only [tup]
      exact ⟨(y9.1, mxP y9 x.2), by rw [Decidable.of_not_not hbad]; show Value.tuple #[.agg #[gval _ y9.2.length], _] = Value.tuple #[.agg #[gval _ (mxP y9 x.2).length], _]; rw [mxP_len (by omega)], by rw [mirR_ok hbad]; exact mxP_gr hy9 (by omega) (by omega) hx.2, by show List.Sublist (gblk y9.1 25 ((mxP y9 x.2).map gvI) ++ bl (mxP y9 x.2)) (gblk y9.1 25 ((mxP y9 x.2).map gvI) ++ (bl x.2 ++ _)); rw [mxP_end (show x.2.length = y9.2.length by omega)]; exact List.Sublist.append_left (List.sublist_append_left _ _) _⟩

end Go.Proofs.Ytfgjojoipbbacaa
