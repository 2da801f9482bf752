/- Trades turned: contracts. -/
import Derived.Test.YtghlkndanpegbaaBw
set_option linter.unusedVariables false
set_option linter.unusedSimpArgs false
namespace Go.Proofs.Ytghlkndanpegbaa
open Go.Sx Go.RowKit Go.Sand Go.Tp

theorem trn_vt {t : Td} (h : VT t) : VT (trnT t) := ⟨h.nd, h.ns, h.d, h.s, h.sum.symm, trn_gr (n := t.s.length) (k := t.d.length) h.c (by have := h.ns; omega)⟩
theorem trn_vp {t : Td} {m : List (List Int)} (h : VP t m) : VP (trnT t) (trnL m) := by
  have hns := h.ns
  have hnd := h.nd
  have hl := h.g.len
  have h0 := h.g.row 0 (by omega)
  refine { toVT := trn_vt h.toVT, g := trn_gr (n := t.s.length) (k := t.d.length) h.g (by omega), row := fun i hi => ?_, col := fun j hj => ?_ }
  · have hi' : i < t.d.length := hi
    rw [sumI_trn (by omega), hl]
    exact h.col i hi'
  · have hj' : j < t.s.length := hj
    have e1 : (sm (trnT t).s.length fun i => getM (trnL m) i j) = sm t.d.length fun i => getM m j i := sm_congr fun i hi => getM_trn (by have : i < t.d.length := hi; omega) (by omega)
    rw [e1]
    have h1 := h.row j hj'
    have h2 := h.g.row j hj'
    unfold sumI at h1
    rw [h2] at h1
    exact h1
theorem trn_cost {t : Td} {m : List (List Int)} (h : VP t m) : costI (trnT t) (trnL m) = costI t m := by
  have eS : (trnT t).s.length = t.d.length := rfl
  have eD : (trnT t).d.length = t.s.length := rfl
  have hns := h.ns
  have h0 := h.g.row 0 (by omega)
  have hl := h.g.len
  have h3 := h.c.row 0 (by omega)
  have h4 := h.c.len
  rw [cost_eq h, cost_eq (trn_vp h)]
  have e1 : cst (trnT t).s.length (trnT t).d.length (getM (trnT t).c) (getM (trnL m)) = cst t.d.length t.s.length (fun j i => getM t.c i j) (fun j i => getM m i j) := cst_congr (fun i j hi hj => getM_trn (by omega) (by omega)) (fun i j hi hj => getM_trn (by omega) (by omega))
  rw [e1]
  unfold cst
  exact sm_swap _ _
theorem trn_mn {t : Td} (h : VT t) : mnI (trnT t) = mnI t := by
  have hns := h.ns
  have h3 := h.c.row 0 (by omega)
  have h4 := h.c.len
  refine mn_eq ?_
  have h5 := (mn_is h).turn
  exact h5.congr (fun _ _ => rfl) (fun _ _ => rfl) (fun i j hi hj => (getM_trn (by omega) (by omega)).symm)
theorem trn_smg {m : List (List Int)} (h : SmG m) (hne : 0 < m.length) : SmG (trnL m) := by
  refine ⟨by rw [trn_len]; exact h.2 0, fun k => ?_⟩
  by_cases hk : k < (m.getD 0 []).length
  · rw [trn_row hk, mk_len]; exact h.1
  · rw [List.getD_eq_getElem?_getD, List.getElem?_eq_none (by rw [trn_len]; omega)]; exact Nat.zero_le _
theorem tur_sm {t : Td} (hT : SmT t) : SmT (turnR t).1 := by
  by_cases h : validI t ≠ 0
  · rw [tur_1 h]; exact SmT.nil
  · rw [tur_0 h]
    have hV := vt_of h
    have hns := hV.ns
    exact ⟨hT.d, hT.s, trn_smg hT.c (by have := hV.c.len; omega)⟩
theorem tur_l {t : Td} (h : ¬ validI t ≠ 0) : lstR (turnR t).1 = (mnI t, 0) ∧ lstR t = (mnI t, 0) := by
  have hV := vt_of h
  rw [tur_0 h]
  refine ⟨?_, if_neg h⟩
  unfold lstR
  rw [if_neg (by rw [(trn_vt hV).v]; decide), trn_mn hV]
theorem tur_v {t : Td} (h : (turnR t).2 = 0) : ¬ validI t ≠ 0 := by
  by_cases h1 : validI t ≠ 0
  · rw [tur_1 h1] at h; exact absurd h h1
  · exact h1
theorem RdT.at' {t : Td} {x : Value × Heap} {v : Value} (e : x.1 = v) (h : RdT t x) {w0 w : World} {G : Heap} (hn : New w0 w G) (hm : ∀ y ∈ x.2, y ∈ G) : IsT w v t := e ▸ h.at hn hm
theorem eqT_self (t : Td) : eqT t t = true := by unfold eqT; simp
theorem all_sss (p1 p2 p3 : Option Addr) (a b c d e f : Nat) : [Value.slice p1 a b, .slice p2 c d, .slice p3 e f].all Value.oneCell' = true := rfl


set_option maxRecDepth 100000 in
set_option maxHeartbeats 2000000 in
theorem Turn_ok (w0 : World) (vt : Value) (t : Td) (ht : IsT w0 vt t) (hT : SmT t) :
    Calls Try.prog 47 #[vt] w0 (Post (X := Value × Heap) (fun y => .tuple #[y.1, .int .i64 (turnR t).2]) (fun y => RdT (turnR t).1 y) (fun y => y.2) w0) := by
  obtain ⟨p1, c1, p2, c2, p3, c3, rfl, t1, t2, t3⟩ := ht
  refine calls Try.func47 rfl (n := 21) rfl (by simp) ?_
  refine TC.seq ?_
  refine TC.region ?_
  refine TL.box rfl rfl (by decide) (fun b0 hb0 => ?_)
  refine TL.alloc Tb.zero_25 rfl (by decide) (fun b1 hb1 => ?_)
  refine TL.pure (PV.assign rfl) rfl (by decide) ?_
  refine TL.nil ?_
  refine TQ.thenC ?_
  refine TC.seq ?_
  refine TC.seq ?_
  refine TC.region ?_
  refine TL.pure (PV.loadBox rfl Tb.agg_25 (by repeat (first | exact List.Mem.head _ | refine List.Mem.tail _ ?_ | refine List.mem_append_right _ ?_)) rfl) rfl (by decide) ?_
  refine TL.call rfl Tb.gofn_21 (fun a w hs => validate_ok w _ t (IsT.mk (t1.new hs.new) (t2.new hs.new) (t3.new hs.new)) hT) rfl (by decide) (fun _ _ => ?_)
  refine TL.pure (PV.assign rfl) rfl (by decide) ?_
  refine TL.nil ?_
  refine TQ.thenC ?_
  refine TC.seq ?_
  refine TC.region ?_
  refine TL.pure (PV.move rfl) rfl (by decide) ?_
  refine TL.pure (PV.neq rfl rfl) rfl (by decide) ?_
  refine TL.nil ?_
  refine TQ.thenC ?_
  first | refine TC.condD rfl (fun a1 => ?_) (fun a1 => ?_) | refine TC.cond rfl (fun a1 => ?_) (fun a1 => ?_)
  · skip
    refine TC.seq ?_
    refine TC.region ?_
    refine TL.pure (PV.build rfl Tb.zero_25 Tb.pl_25 rfl) rfl (by decide) ?_
    refine TL.pure (PV.move rfl) rfl (by decide) ?_
    refine TL.storeAgg (vs := [.slice none 0 0, .slice none 0 0, .slice none 0 0]) rfl rfl Tb.cells_25 (by repeat (first | exact Upd.head _ | apply Upd.tail | apply Upd.appR)) rfl rfl rfl rfl rfl ?_
    refine TL.pure (PV.assign rfl) rfl (by decide) ?_
    refine TL.nil ?_
    refine TQ.thenC ?_
    refine TC.ret ?_
    refine TQ.thenR ?_
    refine TQ.retR rfl (Res.agg rfl Tb.agg_25 (by repeat (first | exact List.Mem.head _ | refine List.Mem.tail _ ?_ | refine List.mem_append_right _ ?_)) rfl (Res.tmp rfl Res.nil)) ?_
    simp only [tup]
    exact ⟨(nilV, []), by rw [tur_1 a1]; rfl, by rw [tur_1 a1]; exact RdT.nil, List.nil_sublist _⟩
  · skip
    refine TC.skip ?_
    refine TQ.thenC ?_
    refine TC.seq ?_
    have hV := vt_of a1
    refine TC.mixV [true, true, false, true, true, false, true, true, false, true, false, true] [(b0, Obj.cells #[.slice p1 t.s.length c1, .slice p2 t.d.length c2, .slice p3 t.c.length c3] 25 (0, 0))] 12 Tb.mixed rfl (by kernel_rfl) (by kernel_rfl) (by kernel_rfl) (by kernel_rfl) (by repeat (first | exact List.Sublist.slnil | exact List.nil_sublist _ | exact List.Sublist.refl _ | refine List.Sublist.cons_cons _ ?_ | refine List.Sublist.cons _ ?_ | refine List.Sublist.trans ?_ (List.sublist_append_right _ _))) ?_
    refine TV.virt 0 rfl rfl (by decide) rfl (by kernel_rfl) (SOK.pure (PV.fieldAddr rfl Tb.fo_25_1) rfl) ?_
    refine TV.virt 1 rfl rfl (by decide) rfl (by kernel_rfl) (SOK.pure (PV.load rfl Tb.one_22 (by repeat (first | exact List.Mem.head _ | refine List.Mem.tail _ ?_ | refine List.mem_append_right _ ?_)) rfl) rfl) ?_
    refine TV.virt 3 rfl rfl (by decide) rfl (by kernel_rfl) (SOK.pure (PV.fieldAddr rfl Tb.fo_25_0) rfl) ?_
    refine TV.virt 4 rfl rfl (by decide) rfl (by kernel_rfl) (SOK.pure (PV.load rfl Tb.one_22 (by repeat (first | exact List.Mem.head _ | refine List.Mem.tail _ ?_ | refine List.mem_append_right _ ?_)) rfl) rfl) ?_
    refine TV.virt 6 rfl rfl (by decide) rfl (by kernel_rfl) (SOK.pure (PV.fieldAddr rfl Tb.fo_25_2) rfl) ?_
    refine TV.virt 7 rfl rfl (by decide) rfl (by kernel_rfl) (SOK.pure (PV.load rfl Tb.one_23 (by repeat (first | exact List.Mem.head _ | refine List.Mem.tail _ ?_ | refine List.mem_append_right _ ?_)) rfl) rfl) ?_
    refine TV.step [2] (by kernel_rfl) (by decide) rfl ⟨⟨_, rfl, ?_⟩, trivial⟩
    refine TL.call rfl Tb.gofn_80 (fun a w hs => clone_ok w _ _ _ (t2.new hs.new) hT.d) rfl (by decide) (fun h8 hh8 => ?_)
    refine TL.nil ?_
    refine TV.next (.inl (by repeat (first | exact List.Sublist.slnil | exact List.nil_sublist _ | exact List.Sublist.refl _ | refine List.Sublist.cons_cons _ ?_ | refine List.Sublist.cons _ ?_ | refine List.Sublist.trans ?_ (List.sublist_append_right _ _)))) ?_
    refine TV.step [5] (by kernel_rfl) (by decide) rfl ⟨⟨_, rfl, ?_⟩, trivial⟩
    refine TL.call rfl Tb.gofn_80 (fun a w hs => clone_ok w _ _ _ (t1.new hs.new) hT.s) rfl (by decide) (fun h9 hh9 => ?_)
    refine TL.nil ?_
    refine TV.next (.inl (by repeat (first | exact List.Sublist.slnil | exact List.nil_sublist _ | exact List.Sublist.refl _ | refine List.Sublist.cons_cons _ ?_ | refine List.Sublist.cons _ ?_ | refine List.Sublist.trans ?_ (List.sublist_append_right _ _)))) ?_
    refine TV.step [8] (by kernel_rfl) (by decide) rfl ⟨⟨_, rfl, ?_⟩, trivial⟩
    refine TL.call rfl Tb.gofn_64 (fun a w hs => turned_ok w _ _ (IsG.of (t3.new hs.new)) hT.c (by have := hV.c.len; have := hV.ns; omega) (fun i hi => by rw [hV.c.row i (by have := hV.c.len; omega), hV.c.row 0 (by have := hV.ns; omega)])) rfl (by decide) (fun y9 hy9 => ?_)
    refine TL.nil ?_
    refine TV.next (.inl (by repeat (first | exact List.Sublist.slnil | exact List.nil_sublist _ | exact List.Sublist.refl _ | refine List.Sublist.cons_cons _ ?_ | refine List.Sublist.cons _ ?_ | refine List.Sublist.trans ?_ (List.sublist_append_right _ _)))) ?_
    refine TV.virt 9 rfl rfl (by decide) rfl (by kernel_rfl) (SOK.pure (PV.build rfl Tb.zero_25 Tb.pl_25 (fill3 (gval_cells _ _) (gval_cells _ _) (RdG.one hy9).2)) rfl) ?_
    refine TV.step [10] (by kernel_rfl) (by decide) rfl ⟨⟨_, rfl, ?_⟩, trivial⟩
    refine TL.storeAgg (vs := [gval h8 t.d.length, gval h9 t.s.length, y9.1]) rfl rfl Tb.cells_25 (by repeat (first | exact Upd.head _ | apply Upd.tail | apply Upd.appR)) rfl rfl (all3 (gval_one _ _) (gval_one _ _) (RdG.one hy9).1) rfl rfl ?_
    refine TL.nil ?_
    refine TV.next (.inl (by repeat (first | exact List.Sublist.slnil | exact List.nil_sublist _ | exact List.Sublist.refl _ | refine List.Sublist.cons_cons _ ?_ | refine List.Sublist.cons _ ?_ | refine List.Sublist.trans ?_ (List.sublist_append_right _ _)))) ?_
    refine TV.virt 11 rfl rfl (by decide) rfl (by kernel_rfl) (SOK.pure (PV.assign rfl) rfl) ?_
    refine TV.done (by kernel_rfl) ?_
    refine TQ.thenC ?_
    refine TC.ret ?_
    refine TQ.retR rfl (Res.agg rfl Tb.agg_25 (by repeat (first | exact List.Mem.head _ | refine List.Mem.tail _ ?_ | refine List.mem_append_right _ ?_)) rfl (Res.tmp rfl Res.nil)) ?_
    simp only [tup]
    exact ⟨(.agg #[gval h8 t.d.length, gval h9 t.s.length, y9.1], y9.2 ++ (gbI (h9, t.s) ++ gbI (h8, t.d))), by rw [tur_0 a1], by rw [tur_0 a1]; exact RdT.mk (t := trnT t) hh8 hh9 hy9, by (first | exact List.Sublist.append_left (List.Sublist.append_left (List.sublist_append_left _ _) _) _ | simp only [List.append_assoc]; exact List.Sublist.append_left (List.Sublist.append_left (List.sublist_append_left _ _) _) _)⟩

set_option maxRecDepth 100000 in
set_option maxHeartbeats 4000000 in
theorem rTurn_ok (w0 : World) (vt : Value) (t : Td) (ht : IsT w0 vt t) (hT : SmT t) :
    Calls Try.prog 48 #[vt] w0 (Post (X := Value × Heap) (fun y => .tuple #[y.1, .int .i64 (turnR t).2]) (fun y => RdT (turnR t).1 y) (fun y => y.2) w0) := by
  obtain ⟨p1, c1, p2, c2, p3, c3, rfl, t1, t2, t3⟩ := ht
  have hTs := hT.s
  have hTd := hT.d
  refine calls Try.func48 rfl (n := 26) rfl (by simp) ?_
  refine TC.seq ?_
  refine TC.region ?_
  refine TL.box rfl rfl (by decide) (fun b0 hb0 => ?_)
  refine TL.alloc Tb.zero_25 rfl (by decide) (fun b1 hb1 => ?_)
  refine TL.pure (PV.assign rfl) rfl (by decide) ?_
  refine TL.nil ?_
  refine TQ.thenC ?_
  refine TC.seq ?_
  refine TC.region ?_
  refine TL.pure (PV.loadBox rfl Tb.agg_25 (by repeat (first | exact List.Mem.head _ | refine List.Mem.tail _ ?_ | refine List.mem_append_right _ ?_)) rfl) rfl (by decide) ?_
  refine TL.call rfl Tb.gofn_22 (fun a w hs => rvalidate_ok w _ t (IsT.mk (t1.new hs.new) (t2.new hs.new) (t3.new hs.new)) hT) rfl (by decide) (fun _ _ => ?_)
  refine TL.pure (PV.assign rfl) rfl (by decide) ?_
  refine TL.nil ?_
  refine TQ.thenC ?_
  refine TC.seq ?_
  refine TC.seq ?_
  refine TC.region ?_
  refine TL.pure (PV.move rfl) rfl (by decide) ?_
  refine TL.pure (PV.neq rfl rfl) rfl (by decide) ?_
  refine TL.nil ?_
  refine TQ.thenC ?_
  first | refine TC.condD rfl (fun a1 => ?_) (fun a1 => ?_) | refine TC.cond rfl (fun a1 => ?_) (fun a1 => ?_)
  · skip
    refine TC.seq ?_
    refine TC.region ?_
    refine TL.pure (PV.build rfl Tb.zero_25 Tb.pl_25 rfl) rfl (by decide) ?_
    refine TL.pure (PV.move rfl) rfl (by decide) ?_
    refine TL.storeAgg (vs := [.slice none 0 0, .slice none 0 0, .slice none 0 0]) rfl rfl Tb.cells_25 (by repeat (first | exact Upd.head _ | apply Upd.tail | apply Upd.appR)) rfl rfl rfl rfl rfl ?_
    refine TL.pure (PV.assign rfl) rfl (by decide) ?_
    refine TL.nil ?_
    refine TQ.thenC ?_
    refine TC.ret ?_
    refine TQ.thenR ?_
    refine TQ.retR rfl (Res.agg rfl Tb.agg_25 (by repeat (first | exact List.Mem.head _ | refine List.Mem.tail _ ?_ | refine List.mem_append_right _ ?_)) rfl (Res.tmp rfl Res.nil)) ?_
    simp only [tup]
    exact ⟨(nilV, []), by rw [tur_1 a1]; rfl, by rw [tur_1 a1]; exact RdT.nil, List.nil_sublist _⟩
  · skip
    refine TC.skip ?_
    refine TQ.thenC ?_
    refine TC.seq ?_
    have hV := vt_of a1
    refine TC.mixV [false, true, true, false, false, true, true, false, true, false, false] [(b0, Obj.cells #[.slice p1 t.s.length c1, .slice p2 t.d.length c2, .slice p3 t.c.length c3] 25 (0, 0))] 11 Tb.mixed rfl (by kernel_rfl) (by kernel_rfl) (by kernel_rfl) (by kernel_rfl) (by repeat (first | exact List.Sublist.slnil | exact List.nil_sublist _ | exact List.Sublist.refl _ | refine List.Sublist.cons_cons _ ?_ | refine List.Sublist.cons _ ?_ | refine List.Sublist.trans ?_ (List.sublist_append_right _ _))) ?_
    refine TV.virt 1 rfl rfl (by decide) rfl (by kernel_rfl) (SOK.pure (PV.fieldAddr rfl Tb.fo_25_1) rfl) ?_
    refine TV.virt 2 rfl rfl (by decide) rfl (by kernel_rfl) (SOK.pure (PV.load rfl Tb.one_22 (by repeat (first | exact List.Mem.head _ | refine List.Mem.tail _ ?_ | refine List.mem_append_right _ ?_)) rfl) rfl) ?_
    refine TV.virt 5 rfl rfl (by decide) rfl (by kernel_rfl) (SOK.pure (PV.fieldAddr rfl Tb.fo_25_0) rfl) ?_
    refine TV.virt 6 rfl rfl (by decide) rfl (by kernel_rfl) (SOK.pure (PV.load rfl Tb.one_22 (by repeat (first | exact List.Mem.head _ | refine List.Mem.tail _ ?_ | refine List.mem_append_right _ ?_)) rfl) rfl) ?_
    refine TV.step [0, 4, 9] (by kernel_rfl) (by decide) rfl ⟨⟨_, rfl, ?_⟩, ⟨_, rfl, ?_⟩, ⟨_, rfl, ?_⟩, trivial⟩
    · skip
      refine TL.buildSlice0 Tb.sl_22 Tb.zi_3 rfl (by decide) (fun bA0 hbA0 => ?_)
      refine TL.nil ?_
      refine TV.next (.inl (by repeat (first | exact List.Sublist.slnil | exact List.nil_sublist _ | exact List.Sublist.refl _ | refine List.Sublist.cons_cons _ ?_ | refine List.Sublist.cons _ ?_ | refine List.Sublist.trans ?_ (List.sublist_append_right _ _)))) ?_
      refine TV.step [3, 4, 9] (by kernel_rfl) (by decide) rfl ⟨⟨_, rfl, ?_⟩, ⟨_, rfl, ?_⟩, ⟨_, rfl, ?_⟩, trivial⟩
      · skip
        refine TL.append0 (m := t.d.length) (news := ival t.d) rfl rfl Tb.sl_22 Tb.zi_3 rfl (by repeat (first | exact Take.head _ | apply Take.tail | apply Take.appR)) (fun w' hN => ints_src Tb.sl_22 rfl (t2.new hN)) (by omega) (by omega) rfl (by decide) (fun h8 hh8 => ?_)
        refine TL.nil ?_
        refine TV.next (.inl (by repeat (first | exact List.Sublist.slnil | exact List.nil_sublist _ | exact List.Sublist.refl _ | refine List.Sublist.cons_cons _ ?_ | refine List.Sublist.cons _ ?_ | refine List.Sublist.trans ?_ (List.sublist_append_right _ _)))) ?_
        refine TV.step [4, 9] (by kernel_rfl) (by decide) rfl ⟨⟨_, rfl, ?_⟩, ⟨_, rfl, ?_⟩, trivial⟩
        · skip
          refine TL.buildSlice0 Tb.sl_22 Tb.zi_3 rfl (by decide) (fun bA4 hbA4 => ?_)
          refine TL.nil ?_
          refine TV.next (.inl (by repeat (first | exact List.Sublist.slnil | exact List.nil_sublist _ | exact List.Sublist.refl _ | refine List.Sublist.cons_cons _ ?_ | refine List.Sublist.cons _ ?_ | refine List.Sublist.trans ?_ (List.sublist_append_right _ _)))) ?_
          refine TV.step [7, 9] (by kernel_rfl) (by decide) rfl ⟨⟨_, rfl, ?_⟩, ⟨_, rfl, ?_⟩, trivial⟩
          · skip
            refine TL.append0 (m := t.s.length) (news := ival t.s) rfl rfl Tb.sl_22 Tb.zi_3 rfl (by repeat (first | exact Take.head _ | apply Take.tail | apply Take.appR)) (fun w' hN => ints_src Tb.sl_22 rfl (t1.new hN)) (by omega) (by omega) rfl (by decide) (fun h9 hh9 => ?_)
            refine TL.nil ?_
            refine TV.next (.inl (by repeat (first | exact List.Sublist.slnil | exact List.nil_sublist _ | exact List.Sublist.refl _ | refine List.Sublist.cons_cons _ ?_ | refine List.Sublist.cons _ ?_ | refine List.Sublist.trans ?_ (List.sublist_append_right _ _)))) ?_
            refine TV.virt 8 rfl rfl (by decide) rfl (by kernel_rfl) (SOK.pure (PV.build rfl Tb.zero_25 Tb.pl_25 (fill2 (gval_cells _ _) (gval_cells _ _))) rfl) ?_
            refine TV.step [9] (by kernel_rfl) (by decide) rfl ⟨⟨_, rfl, ?_⟩, trivial⟩
            refine TL.alloc Tb.zero_25 rfl (by decide) (fun bq hbq => ?_)
            refine TL.nil ?_
            refine TV.next (.inl (by repeat (first | exact List.Sublist.slnil | exact List.nil_sublist _ | exact List.Sublist.refl _ | refine List.Sublist.cons_cons _ ?_ | refine List.Sublist.cons _ ?_ | refine List.Sublist.trans ?_ (List.sublist_append_right _ _)))) ?_
            refine TV.step [10] (by kernel_rfl) (by decide) rfl ⟨⟨_, rfl, ?_⟩, trivial⟩
            refine TL.storeAgg (vs := [gval h8 t.d.length, gval h9 t.s.length, .slice none 0 0]) rfl rfl Tb.cells_25 (by repeat (first | exact Upd.head _ | apply Upd.tail | apply Upd.appR)) rfl rfl (two_one _ _ _ _ _ _ _) rfl rfl ?_
            refine TL.nil ?_
            refine TV.next (.inr (by kernel_rfl)) ?_
            refine TV.done (by kernel_rfl) ?_
            refine TQ.thenC ?_
            refine TC.seq ?_
            refine TC.region ?_
            refine TL.pure (PV.fieldAddr rfl Tb.fo_25_2) rfl (by decide) ?_
            refine TL.pure (PV.load rfl Tb.one_23 (by repeat (first | exact List.Mem.head _ | refine List.Mem.tail _ ?_ | refine List.mem_append_right _ ?_)) rfl) rfl (by decide) ?_
            refine TL.call rfl Tb.gofn_49 (fun a w hs => Turned_ok w _ _ (IsG.of (t3.new hs.new)) hT.c (by have := hV.c.len; have := hV.ns; omega) (fun i hi => by rw [hV.c.row i (by have := hV.c.len; omega), hV.c.row 0 (by have := hV.ns; omega)])) rfl (by decide) (fun y9 hy9 => ?_)
            refine TL.pure (PV.fieldAddr rfl Tb.fo_25_2) rfl (by decide) ?_
            refine TL.store rfl rfl Tb.cells_23 (RdG.one hy9).1 (by repeat (first | exact Upd.head _ | apply Upd.tail | apply Upd.appR)) (by first | decide | (simp; done) | (simp; omega) | omega) rfl rfl ?_
            refine TL.nil ?_
            refine TQ.thenC ?_
            refine TC.seq ?_
            refine TC.region ?_
            refine TL.pure (PV.loadBox (cs := [gval h8 t.d.length, gval h9 t.s.length, y9.1]) rfl Tb.agg_25 (by repeat (first | exact List.Mem.head _ | refine List.Mem.tail _ ?_ | refine List.mem_append_right _ ?_)) rfl) rfl (by decide) ?_
            refine TL.storeAgg (vs := [gval h8 t.d.length, gval h9 t.s.length, y9.1]) rfl rfl Tb.cells_25 (by repeat (first | exact Upd.head _ | apply Upd.tail | apply Upd.appR)) rfl rfl (all3 (gval_one _ _) (gval_one _ _) (RdG.one hy9).1) rfl rfl ?_
            refine TL.pure (PV.assign rfl) rfl (by decide) ?_
            refine TL.nil ?_
            refine TQ.thenC ?_
            refine TC.ret ?_
            refine TQ.retR rfl (Res.agg rfl Tb.agg_25 (by repeat (first | exact List.Mem.head _ | refine List.Mem.tail _ ?_ | refine List.mem_append_right _ ?_)) rfl (Res.tmp rfl Res.nil)) ?_
            simp only [tup]
            exact ⟨(.agg #[gval h8 t.d.length, gval h9 t.s.length, y9.1], y9.2 ++ (gbI (h9, t.s) ++ gbI (h8, t.d))), by rw [tur_0 a1], by rw [tur_0 a1]; exact RdT.mk (t := trnT t) (show goI (h8, t.d) by simpa [goI] using hh8) (show goI (h9, t.s) by simpa [goI] using hh9) hy9, by refine List.Sublist.append_left ?_ _; repeat (first | exact List.Sublist.append_left (by repeat (first | exact List.sublist_append_left _ _ | exact List.Sublist.refl _ | refine List.Sublist.cons _ ?_)) _ | refine List.Sublist.cons _ ?_)⟩
          · skip
            refine TL.alloc Tb.zero_25 rfl (by decide) (fun bq hbq => ?_)
            refine TL.nil ?_
            refine TV.next (.inl (by repeat (first | exact List.Sublist.slnil | exact List.nil_sublist _ | exact List.Sublist.refl _ | refine List.Sublist.cons_cons _ ?_ | refine List.Sublist.cons _ ?_ | refine List.Sublist.trans ?_ (List.sublist_append_right _ _)))) ?_
            refine TV.step [7] (by kernel_rfl) (by decide) rfl ⟨⟨_, rfl, ?_⟩, trivial⟩
            refine TL.append0 (m := t.s.length) (news := ival t.s) rfl rfl Tb.sl_22 Tb.zi_3 rfl (by repeat (first | exact Take.head _ | apply Take.tail | apply Take.appR)) (fun w' hN => ints_src Tb.sl_22 rfl (t1.new hN)) (by omega) (by omega) rfl (by decide) (fun h9 hh9 => ?_)
            refine TL.nil ?_
            refine TV.next (.inl (by repeat (first | exact List.Sublist.slnil | exact List.nil_sublist _ | exact List.Sublist.refl _ | refine List.Sublist.cons_cons _ ?_ | refine List.Sublist.cons _ ?_ | refine List.Sublist.trans ?_ (List.sublist_append_right _ _)))) ?_
            refine TV.virt 8 rfl rfl (by decide) rfl (by kernel_rfl) (SOK.pure (PV.build rfl Tb.zero_25 Tb.pl_25 (fill2 (gval_cells _ _) (gval_cells _ _))) rfl) ?_
            refine TV.step [10] (by kernel_rfl) (by decide) rfl ⟨⟨_, rfl, ?_⟩, trivial⟩
            refine TL.storeAgg (vs := [gval h8 t.d.length, gval h9 t.s.length, .slice none 0 0]) rfl rfl Tb.cells_25 (by repeat (first | exact Upd.head _ | apply Upd.tail | apply Upd.appR)) rfl rfl (two_one _ _ _ _ _ _ _) rfl rfl ?_
            refine TL.nil ?_
            refine TV.next (.inr (by kernel_rfl)) ?_
            refine TV.done (by kernel_rfl) ?_
            refine TQ.thenC ?_
            refine TC.seq ?_
            refine TC.region ?_
            refine TL.pure (PV.fieldAddr rfl Tb.fo_25_2) rfl (by decide) ?_
            refine TL.pure (PV.load rfl Tb.one_23 (by repeat (first | exact List.Mem.head _ | refine List.Mem.tail _ ?_ | refine List.mem_append_right _ ?_)) rfl) rfl (by decide) ?_
            refine TL.call rfl Tb.gofn_49 (fun a w hs => Turned_ok w _ _ (IsG.of (t3.new hs.new)) hT.c (by have := hV.c.len; have := hV.ns; omega) (fun i hi => by rw [hV.c.row i (by have := hV.c.len; omega), hV.c.row 0 (by have := hV.ns; omega)])) rfl (by decide) (fun y9 hy9 => ?_)
            refine TL.pure (PV.fieldAddr rfl Tb.fo_25_2) rfl (by decide) ?_
            refine TL.store rfl rfl Tb.cells_23 (RdG.one hy9).1 (by repeat (first | exact Upd.head _ | apply Upd.tail | apply Upd.appR)) (by first | decide | (simp; done) | (simp; omega) | omega) rfl rfl ?_
            refine TL.nil ?_
            refine TQ.thenC ?_
            refine TC.seq ?_
            refine TC.region ?_
            refine TL.pure (PV.loadBox (cs := [gval h8 t.d.length, gval h9 t.s.length, y9.1]) rfl Tb.agg_25 (by repeat (first | exact List.Mem.head _ | refine List.Mem.tail _ ?_ | refine List.mem_append_right _ ?_)) rfl) rfl (by decide) ?_
            refine TL.storeAgg (vs := [gval h8 t.d.length, gval h9 t.s.length, y9.1]) rfl rfl Tb.cells_25 (by repeat (first | exact Upd.head _ | apply Upd.tail | apply Upd.appR)) rfl rfl (all3 (gval_one _ _) (gval_one _ _) (RdG.one hy9).1) rfl rfl ?_
            refine TL.pure (PV.assign rfl) rfl (by decide) ?_
            refine TL.nil ?_
            refine TQ.thenC ?_
            refine TC.ret ?_
            refine TQ.retR rfl (Res.agg rfl Tb.agg_25 (by repeat (first | exact List.Mem.head _ | refine List.Mem.tail _ ?_ | refine List.mem_append_right _ ?_)) rfl (Res.tmp rfl Res.nil)) ?_
            simp only [tup]
            exact ⟨(.agg #[gval h8 t.d.length, gval h9 t.s.length, y9.1], y9.2 ++ (gbI (h9, t.s) ++ gbI (h8, t.d))), by rw [tur_0 a1], by rw [tur_0 a1]; exact RdT.mk (t := trnT t) (show goI (h8, t.d) by simpa [goI] using hh8) (show goI (h9, t.s) by simpa [goI] using hh9) hy9, by refine List.Sublist.append_left ?_ _; repeat (first | exact List.Sublist.append_left (by repeat (first | exact List.sublist_append_left _ _ | exact List.Sublist.refl _ | refine List.Sublist.cons _ ?_)) _ | refine List.Sublist.cons _ ?_)⟩
        · skip
          refine TL.alloc Tb.zero_25 rfl (by decide) (fun bq hbq => ?_)
          refine TL.nil ?_
          refine TV.next (.inl (by repeat (first | exact List.Sublist.slnil | exact List.nil_sublist _ | exact List.Sublist.refl _ | refine List.Sublist.cons_cons _ ?_ | refine List.Sublist.cons _ ?_ | refine List.Sublist.trans ?_ (List.sublist_append_right _ _)))) ?_
          refine TV.step [4] (by kernel_rfl) (by decide) rfl ⟨⟨_, rfl, ?_⟩, trivial⟩
          refine TL.buildSlice0 Tb.sl_22 Tb.zi_3 rfl (by decide) (fun bA4 hbA4 => ?_)
          refine TL.nil ?_
          refine TV.next (.inl (by repeat (first | exact List.Sublist.slnil | exact List.nil_sublist _ | exact List.Sublist.refl _ | refine List.Sublist.cons_cons _ ?_ | refine List.Sublist.cons _ ?_ | refine List.Sublist.trans ?_ (List.sublist_append_right _ _)))) ?_
          refine TV.step [7] (by kernel_rfl) (by decide) rfl ⟨⟨_, rfl, ?_⟩, trivial⟩
          refine TL.append0 (m := t.s.length) (news := ival t.s) rfl rfl Tb.sl_22 Tb.zi_3 rfl (by repeat (first | exact Take.head _ | apply Take.tail | apply Take.appR)) (fun w' hN => ints_src Tb.sl_22 rfl (t1.new hN)) (by omega) (by omega) rfl (by decide) (fun h9 hh9 => ?_)
          refine TL.nil ?_
          refine TV.next (.inl (by repeat (first | exact List.Sublist.slnil | exact List.nil_sublist _ | exact List.Sublist.refl _ | refine List.Sublist.cons_cons _ ?_ | refine List.Sublist.cons _ ?_ | refine List.Sublist.trans ?_ (List.sublist_append_right _ _)))) ?_
          refine TV.virt 8 rfl rfl (by decide) rfl (by kernel_rfl) (SOK.pure (PV.build rfl Tb.zero_25 Tb.pl_25 (fill2 (gval_cells _ _) (gval_cells _ _))) rfl) ?_
          refine TV.step [10] (by kernel_rfl) (by decide) rfl ⟨⟨_, rfl, ?_⟩, trivial⟩
          refine TL.storeAgg (vs := [gval h8 t.d.length, gval h9 t.s.length, .slice none 0 0]) rfl rfl Tb.cells_25 (by repeat (first | exact Upd.head _ | apply Upd.tail | apply Upd.appR)) rfl rfl (two_one _ _ _ _ _ _ _) rfl rfl ?_
          refine TL.nil ?_
          refine TV.next (.inr (by kernel_rfl)) ?_
          refine TV.done (by kernel_rfl) ?_
          refine TQ.thenC ?_
          refine TC.seq ?_
          refine TC.region ?_
          refine TL.pure (PV.fieldAddr rfl Tb.fo_25_2) rfl (by decide) ?_
          refine TL.pure (PV.load rfl Tb.one_23 (by repeat (first | exact List.Mem.head _ | refine List.Mem.tail _ ?_ | refine List.mem_append_right _ ?_)) rfl) rfl (by decide) ?_
          refine TL.call rfl Tb.gofn_49 (fun a w hs => Turned_ok w _ _ (IsG.of (t3.new hs.new)) hT.c (by have := hV.c.len; have := hV.ns; omega) (fun i hi => by rw [hV.c.row i (by have := hV.c.len; omega), hV.c.row 0 (by have := hV.ns; omega)])) rfl (by decide) (fun y9 hy9 => ?_)
          refine TL.pure (PV.fieldAddr rfl Tb.fo_25_2) rfl (by decide) ?_
          refine TL.store rfl rfl Tb.cells_23 (RdG.one hy9).1 (by repeat (first | exact Upd.head _ | apply Upd.tail | apply Upd.appR)) (by first | decide | (simp; done) | (simp; omega) | omega) rfl rfl ?_
          refine TL.nil ?_
          refine TQ.thenC ?_
          refine TC.seq ?_
          refine TC.region ?_
          refine TL.pure (PV.loadBox (cs := [gval h8 t.d.length, gval h9 t.s.length, y9.1]) rfl Tb.agg_25 (by repeat (first | exact List.Mem.head _ | refine List.Mem.tail _ ?_ | refine List.mem_append_right _ ?_)) rfl) rfl (by decide) ?_
          refine TL.storeAgg (vs := [gval h8 t.d.length, gval h9 t.s.length, y9.1]) rfl rfl Tb.cells_25 (by repeat (first | exact Upd.head _ | apply Upd.tail | apply Upd.appR)) rfl rfl (all3 (gval_one _ _) (gval_one _ _) (RdG.one hy9).1) rfl rfl ?_
          refine TL.pure (PV.assign rfl) rfl (by decide) ?_
          refine TL.nil ?_
          refine TQ.thenC ?_
          refine TC.ret ?_
          refine TQ.retR rfl (Res.agg rfl Tb.agg_25 (by repeat (first | exact List.Mem.head _ | refine List.Mem.tail _ ?_ | refine List.mem_append_right _ ?_)) rfl (Res.tmp rfl Res.nil)) ?_
          simp only [tup]
          exact ⟨(.agg #[gval h8 t.d.length, gval h9 t.s.length, y9.1], y9.2 ++ (gbI (h9, t.s) ++ gbI (h8, t.d))), by rw [tur_0 a1], by rw [tur_0 a1]; exact RdT.mk (t := trnT t) (show goI (h8, t.d) by simpa [goI] using hh8) (show goI (h9, t.s) by simpa [goI] using hh9) hy9, by refine List.Sublist.append_left ?_ _; repeat (first | exact List.Sublist.append_left (by repeat (first | exact List.sublist_append_left _ _ | exact List.Sublist.refl _ | refine List.Sublist.cons _ ?_)) _ | refine List.Sublist.cons _ ?_)⟩
      · skip
        refine TL.buildSlice0 Tb.sl_22 Tb.zi_3 rfl (by decide) (fun bA4 hbA4 => ?_)
        refine TL.nil ?_
        refine TV.next (.inl (by repeat (first | exact List.Sublist.slnil | exact List.nil_sublist _ | exact List.Sublist.refl _ | refine List.Sublist.cons_cons _ ?_ | refine List.Sublist.cons _ ?_ | refine List.Sublist.trans ?_ (List.sublist_append_right _ _)))) ?_
        refine TV.step [3, 9] (by kernel_rfl) (by decide) rfl ⟨⟨_, rfl, ?_⟩, ⟨_, rfl, ?_⟩, trivial⟩
        · skip
          refine TL.append0 (m := t.d.length) (news := ival t.d) rfl rfl Tb.sl_22 Tb.zi_3 rfl (by repeat (first | exact Take.head _ | apply Take.tail | apply Take.appR)) (fun w' hN => ints_src Tb.sl_22 rfl (t2.new hN)) (by omega) (by omega) rfl (by decide) (fun h8 hh8 => ?_)
          refine TL.nil ?_
          refine TV.next (.inl (by repeat (first | exact List.Sublist.slnil | exact List.nil_sublist _ | exact List.Sublist.refl _ | refine List.Sublist.cons_cons _ ?_ | refine List.Sublist.cons _ ?_ | refine List.Sublist.trans ?_ (List.sublist_append_right _ _)))) ?_
          refine TV.step [7, 9] (by kernel_rfl) (by decide) rfl ⟨⟨_, rfl, ?_⟩, ⟨_, rfl, ?_⟩, trivial⟩
          · skip
            refine TL.append0 (m := t.s.length) (news := ival t.s) rfl rfl Tb.sl_22 Tb.zi_3 rfl (by repeat (first | exact Take.head _ | apply Take.tail | apply Take.appR)) (fun w' hN => ints_src Tb.sl_22 rfl (t1.new hN)) (by omega) (by omega) rfl (by decide) (fun h9 hh9 => ?_)
            refine TL.nil ?_
            refine TV.next (.inl (by repeat (first | exact List.Sublist.slnil | exact List.nil_sublist _ | exact List.Sublist.refl _ | refine List.Sublist.cons_cons _ ?_ | refine List.Sublist.cons _ ?_ | refine List.Sublist.trans ?_ (List.sublist_append_right _ _)))) ?_
            refine TV.virt 8 rfl rfl (by decide) rfl (by kernel_rfl) (SOK.pure (PV.build rfl Tb.zero_25 Tb.pl_25 (fill2 (gval_cells _ _) (gval_cells _ _))) rfl) ?_
            refine TV.step [9] (by kernel_rfl) (by decide) rfl ⟨⟨_, rfl, ?_⟩, trivial⟩
            refine TL.alloc Tb.zero_25 rfl (by decide) (fun bq hbq => ?_)
            refine TL.nil ?_
            refine TV.next (.inl (by repeat (first | exact List.Sublist.slnil | exact List.nil_sublist _ | exact List.Sublist.refl _ | refine List.Sublist.cons_cons _ ?_ | refine List.Sublist.cons _ ?_ | refine List.Sublist.trans ?_ (List.sublist_append_right _ _)))) ?_
            refine TV.step [10] (by kernel_rfl) (by decide) rfl ⟨⟨_, rfl, ?_⟩, trivial⟩
            refine TL.storeAgg (vs := [gval h8 t.d.length, gval h9 t.s.length, .slice none 0 0]) rfl rfl Tb.cells_25 (by repeat (first | exact Upd.head _ | apply Upd.tail | apply Upd.appR)) rfl rfl (two_one _ _ _ _ _ _ _) rfl rfl ?_
            refine TL.nil ?_
            refine TV.next (.inr (by kernel_rfl)) ?_
            refine TV.done (by kernel_rfl) ?_
            refine TQ.thenC ?_
            refine TC.seq ?_
            refine TC.region ?_
            refine TL.pure (PV.fieldAddr rfl Tb.fo_25_2) rfl (by decide) ?_
            refine TL.pure (PV.load rfl Tb.one_23 (by repeat (first | exact List.Mem.head _ | refine List.Mem.tail _ ?_ | refine List.mem_append_right _ ?_)) rfl) rfl (by decide) ?_
            refine TL.call rfl Tb.gofn_49 (fun a w hs => Turned_ok w _ _ (IsG.of (t3.new hs.new)) hT.c (by have := hV.c.len; have := hV.ns; omega) (fun i hi => by rw [hV.c.row i (by have := hV.c.len; omega), hV.c.row 0 (by have := hV.ns; omega)])) rfl (by decide) (fun y9 hy9 => ?_)
            refine TL.pure (PV.fieldAddr rfl Tb.fo_25_2) rfl (by decide) ?_
            refine TL.store rfl rfl Tb.cells_23 (RdG.one hy9).1 (by repeat (first | exact Upd.head _ | apply Upd.tail | apply Upd.appR)) (by first | decide | (simp; done) | (simp; omega) | omega) rfl rfl ?_
            refine TL.nil ?_
            refine TQ.thenC ?_
            refine TC.seq ?_
            refine TC.region ?_
            refine TL.pure (PV.loadBox (cs := [gval h8 t.d.length, gval h9 t.s.length, y9.1]) rfl Tb.agg_25 (by repeat (first | exact List.Mem.head _ | refine List.Mem.tail _ ?_ | refine List.mem_append_right _ ?_)) rfl) rfl (by decide) ?_
            refine TL.storeAgg (vs := [gval h8 t.d.length, gval h9 t.s.length, y9.1]) rfl rfl Tb.cells_25 (by repeat (first | exact Upd.head _ | apply Upd.tail | apply Upd.appR)) rfl rfl (all3 (gval_one _ _) (gval_one _ _) (RdG.one hy9).1) rfl rfl ?_
            refine TL.pure (PV.assign rfl) rfl (by decide) ?_
            refine TL.nil ?_
            refine TQ.thenC ?_
            refine TC.ret ?_
            refine TQ.retR rfl (Res.agg rfl Tb.agg_25 (by repeat (first | exact List.Mem.head _ | refine List.Mem.tail _ ?_ | refine List.mem_append_right _ ?_)) rfl (Res.tmp rfl Res.nil)) ?_
            simp only [tup]
            exact ⟨(.agg #[gval h8 t.d.length, gval h9 t.s.length, y9.1], y9.2 ++ (gbI (h9, t.s) ++ gbI (h8, t.d))), by rw [tur_0 a1], by rw [tur_0 a1]; exact RdT.mk (t := trnT t) (show goI (h8, t.d) by simpa [goI] using hh8) (show goI (h9, t.s) by simpa [goI] using hh9) hy9, by refine List.Sublist.append_left ?_ _; repeat (first | exact List.Sublist.append_left (by repeat (first | exact List.sublist_append_left _ _ | exact List.Sublist.refl _ | refine List.Sublist.cons _ ?_)) _ | refine List.Sublist.cons _ ?_)⟩
          · skip
            refine TL.alloc Tb.zero_25 rfl (by decide) (fun bq hbq => ?_)
            refine TL.nil ?_
            refine TV.next (.inl (by repeat (first | exact List.Sublist.slnil | exact List.nil_sublist _ | exact List.Sublist.refl _ | refine List.Sublist.cons_cons _ ?_ | refine List.Sublist.cons _ ?_ | refine List.Sublist.trans ?_ (List.sublist_append_right _ _)))) ?_
            refine TV.step [7] (by kernel_rfl) (by decide) rfl ⟨⟨_, rfl, ?_⟩, trivial⟩
            refine TL.append0 (m := t.s.length) (news := ival t.s) rfl rfl Tb.sl_22 Tb.zi_3 rfl (by repeat (first | exact Take.head _ | apply Take.tail | apply Take.appR)) (fun w' hN => ints_src Tb.sl_22 rfl (t1.new hN)) (by omega) (by omega) rfl (by decide) (fun h9 hh9 => ?_)
            refine TL.nil ?_
            refine TV.next (.inl (by repeat (first | exact List.Sublist.slnil | exact List.nil_sublist _ | exact List.Sublist.refl _ | refine List.Sublist.cons_cons _ ?_ | refine List.Sublist.cons _ ?_ | refine List.Sublist.trans ?_ (List.sublist_append_right _ _)))) ?_
            refine TV.virt 8 rfl rfl (by decide) rfl (by kernel_rfl) (SOK.pure (PV.build rfl Tb.zero_25 Tb.pl_25 (fill2 (gval_cells _ _) (gval_cells _ _))) rfl) ?_
            refine TV.step [10] (by kernel_rfl) (by decide) rfl ⟨⟨_, rfl, ?_⟩, trivial⟩
            refine TL.storeAgg (vs := [gval h8 t.d.length, gval h9 t.s.length, .slice none 0 0]) rfl rfl Tb.cells_25 (by repeat (first | exact Upd.head _ | apply Upd.tail | apply Upd.appR)) rfl rfl (two_one _ _ _ _ _ _ _) rfl rfl ?_
            refine TL.nil ?_
            refine TV.next (.inr (by kernel_rfl)) ?_
            refine TV.done (by kernel_rfl) ?_
            refine TQ.thenC ?_
            refine TC.seq ?_
            refine TC.region ?_
            refine TL.pure (PV.fieldAddr rfl Tb.fo_25_2) rfl (by decide) ?_
            refine TL.pure (PV.load rfl Tb.one_23 (by repeat (first | exact List.Mem.head _ | refine List.Mem.tail _ ?_ | refine List.mem_append_right _ ?_)) rfl) rfl (by decide) ?_
            refine TL.call rfl Tb.gofn_49 (fun a w hs => Turned_ok w _ _ (IsG.of (t3.new hs.new)) hT.c (by have := hV.c.len; have := hV.ns; omega) (fun i hi => by rw [hV.c.row i (by have := hV.c.len; omega), hV.c.row 0 (by have := hV.ns; omega)])) rfl (by decide) (fun y9 hy9 => ?_)
            refine TL.pure (PV.fieldAddr rfl Tb.fo_25_2) rfl (by decide) ?_
            refine TL.store rfl rfl Tb.cells_23 (RdG.one hy9).1 (by repeat (first | exact Upd.head _ | apply Upd.tail | apply Upd.appR)) (by first | decide | (simp; done) | (simp; omega) | omega) rfl rfl ?_
            refine TL.nil ?_
            refine TQ.thenC ?_
            refine TC.seq ?_
            refine TC.region ?_
            refine TL.pure (PV.loadBox (cs := [gval h8 t.d.length, gval h9 t.s.length, y9.1]) rfl Tb.agg_25 (by repeat (first | exact List.Mem.head _ | refine List.Mem.tail _ ?_ | refine List.mem_append_right _ ?_)) rfl) rfl (by decide) ?_
            refine TL.storeAgg (vs := [gval h8 t.d.length, gval h9 t.s.length, y9.1]) rfl rfl Tb.cells_25 (by repeat (first | exact Upd.head _ | apply Upd.tail | apply Upd.appR)) rfl rfl (all3 (gval_one _ _) (gval_one _ _) (RdG.one hy9).1) rfl rfl ?_
            refine TL.pure (PV.assign rfl) rfl (by decide) ?_
            refine TL.nil ?_
            refine TQ.thenC ?_
            refine TC.ret ?_
            refine TQ.retR rfl (Res.agg rfl Tb.agg_25 (by repeat (first | exact List.Mem.head _ | refine List.Mem.tail _ ?_ | refine List.mem_append_right _ ?_)) rfl (Res.tmp rfl Res.nil)) ?_
            simp only [tup]
            exact ⟨(.agg #[gval h8 t.d.length, gval h9 t.s.length, y9.1], y9.2 ++ (gbI (h9, t.s) ++ gbI (h8, t.d))), by rw [tur_0 a1], by rw [tur_0 a1]; exact RdT.mk (t := trnT t) (show goI (h8, t.d) by simpa [goI] using hh8) (show goI (h9, t.s) by simpa [goI] using hh9) hy9, by refine List.Sublist.append_left ?_ _; repeat (first | exact List.Sublist.append_left (by repeat (first | exact List.sublist_append_left _ _ | exact List.Sublist.refl _ | refine List.Sublist.cons _ ?_)) _ | refine List.Sublist.cons _ ?_)⟩
        · skip
          refine TL.alloc Tb.zero_25 rfl (by decide) (fun bq hbq => ?_)
          refine TL.nil ?_
          refine TV.next (.inl (by repeat (first | exact List.Sublist.slnil | exact List.nil_sublist _ | exact List.Sublist.refl _ | refine List.Sublist.cons_cons _ ?_ | refine List.Sublist.cons _ ?_ | refine List.Sublist.trans ?_ (List.sublist_append_right _ _)))) ?_
          refine TV.step [3] (by kernel_rfl) (by decide) rfl ⟨⟨_, rfl, ?_⟩, trivial⟩
          refine TL.append0 (m := t.d.length) (news := ival t.d) rfl rfl Tb.sl_22 Tb.zi_3 rfl (by repeat (first | exact Take.head _ | apply Take.tail | apply Take.appR)) (fun w' hN => ints_src Tb.sl_22 rfl (t2.new hN)) (by omega) (by omega) rfl (by decide) (fun h8 hh8 => ?_)
          refine TL.nil ?_
          refine TV.next (.inl (by repeat (first | exact List.Sublist.slnil | exact List.nil_sublist _ | exact List.Sublist.refl _ | refine List.Sublist.cons_cons _ ?_ | refine List.Sublist.cons _ ?_ | refine List.Sublist.trans ?_ (List.sublist_append_right _ _)))) ?_
          refine TV.step [7] (by kernel_rfl) (by decide) rfl ⟨⟨_, rfl, ?_⟩, trivial⟩
          refine TL.append0 (m := t.s.length) (news := ival t.s) rfl rfl Tb.sl_22 Tb.zi_3 rfl (by repeat (first | exact Take.head _ | apply Take.tail | apply Take.appR)) (fun w' hN => ints_src Tb.sl_22 rfl (t1.new hN)) (by omega) (by omega) rfl (by decide) (fun h9 hh9 => ?_)
          refine TL.nil ?_
          refine TV.next (.inl (by repeat (first | exact List.Sublist.slnil | exact List.nil_sublist _ | exact List.Sublist.refl _ | refine List.Sublist.cons_cons _ ?_ | refine List.Sublist.cons _ ?_ | refine List.Sublist.trans ?_ (List.sublist_append_right _ _)))) ?_
          refine TV.virt 8 rfl rfl (by decide) rfl (by kernel_rfl) (SOK.pure (PV.build rfl Tb.zero_25 Tb.pl_25 (fill2 (gval_cells _ _) (gval_cells _ _))) rfl) ?_
          refine TV.step [10] (by kernel_rfl) (by decide) rfl ⟨⟨_, rfl, ?_⟩, trivial⟩
          refine TL.storeAgg (vs := [gval h8 t.d.length, gval h9 t.s.length, .slice none 0 0]) rfl rfl Tb.cells_25 (by repeat (first | exact Upd.head _ | apply Upd.tail | apply Upd.appR)) rfl rfl (two_one _ _ _ _ _ _ _) rfl rfl ?_
          refine TL.nil ?_
          refine TV.next (.inr (by kernel_rfl)) ?_
          refine TV.done (by kernel_rfl) ?_
          refine TQ.thenC ?_
          refine TC.seq ?_
          refine TC.region ?_
          refine TL.pure (PV.fieldAddr rfl Tb.fo_25_2) rfl (by decide) ?_
          refine TL.pure (PV.load rfl Tb.one_23 (by repeat (first | exact List.Mem.head _ | refine List.Mem.tail _ ?_ | refine List.mem_append_right _ ?_)) rfl) rfl (by decide) ?_
          refine TL.call rfl Tb.gofn_49 (fun a w hs => Turned_ok w _ _ (IsG.of (t3.new hs.new)) hT.c (by have := hV.c.len; have := hV.ns; omega) (fun i hi => by rw [hV.c.row i (by have := hV.c.len; omega), hV.c.row 0 (by have := hV.ns; omega)])) rfl (by decide) (fun y9 hy9 => ?_)
          refine TL.pure (PV.fieldAddr rfl Tb.fo_25_2) rfl (by decide) ?_
          refine TL.store rfl rfl Tb.cells_23 (RdG.one hy9).1 (by repeat (first | exact Upd.head _ | apply Upd.tail | apply Upd.appR)) (by first | decide | (simp; done) | (simp; omega) | omega) rfl rfl ?_
          refine TL.nil ?_
          refine TQ.thenC ?_
          refine TC.seq ?_
          refine TC.region ?_
          refine TL.pure (PV.loadBox (cs := [gval h8 t.d.length, gval h9 t.s.length, y9.1]) rfl Tb.agg_25 (by repeat (first | exact List.Mem.head _ | refine List.Mem.tail _ ?_ | refine List.mem_append_right _ ?_)) rfl) rfl (by decide) ?_
          refine TL.storeAgg (vs := [gval h8 t.d.length, gval h9 t.s.length, y9.1]) rfl rfl Tb.cells_25 (by repeat (first | exact Upd.head _ | apply Upd.tail | apply Upd.appR)) rfl rfl (all3 (gval_one _ _) (gval_one _ _) (RdG.one hy9).1) rfl rfl ?_
          refine TL.pure (PV.assign rfl) rfl (by decide) ?_
          refine TL.nil ?_
          refine TQ.thenC ?_
          refine TC.ret ?_
          refine TQ.retR rfl (Res.agg rfl Tb.agg_25 (by repeat (first | exact List.Mem.head _ | refine List.Mem.tail _ ?_ | refine List.mem_append_right _ ?_)) rfl (Res.tmp rfl Res.nil)) ?_
          simp only [tup]
          exact ⟨(.agg #[gval h8 t.d.length, gval h9 t.s.length, y9.1], y9.2 ++ (gbI (h9, t.s) ++ gbI (h8, t.d))), by rw [tur_0 a1], by rw [tur_0 a1]; exact RdT.mk (t := trnT t) (show goI (h8, t.d) by simpa [goI] using hh8) (show goI (h9, t.s) by simpa [goI] using hh9) hy9, by refine List.Sublist.append_left ?_ _; repeat (first | exact List.Sublist.append_left (by repeat (first | exact List.sublist_append_left _ _ | exact List.Sublist.refl _ | refine List.Sublist.cons _ ?_)) _ | refine List.Sublist.cons _ ?_)⟩
      · skip
        refine TL.alloc Tb.zero_25 rfl (by decide) (fun bq hbq => ?_)
        refine TL.nil ?_
        refine TV.next (.inl (by repeat (first | exact List.Sublist.slnil | exact List.nil_sublist _ | exact List.Sublist.refl _ | refine List.Sublist.cons_cons _ ?_ | refine List.Sublist.cons _ ?_ | refine List.Sublist.trans ?_ (List.sublist_append_right _ _)))) ?_
        refine TV.step [3, 4] (by kernel_rfl) (by decide) rfl ⟨⟨_, rfl, ?_⟩, ⟨_, rfl, ?_⟩, trivial⟩
        · skip
          refine TL.append0 (m := t.d.length) (news := ival t.d) rfl rfl Tb.sl_22 Tb.zi_3 rfl (by repeat (first | exact Take.head _ | apply Take.tail | apply Take.appR)) (fun w' hN => ints_src Tb.sl_22 rfl (t2.new hN)) (by omega) (by omega) rfl (by decide) (fun h8 hh8 => ?_)
          refine TL.nil ?_
          refine TV.next (.inl (by repeat (first | exact List.Sublist.slnil | exact List.nil_sublist _ | exact List.Sublist.refl _ | refine List.Sublist.cons_cons _ ?_ | refine List.Sublist.cons _ ?_ | refine List.Sublist.trans ?_ (List.sublist_append_right _ _)))) ?_
          refine TV.step [4] (by kernel_rfl) (by decide) rfl ⟨⟨_, rfl, ?_⟩, trivial⟩
          refine TL.buildSlice0 Tb.sl_22 Tb.zi_3 rfl (by decide) (fun bA4 hbA4 => ?_)
          refine TL.nil ?_
          refine TV.next (.inl (by repeat (first | exact List.Sublist.slnil | exact List.nil_sublist _ | exact List.Sublist.refl _ | refine List.Sublist.cons_cons _ ?_ | refine List.Sublist.cons _ ?_ | refine List.Sublist.trans ?_ (List.sublist_append_right _ _)))) ?_
          refine TV.step [7] (by kernel_rfl) (by decide) rfl ⟨⟨_, rfl, ?_⟩, trivial⟩
          refine TL.append0 (m := t.s.length) (news := ival t.s) rfl rfl Tb.sl_22 Tb.zi_3 rfl (by repeat (first | exact Take.head _ | apply Take.tail | apply Take.appR)) (fun w' hN => ints_src Tb.sl_22 rfl (t1.new hN)) (by omega) (by omega) rfl (by decide) (fun h9 hh9 => ?_)
          refine TL.nil ?_
          refine TV.next (.inl (by repeat (first | exact List.Sublist.slnil | exact List.nil_sublist _ | exact List.Sublist.refl _ | refine List.Sublist.cons_cons _ ?_ | refine List.Sublist.cons _ ?_ | refine List.Sublist.trans ?_ (List.sublist_append_right _ _)))) ?_
          refine TV.virt 8 rfl rfl (by decide) rfl (by kernel_rfl) (SOK.pure (PV.build rfl Tb.zero_25 Tb.pl_25 (fill2 (gval_cells _ _) (gval_cells _ _))) rfl) ?_
          refine TV.step [10] (by kernel_rfl) (by decide) rfl ⟨⟨_, rfl, ?_⟩, trivial⟩
          refine TL.storeAgg (vs := [gval h8 t.d.length, gval h9 t.s.length, .slice none 0 0]) rfl rfl Tb.cells_25 (by repeat (first | exact Upd.head _ | apply Upd.tail | apply Upd.appR)) rfl rfl (two_one _ _ _ _ _ _ _) rfl rfl ?_
          refine TL.nil ?_
          refine TV.next (.inr (by kernel_rfl)) ?_
          refine TV.done (by kernel_rfl) ?_
          refine TQ.thenC ?_
          refine TC.seq ?_
          refine TC.region ?_
          refine TL.pure (PV.fieldAddr rfl Tb.fo_25_2) rfl (by decide) ?_
          refine TL.pure (PV.load rfl Tb.one_23 (by repeat (first | exact List.Mem.head _ | refine List.Mem.tail _ ?_ | refine List.mem_append_right _ ?_)) rfl) rfl (by decide) ?_
          refine TL.call rfl Tb.gofn_49 (fun a w hs => Turned_ok w _ _ (IsG.of (t3.new hs.new)) hT.c (by have := hV.c.len; have := hV.ns; omega) (fun i hi => by rw [hV.c.row i (by have := hV.c.len; omega), hV.c.row 0 (by have := hV.ns; omega)])) rfl (by decide) (fun y9 hy9 => ?_)
          refine TL.pure (PV.fieldAddr rfl Tb.fo_25_2) rfl (by decide) ?_
          refine TL.store rfl rfl Tb.cells_23 (RdG.one hy9).1 (by repeat (first | exact Upd.head _ | apply Upd.tail | apply Upd.appR)) (by first | decide | (simp; done) | (simp; omega) | omega) rfl rfl ?_
          refine TL.nil ?_
          refine TQ.thenC ?_
          refine TC.seq ?_
          refine TC.region ?_
          refine TL.pure (PV.loadBox (cs := [gval h8 t.d.length, gval h9 t.s.length, y9.1]) rfl Tb.agg_25 (by repeat (first | exact List.Mem.head _ | refine List.Mem.tail _ ?_ | refine List.mem_append_right _ ?_)) rfl) rfl (by decide) ?_
          refine TL.storeAgg (vs := [gval h8 t.d.length, gval h9 t.s.length, y9.1]) rfl rfl Tb.cells_25 (by repeat (first | exact Upd.head _ | apply Upd.tail | apply Upd.appR)) rfl rfl (all3 (gval_one _ _) (gval_one _ _) (RdG.one hy9).1) rfl rfl ?_
          refine TL.pure (PV.assign rfl) rfl (by decide) ?_
          refine TL.nil ?_
          refine TQ.thenC ?_
          refine TC.ret ?_
          refine TQ.retR rfl (Res.agg rfl Tb.agg_25 (by repeat (first | exact List.Mem.head _ | refine List.Mem.tail _ ?_ | refine List.mem_append_right _ ?_)) rfl (Res.tmp rfl Res.nil)) ?_
          simp only [tup]
          exact ⟨(.agg #[gval h8 t.d.length, gval h9 t.s.length, y9.1], y9.2 ++ (gbI (h9, t.s) ++ gbI (h8, t.d))), by rw [tur_0 a1], by rw [tur_0 a1]; exact RdT.mk (t := trnT t) (show goI (h8, t.d) by simpa [goI] using hh8) (show goI (h9, t.s) by simpa [goI] using hh9) hy9, by refine List.Sublist.append_left ?_ _; repeat (first | exact List.Sublist.append_left (by repeat (first | exact List.sublist_append_left _ _ | exact List.Sublist.refl _ | refine List.Sublist.cons _ ?_)) _ | refine List.Sublist.cons _ ?_)⟩
        · skip
          refine TL.buildSlice0 Tb.sl_22 Tb.zi_3 rfl (by decide) (fun bA4 hbA4 => ?_)
          refine TL.nil ?_
          refine TV.next (.inl (by repeat (first | exact List.Sublist.slnil | exact List.nil_sublist _ | exact List.Sublist.refl _ | refine List.Sublist.cons_cons _ ?_ | refine List.Sublist.cons _ ?_ | refine List.Sublist.trans ?_ (List.sublist_append_right _ _)))) ?_
          refine TV.step [3] (by kernel_rfl) (by decide) rfl ⟨⟨_, rfl, ?_⟩, trivial⟩
          refine TL.append0 (m := t.d.length) (news := ival t.d) rfl rfl Tb.sl_22 Tb.zi_3 rfl (by repeat (first | exact Take.head _ | apply Take.tail | apply Take.appR)) (fun w' hN => ints_src Tb.sl_22 rfl (t2.new hN)) (by omega) (by omega) rfl (by decide) (fun h8 hh8 => ?_)
          refine TL.nil ?_
          refine TV.next (.inl (by repeat (first | exact List.Sublist.slnil | exact List.nil_sublist _ | exact List.Sublist.refl _ | refine List.Sublist.cons_cons _ ?_ | refine List.Sublist.cons _ ?_ | refine List.Sublist.trans ?_ (List.sublist_append_right _ _)))) ?_
          refine TV.step [7] (by kernel_rfl) (by decide) rfl ⟨⟨_, rfl, ?_⟩, trivial⟩
          refine TL.append0 (m := t.s.length) (news := ival t.s) rfl rfl Tb.sl_22 Tb.zi_3 rfl (by repeat (first | exact Take.head _ | apply Take.tail | apply Take.appR)) (fun w' hN => ints_src Tb.sl_22 rfl (t1.new hN)) (by omega) (by omega) rfl (by decide) (fun h9 hh9 => ?_)
          refine TL.nil ?_
          refine TV.next (.inl (by repeat (first | exact List.Sublist.slnil | exact List.nil_sublist _ | exact List.Sublist.refl _ | refine List.Sublist.cons_cons _ ?_ | refine List.Sublist.cons _ ?_ | refine List.Sublist.trans ?_ (List.sublist_append_right _ _)))) ?_
          refine TV.virt 8 rfl rfl (by decide) rfl (by kernel_rfl) (SOK.pure (PV.build rfl Tb.zero_25 Tb.pl_25 (fill2 (gval_cells _ _) (gval_cells _ _))) rfl) ?_
          refine TV.step [10] (by kernel_rfl) (by decide) rfl ⟨⟨_, rfl, ?_⟩, trivial⟩
          refine TL.storeAgg (vs := [gval h8 t.d.length, gval h9 t.s.length, .slice none 0 0]) rfl rfl Tb.cells_25 (by repeat (first | exact Upd.head _ | apply Upd.tail | apply Upd.appR)) rfl rfl (two_one _ _ _ _ _ _ _) rfl rfl ?_
          refine TL.nil ?_
          refine TV.next (.inr (by kernel_rfl)) ?_
          refine TV.done (by kernel_rfl) ?_
          refine TQ.thenC ?_
          refine TC.seq ?_
          refine TC.region ?_
          refine TL.pure (PV.fieldAddr rfl Tb.fo_25_2) rfl (by decide) ?_
          refine TL.pure (PV.load rfl Tb.one_23 (by repeat (first | exact List.Mem.head _ | refine List.Mem.tail _ ?_ | refine List.mem_append_right _ ?_)) rfl) rfl (by decide) ?_
          refine TL.call rfl Tb.gofn_49 (fun a w hs => Turned_ok w _ _ (IsG.of (t3.new hs.new)) hT.c (by have := hV.c.len; have := hV.ns; omega) (fun i hi => by rw [hV.c.row i (by have := hV.c.len; omega), hV.c.row 0 (by have := hV.ns; omega)])) rfl (by decide) (fun y9 hy9 => ?_)
          refine TL.pure (PV.fieldAddr rfl Tb.fo_25_2) rfl (by decide) ?_
          refine TL.store rfl rfl Tb.cells_23 (RdG.one hy9).1 (by repeat (first | exact Upd.head _ | apply Upd.tail | apply Upd.appR)) (by first | decide | (simp; done) | (simp; omega) | omega) rfl rfl ?_
          refine TL.nil ?_
          refine TQ.thenC ?_
          refine TC.seq ?_
          refine TC.region ?_
          refine TL.pure (PV.loadBox (cs := [gval h8 t.d.length, gval h9 t.s.length, y9.1]) rfl Tb.agg_25 (by repeat (first | exact List.Mem.head _ | refine List.Mem.tail _ ?_ | refine List.mem_append_right _ ?_)) rfl) rfl (by decide) ?_
          refine TL.storeAgg (vs := [gval h8 t.d.length, gval h9 t.s.length, y9.1]) rfl rfl Tb.cells_25 (by repeat (first | exact Upd.head _ | apply Upd.tail | apply Upd.appR)) rfl rfl (all3 (gval_one _ _) (gval_one _ _) (RdG.one hy9).1) rfl rfl ?_
          refine TL.pure (PV.assign rfl) rfl (by decide) ?_
          refine TL.nil ?_
          refine TQ.thenC ?_
          refine TC.ret ?_
          refine TQ.retR rfl (Res.agg rfl Tb.agg_25 (by repeat (first | exact List.Mem.head _ | refine List.Mem.tail _ ?_ | refine List.mem_append_right _ ?_)) rfl (Res.tmp rfl Res.nil)) ?_
          simp only [tup]
          exact ⟨(.agg #[gval h8 t.d.length, gval h9 t.s.length, y9.1], y9.2 ++ (gbI (h9, t.s) ++ gbI (h8, t.d))), by rw [tur_0 a1], by rw [tur_0 a1]; exact RdT.mk (t := trnT t) (show goI (h8, t.d) by simpa [goI] using hh8) (show goI (h9, t.s) by simpa [goI] using hh9) hy9, by refine List.Sublist.append_left ?_ _; repeat (first | exact List.Sublist.append_left (by repeat (first | exact List.sublist_append_left _ _ | exact List.Sublist.refl _ | refine List.Sublist.cons _ ?_)) _ | refine List.Sublist.cons _ ?_)⟩
    · skip
      refine TL.buildSlice0 Tb.sl_22 Tb.zi_3 rfl (by decide) (fun bA4 hbA4 => ?_)
      refine TL.nil ?_
      refine TV.next (.inl (by repeat (first | exact List.Sublist.slnil | exact List.nil_sublist _ | exact List.Sublist.refl _ | refine List.Sublist.cons_cons _ ?_ | refine List.Sublist.cons _ ?_ | refine List.Sublist.trans ?_ (List.sublist_append_right _ _)))) ?_
      refine TV.step [0, 9] (by kernel_rfl) (by decide) rfl ⟨⟨_, rfl, ?_⟩, ⟨_, rfl, ?_⟩, trivial⟩
      · skip
        refine TL.buildSlice0 Tb.sl_22 Tb.zi_3 rfl (by decide) (fun bA0 hbA0 => ?_)
        refine TL.nil ?_
        refine TV.next (.inl (by repeat (first | exact List.Sublist.slnil | exact List.nil_sublist _ | exact List.Sublist.refl _ | refine List.Sublist.cons_cons _ ?_ | refine List.Sublist.cons _ ?_ | refine List.Sublist.trans ?_ (List.sublist_append_right _ _)))) ?_
        refine TV.step [3, 9] (by kernel_rfl) (by decide) rfl ⟨⟨_, rfl, ?_⟩, ⟨_, rfl, ?_⟩, trivial⟩
        · skip
          refine TL.append0 (m := t.d.length) (news := ival t.d) rfl rfl Tb.sl_22 Tb.zi_3 rfl (by repeat (first | exact Take.head _ | apply Take.tail | apply Take.appR)) (fun w' hN => ints_src Tb.sl_22 rfl (t2.new hN)) (by omega) (by omega) rfl (by decide) (fun h8 hh8 => ?_)
          refine TL.nil ?_
          refine TV.next (.inl (by repeat (first | exact List.Sublist.slnil | exact List.nil_sublist _ | exact List.Sublist.refl _ | refine List.Sublist.cons_cons _ ?_ | refine List.Sublist.cons _ ?_ | refine List.Sublist.trans ?_ (List.sublist_append_right _ _)))) ?_
          refine TV.step [7, 9] (by kernel_rfl) (by decide) rfl ⟨⟨_, rfl, ?_⟩, ⟨_, rfl, ?_⟩, trivial⟩
          · skip
            refine TL.append0 (m := t.s.length) (news := ival t.s) rfl rfl Tb.sl_22 Tb.zi_3 rfl (by repeat (first | exact Take.head _ | apply Take.tail | apply Take.appR)) (fun w' hN => ints_src Tb.sl_22 rfl (t1.new hN)) (by omega) (by omega) rfl (by decide) (fun h9 hh9 => ?_)
            refine TL.nil ?_
            refine TV.next (.inl (by repeat (first | exact List.Sublist.slnil | exact List.nil_sublist _ | exact List.Sublist.refl _ | refine List.Sublist.cons_cons _ ?_ | refine List.Sublist.cons _ ?_ | refine List.Sublist.trans ?_ (List.sublist_append_right _ _)))) ?_
            refine TV.virt 8 rfl rfl (by decide) rfl (by kernel_rfl) (SOK.pure (PV.build rfl Tb.zero_25 Tb.pl_25 (fill2 (gval_cells _ _) (gval_cells _ _))) rfl) ?_
            refine TV.step [9] (by kernel_rfl) (by decide) rfl ⟨⟨_, rfl, ?_⟩, trivial⟩
            refine TL.alloc Tb.zero_25 rfl (by decide) (fun bq hbq => ?_)
            refine TL.nil ?_
            refine TV.next (.inl (by repeat (first | exact List.Sublist.slnil | exact List.nil_sublist _ | exact List.Sublist.refl _ | refine List.Sublist.cons_cons _ ?_ | refine List.Sublist.cons _ ?_ | refine List.Sublist.trans ?_ (List.sublist_append_right _ _)))) ?_
            refine TV.step [10] (by kernel_rfl) (by decide) rfl ⟨⟨_, rfl, ?_⟩, trivial⟩
            refine TL.storeAgg (vs := [gval h8 t.d.length, gval h9 t.s.length, .slice none 0 0]) rfl rfl Tb.cells_25 (by repeat (first | exact Upd.head _ | apply Upd.tail | apply Upd.appR)) rfl rfl (two_one _ _ _ _ _ _ _) rfl rfl ?_
            refine TL.nil ?_
            refine TV.next (.inr (by kernel_rfl)) ?_
            refine TV.done (by kernel_rfl) ?_
            refine TQ.thenC ?_
            refine TC.seq ?_
            refine TC.region ?_
            refine TL.pure (PV.fieldAddr rfl Tb.fo_25_2) rfl (by decide) ?_
            refine TL.pure (PV.load rfl Tb.one_23 (by repeat (first | exact List.Mem.head _ | refine List.Mem.tail _ ?_ | refine List.mem_append_right _ ?_)) rfl) rfl (by decide) ?_
            refine TL.call rfl Tb.gofn_49 (fun a w hs => Turned_ok w _ _ (IsG.of (t3.new hs.new)) hT.c (by have := hV.c.len; have := hV.ns; omega) (fun i hi => by rw [hV.c.row i (by have := hV.c.len; omega), hV.c.row 0 (by have := hV.ns; omega)])) rfl (by decide) (fun y9 hy9 => ?_)
            refine TL.pure (PV.fieldAddr rfl Tb.fo_25_2) rfl (by decide) ?_
            refine TL.store rfl rfl Tb.cells_23 (RdG.one hy9).1 (by repeat (first | exact Upd.head _ | apply Upd.tail | apply Upd.appR)) (by first | decide | (simp; done) | (simp; omega) | omega) rfl rfl ?_
            refine TL.nil ?_
            refine TQ.thenC ?_
            refine TC.seq ?_
            refine TC.region ?_
            refine TL.pure (PV.loadBox (cs := [gval h8 t.d.length, gval h9 t.s.length, y9.1]) rfl Tb.agg_25 (by repeat (first | exact List.Mem.head _ | refine List.Mem.tail _ ?_ | refine List.mem_append_right _ ?_)) rfl) rfl (by decide) ?_
            refine TL.storeAgg (vs := [gval h8 t.d.length, gval h9 t.s.length, y9.1]) rfl rfl Tb.cells_25 (by repeat (first | exact Upd.head _ | apply Upd.tail | apply Upd.appR)) rfl rfl (all3 (gval_one _ _) (gval_one _ _) (RdG.one hy9).1) rfl rfl ?_
            refine TL.pure (PV.assign rfl) rfl (by decide) ?_
            refine TL.nil ?_
            refine TQ.thenC ?_
            refine TC.ret ?_
            refine TQ.retR rfl (Res.agg rfl Tb.agg_25 (by repeat (first | exact List.Mem.head _ | refine List.Mem.tail _ ?_ | refine List.mem_append_right _ ?_)) rfl (Res.tmp rfl Res.nil)) ?_
            simp only [tup]
            exact ⟨(.agg #[gval h8 t.d.length, gval h9 t.s.length, y9.1], y9.2 ++ (gbI (h9, t.s) ++ gbI (h8, t.d))), by rw [tur_0 a1], by rw [tur_0 a1]; exact RdT.mk (t := trnT t) (show goI (h8, t.d) by simpa [goI] using hh8) (show goI (h9, t.s) by simpa [goI] using hh9) hy9, by refine List.Sublist.append_left ?_ _; repeat (first | exact List.Sublist.append_left (by repeat (first | exact List.sublist_append_left _ _ | exact List.Sublist.refl _ | refine List.Sublist.cons _ ?_)) _ | refine List.Sublist.cons _ ?_)⟩
          · skip
            refine TL.alloc Tb.zero_25 rfl (by decide) (fun bq hbq => ?_)
            refine TL.nil ?_
            refine TV.next (.inl (by repeat (first | exact List.Sublist.slnil | exact List.nil_sublist _ | exact List.Sublist.refl _ | refine List.Sublist.cons_cons _ ?_ | refine List.Sublist.cons _ ?_ | refine List.Sublist.trans ?_ (List.sublist_append_right _ _)))) ?_
            refine TV.step [7] (by kernel_rfl) (by decide) rfl ⟨⟨_, rfl, ?_⟩, trivial⟩
            refine TL.append0 (m := t.s.length) (news := ival t.s) rfl rfl Tb.sl_22 Tb.zi_3 rfl (by repeat (first | exact Take.head _ | apply Take.tail | apply Take.appR)) (fun w' hN => ints_src Tb.sl_22 rfl (t1.new hN)) (by omega) (by omega) rfl (by decide) (fun h9 hh9 => ?_)
            refine TL.nil ?_
            refine TV.next (.inl (by repeat (first | exact List.Sublist.slnil | exact List.nil_sublist _ | exact List.Sublist.refl _ | refine List.Sublist.cons_cons _ ?_ | refine List.Sublist.cons _ ?_ | refine List.Sublist.trans ?_ (List.sublist_append_right _ _)))) ?_
            refine TV.virt 8 rfl rfl (by decide) rfl (by kernel_rfl) (SOK.pure (PV.build rfl Tb.zero_25 Tb.pl_25 (fill2 (gval_cells _ _) (gval_cells _ _))) rfl) ?_
            refine TV.step [10] (by kernel_rfl) (by decide) rfl ⟨⟨_, rfl, ?_⟩, trivial⟩
            refine TL.storeAgg (vs := [gval h8 t.d.length, gval h9 t.s.length, .slice none 0 0]) rfl rfl Tb.cells_25 (by repeat (first | exact Upd.head _ | apply Upd.tail | apply Upd.appR)) rfl rfl (two_one _ _ _ _ _ _ _) rfl rfl ?_
            refine TL.nil ?_
            refine TV.next (.inr (by kernel_rfl)) ?_
            refine TV.done (by kernel_rfl) ?_
            refine TQ.thenC ?_
            refine TC.seq ?_
            refine TC.region ?_
            refine TL.pure (PV.fieldAddr rfl Tb.fo_25_2) rfl (by decide) ?_
            refine TL.pure (PV.load rfl Tb.one_23 (by repeat (first | exact List.Mem.head _ | refine List.Mem.tail _ ?_ | refine List.mem_append_right _ ?_)) rfl) rfl (by decide) ?_
            refine TL.call rfl Tb.gofn_49 (fun a w hs => Turned_ok w _ _ (IsG.of (t3.new hs.new)) hT.c (by have := hV.c.len; have := hV.ns; omega) (fun i hi => by rw [hV.c.row i (by have := hV.c.len; omega), hV.c.row 0 (by have := hV.ns; omega)])) rfl (by decide) (fun y9 hy9 => ?_)
            refine TL.pure (PV.fieldAddr rfl Tb.fo_25_2) rfl (by decide) ?_
            refine TL.store rfl rfl Tb.cells_23 (RdG.one hy9).1 (by repeat (first | exact Upd.head _ | apply Upd.tail | apply Upd.appR)) (by first | decide | (simp; done) | (simp; omega) | omega) rfl rfl ?_
            refine TL.nil ?_
            refine TQ.thenC ?_
            refine TC.seq ?_
            refine TC.region ?_
            refine TL.pure (PV.loadBox (cs := [gval h8 t.d.length, gval h9 t.s.length, y9.1]) rfl Tb.agg_25 (by repeat (first | exact List.Mem.head _ | refine List.Mem.tail _ ?_ | refine List.mem_append_right _ ?_)) rfl) rfl (by decide) ?_
            refine TL.storeAgg (vs := [gval h8 t.d.length, gval h9 t.s.length, y9.1]) rfl rfl Tb.cells_25 (by repeat (first | exact Upd.head _ | apply Upd.tail | apply Upd.appR)) rfl rfl (all3 (gval_one _ _) (gval_one _ _) (RdG.one hy9).1) rfl rfl ?_
            refine TL.pure (PV.assign rfl) rfl (by decide) ?_
            refine TL.nil ?_
            refine TQ.thenC ?_
            refine TC.ret ?_
            refine TQ.retR rfl (Res.agg rfl Tb.agg_25 (by repeat (first | exact List.Mem.head _ | refine List.Mem.tail _ ?_ | refine List.mem_append_right _ ?_)) rfl (Res.tmp rfl Res.nil)) ?_
            simp only [tup]
            exact ⟨(.agg #[gval h8 t.d.length, gval h9 t.s.length, y9.1], y9.2 ++ (gbI (h9, t.s) ++ gbI (h8, t.d))), by rw [tur_0 a1], by rw [tur_0 a1]; exact RdT.mk (t := trnT t) (show goI (h8, t.d) by simpa [goI] using hh8) (show goI (h9, t.s) by simpa [goI] using hh9) hy9, by refine List.Sublist.append_left ?_ _; repeat (first | exact List.Sublist.append_left (by repeat (first | exact List.sublist_append_left _ _ | exact List.Sublist.refl _ | refine List.Sublist.cons _ ?_)) _ | refine List.Sublist.cons _ ?_)⟩
        · skip
          refine TL.alloc Tb.zero_25 rfl (by decide) (fun bq hbq => ?_)
          refine TL.nil ?_
          refine TV.next (.inl (by repeat (first | exact List.Sublist.slnil | exact List.nil_sublist _ | exact List.Sublist.refl _ | refine List.Sublist.cons_cons _ ?_ | refine List.Sublist.cons _ ?_ | refine List.Sublist.trans ?_ (List.sublist_append_right _ _)))) ?_
          refine TV.step [3] (by kernel_rfl) (by decide) rfl ⟨⟨_, rfl, ?_⟩, trivial⟩
          refine TL.append0 (m := t.d.length) (news := ival t.d) rfl rfl Tb.sl_22 Tb.zi_3 rfl (by repeat (first | exact Take.head _ | apply Take.tail | apply Take.appR)) (fun w' hN => ints_src Tb.sl_22 rfl (t2.new hN)) (by omega) (by omega) rfl (by decide) (fun h8 hh8 => ?_)
          refine TL.nil ?_
          refine TV.next (.inl (by repeat (first | exact List.Sublist.slnil | exact List.nil_sublist _ | exact List.Sublist.refl _ | refine List.Sublist.cons_cons _ ?_ | refine List.Sublist.cons _ ?_ | refine List.Sublist.trans ?_ (List.sublist_append_right _ _)))) ?_
          refine TV.step [7] (by kernel_rfl) (by decide) rfl ⟨⟨_, rfl, ?_⟩, trivial⟩
          refine TL.append0 (m := t.s.length) (news := ival t.s) rfl rfl Tb.sl_22 Tb.zi_3 rfl (by repeat (first | exact Take.head _ | apply Take.tail | apply Take.appR)) (fun w' hN => ints_src Tb.sl_22 rfl (t1.new hN)) (by omega) (by omega) rfl (by decide) (fun h9 hh9 => ?_)
          refine TL.nil ?_
          refine TV.next (.inl (by repeat (first | exact List.Sublist.slnil | exact List.nil_sublist _ | exact List.Sublist.refl _ | refine List.Sublist.cons_cons _ ?_ | refine List.Sublist.cons _ ?_ | refine List.Sublist.trans ?_ (List.sublist_append_right _ _)))) ?_
          refine TV.virt 8 rfl rfl (by decide) rfl (by kernel_rfl) (SOK.pure (PV.build rfl Tb.zero_25 Tb.pl_25 (fill2 (gval_cells _ _) (gval_cells _ _))) rfl) ?_
          refine TV.step [10] (by kernel_rfl) (by decide) rfl ⟨⟨_, rfl, ?_⟩, trivial⟩
          refine TL.storeAgg (vs := [gval h8 t.d.length, gval h9 t.s.length, .slice none 0 0]) rfl rfl Tb.cells_25 (by repeat (first | exact Upd.head _ | apply Upd.tail | apply Upd.appR)) rfl rfl (two_one _ _ _ _ _ _ _) rfl rfl ?_
          refine TL.nil ?_
          refine TV.next (.inr (by kernel_rfl)) ?_
          refine TV.done (by kernel_rfl) ?_
          refine TQ.thenC ?_
          refine TC.seq ?_
          refine TC.region ?_
          refine TL.pure (PV.fieldAddr rfl Tb.fo_25_2) rfl (by decide) ?_
          refine TL.pure (PV.load rfl Tb.one_23 (by repeat (first | exact List.Mem.head _ | refine List.Mem.tail _ ?_ | refine List.mem_append_right _ ?_)) rfl) rfl (by decide) ?_
          refine TL.call rfl Tb.gofn_49 (fun a w hs => Turned_ok w _ _ (IsG.of (t3.new hs.new)) hT.c (by have := hV.c.len; have := hV.ns; omega) (fun i hi => by rw [hV.c.row i (by have := hV.c.len; omega), hV.c.row 0 (by have := hV.ns; omega)])) rfl (by decide) (fun y9 hy9 => ?_)
          refine TL.pure (PV.fieldAddr rfl Tb.fo_25_2) rfl (by decide) ?_
          refine TL.store rfl rfl Tb.cells_23 (RdG.one hy9).1 (by repeat (first | exact Upd.head _ | apply Upd.tail | apply Upd.appR)) (by first | decide | (simp; done) | (simp; omega) | omega) rfl rfl ?_
          refine TL.nil ?_
          refine TQ.thenC ?_
          refine TC.seq ?_
          refine TC.region ?_
          refine TL.pure (PV.loadBox (cs := [gval h8 t.d.length, gval h9 t.s.length, y9.1]) rfl Tb.agg_25 (by repeat (first | exact List.Mem.head _ | refine List.Mem.tail _ ?_ | refine List.mem_append_right _ ?_)) rfl) rfl (by decide) ?_
          refine TL.storeAgg (vs := [gval h8 t.d.length, gval h9 t.s.length, y9.1]) rfl rfl Tb.cells_25 (by repeat (first | exact Upd.head _ | apply Upd.tail | apply Upd.appR)) rfl rfl (all3 (gval_one _ _) (gval_one _ _) (RdG.one hy9).1) rfl rfl ?_
          refine TL.pure (PV.assign rfl) rfl (by decide) ?_
          refine TL.nil ?_
          refine TQ.thenC ?_
          refine TC.ret ?_
          refine TQ.retR rfl (Res.agg rfl Tb.agg_25 (by repeat (first | exact List.Mem.head _ | refine List.Mem.tail _ ?_ | refine List.mem_append_right _ ?_)) rfl (Res.tmp rfl Res.nil)) ?_
          simp only [tup]
          exact ⟨(.agg #[gval h8 t.d.length, gval h9 t.s.length, y9.1], y9.2 ++ (gbI (h9, t.s) ++ gbI (h8, t.d))), by rw [tur_0 a1], by rw [tur_0 a1]; exact RdT.mk (t := trnT t) (show goI (h8, t.d) by simpa [goI] using hh8) (show goI (h9, t.s) by simpa [goI] using hh9) hy9, by refine List.Sublist.append_left ?_ _; repeat (first | exact List.Sublist.append_left (by repeat (first | exact List.sublist_append_left _ _ | exact List.Sublist.refl _ | refine List.Sublist.cons _ ?_)) _ | refine List.Sublist.cons _ ?_)⟩
      · skip
        refine TL.alloc Tb.zero_25 rfl (by decide) (fun bq hbq => ?_)
        refine TL.nil ?_
        refine TV.next (.inl (by repeat (first | exact List.Sublist.slnil | exact List.nil_sublist _ | exact List.Sublist.refl _ | refine List.Sublist.cons_cons _ ?_ | refine List.Sublist.cons _ ?_ | refine List.Sublist.trans ?_ (List.sublist_append_right _ _)))) ?_
        refine TV.step [0] (by kernel_rfl) (by decide) rfl ⟨⟨_, rfl, ?_⟩, trivial⟩
        refine TL.buildSlice0 Tb.sl_22 Tb.zi_3 rfl (by decide) (fun bA0 hbA0 => ?_)
        refine TL.nil ?_
        refine TV.next (.inl (by repeat (first | exact List.Sublist.slnil | exact List.nil_sublist _ | exact List.Sublist.refl _ | refine List.Sublist.cons_cons _ ?_ | refine List.Sublist.cons _ ?_ | refine List.Sublist.trans ?_ (List.sublist_append_right _ _)))) ?_
        refine TV.step [3] (by kernel_rfl) (by decide) rfl ⟨⟨_, rfl, ?_⟩, trivial⟩
        refine TL.append0 (m := t.d.length) (news := ival t.d) rfl rfl Tb.sl_22 Tb.zi_3 rfl (by repeat (first | exact Take.head _ | apply Take.tail | apply Take.appR)) (fun w' hN => ints_src Tb.sl_22 rfl (t2.new hN)) (by omega) (by omega) rfl (by decide) (fun h8 hh8 => ?_)
        refine TL.nil ?_
        refine TV.next (.inl (by repeat (first | exact List.Sublist.slnil | exact List.nil_sublist _ | exact List.Sublist.refl _ | refine List.Sublist.cons_cons _ ?_ | refine List.Sublist.cons _ ?_ | refine List.Sublist.trans ?_ (List.sublist_append_right _ _)))) ?_
        refine TV.step [7] (by kernel_rfl) (by decide) rfl ⟨⟨_, rfl, ?_⟩, trivial⟩
        refine TL.append0 (m := t.s.length) (news := ival t.s) rfl rfl Tb.sl_22 Tb.zi_3 rfl (by repeat (first | exact Take.head _ | apply Take.tail | apply Take.appR)) (fun w' hN => ints_src Tb.sl_22 rfl (t1.new hN)) (by omega) (by omega) rfl (by decide) (fun h9 hh9 => ?_)
        refine TL.nil ?_
        refine TV.next (.inl (by repeat (first | exact List.Sublist.slnil | exact List.nil_sublist _ | exact List.Sublist.refl _ | refine List.Sublist.cons_cons _ ?_ | refine List.Sublist.cons _ ?_ | refine List.Sublist.trans ?_ (List.sublist_append_right _ _)))) ?_
        refine TV.virt 8 rfl rfl (by decide) rfl (by kernel_rfl) (SOK.pure (PV.build rfl Tb.zero_25 Tb.pl_25 (fill2 (gval_cells _ _) (gval_cells _ _))) rfl) ?_
        refine TV.step [10] (by kernel_rfl) (by decide) rfl ⟨⟨_, rfl, ?_⟩, trivial⟩
        refine TL.storeAgg (vs := [gval h8 t.d.length, gval h9 t.s.length, .slice none 0 0]) rfl rfl Tb.cells_25 (by repeat (first | exact Upd.head _ | apply Upd.tail | apply Upd.appR)) rfl rfl (two_one _ _ _ _ _ _ _) rfl rfl ?_
        refine TL.nil ?_
        refine TV.next (.inr (by kernel_rfl)) ?_
        refine TV.done (by kernel_rfl) ?_
        refine TQ.thenC ?_
        refine TC.seq ?_
        refine TC.region ?_
        refine TL.pure (PV.fieldAddr rfl Tb.fo_25_2) rfl (by decide) ?_
        refine TL.pure (PV.load rfl Tb.one_23 (by repeat (first | exact List.Mem.head _ | refine List.Mem.tail _ ?_ | refine List.mem_append_right _ ?_)) rfl) rfl (by decide) ?_
        refine TL.call rfl Tb.gofn_49 (fun a w hs => Turned_ok w _ _ (IsG.of (t3.new hs.new)) hT.c (by have := hV.c.len; have := hV.ns; omega) (fun i hi => by rw [hV.c.row i (by have := hV.c.len; omega), hV.c.row 0 (by have := hV.ns; omega)])) rfl (by decide) (fun y9 hy9 => ?_)
        refine TL.pure (PV.fieldAddr rfl Tb.fo_25_2) rfl (by decide) ?_
        refine TL.store rfl rfl Tb.cells_23 (RdG.one hy9).1 (by repeat (first | exact Upd.head _ | apply Upd.tail | apply Upd.appR)) (by first | decide | (simp; done) | (simp; omega) | omega) rfl rfl ?_
        refine TL.nil ?_
        refine TQ.thenC ?_
        refine TC.seq ?_
        refine TC.region ?_
        refine TL.pure (PV.loadBox (cs := [gval h8 t.d.length, gval h9 t.s.length, y9.1]) rfl Tb.agg_25 (by repeat (first | exact List.Mem.head _ | refine List.Mem.tail _ ?_ | refine List.mem_append_right _ ?_)) rfl) rfl (by decide) ?_
        refine TL.storeAgg (vs := [gval h8 t.d.length, gval h9 t.s.length, y9.1]) rfl rfl Tb.cells_25 (by repeat (first | exact Upd.head _ | apply Upd.tail | apply Upd.appR)) rfl rfl (all3 (gval_one _ _) (gval_one _ _) (RdG.one hy9).1) rfl rfl ?_
        refine TL.pure (PV.assign rfl) rfl (by decide) ?_
        refine TL.nil ?_
        refine TQ.thenC ?_
        refine TC.ret ?_
        refine TQ.retR rfl (Res.agg rfl Tb.agg_25 (by repeat (first | exact List.Mem.head _ | refine List.Mem.tail _ ?_ | refine List.mem_append_right _ ?_)) rfl (Res.tmp rfl Res.nil)) ?_
        simp only [tup]
        exact ⟨(.agg #[gval h8 t.d.length, gval h9 t.s.length, y9.1], y9.2 ++ (gbI (h9, t.s) ++ gbI (h8, t.d))), by rw [tur_0 a1], by rw [tur_0 a1]; exact RdT.mk (t := trnT t) (show goI (h8, t.d) by simpa [goI] using hh8) (show goI (h9, t.s) by simpa [goI] using hh9) hy9, by refine List.Sublist.append_left ?_ _; repeat (first | exact List.Sublist.append_left (by repeat (first | exact List.sublist_append_left _ _ | exact List.Sublist.refl _ | refine List.Sublist.cons _ ?_)) _ | refine List.Sublist.cons _ ?_)⟩
    · skip
      refine TL.alloc Tb.zero_25 rfl (by decide) (fun bq hbq => ?_)
      refine TL.nil ?_
      refine TV.next (.inl (by repeat (first | exact List.Sublist.slnil | exact List.nil_sublist _ | exact List.Sublist.refl _ | refine List.Sublist.cons_cons _ ?_ | refine List.Sublist.cons _ ?_ | refine List.Sublist.trans ?_ (List.sublist_append_right _ _)))) ?_
      refine TV.step [0, 4] (by kernel_rfl) (by decide) rfl ⟨⟨_, rfl, ?_⟩, ⟨_, rfl, ?_⟩, trivial⟩
      · skip
        refine TL.buildSlice0 Tb.sl_22 Tb.zi_3 rfl (by decide) (fun bA0 hbA0 => ?_)
        refine TL.nil ?_
        refine TV.next (.inl (by repeat (first | exact List.Sublist.slnil | exact List.nil_sublist _ | exact List.Sublist.refl _ | refine List.Sublist.cons_cons _ ?_ | refine List.Sublist.cons _ ?_ | refine List.Sublist.trans ?_ (List.sublist_append_right _ _)))) ?_
        refine TV.step [3, 4] (by kernel_rfl) (by decide) rfl ⟨⟨_, rfl, ?_⟩, ⟨_, rfl, ?_⟩, trivial⟩
        · skip
          refine TL.append0 (m := t.d.length) (news := ival t.d) rfl rfl Tb.sl_22 Tb.zi_3 rfl (by repeat (first | exact Take.head _ | apply Take.tail | apply Take.appR)) (fun w' hN => ints_src Tb.sl_22 rfl (t2.new hN)) (by omega) (by omega) rfl (by decide) (fun h8 hh8 => ?_)
          refine TL.nil ?_
          refine TV.next (.inl (by repeat (first | exact List.Sublist.slnil | exact List.nil_sublist _ | exact List.Sublist.refl _ | refine List.Sublist.cons_cons _ ?_ | refine List.Sublist.cons _ ?_ | refine List.Sublist.trans ?_ (List.sublist_append_right _ _)))) ?_
          refine TV.step [4] (by kernel_rfl) (by decide) rfl ⟨⟨_, rfl, ?_⟩, trivial⟩
          refine TL.buildSlice0 Tb.sl_22 Tb.zi_3 rfl (by decide) (fun bA4 hbA4 => ?_)
          refine TL.nil ?_
          refine TV.next (.inl (by repeat (first | exact List.Sublist.slnil | exact List.nil_sublist _ | exact List.Sublist.refl _ | refine List.Sublist.cons_cons _ ?_ | refine List.Sublist.cons _ ?_ | refine List.Sublist.trans ?_ (List.sublist_append_right _ _)))) ?_
          refine TV.step [7] (by kernel_rfl) (by decide) rfl ⟨⟨_, rfl, ?_⟩, trivial⟩
          refine TL.append0 (m := t.s.length) (news := ival t.s) rfl rfl Tb.sl_22 Tb.zi_3 rfl (by repeat (first | exact Take.head _ | apply Take.tail | apply Take.appR)) (fun w' hN => ints_src Tb.sl_22 rfl (t1.new hN)) (by omega) (by omega) rfl (by decide) (fun h9 hh9 => ?_)
          refine TL.nil ?_
          refine TV.next (.inl (by repeat (first | exact List.Sublist.slnil | exact List.nil_sublist _ | exact List.Sublist.refl _ | refine List.Sublist.cons_cons _ ?_ | refine List.Sublist.cons _ ?_ | refine List.Sublist.trans ?_ (List.sublist_append_right _ _)))) ?_
          refine TV.virt 8 rfl rfl (by decide) rfl (by kernel_rfl) (SOK.pure (PV.build rfl Tb.zero_25 Tb.pl_25 (fill2 (gval_cells _ _) (gval_cells _ _))) rfl) ?_
          refine TV.step [10] (by kernel_rfl) (by decide) rfl ⟨⟨_, rfl, ?_⟩, trivial⟩
          refine TL.storeAgg (vs := [gval h8 t.d.length, gval h9 t.s.length, .slice none 0 0]) rfl rfl Tb.cells_25 (by repeat (first | exact Upd.head _ | apply Upd.tail | apply Upd.appR)) rfl rfl (two_one _ _ _ _ _ _ _) rfl rfl ?_
          refine TL.nil ?_
          refine TV.next (.inr (by kernel_rfl)) ?_
          refine TV.done (by kernel_rfl) ?_
          refine TQ.thenC ?_
          refine TC.seq ?_
          refine TC.region ?_
          refine TL.pure (PV.fieldAddr rfl Tb.fo_25_2) rfl (by decide) ?_
          refine TL.pure (PV.load rfl Tb.one_23 (by repeat (first | exact List.Mem.head _ | refine List.Mem.tail _ ?_ | refine List.mem_append_right _ ?_)) rfl) rfl (by decide) ?_
          refine TL.call rfl Tb.gofn_49 (fun a w hs => Turned_ok w _ _ (IsG.of (t3.new hs.new)) hT.c (by have := hV.c.len; have := hV.ns; omega) (fun i hi => by rw [hV.c.row i (by have := hV.c.len; omega), hV.c.row 0 (by have := hV.ns; omega)])) rfl (by decide) (fun y9 hy9 => ?_)
          refine TL.pure (PV.fieldAddr rfl Tb.fo_25_2) rfl (by decide) ?_
          refine TL.store rfl rfl Tb.cells_23 (RdG.one hy9).1 (by repeat (first | exact Upd.head _ | apply Upd.tail | apply Upd.appR)) (by first | decide | (simp; done) | (simp; omega) | omega) rfl rfl ?_
          refine TL.nil ?_
          refine TQ.thenC ?_
          refine TC.seq ?_
          refine TC.region ?_
          refine TL.pure (PV.loadBox (cs := [gval h8 t.d.length, gval h9 t.s.length, y9.1]) rfl Tb.agg_25 (by repeat (first | exact List.Mem.head _ | refine List.Mem.tail _ ?_ | refine List.mem_append_right _ ?_)) rfl) rfl (by decide) ?_
          refine TL.storeAgg (vs := [gval h8 t.d.length, gval h9 t.s.length, y9.1]) rfl rfl Tb.cells_25 (by repeat (first | exact Upd.head _ | apply Upd.tail | apply Upd.appR)) rfl rfl (all3 (gval_one _ _) (gval_one _ _) (RdG.one hy9).1) rfl rfl ?_
          refine TL.pure (PV.assign rfl) rfl (by decide) ?_
          refine TL.nil ?_
          refine TQ.thenC ?_
          refine TC.ret ?_
          refine TQ.retR rfl (Res.agg rfl Tb.agg_25 (by repeat (first | exact List.Mem.head _ | refine List.Mem.tail _ ?_ | refine List.mem_append_right _ ?_)) rfl (Res.tmp rfl Res.nil)) ?_
          simp only [tup]
          exact ⟨(.agg #[gval h8 t.d.length, gval h9 t.s.length, y9.1], y9.2 ++ (gbI (h9, t.s) ++ gbI (h8, t.d))), by rw [tur_0 a1], by rw [tur_0 a1]; exact RdT.mk (t := trnT t) (show goI (h8, t.d) by simpa [goI] using hh8) (show goI (h9, t.s) by simpa [goI] using hh9) hy9, by refine List.Sublist.append_left ?_ _; repeat (first | exact List.Sublist.append_left (by repeat (first | exact List.sublist_append_left _ _ | exact List.Sublist.refl _ | refine List.Sublist.cons _ ?_)) _ | refine List.Sublist.cons _ ?_)⟩
        · skip
          refine TL.buildSlice0 Tb.sl_22 Tb.zi_3 rfl (by decide) (fun bA4 hbA4 => ?_)
          refine TL.nil ?_
          refine TV.next (.inl (by repeat (first | exact List.Sublist.slnil | exact List.nil_sublist _ | exact List.Sublist.refl _ | refine List.Sublist.cons_cons _ ?_ | refine List.Sublist.cons _ ?_ | refine List.Sublist.trans ?_ (List.sublist_append_right _ _)))) ?_
          refine TV.step [3] (by kernel_rfl) (by decide) rfl ⟨⟨_, rfl, ?_⟩, trivial⟩
          refine TL.append0 (m := t.d.length) (news := ival t.d) rfl rfl Tb.sl_22 Tb.zi_3 rfl (by repeat (first | exact Take.head _ | apply Take.tail | apply Take.appR)) (fun w' hN => ints_src Tb.sl_22 rfl (t2.new hN)) (by omega) (by omega) rfl (by decide) (fun h8 hh8 => ?_)
          refine TL.nil ?_
          refine TV.next (.inl (by repeat (first | exact List.Sublist.slnil | exact List.nil_sublist _ | exact List.Sublist.refl _ | refine List.Sublist.cons_cons _ ?_ | refine List.Sublist.cons _ ?_ | refine List.Sublist.trans ?_ (List.sublist_append_right _ _)))) ?_
          refine TV.step [7] (by kernel_rfl) (by decide) rfl ⟨⟨_, rfl, ?_⟩, trivial⟩
          refine TL.append0 (m := t.s.length) (news := ival t.s) rfl rfl Tb.sl_22 Tb.zi_3 rfl (by repeat (first | exact Take.head _ | apply Take.tail | apply Take.appR)) (fun w' hN => ints_src Tb.sl_22 rfl (t1.new hN)) (by omega) (by omega) rfl (by decide) (fun h9 hh9 => ?_)
          refine TL.nil ?_
          refine TV.next (.inl (by repeat (first | exact List.Sublist.slnil | exact List.nil_sublist _ | exact List.Sublist.refl _ | refine List.Sublist.cons_cons _ ?_ | refine List.Sublist.cons _ ?_ | refine List.Sublist.trans ?_ (List.sublist_append_right _ _)))) ?_
          refine TV.virt 8 rfl rfl (by decide) rfl (by kernel_rfl) (SOK.pure (PV.build rfl Tb.zero_25 Tb.pl_25 (fill2 (gval_cells _ _) (gval_cells _ _))) rfl) ?_
          refine TV.step [10] (by kernel_rfl) (by decide) rfl ⟨⟨_, rfl, ?_⟩, trivial⟩
          refine TL.storeAgg (vs := [gval h8 t.d.length, gval h9 t.s.length, .slice none 0 0]) rfl rfl Tb.cells_25 (by repeat (first | exact Upd.head _ | apply Upd.tail | apply Upd.appR)) rfl rfl (two_one _ _ _ _ _ _ _) rfl rfl ?_
          refine TL.nil ?_
          refine TV.next (.inr (by kernel_rfl)) ?_
          refine TV.done (by kernel_rfl) ?_
          refine TQ.thenC ?_
          refine TC.seq ?_
          refine TC.region ?_
          refine TL.pure (PV.fieldAddr rfl Tb.fo_25_2) rfl (by decide) ?_
          refine TL.pure (PV.load rfl Tb.one_23 (by repeat (first | exact List.Mem.head _ | refine List.Mem.tail _ ?_ | refine List.mem_append_right _ ?_)) rfl) rfl (by decide) ?_
          refine TL.call rfl Tb.gofn_49 (fun a w hs => Turned_ok w _ _ (IsG.of (t3.new hs.new)) hT.c (by have := hV.c.len; have := hV.ns; omega) (fun i hi => by rw [hV.c.row i (by have := hV.c.len; omega), hV.c.row 0 (by have := hV.ns; omega)])) rfl (by decide) (fun y9 hy9 => ?_)
          refine TL.pure (PV.fieldAddr rfl Tb.fo_25_2) rfl (by decide) ?_
          refine TL.store rfl rfl Tb.cells_23 (RdG.one hy9).1 (by repeat (first | exact Upd.head _ | apply Upd.tail | apply Upd.appR)) (by first | decide | (simp; done) | (simp; omega) | omega) rfl rfl ?_
          refine TL.nil ?_
          refine TQ.thenC ?_
          refine TC.seq ?_
          refine TC.region ?_
          refine TL.pure (PV.loadBox (cs := [gval h8 t.d.length, gval h9 t.s.length, y9.1]) rfl Tb.agg_25 (by repeat (first | exact List.Mem.head _ | refine List.Mem.tail _ ?_ | refine List.mem_append_right _ ?_)) rfl) rfl (by decide) ?_
          refine TL.storeAgg (vs := [gval h8 t.d.length, gval h9 t.s.length, y9.1]) rfl rfl Tb.cells_25 (by repeat (first | exact Upd.head _ | apply Upd.tail | apply Upd.appR)) rfl rfl (all3 (gval_one _ _) (gval_one _ _) (RdG.one hy9).1) rfl rfl ?_
          refine TL.pure (PV.assign rfl) rfl (by decide) ?_
          refine TL.nil ?_
          refine TQ.thenC ?_
          refine TC.ret ?_
          refine TQ.retR rfl (Res.agg rfl Tb.agg_25 (by repeat (first | exact List.Mem.head _ | refine List.Mem.tail _ ?_ | refine List.mem_append_right _ ?_)) rfl (Res.tmp rfl Res.nil)) ?_
          simp only [tup]
          exact ⟨(.agg #[gval h8 t.d.length, gval h9 t.s.length, y9.1], y9.2 ++ (gbI (h9, t.s) ++ gbI (h8, t.d))), by rw [tur_0 a1], by rw [tur_0 a1]; exact RdT.mk (t := trnT t) (show goI (h8, t.d) by simpa [goI] using hh8) (show goI (h9, t.s) by simpa [goI] using hh9) hy9, by refine List.Sublist.append_left ?_ _; repeat (first | exact List.Sublist.append_left (by repeat (first | exact List.sublist_append_left _ _ | exact List.Sublist.refl _ | refine List.Sublist.cons _ ?_)) _ | refine List.Sublist.cons _ ?_)⟩
      · skip
        refine TL.buildSlice0 Tb.sl_22 Tb.zi_3 rfl (by decide) (fun bA4 hbA4 => ?_)
        refine TL.nil ?_
        refine TV.next (.inl (by repeat (first | exact List.Sublist.slnil | exact List.nil_sublist _ | exact List.Sublist.refl _ | refine List.Sublist.cons_cons _ ?_ | refine List.Sublist.cons _ ?_ | refine List.Sublist.trans ?_ (List.sublist_append_right _ _)))) ?_
        refine TV.step [0] (by kernel_rfl) (by decide) rfl ⟨⟨_, rfl, ?_⟩, trivial⟩
        refine TL.buildSlice0 Tb.sl_22 Tb.zi_3 rfl (by decide) (fun bA0 hbA0 => ?_)
        refine TL.nil ?_
        refine TV.next (.inl (by repeat (first | exact List.Sublist.slnil | exact List.nil_sublist _ | exact List.Sublist.refl _ | refine List.Sublist.cons_cons _ ?_ | refine List.Sublist.cons _ ?_ | refine List.Sublist.trans ?_ (List.sublist_append_right _ _)))) ?_
        refine TV.step [3] (by kernel_rfl) (by decide) rfl ⟨⟨_, rfl, ?_⟩, trivial⟩
        refine TL.append0 (m := t.d.length) (news := ival t.d) rfl rfl Tb.sl_22 Tb.zi_3 rfl (by repeat (first | exact Take.head _ | apply Take.tail | apply Take.appR)) (fun w' hN => ints_src Tb.sl_22 rfl (t2.new hN)) (by omega) (by omega) rfl (by decide) (fun h8 hh8 => ?_)
        refine TL.nil ?_
        refine TV.next (.inl (by repeat (first | exact List.Sublist.slnil | exact List.nil_sublist _ | exact List.Sublist.refl _ | refine List.Sublist.cons_cons _ ?_ | refine List.Sublist.cons _ ?_ | refine List.Sublist.trans ?_ (List.sublist_append_right _ _)))) ?_
        refine TV.step [7] (by kernel_rfl) (by decide) rfl ⟨⟨_, rfl, ?_⟩, trivial⟩
        refine TL.append0 (m := t.s.length) (news := ival t.s) rfl rfl Tb.sl_22 Tb.zi_3 rfl (by repeat (first | exact Take.head _ | apply Take.tail | apply Take.appR)) (fun w' hN => ints_src Tb.sl_22 rfl (t1.new hN)) (by omega) (by omega) rfl (by decide) (fun h9 hh9 => ?_)
        refine TL.nil ?_
        refine TV.next (.inl (by repeat (first | exact List.Sublist.slnil | exact List.nil_sublist _ | exact List.Sublist.refl _ | refine List.Sublist.cons_cons _ ?_ | refine List.Sublist.cons _ ?_ | refine List.Sublist.trans ?_ (List.sublist_append_right _ _)))) ?_
        refine TV.virt 8 rfl rfl (by decide) rfl (by kernel_rfl) (SOK.pure (PV.build rfl Tb.zero_25 Tb.pl_25 (fill2 (gval_cells _ _) (gval_cells _ _))) rfl) ?_
        refine TV.step [10] (by kernel_rfl) (by decide) rfl ⟨⟨_, rfl, ?_⟩, trivial⟩
        refine TL.storeAgg (vs := [gval h8 t.d.length, gval h9 t.s.length, .slice none 0 0]) rfl rfl Tb.cells_25 (by repeat (first | exact Upd.head _ | apply Upd.tail | apply Upd.appR)) rfl rfl (two_one _ _ _ _ _ _ _) rfl rfl ?_
        refine TL.nil ?_
        refine TV.next (.inr (by kernel_rfl)) ?_
        refine TV.done (by kernel_rfl) ?_
        refine TQ.thenC ?_
        refine TC.seq ?_
        refine TC.region ?_
        refine TL.pure (PV.fieldAddr rfl Tb.fo_25_2) rfl (by decide) ?_
        refine TL.pure (PV.load rfl Tb.one_23 (by repeat (first | exact List.Mem.head _ | refine List.Mem.tail _ ?_ | refine List.mem_append_right _ ?_)) rfl) rfl (by decide) ?_
        refine TL.call rfl Tb.gofn_49 (fun a w hs => Turned_ok w _ _ (IsG.of (t3.new hs.new)) hT.c (by have := hV.c.len; have := hV.ns; omega) (fun i hi => by rw [hV.c.row i (by have := hV.c.len; omega), hV.c.row 0 (by have := hV.ns; omega)])) rfl (by decide) (fun y9 hy9 => ?_)
        refine TL.pure (PV.fieldAddr rfl Tb.fo_25_2) rfl (by decide) ?_
        refine TL.store rfl rfl Tb.cells_23 (RdG.one hy9).1 (by repeat (first | exact Upd.head _ | apply Upd.tail | apply Upd.appR)) (by first | decide | (simp; done) | (simp; omega) | omega) rfl rfl ?_
        refine TL.nil ?_
        refine TQ.thenC ?_
        refine TC.seq ?_
        refine TC.region ?_
        refine TL.pure (PV.loadBox (cs := [gval h8 t.d.length, gval h9 t.s.length, y9.1]) rfl Tb.agg_25 (by repeat (first | exact List.Mem.head _ | refine List.Mem.tail _ ?_ | refine List.mem_append_right _ ?_)) rfl) rfl (by decide) ?_
        refine TL.storeAgg (vs := [gval h8 t.d.length, gval h9 t.s.length, y9.1]) rfl rfl Tb.cells_25 (by repeat (first | exact Upd.head _ | apply Upd.tail | apply Upd.appR)) rfl rfl (all3 (gval_one _ _) (gval_one _ _) (RdG.one hy9).1) rfl rfl ?_
        refine TL.pure (PV.assign rfl) rfl (by decide) ?_
        refine TL.nil ?_
        refine TQ.thenC ?_
        refine TC.ret ?_
        refine TQ.retR rfl (Res.agg rfl Tb.agg_25 (by repeat (first | exact List.Mem.head _ | refine List.Mem.tail _ ?_ | refine List.mem_append_right _ ?_)) rfl (Res.tmp rfl Res.nil)) ?_
        simp only [tup]
        exact ⟨(.agg #[gval h8 t.d.length, gval h9 t.s.length, y9.1], y9.2 ++ (gbI (h9, t.s) ++ gbI (h8, t.d))), by rw [tur_0 a1], by rw [tur_0 a1]; exact RdT.mk (t := trnT t) (show goI (h8, t.d) by simpa [goI] using hh8) (show goI (h9, t.s) by simpa [goI] using hh9) hy9, by refine List.Sublist.append_left ?_ _; repeat (first | exact List.Sublist.append_left (by repeat (first | exact List.sublist_append_left _ _ | exact List.Sublist.refl _ | refine List.Sublist.cons _ ?_)) _ | refine List.Sublist.cons _ ?_)⟩

end Go.Proofs.Ytghlkndanpegbaa
