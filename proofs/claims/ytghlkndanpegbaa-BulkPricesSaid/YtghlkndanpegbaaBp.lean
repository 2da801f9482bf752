/- The first laws' contracts. -/
import Derived.Test.YtghlkndanpegbaaBo
set_option linter.unusedVariables false
set_option linter.unusedSimpArgs false
namespace Go.Proofs.Ytghlkndanpegbaa
open Go.Sx Go.RowKit Go.Sand Go.Tp

theorem LsG.len1 {m : List (List Int)} (h : m.length ≤ 9223372036854775807) (k : Nat) : (([m] : List (List (List Int))).getD k []).length ≤ 9223372036854775807 := by
  match k with
  | 0 => exact h
  | k + 1 => simp [List.getD]
theorem len0 (k : Nat) : (([] : List (List (List Int))).getD k []).length ≤ 9223372036854775807 := by simp [List.getD]
theorem cnr_sm {t : Td} (hT : SmT t) : SmG (cnrR t).1 := by
  by_cases h : validI t ≠ 0
  · rw [cnr_1 h]; exact ⟨Nat.zero_le _, fun k => by simp [List.getD]⟩
  · rw [cnr_0 h]; exact (cornT_vp (vt_of h)).g.sm hT.s hT.d
theorem cnr_plan {t : Td} (h : (cnrR t).2 = 0) : planI t (cnrR t).1 = 0 := by
  by_cases h2 : validI t ≠ 0
  · rw [cnr_1 h2] at h; exact absurd h h2
  · rw [cnr_0 h2]; exact (cornT_vp (vt_of h2)).p
theorem sq_corner {t : Td} (h : (sqR t).1 = true) : (cnrR t).2 = 0 ∧ (ibR t (cnrR t).1) = (true, 0) := by
  by_cases h2 : validI t ≠ 0
  · rw [sq_1 h2] at h; cases h
  · have hV := vt_of h2
    have hq : Sq t.s.length t.d.length (getM t.c) := by
      refine Classical.byContradiction fun hn => ?_
      rw [sq_n h2 hn] at h; cases h
    have hc := cornT_vp hV
    have hb := corn_best (fun i hi => (hV.s i hi).1) (fun j hj => (hV.d j hj).1) hV.sum hq
    have e : mnI t = costI t (cornT t) := mn_eq (by
      rw [cost_eq hc]
      have e1 : cst t.s.length t.d.length (getM t.c) (getM (cornT t)) = cst t.s.length t.d.length (getM t.c) (cornX t.s.length t.d.length (fS t) (fD t)) := cst_congr (fun i j hi hj => tab_at _ hi hj) (fun _ _ _ _ => rfl)
      rw [e1]
      exact hb)
    rw [cnr_0 h2]
    refine ⟨rfl, ?_⟩
    unfold ibR
    rw [if_neg (by show ¬ planI t (cornT t) ≠ 0; rw [hc.p]; decide)]
    exact Prod.ext (decide_eq_true e.symm) rfl
theorem wth_least {t : Td} {us vs : List Int} (h : (wthR t us vs).2 = 0) : (lstR t).2 = 0 ∧ (wthR t us vs).1 ≤ (lstR t).1 := by
  by_cases h2 : chkP t us vs ≠ 0
  · unfold wthR at h; rw [if_pos h2] at h; exact absurd h h2
  · have hV := vpr_of h2
    have hv : ¬ validI t ≠ 0 := by rw [hV.toVT.v]; decide
    have e1 : lstR t = (mnI t, 0) := if_neg hv
    have e2 : wthR t us vs = (prodI us t.s + prodI vs t.d, 0) := if_neg h2
    rw [e1, e2]
    refine ⟨rfl, ?_⟩
    have h3 := num_len hV.nu
    have h4 := num_len hV.nv
    have h5 := Mn.ge (mn_is hV.toVT) hV.hon
    rw [← wth_eq (by omega) (by omega)] at h5
    exact h5


set_option maxRecDepth 100000 in
set_option maxHeartbeats 4000000 in
theorem bulkPlans_ok (w0 : World) (vt : Value) (t : Td) (ht : IsT w0 vt t) (hlc : t.c.length ≤ 9223372036854775807) (vg : Value) (m : List (List Int)) (hg : IsG w0 vg m) (hlm : m.length ≤ 9223372036854775807) :
    Calls Try.prog 3 #[vt, vg] w0 (Post (X := Unit) (fun _ => .bool true) (fun _ => True) (fun _ => []) w0) := by
  obtain ⟨p1, c1, p2, c2, p3, c3, rfl, t1, t2, t3⟩ := ht
  obtain ⟨pg, cg, rfl, g1⟩ := hg
  refine calls Try.func3 rfl (n := 53) rfl (by simp) ?_
  refine TC.seq ?_
  refine TC.region ?_
  refine TL.box rfl rfl (by decide) (fun b0 hb0 => ?_)
  refine TL.pure (PV.assign rfl) rfl (by decide) ?_
  refine TL.nil ?_
  refine TQ.thenC ?_
  refine TC.seq ?_
  refine TC.seq ?_
  refine TC.region ?_
  refine TL.pure (PV.loadBox rfl Tb.agg_25 (by repeat (first | exact List.Mem.head _ | refine List.Mem.tail _ ?_ | refine List.mem_append_right _ ?_)) rfl) rfl (by decide) ?_
  refine TL.pure (PV.move rfl) rfl (by decide) ?_
  refine TL.buildSlice (cs := #[.slice pg m.length cg]) rfl Tb.sl_63 Tb.zi_23 (by decide) (fill_o _ _ _) (by decide) rfl (by decide) (fun bs hbs => ?_)
  refine TL.call rfl Tb.gofn_17 (fun a w hs => long_ok w _ t (IsT.mk (t1.new hs.new) (t2.new hs.new) (t3.new hs.new)) hlc (some ⟨bs, 0, none⟩) 1 [m] (LsG.one hs.new (by repeat (first | exact List.Mem.head _ | refine List.Mem.tail _ ?_ | refine List.mem_append_right _ ?_)) (g1.new hs.new)) (LsG.len1 hlm) (by show 1 ≤ 1000; decide)) rfl (by decide) (fun _ _ => ?_)
  refine TL.nil ?_
  refine TQ.thenC ?_
  first | refine TC.condD rfl (fun hlg => ?_) (fun hlg => ?_) | refine TC.cond rfl (fun hlg => ?_) (fun hlg => ?_)
  · skip
    refine TC.seq ?_
    refine TC.region ?_
    refine TL.call rfl Tb.gofn_18 (fun a w hs => sane_ok w) rfl (by decide) (fun _ _ => ?_)
    refine TL.pure (PV.assign rfl) rfl (by decide) ?_
    refine TL.nil ?_
    refine TQ.thenC ?_
    refine TC.ret ?_
    refine TQ.thenR ?_
    refine TQ.retE1 rfl rfl ?_
    first | exact ⟨(), rfl, trivial, List.nil_sublist _⟩ | (exfalso; simp_all; done)
  · skip
    refine TC.skip ?_
    refine TQ.thenC ?_
    refine TC.seq ?_
    have hT := (lgT_0 hlg).1
    have hM := (lgT_0 hlg).2 m (by simp)
    refine TC.region ?_
    refine TL.pure (PV.loadBox rfl Tb.agg_25 (by repeat (first | exact List.Mem.head _ | refine List.Mem.tail _ ?_ | refine List.mem_append_right _ ?_)) rfl) rfl (by decide) ?_
    refine TL.pure (PV.move rfl) rfl (by decide) ?_
    refine TL.call rfl Tb.gofn_19 (fun a w hs => Cost_ok w _ t (IsT.mk (t1.new hs.new) (t2.new hs.new) (t3.new hs.new)) hT _ m (IsG.of (g1.new hs.new)) hM) rfl (by decide) (fun _ _ => ?_)
    refine TL.pure (PV.move rfl) rfl (by decide) ?_
    refine TL.pure (PV.extract rfl rfl) rfl (by decide) ?_
    refine TL.pure (PV.extract rfl rfl) rfl (by decide) ?_
    refine TL.pure (PV.assign rfl) rfl (by decide) ?_
    refine TL.pure (PV.assign rfl) rfl (by decide) ?_
    refine TL.nil ?_
    refine TQ.thenC ?_
    refine TC.seq ?_
    refine TC.region ?_
    refine TL.pure (PV.loadBox rfl Tb.agg_25 (by repeat (first | exact List.Mem.head _ | refine List.Mem.tail _ ?_ | refine List.mem_append_right _ ?_)) rfl) rfl (by decide) ?_
    refine TL.pure (PV.move rfl) rfl (by decide) ?_
    refine TL.call rfl Tb.gofn_20 (fun a w hs => rCost_ok w _ t (IsT.mk (t1.new hs.new) (t2.new hs.new) (t3.new hs.new)) hT _ m (IsG.of (g1.new hs.new)) hM) rfl (by decide) (fun _ _ => ?_)
    refine TL.pure (PV.move rfl) rfl (by decide) ?_
    refine TL.pure (PV.extract rfl rfl) rfl (by decide) ?_
    refine TL.pure (PV.extract rfl rfl) rfl (by decide) ?_
    refine TL.pure (PV.assign rfl) rfl (by decide) ?_
    refine TL.pure (PV.assign rfl) rfl (by decide) ?_
    refine TL.nil ?_
    refine TQ.thenC ?_
    refine TC.seq ?_
    refine TC.any Tb.mixed rfl rfl ?_
    refine TA.op (OpOK.pure (PV.loadBox rfl Tb.agg_25 (by repeat (first | exact List.Mem.head _ | refine List.Mem.tail _ ?_ | refine List.mem_append_right _ ?_)) rfl) rfl (by decide)) (by decide) ?_
    refine TA.op (OpOK.call rfl Tb.gofn_21 (fun a w hs => validate_ok w _ t (IsT.mk (t1.new hs.new) (t2.new hs.new) (t3.new hs.new)) hT) rfl (by decide)) (by decide) ?_
    refine TA.op (OpOK.pure (PV.loadBox rfl Tb.agg_25 (by repeat (first | exact List.Mem.head _ | refine List.Mem.tail _ ?_ | refine List.mem_append_right _ ?_)) rfl) rfl (by decide)) (by decide) ?_
    refine TA.op (OpOK.call rfl Tb.gofn_22 (fun a w hs => rvalidate_ok w _ t (IsT.mk (t1.new hs.new) (t2.new hs.new) (t3.new hs.new)) hT) rfl (by decide)) (by decide) ?_
    refine TA.op (OpOK.pure (PV.eql rfl rfl) rfl (by decide)) (by decide) ?_
    refine TA.op (OpOK.pure (PV.move rfl) rfl (by decide)) (by decide) ?_
    first | refine TA.splitD 31 rfl (fun g0 => ?_) (fun g0 => ?_) | refine TA.split 31 rfl (fun g0 => ?_) (fun g0 => ?_)
    · skip
      refine TA.op (OpOK.pure (PV.loadBox rfl Tb.agg_25 (by repeat (first | exact List.Mem.head _ | refine List.Mem.tail _ ?_ | refine List.mem_append_right _ ?_)) rfl) rfl (by decide)) (by decide) ?_
      refine TA.op (OpOK.pure (PV.move rfl) rfl (by decide)) (by decide) ?_
      refine TA.op (OpOK.call rfl Tb.gofn_23 (fun a w hs => checkPlan_ok w _ t (IsT.mk (t1.new hs.new) (t2.new hs.new) (t3.new hs.new)) hT _ m (IsG.of (g1.new hs.new)) hM) rfl (by decide)) (by decide) ?_
      refine TA.op (OpOK.pure (PV.loadBox rfl Tb.agg_25 (by repeat (first | exact List.Mem.head _ | refine List.Mem.tail _ ?_ | refine List.mem_append_right _ ?_)) rfl) rfl (by decide)) (by decide) ?_
      refine TA.op (OpOK.pure (PV.move rfl) rfl (by decide)) (by decide) ?_
      refine TA.op (OpOK.call rfl Tb.gofn_24 (fun a w hs => rcheckPlan_ok w _ t (IsT.mk (t1.new hs.new) (t2.new hs.new) (t3.new hs.new)) hT _ m (IsG.of (g1.new hs.new)) hM) rfl (by decide)) (by decide) ?_
      refine TA.op (OpOK.pure (PV.eql rfl rfl) rfl (by decide)) (by decide) ?_
      refine TA.op (OpOK.pure (PV.pickT rfl rfl) rfl (by decide)) (by decide) ?_
      refine TA.op (OpOK.pure (PV.move rfl) rfl (by decide)) (by decide) ?_
      first | refine TA.splitD 40 rfl (fun g1 => ?_) (fun g1 => ?_) | refine TA.split 40 rfl (fun g1 => ?_) (fun g1 => ?_)
      · skip
        refine TA.op (OpOK.pure (PV.move rfl) rfl (by decide)) (by decide) ?_
        refine TA.op (OpOK.pure (PV.move rfl) rfl (by decide)) (by decide) ?_
        refine TA.op (OpOK.pure (PV.eql rfl rfl) rfl (by decide)) (by decide) ?_
        refine TA.op (OpOK.pure (PV.pickT rfl rfl) rfl (by decide)) (by decide) ?_
        refine TA.op (OpOK.pure (PV.move rfl) rfl (by decide)) (by decide) ?_
        first | refine TA.splitD 45 rfl (fun g2 => ?_) (fun g2 => ?_) | refine TA.split 45 rfl (fun g2 => ?_) (fun g2 => ?_)
        · skip
          refine TA.op (OpOK.pure (PV.move rfl) rfl (by decide)) (by decide) ?_
          refine TA.op (OpOK.pure (PV.move rfl) rfl (by decide)) (by decide) ?_
          refine TA.op (OpOK.pure (PV.eql rfl rfl) rfl (by decide)) (by decide) ?_
          refine TA.op (OpOK.pure (PV.pickT rfl rfl) rfl (by decide)) (by decide) ?_
          refine TA.op (OpOK.pure (PV.move rfl) rfl (by decide)) (by decide) ?_
          first | refine TA.splitD 50 rfl (fun h4 => ?_) (fun h4 => ?_) | refine TA.split 50 rfl (fun h4 => ?_) (fun h4 => ?_)
          · skip
            refine TA.op (OpOK.call rfl Tb.gofn_18 (fun a w hs => sane_ok w) rfl (by decide)) (by decide) ?_
            refine TA.op (OpOK.pure (PV.pickT rfl rfl) rfl (by decide)) (by decide) ?_
            refine TA.op (OpOK.pure (PV.assign rfl) rfl (by decide)) (by decide) ?_
            show TQ _ _ _ _ _
            refine TQ.thenC ?_
            refine TC.ret ?_
            refine TQ.retE1 rfl rfl ?_
            first | exact ⟨(), rfl, trivial, List.nil_sublist _⟩ | (exfalso; simp_all; done)
          · skip
            refine TA.op (OpOK.skip rfl) (by decide) ?_
            refine TA.op (OpOK.pure (PV.pickF rfl rfl) rfl (by decide)) (by decide) ?_
            refine TA.op (OpOK.pure (PV.assign rfl) rfl (by decide)) (by decide) ?_
            show TQ _ _ _ _ _
            refine TQ.thenC ?_
            refine TC.ret ?_
            refine TQ.retE1 rfl rfl ?_
            first | exact ⟨(), rfl, trivial, List.nil_sublist _⟩ | (exfalso; simp_all; done)
        · skip
          exact (g2 rfl).elim
      · skip
        exact (g1 rfl).elim
    · skip
      exact (g0 rfl).elim

set_option maxRecDepth 100000 in
set_option maxHeartbeats 4000000 in
theorem bulkCorners_ok (w0 : World) (vt : Value) (t : Td) (ht : IsT w0 vt t) (hlc : t.c.length ≤ 9223372036854775807) :
    Calls Try.prog 4 #[vt] w0 (Post (X := Unit) (fun _ => .bool true) (fun _ => True) (fun _ => []) w0) := by
  obtain ⟨p1, c1, p2, c2, p3, c3, rfl, t1, t2, t3⟩ := ht
  refine calls Try.func4 rfl (n := 41) rfl (by simp) ?_
  refine TC.seq ?_
  refine TC.region ?_
  refine TL.box rfl rfl (by decide) (fun b0 hb0 => ?_)
  refine TL.pure (PV.assign rfl) rfl (by decide) ?_
  refine TL.nil ?_
  refine TQ.thenC ?_
  refine TC.seq ?_
  refine TC.seq ?_
  refine TC.region ?_
  refine TL.pure (PV.loadBox rfl Tb.agg_25 (by repeat (first | exact List.Mem.head _ | refine List.Mem.tail _ ?_ | refine List.mem_append_right _ ?_)) rfl) rfl (by decide) ?_
  refine TL.call rfl Tb.gofn_17 (fun a w hs => long_ok w _ t (IsT.mk (t1.new hs.new) (t2.new hs.new) (t3.new hs.new)) hlc none 0 [] (LsG.nil w) len0 (by decide)) rfl (by decide) (fun _ _ => ?_)
  refine TL.nil ?_
  refine TQ.thenC ?_
  first | refine TC.condD rfl (fun hlg => ?_) (fun hlg => ?_) | refine TC.cond rfl (fun hlg => ?_) (fun hlg => ?_)
  · skip
    refine TC.seq ?_
    refine TC.region ?_
    refine TL.call rfl Tb.gofn_18 (fun a w hs => sane_ok w) rfl (by decide) (fun _ _ => ?_)
    refine TL.pure (PV.assign rfl) rfl (by decide) ?_
    refine TL.nil ?_
    refine TQ.thenC ?_
    refine TC.ret ?_
    refine TQ.thenR ?_
    refine TQ.retE1 rfl rfl ?_
    first | exact ⟨(), rfl, trivial, List.nil_sublist _⟩ | (exfalso; have h9 := cnr_plan (t := t); simp_all; done)
  · skip
    refine TC.skip ?_
    refine TQ.thenC ?_
    refine TC.seq ?_
    have hT := (lgT_0 hlg).1
    refine TC.region ?_
    refine TL.pure (PV.loadBox rfl Tb.agg_25 (by repeat (first | exact List.Mem.head _ | refine List.Mem.tail _ ?_ | refine List.mem_append_right _ ?_)) rfl) rfl (by decide) ?_
    refine TL.call rfl Tb.gofn_25 (fun a w hs => Corner_ok w _ t (IsT.mk (t1.new hs.new) (t2.new hs.new) (t3.new hs.new)) hT) rfl (by decide) (fun y8 hy8 => ?_)
    refine TL.pure (PV.move rfl) rfl (by decide) ?_
    refine TL.pure (PV.extract rfl rfl) rfl (by decide) ?_
    refine TL.pure (PV.extract rfl rfl) rfl (by decide) ?_
    refine TL.pure (PV.assign rfl) rfl (by decide) ?_
    refine TL.pure (PV.assign rfl) rfl (by decide) ?_
    refine TL.nil ?_
    refine TQ.thenC ?_
    refine TC.seq ?_
    refine TC.region ?_
    refine TL.pure (PV.loadBox rfl Tb.agg_25 (by repeat (first | exact List.Mem.head _ | refine List.Mem.tail _ ?_ | refine List.mem_append_right _ ?_)) rfl) rfl (by decide) ?_
    refine TL.call rfl Tb.gofn_26 (fun a w hs => rCorner_ok w _ t (IsT.mk (t1.new hs.new) (t2.new hs.new) (t3.new hs.new)) hT) rfl (by decide) (fun y9 hy9 => ?_)
    refine TL.pure (PV.move rfl) rfl (by decide) ?_
    refine TL.pure (PV.extract rfl rfl) rfl (by decide) ?_
    refine TL.pure (PV.extract rfl rfl) rfl (by decide) ?_
    refine TL.pure (PV.assign rfl) rfl (by decide) ?_
    refine TL.pure (PV.assign rfl) rfl (by decide) ?_
    refine TL.nil ?_
    refine TQ.thenC ?_
    refine TC.seq ?_
    refine TC.region ?_
    refine TL.pure (PV.move rfl) rfl (by decide) ?_
    refine TL.pure (PV.move rfl) rfl (by decide) ?_
    refine TL.call rfl Tb.gofn_27 (fun a w hs => sameTables_ok w _ _ (hy8.at hs.new (fun yy hyy => by repeat (first | exact List.mem_append_left _ hyy | exact List.mem_append_left _ (List.mem_append_right _ hyy) | exact List.mem_append_left _ (List.mem_append_left _ hyy) | refine List.mem_append_right _ ?_ | refine List.Mem.tail _ ?_))) (cnr_sm hT) _ _ (hy9.at hs.new (fun yy hyy => by repeat (first | exact List.mem_append_left _ hyy | exact List.mem_append_left _ (List.mem_append_right _ hyy) | exact List.mem_append_left _ (List.mem_append_left _ hyy) | refine List.mem_append_right _ ?_ | refine List.Mem.tail _ ?_))) (cnr_sm hT)) rfl (by decide) (fun _ _ => ?_)
    refine TL.pure (PV.move rfl) rfl (by decide) ?_
    first | refine TL.splitD 23 rfl (fun g0 => ?_) (fun g0 => ?_) | refine TL.split 23 rfl (fun g0 => ?_) (fun g0 => ?_)
    · skip
      refine TL.pure (PV.move rfl) rfl (by decide) ?_
      refine TL.pure (PV.move rfl) rfl (by decide) ?_
      refine TL.pure (PV.eql rfl rfl) rfl (by decide) ?_
      refine TL.pure (PV.pickT rfl rfl) rfl (by decide) ?_
      refine TL.pure (PV.move rfl) rfl (by decide) ?_
      first | refine TL.splitD 28 rfl (fun g1 => ?_) (fun g1 => ?_) | refine TL.split 28 rfl (fun g1 => ?_) (fun g1 => ?_)
      · skip
        refine TL.pure (PV.move rfl) rfl (by decide) ?_
        refine TL.pure (PV.neq rfl rfl) rfl (by decide) ?_
        refine TL.pure (PV.move rfl) rfl (by decide) ?_
        first | refine TL.splitD 31 rfl (fun g2 => ?_) (fun g2 => ?_) | refine TL.split 31 rfl (fun g2 => ?_) (fun g2 => ?_)
        · skip
          refine TL.skip rfl (fun k hk => by cases hk; decide) ?_
          refine TL.skip rfl (fun k hk => by cases hk; decide) ?_
          refine TL.skip rfl (fun k hk => by cases hk; decide) ?_
          refine TL.skip rfl (fun k hk => by cases hk; decide) ?_
          refine TL.pure (PV.pickT rfl rfl) rfl (by decide) ?_
          refine TL.pure (PV.pickT rfl rfl) rfl (by decide) ?_
          refine TL.pure (PV.move rfl) rfl (by decide) ?_
          refine TL.call rfl Tb.gofn_18 (fun a w hs => sane_ok w) rfl (by decide) (fun _ _ => ?_)
          refine TL.pure (PV.pickT rfl rfl) rfl (by decide) ?_
          refine TL.pure (PV.assign rfl) rfl (by decide) ?_
          refine TL.nil ?_
          refine TQ.thenC ?_
          refine TC.ret ?_
          refine TQ.retE1 rfl rfl ?_
          first | exact ⟨(), rfl, trivial, List.nil_sublist _⟩ | (exfalso; have h9 := cnr_plan (t := t); simp_all; done)
        · skip
          refine TL.pure (PV.loadBox rfl Tb.agg_25 (by repeat (first | exact List.Mem.head _ | refine List.Mem.tail _ ?_ | refine List.mem_append_right _ ?_)) rfl) rfl (by decide) ?_
          refine TL.pure (PV.move rfl) rfl (by decide) ?_
          refine TL.call rfl Tb.gofn_23 (fun a w hs => checkPlan_ok w _ t (IsT.mk (t1.new hs.new) (t2.new hs.new) (t3.new hs.new)) hT _ _ (hy8.at hs.new (fun yy hyy => by repeat (first | exact List.mem_append_left _ hyy | exact List.mem_append_left _ (List.mem_append_right _ hyy) | exact List.mem_append_left _ (List.mem_append_left _ hyy) | refine List.mem_append_right _ ?_ | refine List.Mem.tail _ ?_))) (cnr_sm hT)) rfl (by decide) (fun _ _ => ?_)
          refine TL.pure (PV.eql rfl rfl) rfl (by decide) ?_
          refine TL.pure (PV.pickF rfl rfl) rfl (by decide) ?_
          refine TL.pure (PV.pickT rfl rfl) rfl (by decide) ?_
          refine TL.pure (PV.move rfl) rfl (by decide) ?_
          first | refine TL.splitD 38 rfl (fun g3 => ?_) (fun g3 => ?_) | refine TL.split 38 rfl (fun g3 => ?_) (fun g3 => ?_)
          · skip
            refine TL.call rfl Tb.gofn_18 (fun a w hs => sane_ok w) rfl (by decide) (fun _ _ => ?_)
            refine TL.pure (PV.pickT rfl rfl) rfl (by decide) ?_
            refine TL.pure (PV.assign rfl) rfl (by decide) ?_
            refine TL.nil ?_
            refine TQ.thenC ?_
            refine TC.ret ?_
            refine TQ.retE1 rfl rfl ?_
            first | exact ⟨(), rfl, trivial, List.nil_sublist _⟩ | (exfalso; have h9 := cnr_plan (t := t); simp_all; done)
          · skip
            refine TL.skip rfl (fun k hk => by cases hk; decide) ?_
            refine TL.pure (PV.pickF rfl rfl) rfl (by decide) ?_
            refine TL.pure (PV.assign rfl) rfl (by decide) ?_
            refine TL.nil ?_
            refine TQ.thenC ?_
            refine TC.ret ?_
            refine TQ.retE1 rfl rfl ?_
            first | exact ⟨(), rfl, trivial, List.nil_sublist _⟩ | (exfalso; have h9 := cnr_plan (t := t); simp_all; done)
      · skip
        exact (g1 rfl).elim
    · skip
      exact (g0 rfl).elim

set_option maxRecDepth 100000 in
set_option maxHeartbeats 4000000 in
theorem bulkSquares_ok (w0 : World) (vt : Value) (t : Td) (ht : IsT w0 vt t) (hlc : t.c.length ≤ 9223372036854775807) :
    Calls Try.prog 7 #[vt] w0 (Post (X := Unit) (fun _ => .bool true) (fun _ => True) (fun _ => []) w0) := by
  obtain ⟨p1, c1, p2, c2, p3, c3, rfl, t1, t2, t3⟩ := ht
  refine calls Try.func7 rfl (n := 58) rfl (by simp) ?_
  refine TC.seq ?_
  refine TC.region ?_
  refine TL.box rfl rfl (by decide) (fun b0 hb0 => ?_)
  refine TL.pure (PV.assign rfl) rfl (by decide) ?_
  refine TL.nil ?_
  refine TQ.thenC ?_
  refine TC.seq ?_
  refine TC.seq ?_
  refine TC.region ?_
  refine TL.pure (PV.loadBox rfl Tb.agg_25 (by repeat (first | exact List.Mem.head _ | refine List.Mem.tail _ ?_ | refine List.mem_append_right _ ?_)) rfl) rfl (by decide) ?_
  refine TL.call rfl Tb.gofn_17 (fun a w hs => long_ok w _ t (IsT.mk (t1.new hs.new) (t2.new hs.new) (t3.new hs.new)) hlc none 0 [] (LsG.nil w) len0 (by decide)) rfl (by decide) (fun _ _ => ?_)
  refine TL.nil ?_
  refine TQ.thenC ?_
  first | refine TC.condD rfl (fun hlg => ?_) (fun hlg => ?_) | refine TC.cond rfl (fun hlg => ?_) (fun hlg => ?_)
  · skip
    refine TC.seq ?_
    refine TC.region ?_
    refine TL.call rfl Tb.gofn_18 (fun a w hs => sane_ok w) rfl (by decide) (fun _ _ => ?_)
    refine TL.pure (PV.assign rfl) rfl (by decide) ?_
    refine TL.nil ?_
    refine TQ.thenC ?_
    refine TC.ret ?_
    refine TQ.thenR ?_
    refine TQ.retE1 rfl rfl ?_
    first | exact ⟨(), rfl, trivial, List.nil_sublist _⟩ | (exfalso; simp_all; done)
  · skip
    refine TC.skip ?_
    refine TQ.thenC ?_
    refine TC.seq ?_
    have hT := (lgT_0 hlg).1
    refine TC.region ?_
    refine TL.pure (PV.loadBox rfl Tb.agg_25 (by repeat (first | exact List.Mem.head _ | refine List.Mem.tail _ ?_ | refine List.mem_append_right _ ?_)) rfl) rfl (by decide) ?_
    refine TL.call rfl Tb.gofn_33 (fun a w hs => IsSquare_ok w _ t (IsT.mk (t1.new hs.new) (t2.new hs.new) (t3.new hs.new)) hT) rfl (by decide) (fun _ _ => ?_)
    refine TL.pure (PV.move rfl) rfl (by decide) ?_
    refine TL.pure (PV.extract rfl rfl) rfl (by decide) ?_
    refine TL.pure (PV.extract rfl rfl) rfl (by decide) ?_
    refine TL.pure (PV.assign rfl) rfl (by decide) ?_
    refine TL.pure (PV.assign rfl) rfl (by decide) ?_
    refine TL.nil ?_
    refine TQ.thenC ?_
    refine TC.seq ?_
    refine TC.region ?_
    refine TL.pure (PV.loadBox rfl Tb.agg_25 (by repeat (first | exact List.Mem.head _ | refine List.Mem.tail _ ?_ | refine List.mem_append_right _ ?_)) rfl) rfl (by decide) ?_
    refine TL.call rfl Tb.gofn_34 (fun a w hs => rIsSquare_ok w _ t (IsT.mk (t1.new hs.new) (t2.new hs.new) (t3.new hs.new)) hT) rfl (by decide) (fun _ _ => ?_)
    refine TL.pure (PV.move rfl) rfl (by decide) ?_
    refine TL.pure (PV.extract rfl rfl) rfl (by decide) ?_
    refine TL.pure (PV.extract rfl rfl) rfl (by decide) ?_
    refine TL.pure (PV.assign rfl) rfl (by decide) ?_
    refine TL.pure (PV.assign rfl) rfl (by decide) ?_
    refine TL.nil ?_
    refine TQ.thenC ?_
    refine TC.seq ?_
    refine TC.seq ?_
    refine TC.region ?_
    refine TL.pure (PV.move rfl) rfl (by decide) ?_
    refine TL.pure (PV.move rfl) rfl (by decide) ?_
    refine TL.pure (PV.neqB rfl rfl Tb.bool_4) rfl (by decide) ?_
    refine TL.pure (PV.move rfl) rfl (by decide) ?_
    first | refine TL.splitD 27 rfl (fun g0 => ?_) (fun g0 => ?_) | refine TL.split 27 rfl (fun g0 => ?_) (fun g0 => ?_)
    · skip
      refine TL.skip rfl (fun k hk => by cases hk; decide) ?_
      refine TL.skip rfl (fun k hk => by cases hk; decide) ?_
      refine TL.skip rfl (fun k hk => by cases hk; decide) ?_
      refine TL.pure (PV.pickT rfl rfl) rfl (by decide) ?_
      refine TL.nil ?_
      refine TQ.thenC ?_
      refine TC.condT rfl ?_
      refine TC.seq ?_
      refine TC.region ?_
      refine TL.pure (PV.assign rfl) rfl (by decide) ?_
      refine TL.nil ?_
      refine TQ.thenC ?_
      refine TC.ret ?_
      refine TQ.thenR ?_
      refine TQ.retE1 rfl rfl ?_
      first | exact ⟨(), rfl, trivial, List.nil_sublist _⟩ | (exfalso; simp_all; done)
    · skip
      refine TL.pure (PV.move rfl) rfl (by decide) ?_
      refine TL.pure (PV.move rfl) rfl (by decide) ?_
      refine TL.pure (PV.neq rfl rfl) rfl (by decide) ?_
      refine TL.pure (PV.pickF rfl rfl) rfl (by decide) ?_
      refine TL.nil ?_
      refine TQ.thenC ?_
      first | refine TC.condD rfl (fun g1 => ?_) (fun g1 => ?_) | refine TC.cond rfl (fun g1 => ?_) (fun g1 => ?_)
      · skip
        refine TC.seq ?_
        refine TC.region ?_
        refine TL.pure (PV.assign rfl) rfl (by decide) ?_
        refine TL.nil ?_
        refine TQ.thenC ?_
        refine TC.ret ?_
        refine TQ.thenR ?_
        refine TQ.retE1 rfl rfl ?_
        first | exact ⟨(), rfl, trivial, List.nil_sublist _⟩ | (exfalso; simp_all; done)
      · skip
        refine TC.skip ?_
        refine TQ.thenC ?_
        refine TC.seq ?_
        refine TC.seq ?_
        refine TC.region ?_
        refine TL.pure (PV.move rfl) rfl (by decide) ?_
        refine TL.pure ((by first | exact PV.notD rfl | exact PV.not rfl)) rfl (by decide) ?_
        refine TL.nil ?_
        refine TQ.thenC ?_
        first | refine TC.condD rfl (fun g2 => ?_) (fun g2 => ?_) | refine TC.cond rfl (fun g2 => ?_) (fun g2 => ?_)
        · skip
          refine TC.seq ?_
          refine TC.region ?_
          refine TL.call rfl Tb.gofn_18 (fun a w hs => sane_ok w) rfl (by decide) (fun _ _ => ?_)
          refine TL.pure (PV.assign rfl) rfl (by decide) ?_
          refine TL.nil ?_
          refine TQ.thenC ?_
          refine TC.ret ?_
          refine TQ.thenR ?_
          refine TQ.retE1 rfl rfl ?_
          first | exact ⟨(), rfl, trivial, List.nil_sublist _⟩ | (exfalso; simp_all; done)
        · skip
          refine TC.skip ?_
          refine TQ.thenC ?_
          refine TC.seq ?_
          have hsq : (sqR t).1 = true := by simpa using g2
          obtain ⟨hq1, hq2⟩ := sq_corner hsq
          refine TC.region ?_
          refine TL.pure (PV.loadBox rfl Tb.agg_25 (by repeat (first | exact List.Mem.head _ | refine List.Mem.tail _ ?_ | refine List.mem_append_right _ ?_)) rfl) rfl (by decide) ?_
          refine TL.call rfl Tb.gofn_25 (fun a w hs => Corner_ok w _ t (IsT.mk (t1.new hs.new) (t2.new hs.new) (t3.new hs.new)) hT) rfl (by decide) (fun y8 hy8 => ?_)
          refine TL.pure (PV.move rfl) rfl (by decide) ?_
          refine TL.pure (PV.extract rfl rfl) rfl (by decide) ?_
          refine TL.pure (PV.extract rfl rfl) rfl (by decide) ?_
          refine TL.pure (PV.assign rfl) rfl (by decide) ?_
          refine TL.pure (PV.assign rfl) rfl (by decide) ?_
          refine TL.nil ?_
          refine TQ.thenC ?_
          refine TC.seq ?_
          refine TC.region ?_
          refine TL.pure (PV.loadBox rfl Tb.agg_25 (by repeat (first | exact List.Mem.head _ | refine List.Mem.tail _ ?_ | refine List.mem_append_right _ ?_)) rfl) rfl (by decide) ?_
          refine TL.pure (PV.move rfl) rfl (by decide) ?_
          refine TL.call rfl Tb.gofn_31 (fun a w hs => IsBest_ok w _ t (IsT.mk (t1.new hs.new) (t2.new hs.new) (t3.new hs.new)) hT _ _ (hy8.at hs.new (fun yy hyy => by repeat (first | exact List.mem_append_left _ hyy | exact List.mem_append_left _ (List.mem_append_right _ hyy) | exact List.mem_append_left _ (List.mem_append_left _ hyy) | refine List.mem_append_right _ ?_ | refine List.Mem.tail _ ?_))) (cnr_sm hT)) rfl (by decide) (fun _ _ => ?_)
          refine TL.pure (PV.move rfl) rfl (by decide) ?_
          refine TL.pure (PV.extract rfl rfl) rfl (by decide) ?_
          refine TL.pure (PV.extract rfl rfl) rfl (by decide) ?_
          refine TL.pure (PV.assign rfl) rfl (by decide) ?_
          refine TL.pure (PV.assign rfl) rfl (by decide) ?_
          refine TL.nil ?_
          refine TQ.thenC ?_
          refine TC.seq ?_
          refine TC.region ?_
          refine TL.pure (PV.move rfl) rfl (by decide) ?_
          refine TL.pure (PV.eql rfl rfl) rfl (by decide) ?_
          refine TL.pure (PV.move rfl) rfl (by decide) ?_
          first | refine TL.splitD 48 rfl (fun g3 => ?_) (fun g3 => ?_) | refine TL.split 48 rfl (fun g3 => ?_) (fun g3 => ?_)
          · skip
            refine TL.pure (PV.move rfl) rfl (by decide) ?_
            refine TL.pure (PV.eql rfl rfl) rfl (by decide) ?_
            refine TL.pure (PV.pickT rfl rfl) rfl (by decide) ?_
            refine TL.pure (PV.move rfl) rfl (by decide) ?_
            first | refine TL.splitD 52 rfl (fun g4 => ?_) (fun g4 => ?_) | refine TL.split 52 rfl (fun g4 => ?_) (fun g4 => ?_)
            · skip
              refine TL.pure (PV.move rfl) rfl (by decide) ?_
              refine TL.pure (PV.pickT rfl rfl) rfl (by decide) ?_
              refine TL.pure (PV.move rfl) rfl (by decide) ?_
              first | refine TL.splitD 55 rfl (fun g5 => ?_) (fun g5 => ?_) | refine TL.split 55 rfl (fun g5 => ?_) (fun g5 => ?_)
              · skip
                refine TL.call rfl Tb.gofn_18 (fun a w hs => sane_ok w) rfl (by decide) (fun _ _ => ?_)
                refine TL.pure (PV.pickT rfl rfl) rfl (by decide) ?_
                refine TL.pure (PV.assign rfl) rfl (by decide) ?_
                refine TL.nil ?_
                refine TQ.thenC ?_
                refine TC.ret ?_
                refine TQ.retE1 rfl rfl ?_
                first | exact ⟨(), rfl, trivial, List.nil_sublist _⟩ | (exfalso; simp_all; done)
              · skip
                refine TL.skip rfl (fun k hk => by cases hk; decide) ?_
                refine TL.pure (PV.pickF rfl rfl) rfl (by decide) ?_
                refine TL.pure (PV.assign rfl) rfl (by decide) ?_
                refine TL.nil ?_
                refine TQ.thenC ?_
                refine TC.ret ?_
                refine TQ.retE1 rfl rfl ?_
                first | exact ⟨(), rfl, trivial, List.nil_sublist _⟩ | (exfalso; simp_all; done)
            · skip
              refine TL.skip rfl (fun k hk => by cases hk; decide) ?_
              refine TL.pure (PV.pickF rfl rfl) rfl (by decide) ?_
              refine TL.pure (PV.move rfl) rfl (by decide) ?_
              refine TL.skip rfl (fun k hk => by cases hk; decide) ?_
              refine TL.pure (PV.pickF rfl rfl) rfl (by decide) ?_
              refine TL.pure (PV.assign rfl) rfl (by decide) ?_
              refine TL.nil ?_
              refine TQ.thenC ?_
              refine TC.ret ?_
              refine TQ.retE1 rfl rfl ?_
              first | exact ⟨(), rfl, trivial, List.nil_sublist _⟩ | (exfalso; simp_all; done)
          · skip
            refine TL.skip rfl (fun k hk => by cases hk; decide) ?_
            refine TL.skip rfl (fun k hk => by cases hk; decide) ?_
            refine TL.pure (PV.pickF rfl rfl) rfl (by decide) ?_
            refine TL.pure (PV.move rfl) rfl (by decide) ?_
            refine TL.skip rfl (fun k hk => by cases hk; decide) ?_
            refine TL.pure (PV.pickF rfl rfl) rfl (by decide) ?_
            refine TL.pure (PV.move rfl) rfl (by decide) ?_
            refine TL.skip rfl (fun k hk => by cases hk; decide) ?_
            refine TL.pure (PV.pickF rfl rfl) rfl (by decide) ?_
            refine TL.pure (PV.assign rfl) rfl (by decide) ?_
            refine TL.nil ?_
            refine TQ.thenC ?_
            refine TC.ret ?_
            refine TQ.retE1 rfl rfl ?_
            first | exact ⟨(), rfl, trivial, List.nil_sublist _⟩ | (exfalso; simp_all; done)

set_option maxRecDepth 100000 in
set_option maxHeartbeats 4000000 in
theorem bulkPrices_ok (w0 : World) (vt : Value) (t : Td) (ht : IsT w0 vt t) (hlc : t.c.length ≤ 9223372036854775807) (vp : Value) (us vs : List Int) (hp : IsP w0 vp us vs) :
    Calls Try.prog 8 #[vt, vp] w0 (Post (X := Unit) (fun _ => .bool true) (fun _ => True) (fun _ => []) w0) := by
  obtain ⟨p1, c1, p2, c2, p3, c3, rfl, t1, t2, t3⟩ := ht
  obtain ⟨pu, cu, pv, cv, rfl, hpu, hpv⟩ := hp
  refine calls Try.func8 rfl (n := 76) rfl (by simp) ?_
  refine TC.seq ?_
  refine TC.region ?_
  refine TL.box rfl rfl (by decide) (fun b0 hb0 => ?_)
  refine TL.box rfl rfl (by decide) (fun b1 hb1 => ?_)
  refine TL.pure (PV.assign rfl) rfl (by decide) ?_
  refine TL.nil ?_
  refine TQ.thenC ?_
  refine TC.seq ?_
  refine TC.seq ?_
  refine TC.region ?_
  refine TL.pure (PV.loadBox rfl Tb.agg_25 (by repeat (first | exact List.Mem.head _ | refine List.Mem.tail _ ?_ | refine List.mem_append_right _ ?_)) rfl) rfl (by decide) ?_
  refine TL.call rfl Tb.gofn_17 (fun a w hs => long_ok w _ t (IsT.mk (t1.new hs.new) (t2.new hs.new) (t3.new hs.new)) hlc none 0 [] (LsG.nil w) len0 (by decide)) rfl (by decide) (fun _ _ => ?_)
  refine TL.pure (PV.move rfl) rfl (by decide) ?_
  first | refine TL.splitD 13 rfl (fun hlg => ?_) (fun hlg => ?_) | refine TL.split 13 rfl (fun hlg => ?_) (fun hlg => ?_)
  · skip
    refine TL.skip rfl (fun k hk => by cases hk; decide) ?_
    refine TL.skip rfl (fun k hk => by cases hk; decide) ?_
    refine TL.skip rfl (fun k hk => by cases hk; decide) ?_
    refine TL.skip rfl (fun k hk => by cases hk; decide) ?_
    refine TL.pure (PV.pickT rfl rfl) rfl (by decide) ?_
    refine TL.pure (PV.move rfl) rfl (by decide) ?_
    refine TL.skip rfl (fun k hk => by cases hk; decide) ?_
    refine TL.skip rfl (fun k hk => by cases hk; decide) ?_
    refine TL.skip rfl (fun k hk => by cases hk; decide) ?_
    refine TL.skip rfl (fun k hk => by cases hk; decide) ?_
    refine TL.pure (PV.pickT rfl rfl) rfl (by decide) ?_
    refine TL.nil ?_
    refine TQ.thenC ?_
    refine TC.condT rfl ?_
    refine TC.seq ?_
    refine TC.region ?_
    refine TL.call rfl Tb.gofn_18 (fun a w hs => sane_ok w) rfl (by decide) (fun _ _ => ?_)
    refine TL.pure (PV.assign rfl) rfl (by decide) ?_
    refine TL.nil ?_
    refine TQ.thenC ?_
    refine TC.ret ?_
    refine TQ.thenR ?_
    refine TQ.retE1 rfl rfl ?_
    first | exact ⟨(), rfl, trivial, List.nil_sublist _⟩ | (exfalso; simp_all; done) | (exfalso; simp_all; omega)
  · skip
    refine TL.pure (PV.fieldAddr rfl Tb.fo_43_0) rfl (by decide) ?_
    refine TL.pure (PV.load rfl Tb.one_22 (by repeat (first | exact List.Mem.head _ | refine List.Mem.tail _ ?_ | refine List.mem_append_right _ ?_)) rfl) rfl (by decide) ?_
    refine TL.pure (PV.len rfl Tb.sl_22) rfl (by decide) ?_
    refine TL.pure (PV.gtr rfl rfl) rfl (by decide) ?_
    refine TL.pure (PV.pickF rfl rfl) rfl (by decide) ?_
    refine TL.pure (PV.move rfl) rfl (by decide) ?_
    first | refine TL.splitD 19 rfl (fun hl1 => ?_) (fun hl1 => ?_) | refine TL.split 19 rfl (fun hl1 => ?_) (fun hl1 => ?_)
    · skip
      refine TL.skip rfl (fun k hk => by cases hk; decide) ?_
      refine TL.skip rfl (fun k hk => by cases hk; decide) ?_
      refine TL.skip rfl (fun k hk => by cases hk; decide) ?_
      refine TL.skip rfl (fun k hk => by cases hk; decide) ?_
      refine TL.pure (PV.pickT rfl rfl) rfl (by decide) ?_
      refine TL.nil ?_
      refine TQ.thenC ?_
      refine TC.condT rfl ?_
      refine TC.seq ?_
      refine TC.region ?_
      refine TL.call rfl Tb.gofn_18 (fun a w hs => sane_ok w) rfl (by decide) (fun _ _ => ?_)
      refine TL.pure (PV.assign rfl) rfl (by decide) ?_
      refine TL.nil ?_
      refine TQ.thenC ?_
      refine TC.ret ?_
      refine TQ.thenR ?_
      refine TQ.retE1 rfl rfl ?_
      first | exact ⟨(), rfl, trivial, List.nil_sublist _⟩ | (exfalso; simp_all; done) | (exfalso; simp_all; omega)
    · skip
      refine TL.pure (PV.fieldAddr rfl Tb.fo_43_1) rfl (by decide) ?_
      refine TL.pure (PV.load rfl Tb.one_22 (by repeat (first | exact List.Mem.head _ | refine List.Mem.tail _ ?_ | refine List.mem_append_right _ ?_)) rfl) rfl (by decide) ?_
      refine TL.pure (PV.len rfl Tb.sl_22) rfl (by decide) ?_
      refine TL.pure (PV.gtr rfl rfl) rfl (by decide) ?_
      refine TL.pure (PV.pickF rfl rfl) rfl (by decide) ?_
      refine TL.nil ?_
      refine TQ.thenC ?_
      first | refine TC.condD rfl (fun hl2 => ?_) (fun hl2 => ?_) | refine TC.cond rfl (fun hl2 => ?_) (fun hl2 => ?_)
      · skip
        refine TC.seq ?_
        refine TC.region ?_
        refine TL.call rfl Tb.gofn_18 (fun a w hs => sane_ok w) rfl (by decide) (fun _ _ => ?_)
        refine TL.pure (PV.assign rfl) rfl (by decide) ?_
        refine TL.nil ?_
        refine TQ.thenC ?_
        refine TC.ret ?_
        refine TQ.thenR ?_
        refine TQ.retE1 rfl rfl ?_
        first | exact ⟨(), rfl, trivial, List.nil_sublist _⟩ | (exfalso; simp_all; done) | (exfalso; simp_all; omega)
      · skip
        refine TC.skip ?_
        refine TQ.thenC ?_
        refine TC.seq ?_
        have hT := (lgT_0 (by simpa using hlg)).1
        have hu : us.length ≤ 1000000 := by omega
        have hv : vs.length ≤ 1000000 := by omega
        have hwl := wth_least (t := t) (us := us) (vs := vs)
        refine TC.region ?_
        refine TL.pure (PV.loadBox rfl Tb.agg_25 (by repeat (first | exact List.Mem.head _ | refine List.Mem.tail _ ?_ | refine List.mem_append_right _ ?_)) rfl) rfl (by decide) ?_
        refine TL.pure (PV.loadBox rfl Tb.agg_43 (by repeat (first | exact List.Mem.head _ | refine List.Mem.tail _ ?_ | refine List.mem_append_right _ ?_)) rfl) rfl (by decide) ?_
        refine TL.call rfl Tb.gofn_35 (fun a w hs => Worth_ok w _ t (IsT.mk (t1.new hs.new) (t2.new hs.new) (t3.new hs.new)) hT _ us vs (IsP.mk (hpu.new hs.new) (hpv.new hs.new)) hu hv) rfl (by decide) (fun _ _ => ?_)
        refine TL.pure (PV.move rfl) rfl (by decide) ?_
        refine TL.pure (PV.extract rfl rfl) rfl (by decide) ?_
        refine TL.pure (PV.extract rfl rfl) rfl (by decide) ?_
        refine TL.pure (PV.assign rfl) rfl (by decide) ?_
        refine TL.pure (PV.assign rfl) rfl (by decide) ?_
        refine TL.nil ?_
        refine TQ.thenC ?_
        refine TC.seq ?_
        refine TC.region ?_
        refine TL.pure (PV.loadBox rfl Tb.agg_25 (by repeat (first | exact List.Mem.head _ | refine List.Mem.tail _ ?_ | refine List.mem_append_right _ ?_)) rfl) rfl (by decide) ?_
        refine TL.pure (PV.loadBox rfl Tb.agg_43 (by repeat (first | exact List.Mem.head _ | refine List.Mem.tail _ ?_ | refine List.mem_append_right _ ?_)) rfl) rfl (by decide) ?_
        refine TL.call rfl Tb.gofn_36 (fun a w hs => rWorth_ok w _ t (IsT.mk (t1.new hs.new) (t2.new hs.new) (t3.new hs.new)) hT _ us vs (IsP.mk (hpu.new hs.new) (hpv.new hs.new)) hu hv) rfl (by decide) (fun _ _ => ?_)
        refine TL.pure (PV.move rfl) rfl (by decide) ?_
        refine TL.pure (PV.extract rfl rfl) rfl (by decide) ?_
        refine TL.pure (PV.extract rfl rfl) rfl (by decide) ?_
        refine TL.pure (PV.assign rfl) rfl (by decide) ?_
        refine TL.pure (PV.assign rfl) rfl (by decide) ?_
        refine TL.nil ?_
        refine TQ.thenC ?_
        refine TC.seq ?_
        refine TC.region ?_
        refine TL.pure (PV.loadBox rfl Tb.agg_25 (by repeat (first | exact List.Mem.head _ | refine List.Mem.tail _ ?_ | refine List.mem_append_right _ ?_)) rfl) rfl (by decide) ?_
        refine TL.call rfl Tb.gofn_28 (fun a w hs => Least_ok w _ t (IsT.mk (t1.new hs.new) (t2.new hs.new) (t3.new hs.new)) hT) rfl (by decide) (fun _ _ => ?_)
        refine TL.pure (PV.move rfl) rfl (by decide) ?_
        refine TL.pure (PV.extract rfl rfl) rfl (by decide) ?_
        refine TL.pure (PV.extract rfl rfl) rfl (by decide) ?_
        refine TL.pure (PV.assign rfl) rfl (by decide) ?_
        refine TL.pure (PV.assign rfl) rfl (by decide) ?_
        refine TL.nil ?_
        refine TQ.thenC ?_
        refine TC.seq ?_
        refine TC.any Tb.mixed rfl rfl ?_
        refine TA.op (OpOK.pure (PV.loadBox rfl Tb.agg_25 (by repeat (first | exact List.Mem.head _ | refine List.Mem.tail _ ?_ | refine List.mem_append_right _ ?_)) rfl) rfl (by decide)) (by decide) ?_
        refine TA.op (OpOK.pure (PV.loadBox rfl Tb.agg_43 (by repeat (first | exact List.Mem.head _ | refine List.Mem.tail _ ?_ | refine List.mem_append_right _ ?_)) rfl) rfl (by decide)) (by decide) ?_
        refine TA.op (OpOK.call rfl Tb.gofn_37 (fun a w hs => checkPrices_ok w _ t (IsT.mk (t1.new hs.new) (t2.new hs.new) (t3.new hs.new)) hT _ us vs (IsP.mk (hpu.new hs.new) (hpv.new hs.new)) hu hv) rfl (by decide)) (by decide) ?_
        refine TA.op (OpOK.pure (PV.loadBox rfl Tb.agg_25 (by repeat (first | exact List.Mem.head _ | refine List.Mem.tail _ ?_ | refine List.mem_append_right _ ?_)) rfl) rfl (by decide)) (by decide) ?_
        refine TA.op (OpOK.pure (PV.loadBox rfl Tb.agg_43 (by repeat (first | exact List.Mem.head _ | refine List.Mem.tail _ ?_ | refine List.mem_append_right _ ?_)) rfl) rfl (by decide)) (by decide) ?_
        refine TA.op (OpOK.call rfl Tb.gofn_38 (fun a w hs => rcheckPrices_ok w _ t (IsT.mk (t1.new hs.new) (t2.new hs.new) (t3.new hs.new)) hT _ us vs (IsP.mk (hpu.new hs.new) (hpv.new hs.new)) hu hv) rfl (by decide)) (by decide) ?_
        refine TA.op (OpOK.pure (PV.eql rfl rfl) rfl (by decide)) (by decide) ?_
        refine TA.op (OpOK.pure (PV.move rfl) rfl (by decide)) (by decide) ?_
        first | refine TA.splitD 50 rfl (fun g0 => ?_) (fun g0 => ?_) | refine TA.split 50 rfl (fun g0 => ?_) (fun g0 => ?_)
        · skip
          refine TA.op (OpOK.pure (PV.move rfl) rfl (by decide)) (by decide) ?_
          refine TA.op (OpOK.pure (PV.move rfl) rfl (by decide)) (by decide) ?_
          refine TA.op (OpOK.pure (PV.eql rfl rfl) rfl (by decide)) (by decide) ?_
          refine TA.op (OpOK.pure (PV.pickT rfl rfl) rfl (by decide)) (by decide) ?_
          refine TA.op (OpOK.pure (PV.move rfl) rfl (by decide)) (by decide) ?_
          first | refine TA.splitD 55 rfl (fun g1 => ?_) (fun g1 => ?_) | refine TA.split 55 rfl (fun g1 => ?_) (fun g1 => ?_)
          · skip
            refine TA.op (OpOK.pure (PV.move rfl) rfl (by decide)) (by decide) ?_
            refine TA.op (OpOK.pure (PV.move rfl) rfl (by decide)) (by decide) ?_
            refine TA.op (OpOK.pure (PV.eql rfl rfl) rfl (by decide)) (by decide) ?_
            refine TA.op (OpOK.pure (PV.pickT rfl rfl) rfl (by decide)) (by decide) ?_
            refine TA.op (OpOK.pure (PV.move rfl) rfl (by decide)) (by decide) ?_
            first | refine TA.splitD 60 rfl (fun g2 => ?_) (fun g2 => ?_) | refine TA.split 60 rfl (fun g2 => ?_) (fun g2 => ?_)
            · skip
              refine TA.op (OpOK.pure (PV.move rfl) rfl (by decide)) (by decide) ?_
              refine TA.op (OpOK.pure (PV.neq rfl rfl) rfl (by decide)) (by decide) ?_
              refine TA.op (OpOK.pure (PV.move rfl) rfl (by decide)) (by decide) ?_
              first | refine TA.splitD 63 rfl (fun g3 => ?_) (fun g3 => ?_) | refine TA.split 63 rfl (fun g3 => ?_) (fun g3 => ?_)
              · skip
                refine TA.op (OpOK.skip rfl) (by decide) ?_
                refine TA.op (OpOK.skip rfl) (by decide) ?_
                refine TA.op (OpOK.skip rfl) (by decide) ?_
                refine TA.op (OpOK.skipU rfl) (by decide) ?_
                refine TA.op (OpOK.skipU rfl) (by decide) ?_
                refine TA.op (OpOK.skipU rfl) (by decide) ?_
                refine TA.op (OpOK.skip rfl) (by decide) ?_
                refine TA.op (OpOK.pure (PV.pickT rfl rfl) rfl (by decide)) (by decide) ?_
                refine TA.op (OpOK.pure (PV.pickT rfl rfl) rfl (by decide)) (by decide) ?_
                refine TA.op (OpOK.pure (PV.move rfl) rfl (by decide)) (by decide) ?_
                refine TA.op (OpOK.call rfl Tb.gofn_18 (fun a w hs => sane_ok w) rfl (by decide)) (by decide) ?_
                refine TA.op (OpOK.pure (PV.pickT rfl rfl) rfl (by decide)) (by decide) ?_
                refine TA.op (OpOK.pure (PV.assign rfl) rfl (by decide)) (by decide) ?_
                show TQ _ _ _ _ _
                refine TQ.thenC ?_
                refine TC.ret ?_
                refine TQ.retE1 rfl rfl ?_
                first | exact ⟨(), rfl, trivial, List.nil_sublist _⟩ | (exfalso; simp_all; done) | (exfalso; simp_all; omega)
              · skip
                refine TA.op (OpOK.pure (PV.move rfl) rfl (by decide)) (by decide) ?_
                refine TA.op (OpOK.pure (PV.eql rfl rfl) rfl (by decide)) (by decide) ?_
                refine TA.op (OpOK.pure (PV.move rfl) rfl (by decide)) (by decide) ?_
                first | refine TA.splitD 66 rfl (fun g4 => ?_) (fun g4 => ?_) | refine TA.split 66 rfl (fun g4 => ?_) (fun g4 => ?_)
                · skip
                  refine TA.op (OpOK.pure (PV.move rfl) rfl (by decide)) (by decide) ?_
                  refine TA.op (OpOK.pure (PV.move rfl) rfl (by decide)) (by decide) ?_
                  refine TA.op (OpOK.pure (PV.leq rfl rfl) rfl (by decide)) (by decide) ?_
                  refine TA.op (OpOK.pure (PV.pickT rfl rfl) rfl (by decide)) (by decide) ?_
                  refine TA.op (OpOK.pure (PV.pickF rfl rfl) rfl (by decide)) (by decide) ?_
                  refine TA.op (OpOK.pure (PV.pickT rfl rfl) rfl (by decide)) (by decide) ?_
                  refine TA.op (OpOK.pure (PV.move rfl) rfl (by decide)) (by decide) ?_
                  first | refine TA.splitD 73 rfl (fun g5 => ?_) (fun g5 => ?_) | refine TA.split 73 rfl (fun g5 => ?_) (fun g5 => ?_)
                  · skip
                    refine TA.op (OpOK.call rfl Tb.gofn_18 (fun a w hs => sane_ok w) rfl (by decide)) (by decide) ?_
                    refine TA.op (OpOK.pure (PV.pickT rfl rfl) rfl (by decide)) (by decide) ?_
                    refine TA.op (OpOK.pure (PV.assign rfl) rfl (by decide)) (by decide) ?_
                    show TQ _ _ _ _ _
                    refine TQ.thenC ?_
                    refine TC.ret ?_
                    refine TQ.retE1 rfl rfl ?_
                    first | exact ⟨(), rfl, trivial, List.nil_sublist _⟩ | (exfalso; simp_all; done) | (exfalso; simp_all; omega)
                  · skip
                    refine TA.op (OpOK.skip rfl) (by decide) ?_
                    refine TA.op (OpOK.pure (PV.pickF rfl rfl) rfl (by decide)) (by decide) ?_
                    refine TA.op (OpOK.pure (PV.assign rfl) rfl (by decide)) (by decide) ?_
                    show TQ _ _ _ _ _
                    refine TQ.thenC ?_
                    refine TC.ret ?_
                    refine TQ.retE1 rfl rfl ?_
                    first | exact ⟨(), rfl, trivial, List.nil_sublist _⟩ | (exfalso; simp_all; done) | (exfalso; simp_all; omega)
                · skip
                  refine TA.op (OpOK.skip rfl) (by decide) ?_
                  refine TA.op (OpOK.skip rfl) (by decide) ?_
                  refine TA.op (OpOK.skip rfl) (by decide) ?_
                  refine TA.op (OpOK.pure (PV.pickF rfl rfl) rfl (by decide)) (by decide) ?_
                  refine TA.op (OpOK.pure (PV.pickF rfl rfl) rfl (by decide)) (by decide) ?_
                  refine TA.op (OpOK.pure (PV.pickT rfl rfl) rfl (by decide)) (by decide) ?_
                  refine TA.op (OpOK.pure (PV.move rfl) rfl (by decide)) (by decide) ?_
                  refine TA.op (OpOK.skip rfl) (by decide) ?_
                  refine TA.op (OpOK.pure (PV.pickF rfl rfl) rfl (by decide)) (by decide) ?_
                  refine TA.op (OpOK.pure (PV.assign rfl) rfl (by decide)) (by decide) ?_
                  show TQ _ _ _ _ _
                  refine TQ.thenC ?_
                  refine TC.ret ?_
                  refine TQ.retE1 rfl rfl ?_
                  first | exact ⟨(), rfl, trivial, List.nil_sublist _⟩ | (exfalso; simp_all; done) | (exfalso; simp_all; omega)
            · skip
              exact (g2 rfl).elim
          · skip
            exact (g1 rfl).elim
        · skip
          exact (g0 rfl).elim

end Go.Proofs.Ytghlkndanpegbaa
