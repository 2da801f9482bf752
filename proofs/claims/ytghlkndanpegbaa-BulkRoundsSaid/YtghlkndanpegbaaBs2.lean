/- Tons shifted along rounds, by the reference: contracts. -/
import Derived.Test.YtghlkndanpegbaaBr
set_option linter.unusedVariables false
set_option linter.unusedSimpArgs false
namespace Go.Proofs.Ytghlkndanpegbaa
open Go.Sx Go.RowKit Go.Sand Go.Tp



set_option maxRecDepth 100000 in
set_option maxHeartbeats 2000000 in
theorem copyTable_ok (w0 : World) (vg : Value) (m : List (List Int)) (hg : IsG w0 vg m) (hM : SmG m) :
    Calls Try.prog 42 #[vg] w0 (Post (X := HD × List RW) (fun y => gval y.1 m.length) (fun y => goR rwR y.1 y.2 ∧ rwOk y.2 ∧ y.2.map RW.l = m) (fun y => gbR rwR 22 y.1 y.2 ++ rwB y.2) w0) := by
  obtain ⟨pg, cg, rfl, g1⟩ := hg
  have hM0 := hM.1
  refine calls Try.func42 rfl (n := 21) rfl (by simp) ?_
  refine TC.seq ?_
  refine TC.region ?_
  refine TL.pure (PV.assign rfl) rfl (by decide) ?_
  refine TL.nil ?_
  refine TQ.thenC ?_
  refine TC.seq ?_
  refine TC.region ?_
  refine TL.pure (PV.assign rfl) rfl (by decide) ?_
  refine TL.nil ?_
  refine TQ.thenC ?_
  refine TC.seq ?_
  refine TC.seq ?_
  refine TC.region ?_
  refine TL.pure (PV.assign rfl) rfl (by decide) ?_
  refine TL.nil ?_
  refine TQ.thenC ?_
  refine TC.block ?_
  refine TC.lit [(0, _), (2, _), (3, _), (4, _)] (by repeat (first | exact True.intro | refine And.intro rfl ?_)) ?_
  refine TC.loopK [0, 2] (X := Nat × HD × List RW) (fun x => x.1 ≤ m.length ∧ CtS m x.1 x.2.1 x.2.2) (fun x => [(4, .int .i64 x.1), (3, gval x.2.1 x.2.2.length)]) (fun x => gbR rwR 22 x.2.1 x.2.2 ++ (rwB x.2.2 ++ [])) (fun x => m.length - x.1) (0, none, []) ⟨Nat.zero_le _, cts_zero _⟩ (by repeat (first | exact True.intro | refine And.intro rfl ?_)) (List.nil_sublist _) ?_
  intro x hx9
  obtain ⟨hxS, hx9⟩ := hx9
  refine TC.lit [(0, _), (2, _), (3, _), (4, _)] (by repeat (first | exact True.intro | refine And.intro rfl ?_)) ?_
  refine TC.seq ?_
  refine TC.seq ?_
  refine TC.region ?_
  refine TL.pure (PV.move rfl) rfl (by decide) ?_
  refine TL.pure (PV.move rfl) rfl (by decide) ?_
  refine TL.pure (PV.len rfl Tb.sl_23) rfl (by decide) ?_
  refine TL.pure (PV.lss rfl rfl) rfl (by decide) ?_
  refine TL.nil ?_
  refine TQ.thenC ?_
  first | refine TC.condD rfl (fun hlt => ?_) (fun hlt => ?_) | refine TC.cond rfl (fun hlt => ?_) (fun hlt => ?_)
  · skip
    refine TC.skip ?_
    refine TQ.thenC ?_
    refine TC.seq ?_
    refine TC.block ?_
    have hxl := hx9.len
    obtain ⟨q1, hq1p, q1p, q1c, hq1, hq1r⟩ := g1 x.1 (by omega)
    have hMk := hM.2 x.1
    refine TC.region ?_
    refine TL.pure (PV.move rfl) rfl (by decide) ?_
    refine TL.buildSlice0 Tb.sl_22 Tb.zi_3 rfl (by decide) (fun bA hbA => ?_)
    refine TL.pure (PV.move rfl) rfl (by decide) ?_
    refine TL.pure (PV.move rfl) rfl (by decide) ?_
    refine TL.pure (PV.indexA (j := x.1) rfl hq1p rfl Tb.elm_23 rfl (by omega)) rfl (by decide) ?_
    refine TL.pure (PV.loadOld rfl Tb.one_22 hq1) rfl (by decide) ?_
    refine TL.append0 (m := (m.getD x.1 []).length) (news := ival (m.getD x.1 [])) rfl rfl Tb.sl_22 Tb.zi_3 rfl (Take.head _) (fun w' hN => ints_src Tb.sl_22 rfl (hq1r.new hN)) (by omega) (by omega) rfl (by decide) (fun hh hhh => ?_)
    have hgi : goI (hh, (m.getD x.1 [])) := by simpa [goI] using hhh
    refine TL.buildSlice (cs := #[gval hh (m.getD x.1 []).length]) rfl Tb.sl_23 Tb.zi_22 (by decide) (by rw [gval_eq hhh]; exact fill_o _ _ _) (by decide) rfl (by decide) (fun bE hbE => ?_)
    refine TL.appendRec (R := rwR) (h0 := x.2.1) (ys := x.2.2) (b := bE) (r := ⟨hh, m.getD x.1 []⟩) Tb.sl_23 Tb.zi_22 rfl rfl rfl (by repeat (first | exact List.Mem.head _ | refine List.Mem.tail _ ?_ | refine List.mem_append_right _ ?_)) hx9.go (by repeat (first | exact TakeH.here _ _ _ _ | apply TakeH.tail | apply TakeH.app)) (by omega) (by omega) rfl (by decide) (fun hG hho => ?_)
    refine TL.pure (PV.assign rfl) rfl (by decide) ?_
    refine TL.nil ?_
    refine TQ.blkN ?_
    refine TQ.thenC ?_
    refine TC.region ?_
    refine TL.pure (PV.move rfl) rfl (by decide) ?_
    refine TL.pure (PV.add rfl rfl (by omega)) rfl (by decide) ?_
    refine TL.pure (PV.assign rfl) rfl (by decide) ?_
    refine TL.nil ?_
    refine TQ.thenN ?_
    refine TQ.perm (G' := gbR rwR 22 hG (x.2.2 ++ [⟨hh, m.getD x.1 []⟩]) ++ (rwB (x.2.2 ++ [⟨hh, m.getD x.1 []⟩]) ++ ([(bE, Obj.cells #[gval hh (m.getD x.1 []).length] 22 (0, 0))]))) (perm_of fun c9 => by rw [rwB_snoc]; simp only [List.map_append, List.sum_append, List.map_cons, List.sum_cons, List.map_nil, List.sum_nil, gbI, gbR]; omega) ?_
    refine TQ.backK (x.1 + 1, hG, x.2.2 ++ [⟨hh, m.getD x.1 []⟩]) (by repeat (first | exact True.intro | refine And.intro rfl ?_)) (by repeat (first | exact True.intro | refine And.intro rfl ?_)) (List.Sublist.append_left (List.Sublist.append_left (List.nil_sublist _) _) _) ⟨by simp only; omega, cts_step hx9 rfl hho hgi⟩ (by simp only; omega)
  · skip
    refine TC.exit ?_
    refine TQ.thenE ?_
    refine TQ.thenE ?_
    refine TQ.blkS ?_
    refine TQ.thenC ?_
    refine TC.seq ?_
    refine TC.region ?_
    refine TL.pure (PV.move rfl) rfl (by decide) ?_
    refine TL.pure (PV.assign rfl) rfl (by decide) ?_
    refine TL.nil ?_
    refine TQ.thenC ?_
    refine TC.ret ?_
    refine TQ.retE1 rfl rfl ?_
    exact ⟨(x.2.1, x.2.2), by show gval _ _ = gval _ _; rw [hx9.len, show x.1 = m.length by omega], ⟨hx9.go, hx9.ok, cts_fin hx9 (by omega)⟩, by simp only [List.append_nil]; exact List.Sublist.refl _⟩

set_option maxRecDepth 100000 in
set_option maxHeartbeats 8000000 in
theorem rAlong_ok (w0 : World) (vt : Value) (t : Td) (ht : IsT w0 vt t) (hT : SmT t) (vg : Value) (m : List (List Int)) (hg : IsG w0 vg m) (hM : SmG m) (pl : Option Addr) (cl : Nat) (l : List Pr) (hl : RecsAt prR w0 pl l) (hll : l.length ≤ 1000000) :
    Calls Try.prog 41 #[vt, vg, .slice pl l.length cl] w0 (Post (X := Value × Heap) (fun y => .tuple #[y.1, .int .i64 (aloR t m l).2.1, .int .i64 (aloR t m l).2.2]) (fun y => RdG (aloR t m l).1 y) (fun y => y.2) w0) := by
  have ht0 := ht
  obtain ⟨p1, c1, p2, c2, p3, c3, rfl, t1, t2, t3⟩ := ht
  have hg0 := hg
  obtain ⟨pg, cg, rfl, g1⟩ := hg
  refine calls Try.func41 rfl (n := 141) rfl (by simp) ?_
  refine TC.seq ?_
  refine TC.region ?_
  refine TL.box rfl rfl (by decide) (fun b0 hb0 => ?_)
  refine TL.pure (PV.assign rfl) rfl (by decide) ?_
  refine TL.pure (PV.assign rfl) rfl (by decide) ?_
  refine TL.pure (PV.assign rfl) rfl (by decide) ?_
  refine TL.nil ?_
  refine TQ.thenC ?_
  refine TC.seq ?_
  refine TC.region ?_
  refine TL.pure (PV.loadBox rfl Tb.agg_25 (by repeat (first | exact List.Mem.head _ | refine List.Mem.tail _ ?_ | refine List.mem_append_right _ ?_)) rfl) rfl (by decide) ?_
  refine TL.pure (PV.move rfl) rfl (by decide) ?_
  refine TL.call rfl Tb.gofn_24 (fun a w hs => rcheckPlan_ok w _ t (IsT.mk (t1.new hs.new) (t2.new hs.new) (t3.new hs.new)) hT _ m (IsG.of (g1.new hs.new)) hM) rfl (by decide) (fun _ _ => ?_)
  refine TL.pure (PV.assign rfl) rfl (by decide) ?_
  refine TL.nil ?_
  refine TQ.thenC ?_
  refine TC.seq ?_
  refine TC.seq ?_
  refine TC.region ?_
  refine TL.pure (PV.move rfl) rfl (by decide) ?_
  refine TL.pure (PV.neq rfl rfl) rfl (by decide) ?_
  refine TL.nil ?_
  refine TQ.thenC ?_
  first | refine TC.condD rfl (fun a1 => ?_) (fun a1 => ?_) | refine TC.cond rfl (fun a1 => ?_) (fun a1 => ?_)
  · skip
    refine TC.seq ?_
    refine TC.region ?_
    refine TL.pure (PV.move rfl) rfl (by decide) ?_
    refine TL.pure (PV.assign rfl) rfl (by decide) ?_
    refine TL.pure (PV.assign rfl) rfl (by decide) ?_
    refine TL.pure (PV.assign rfl) rfl (by decide) ?_
    refine TL.nil ?_
    refine TQ.thenC ?_
    refine TC.ret ?_
    refine TQ.thenR ?_
    refine TQ.retE3 rfl rfl rfl rfl ?_
    have e9 : aloR t m l = ([], 0, planI t m) := if_pos a1
    exact ⟨(.slice none 0 0, []), by rw [e9], by rw [e9]; exact RdG.nil, List.nil_sublist _⟩
  · skip
    refine TC.skip ?_
    refine TQ.thenC ?_
    refine TC.seq ?_
    refine TC.seq ?_
    have hV := vp_of a1
    have hns := hV.ns
    have hnd := hV.nd
    have hml := hV.g.len
    refine TC.region ?_
    refine TL.pure (PV.move rfl) rfl (by decide) ?_
    refine TL.pure (PV.len rfl Tb.sl_49) rfl (by decide) ?_
    refine TL.pure (PV.gtr rfl rfl) rfl (by decide) ?_
    refine TL.nil ?_
    refine TQ.thenC ?_
    first | refine TC.condD rfl (fun a2 => ?_) (fun a2 => ?_) | refine TC.cond rfl (fun a2 => ?_) (fun a2 => ?_)
    · skip
      refine TC.seq ?_
      refine TC.region ?_
      refine TL.pure (PV.assign rfl) rfl (by decide) ?_
      refine TL.pure (PV.assign rfl) rfl (by decide) ?_
      refine TL.pure (PV.assign rfl) rfl (by decide) ?_
      refine TL.nil ?_
      refine TQ.thenC ?_
      refine TC.ret ?_
      refine TQ.thenR ?_
      refine TQ.retE3 rfl rfl rfl rfl ?_
      have e9 : aloR t m l = ([], 0, 3) := by unfold aloR; rw [if_neg a1, show rndI t l = 3 from if_pos (by omega)]; rfl
      exact ⟨(.slice none 0 0, []), by rw [e9], by rw [e9]; exact RdG.nil, List.nil_sublist _⟩
    · skip
      refine TC.skip ?_
      refine TQ.thenC ?_
      refine TC.seq ?_
      refine TC.seq ?_
      refine TC.region ?_
      refine TL.pure (PV.assign rfl) rfl (by decide) ?_
      refine TL.nil ?_
      refine TQ.thenC ?_
      refine TC.block ?_
      -- live and written in the loop, not told: [6, 7, 8]
      refine TC.lit [(1, _), (2, _), (3, _), (10, _)] (by repeat (first | exact True.intro | refine And.intro rfl ?_)) ?_
      refine TC.loopG [1, 2, 3] (X := Nat) (fun k => k ≤ l.length ∧ ∀ j, j < k → inP t.s.length t.d.length (prS l j) = true) (fun k => [(10, .int .i64 k)]) (fun k => l.length - k) 0 ⟨Nat.zero_le _, fun j hj => absurd hj (Nat.not_lt_zero _)⟩ (by repeat (first | exact True.intro | refine And.intro rfl ?_)) ?_
      intro k hk
      refine TC.lit [(1, _), (2, _), (3, _), (10, _)] (by repeat (first | exact True.intro | refine And.intro rfl ?_)) ?_
      refine TC.seq ?_
      refine TC.seq ?_
      refine TC.region ?_
      refine TL.pure (PV.move rfl) rfl (by decide) ?_
      refine TL.pure (PV.move rfl) rfl (by decide) ?_
      refine TL.pure (PV.len rfl Tb.sl_49) rfl (by decide) ?_
      refine TL.pure (PV.lss rfl rfl) rfl (by decide) ?_
      refine TL.nil ?_
      refine TQ.thenC ?_
      first | refine TC.condD rfl (fun hlt => ?_) (fun hlt => ?_) | refine TC.cond rfl (fun hlt => ?_) (fun hlt => ?_)
      · skip
        refine TC.skip ?_
        refine TQ.thenC ?_
        refine TC.seq ?_
        refine TC.block ?_
        refine TC.seq ?_
        obtain ⟨q1, hq1p, hq1a, hq1b⟩ := prAt' hl (k := k) (by omega)
        refine TC.any Tb.mixed rfl rfl ?_
        refine TA.op (OpOK.pure (PV.move rfl) rfl (by decide)) (by decide) ?_
        refine TA.op (OpOK.pure (PV.move rfl) rfl (by decide)) (by decide) ?_
        refine TA.op (OpOK.pure (PV.indexA (j := k) rfl hq1p rfl Tb.elm_49 rfl (by omega)) rfl (by decide)) (by decide) ?_
        refine TA.op (OpOK.pure (PV.indexArrA (j := 0) rfl rfl arr_84 rfl (by decide)) rfl (by decide)) (by decide) ?_
        refine TA.op (OpOK.pure (PV.loadOld rfl Tb.one_3 hq1a) rfl (by decide)) (by decide) ?_
        refine TA.op (OpOK.pure (PV.fieldAddr rfl Tb.fo_25_0) rfl (by decide)) (by decide) ?_
        refine TA.op (OpOK.pure (PV.load rfl Tb.one_22 (by repeat (first | exact List.Mem.head _ | refine List.Mem.tail _ ?_ | refine List.mem_append_right _ ?_)) rfl) rfl (by decide)) (by decide) ?_
        refine TA.op (OpOK.pure (PV.len rfl Tb.sl_22) rfl (by decide)) (by decide) ?_
        refine TA.op (OpOK.pure (PV.sub rfl rfl (by omega)) rfl (by decide)) (by decide) ?_
        refine TA.op (OpOK.call rfl Tb.gofn_73 (fun a w hs => within_ok w _ _ _) rfl (by decide)) (by decide) ?_
        refine TA.op (OpOK.pure ((by first | exact PV.notD rfl | exact PV.not rfl)) rfl (by decide)) (by decide) ?_
        refine TA.op (OpOK.pure (PV.move rfl) rfl (by decide)) (by decide) ?_
        first | refine TA.splitD 41 rfl (fun w1 => ?_) (fun w1 => ?_) | refine TA.split 41 rfl (fun w1 => ?_) (fun w1 => ?_)
        · skip
          refine TA.op (OpOK.skip rfl) (by decide) ?_
          refine TA.op (OpOK.skip rfl) (by decide) ?_
          refine TA.op (OpOK.skip rfl) (by decide) ?_
          refine TA.op (OpOK.skip rfl) (by decide) ?_
          refine TA.op (OpOK.skip rfl) (by decide) ?_
          refine TA.op (OpOK.skip rfl) (by decide) ?_
          refine TA.op (OpOK.skip rfl) (by decide) ?_
          refine TA.op (OpOK.skip rfl) (by decide) ?_
          refine TA.op (OpOK.skip rfl) (by decide) ?_
          refine TA.op (OpOK.skip rfl) (by decide) ?_
          refine TA.op (OpOK.skip rfl) (by decide) ?_
          refine TA.op (OpOK.pure (PV.pickT rfl rfl) rfl (by decide)) (by decide) ?_
          show TQ _ _ _ _ _
          refine TQ.thenC ?_
          refine TC.condT rfl ?_
          refine TC.seq ?_
          refine TC.region ?_
          refine TL.pure (PV.assign rfl) rfl (by decide) ?_
          refine TL.pure (PV.assign rfl) rfl (by decide) ?_
          refine TL.pure (PV.assign rfl) rfl (by decide) ?_
          refine TL.nil ?_
          refine TQ.thenC ?_
          refine TC.ret ?_
          refine TQ.blkR ?_
          refine TQ.thenR ?_
          refine TQ.thenR ?_
          refine TQ.blkR ?_
          refine TQ.thenR ?_
          refine TQ.retE3 rfl rfl rfl rfl ?_
          have hb4 : (l.any fun r => !inP t.s.length t.d.length r) = true := any_yes (k := k) (d := default) (by omega) (by rw [show inP t.s.length t.d.length (l.getD k default) = false by rw [inP_wi]; unfold wiB; rw [decide_eq_false w1]; rfl]; rfl)
          have e9 : aloR t m l = ([], 0, 4) := by unfold aloR; rw [if_neg a1, show rndI t l = 4 by unfold rndI; rw [if_neg (by omega), if_pos hb4]]; rfl
          exact ⟨(.slice none 0 0, []), by rw [e9], by rw [e9]; exact RdG.nil, List.nil_sublist _⟩
        · skip
          refine TA.op (OpOK.pure (PV.move rfl) rfl (by decide)) (by decide) ?_
          refine TA.op (OpOK.pure (PV.move rfl) rfl (by decide)) (by decide) ?_
          refine TA.op (OpOK.pure (PV.indexA (j := k) rfl hq1p rfl Tb.elm_49 rfl (by omega)) rfl (by decide)) (by decide) ?_
          refine TA.op (OpOK.pure (PV.indexArrA (j := 1) rfl rfl arr_84 rfl (by decide)) rfl (by decide)) (by decide) ?_
          refine TA.op (OpOK.pure (PV.loadOld rfl Tb.one_3 hq1b) rfl (by decide)) (by decide) ?_
          refine TA.op (OpOK.pure (PV.fieldAddr rfl Tb.fo_25_1) rfl (by decide)) (by decide) ?_
          refine TA.op (OpOK.pure (PV.load rfl Tb.one_22 (by repeat (first | exact List.Mem.head _ | refine List.Mem.tail _ ?_ | refine List.mem_append_right _ ?_)) rfl) rfl (by decide)) (by decide) ?_
          refine TA.op (OpOK.pure (PV.len rfl Tb.sl_22) rfl (by decide)) (by decide) ?_
          refine TA.op (OpOK.pure (PV.sub rfl rfl (by omega)) rfl (by decide)) (by decide) ?_
          refine TA.op (OpOK.call rfl Tb.gofn_73 (fun a w hs => within_ok w _ _ _) rfl (by decide)) (by decide) ?_
          refine TA.op (OpOK.pure ((by first | exact PV.notD rfl | exact PV.not rfl)) rfl (by decide)) (by decide) ?_
          refine TA.op (OpOK.pure (PV.pickF rfl rfl) rfl (by decide)) (by decide) ?_
          show TQ _ _ _ _ _
          refine TQ.thenC ?_
          first | refine TC.condD rfl (fun w2 => ?_) (fun w2 => ?_) | refine TC.cond rfl (fun w2 => ?_) (fun w2 => ?_)
          · skip
            refine TC.seq ?_
            refine TC.region ?_
            refine TL.pure (PV.assign rfl) rfl (by decide) ?_
            refine TL.pure (PV.assign rfl) rfl (by decide) ?_
            refine TL.pure (PV.assign rfl) rfl (by decide) ?_
            refine TL.nil ?_
            refine TQ.thenC ?_
            refine TC.ret ?_
            refine TQ.blkR ?_
            refine TQ.thenR ?_
            refine TQ.thenR ?_
            refine TQ.blkR ?_
            refine TQ.thenR ?_
            refine TQ.retE3 rfl rfl rfl rfl ?_
            have hb4 : (l.any fun r => !inP t.s.length t.d.length r) = true := any_yes (k := k) (d := default) (by omega) (by rw [show inP t.s.length t.d.length (l.getD k default) = false by rw [inP_wi]; unfold wiB; rw [decide_eq_false w2, Bool.and_false]]; rfl)
            have e9 : aloR t m l = ([], 0, 4) := by unfold aloR; rw [if_neg a1, show rndI t l = 4 by unfold rndI; rw [if_neg (by omega), if_pos hb4]]; rfl
            exact ⟨(.slice none 0 0, []), by rw [e9], by rw [e9]; exact RdG.nil, List.nil_sublist _⟩
          · skip
            refine TC.skip ?_
            refine TQ.blkN ?_
            refine TQ.thenC ?_
            refine TC.region ?_
            refine TL.pure (PV.move rfl) rfl (by decide) ?_
            refine TL.pure (PV.add rfl rfl (by omega)) rfl (by decide) ?_
            refine TL.pure (PV.assign rfl) rfl (by decide) ?_
            refine TL.nil ?_
            refine TQ.thenN ?_
            refine TQ.backK (k + 1) (by repeat (first | exact True.intro | refine And.intro rfl ?_)) (by repeat (first | exact True.intro | refine And.intro rfl ?_)) (by repeat (first | exact List.Sublist.slnil | exact List.nil_sublist _ | exact List.Sublist.refl _ | refine List.Sublist.cons_cons _ ?_ | refine List.Sublist.cons _ ?_ | refine List.Sublist.trans ?_ (List.sublist_append_right _ _))) ⟨by omega, fun j hj => if e : j < k then hk.2 j e else (show k = j by omega) ▸ (by rw [inP_wi]; unfold wiB; rw [decide_eq_true (Decidable.of_not_not w1), decide_eq_true (Decidable.of_not_not w2)]; rfl)⟩ (by omega)
      · skip
        refine TC.exit ?_
        refine TQ.thenE ?_
        refine TQ.thenE ?_
        refine TQ.blkS ?_
        refine TQ.thenC ?_
        refine TC.seq ?_
        refine TC.seq ?_
        have hri : (l.any fun r => !inP t.s.length t.d.length r) = false := any_no (d := default) (fun j hj => by rw [hk.2 j (by omega)]; rfl)
        refine TC.region ?_
        refine TL.pure (PV.move rfl) rfl (by decide) ?_
        refine TL.call rfl Tb.gofn_74 (fun a w hs => rIsRound_ok w _ _ l (hl.new hs.new) hll) rfl (by decide) (fun _ _ => ?_)
        refine TL.pure ((by first | exact PV.notD rfl | exact PV.not rfl)) rfl (by decide) ?_
        refine TL.nil ?_
        refine TQ.thenC ?_
        first | refine TC.condD rfl (fun a4 => ?_) (fun a4 => ?_) | refine TC.cond rfl (fun a4 => ?_) (fun a4 => ?_)
        · skip
          refine TC.seq ?_
          refine TC.region ?_
          refine TL.pure (PV.assign rfl) rfl (by decide) ?_
          refine TL.pure (PV.assign rfl) rfl (by decide) ?_
          refine TL.pure (PV.assign rfl) rfl (by decide) ?_
          refine TL.nil ?_
          refine TQ.thenC ?_
          refine TC.ret ?_
          refine TQ.thenR ?_
          refine TQ.retE3 rfl rfl rfl rfl ?_
          have e9 : aloR t m l = ([], 0, 1) := by unfold aloR; rw [if_neg a1, show rndI t l = 1 by unfold rndI; rw [if_neg (by omega), if_neg (by rw [hri]; decide), if_neg (by simpa using a4)]]; rfl
          exact ⟨(.slice none 0 0, []), by rw [e9], by rw [e9]; exact RdG.nil, List.nil_sublist _⟩
        · skip
          refine TC.skip ?_
          refine TQ.thenC ?_
          refine TC.seq ?_
          have hrd : RdP l := rd_of (by simpa using a4)
          have hrn : ¬ rndI t l ≠ 0 := by unfold rndI; rw [if_neg (by omega), if_neg (by rw [hri]; decide), if_pos (rd_y hrd)]; decide
          have hrr := rd_rnd hri hrd
          have hin := hrr.bd
          have hl4 := hrd.four
          have hle := hrd.even
          have hl9 : RecsAt prR w0 pl (prL l.length (gl l)) := by rw [← gl_prL hri]; exact hl
          have hab : 0 ≤ (amt (getM m) (gl l) l.length) ∧ (amt (getM m) (gl l) l.length) ≤ 30 := ⟨amt_lo (by decide) _ (fun t9 ht9 _ => (hV.g.bd _ _ (hin t9 ht9).1 (hin t9 ht9).2).1), amt_30 _⟩
          obtain ⟨q1, hq1p, hq1a, hq1b⟩ := prAt (n := l.length) (g := gl l) hl9 (k := 1) (by omega)
          have hi1 := hin 1 (by omega)
          obtain ⟨q2, hq2p, q2p, q2c, hq2, hq2r⟩ := g1 (gl l 1).1 (by omega)
          have hr1 := hV.g.row (gl l 1).1 (by omega)
          obtain ⟨q3, hq3p, hq3⟩ := hq2r (gl l 1).2 (by omega)
          have hv30 := vp_30 hV hi1.1 hi1.2
          have ev : (m.getD (gl l 1).1 []).getD (gl l 1).2 0 = getM m (gl l 1).1 (gl l 1).2 := rfl
          rw [ev] at hq3
          refine TC.any Tb.mixed rfl rfl ?_
          refine TA.op (OpOK.pure (PV.move rfl) rfl (by decide)) (by decide) ?_
          refine TA.op (OpOK.pure (PV.move rfl) rfl (by decide)) (by decide) ?_
          refine TA.op (OpOK.pure (PV.indexA (j := 1) rfl hq1p rfl Tb.elm_49 rfl (by omega)) rfl (by decide)) (by decide) ?_
          refine TA.op (OpOK.pure (PV.indexArrA (j := 0) rfl rfl arr_84 rfl (by decide)) rfl (by decide)) (by decide) ?_
          refine TA.op (OpOK.pure (PV.loadOld rfl Tb.one_3 hq1a) rfl (by decide)) (by decide) ?_
          refine TA.op (OpOK.pure (PV.indexA (j := (gl l 1).1) rfl hq2p rfl Tb.elm_23 rfl (by omega)) rfl (by decide)) (by decide) ?_
          refine TA.op (OpOK.pure (PV.loadOld rfl Tb.one_22 hq2) rfl (by decide)) (by decide) ?_
          refine TA.op (OpOK.pure (PV.move rfl) rfl (by decide)) (by decide) ?_
          refine TA.op (OpOK.pure (PV.indexA (j := 1) rfl hq1p rfl Tb.elm_49 rfl (by omega)) rfl (by decide)) (by decide) ?_
          refine TA.op (OpOK.pure (PV.indexArrA (j := 1) rfl rfl arr_84 rfl (by decide)) rfl (by decide)) (by decide) ?_
          refine TA.op (OpOK.pure (PV.loadOld rfl Tb.one_3 hq1b) rfl (by decide)) (by decide) ?_
          refine TA.op (OpOK.pure (PV.indexA (j := (gl l 1).2) rfl hq3p rfl Tb.elm_22 rfl (by omega)) rfl (by decide)) (by decide) ?_
          refine TA.op (OpOK.pure (PV.loadOld rfl Tb.one_3 hq3) rfl (by decide)) (by decide) ?_
          refine TA.op (OpOK.pure (PV.assign rfl) rfl (by decide)) (by decide) ?_
          show TQ _ _ _ _ _
          refine TQ.thenC ?_
          refine TC.seq ?_
          refine TC.seq ?_
          refine TC.region ?_
          refine TL.pure (PV.assign rfl) rfl (by decide) ?_
          refine TL.nil ?_
          refine TQ.thenC ?_
          refine TC.block ?_
          refine TC.lit [(1, _), (2, _), (11, _), (12, _)] (by repeat (first | exact True.intro | refine And.intro rfl ?_)) ?_
          refine TC.loopG [1, 2, 6, 7, 8] (X := Nat) (fun k => 2 * k + 1 ≤ l.length + 1) (fun k => [(12, .int .i64 (2 * k + 1 : Nat)), (11, .int .i64 (min (getM m (gl l 1).1 (gl l 1).2) (amt (getM m) (gl l) (2 * k + 1))))]) (fun k => l.length - k) 0 (by omega) (And.intro rfl (And.intro (by show some (Value.int .i64 (getM m (gl l 1).1 (gl l 1).2)) = some (Value.int .i64 (min _ (30 : Int))); rw [Int.min_eq_left hv30.2]) True.intro)) ?_
          intro k hk
          refine TC.lit [(1, _), (2, _), (11, _), (12, _)] (by repeat (first | exact True.intro | refine And.intro rfl ?_)) ?_
          refine TC.seq ?_
          refine TC.seq ?_
          refine TC.region ?_
          refine TL.pure (PV.move rfl) rfl (by decide) ?_
          refine TL.pure (PV.move rfl) rfl (by decide) ?_
          refine TL.pure (PV.len rfl Tb.sl_49) rfl (by decide) ?_
          refine TL.pure (PV.lss rfl rfl) rfl (by decide) ?_
          refine TL.nil ?_
          refine TQ.thenC ?_
          first | refine TC.condD rfl (fun hlt2 => ?_) (fun hlt2 => ?_) | refine TC.cond rfl (fun hlt2 => ?_) (fun hlt2 => ?_)
          · skip
            refine TC.skip ?_
            refine TQ.thenC ?_
            refine TC.seq ?_
            refine TC.block ?_
            obtain ⟨q4, hq4p, hq4a, hq4b⟩ := prAt (n := l.length) (g := gl l) hl9 (k := (2 * k + 1)) (by omega)
            have hi4 := hin (2 * k + 1) (by omega)
            obtain ⟨q5, hq5p, q5p, q5c, hq5, hq5r⟩ := g1 (gl l (2 * k + 1)).1 (by omega)
            have hr5 := hV.g.row (gl l (2 * k + 1)).1 (by omega)
            obtain ⟨q6, hq6p, hq6⟩ := hq5r (gl l (2 * k + 1)).2 (by omega)
            have ev6 : (m.getD (gl l (2 * k + 1)).1 []).getD (gl l (2 * k + 1)).2 0 = getM m (gl l (2 * k + 1)).1 (gl l (2 * k + 1)).2 := rfl
            rw [ev6] at hq6
            refine TC.draw 17 Tb.mixed (by kernel_rfl) ?_
            simp only [List.take_succ_cons, List.take_zero, List.drop_succ_cons, List.drop_zero]
            refine TS.pure (PV.move rfl) rfl (by decide) ?_
            refine TS.pure (PV.move rfl) rfl (by decide) ?_
            refine TS.pure (PV.move rfl) rfl (by decide) ?_
            refine TS.pure (PV.move rfl) rfl (by decide) ?_
            refine TS.pure (PV.indexA (j := (2 * k + 1)) rfl hq4p rfl Tb.elm_49 rfl (by omega)) rfl (by decide) ?_
            refine TS.pure (PV.indexArrA (j := 0) rfl rfl arr_84 rfl (by decide)) rfl (by decide) ?_
            refine TS.pure (PV.loadOld rfl Tb.one_3 hq4a) rfl (by decide) ?_
            refine TS.pure (PV.indexA (j := (gl l (2 * k + 1)).1) rfl hq5p rfl Tb.elm_23 rfl (by omega)) rfl (by decide) ?_
            refine TS.pure (PV.loadOld rfl Tb.one_22 hq5) rfl (by decide) ?_
            refine TS.pure (PV.move rfl) rfl (by decide) ?_
            refine TS.pure (PV.move rfl) rfl (by decide) ?_
            refine TS.pure (PV.indexA (j := (2 * k + 1)) rfl hq4p rfl Tb.elm_49 rfl (by omega)) rfl (by decide) ?_
            refine TS.pure (PV.indexArrA (j := 1) rfl rfl arr_84 rfl (by decide)) rfl (by decide) ?_
            refine TS.pure (PV.loadOld rfl Tb.one_3 hq4b) rfl (by decide) ?_
            refine TS.pure (PV.indexA (j := (gl l (2 * k + 1)).2) rfl hq6p rfl Tb.elm_22 rfl (by omega)) rfl (by decide) ?_
            refine TS.pure (PV.loadOld rfl Tb.one_3 hq6) rfl (by decide) ?_
            refine TS.pure (PV.min rfl rfl Tb.int_3) rfl (by decide) ?_
            refine TS.nil ?_
            refine TL.pure (PV.assign rfl) rfl (by decide) ?_
            refine TL.nil ?_
            refine TQ.blkN ?_
            refine TQ.thenC ?_
            refine TC.region ?_
            refine TL.pure (PV.move rfl) rfl (by decide) ?_
            refine TL.pure (PV.add rfl rfl (by omega)) rfl (by decide) ?_
            refine TL.pure (PV.assign rfl) rfl (by decide) ?_
            refine TL.nil ?_
            refine TQ.thenN ?_
            refine TQ.backK (k + 1) (And.intro (by show some (Value.int .i64 (((2 * k + 1 : Nat) : Int) + 2)) = some (Value.int .i64 ((2 * (k + 1) + 1 : Nat) : Int)); exact congrArg (fun z => some (Value.int .i64 z)) (by omega)) (And.intro (by show some (Value.int .i64 (min (min (getM m (gl l 1).1 (gl l 1).2) (amt (getM m) (gl l) (2 * k + 1))) (getM m (gl l (2 * k + 1)).1 (gl l (2 * k + 1)).2))) = some (Value.int .i64 (min _ (amt (getM m) (gl l) (2 * k + 3)))); rw [amt_2]; exact congrArg (fun z => some (Value.int .i64 z)) (by omega)) True.intro)) (by repeat (first | exact True.intro | refine And.intro rfl ?_)) (by repeat (first | exact List.Sublist.slnil | exact List.nil_sublist _ | exact List.Sublist.refl _ | refine List.Sublist.cons_cons _ ?_ | refine List.Sublist.cons _ ?_ | refine List.Sublist.trans ?_ (List.sublist_append_right _ _))) (by omega) (by omega)
          · skip
            refine TC.exit ?_
            refine TQ.thenE ?_
            refine TQ.thenE ?_
            refine TQ.blkS ?_
            refine TQ.thenC ?_
            refine TC.seq ?_
            have hke : (min (getM m (gl l 1).1 (gl l 1).2) (amt (getM m) (gl l) (2 * k + 1))) = (amt (getM m) (gl l) l.length) := by
              have h1 : 2 * k + 1 = l.length + 1 := by omega
              rw [h1, amt_e _ _ hle]
              have := amt_le (x := getM m) (g := gl l) l.length (t := 1) (by omega) (by decide)
              omega
            rw [hke]
            refine TC.region ?_
            refine TL.pure (PV.move rfl) rfl (by decide) ?_
            refine TL.call rfl Tb.gofn_42 (fun a w hs => copyTable_ok w _ m (IsG.of (g1.new hs.new)) hM) rfl (by decide) (fun y9 hy9 => ?_)
            rw [hV.g.len]
            refine TL.pure (PV.assign rfl) rfl (by decide) ?_
            refine TL.nil ?_
            refine TQ.thenC ?_
            refine TC.seq ?_
            refine TC.seq ?_
            refine TC.region ?_
            refine TL.pure (PV.assign rfl) rfl (by decide) ?_
            refine TL.nil ?_
            refine TQ.thenC ?_
            refine TC.block ?_
            refine TC.lit [(2, _), (11, _), (13, _), (14, _)] (by repeat (first | exact True.intro | refine And.intro rfl ?_)) ?_
            refine TC.loopK [2, 6, 7, 8, 11, 13] (X := Nat × List RW) (fun x => 2 * x.1 ≤ l.length ∧ TbS t.s.length t.d.length (alo (getM m) (2 * x.1) (gl l) (amt (getM m) (gl l) l.length)) y9.1 x.2) (fun x => [(14, .int .i64 (2 * x.1 : Nat))]) (fun x => gbR rwR 22 y9.1 x.2 ++ (rwB x.2 ++ [(b0, Obj.cells #[.slice p1 t.s.length c1, .slice p2 t.d.length c2, .slice p3 t.c.length c3] 25 (0, 0))])) (fun x => l.length - x.1) (0, y9.2) ⟨Nat.zero_le _, TbS.of hy9.1 hy9.2.1 (hy9.2.2.trans ((tab_self hV.g).trans (tab_congr fun i j _ _ => alo_0 _ (gl l) (amt (getM m) (gl l) l.length) i j)))⟩ (by repeat (first | exact True.intro | refine And.intro rfl ?_)) (by rw [← List.append_assoc]; exact List.Sublist.refl _) ?_
            intro x hx9
            refine TC.lit [(2, _), (11, _), (13, _), (14, _)] (by repeat (first | exact True.intro | refine And.intro rfl ?_)) ?_
            refine TC.seq ?_
            refine TC.seq ?_
            refine TC.region ?_
            refine TL.pure (PV.move rfl) rfl (by decide) ?_
            refine TL.pure (PV.move rfl) rfl (by decide) ?_
            refine TL.pure (PV.len rfl Tb.sl_49) rfl (by decide) ?_
            refine TL.pure (PV.lss rfl rfl) rfl (by decide) ?_
            refine TL.nil ?_
            refine TQ.thenC ?_
            first | refine TC.condD rfl (fun hlt3 => ?_) (fun hlt3 => ?_) | refine TC.cond rfl (fun hlt3 => ?_) (fun hlt3 => ?_)
            · skip
              refine TC.skip ?_
              refine TQ.thenC ?_
              refine TC.seq ?_
              refine TC.block ?_
              refine TC.seq ?_
              obtain ⟨q7, hq7p, hq7a, hq7b⟩ := prAt (n := l.length) (g := gl l) hl9 (k := (2 * x.1)) (by omega)
              have hts22 := hx9.2
              have hxl22 := hts22.len
              have hik22 := hin (2 * x.1) (by omega)
              have hro22 := hts22.rk (i := ((gl l (2 * x.1)).1)) (by omega)
              have hrl22 := hts22.rl (i := ((gl l (2 * x.1)).1)) (by omega)
              have hvb22 := alo_bd (g := gl l) (a := (amt (getM m) (gl l) l.length)) hV.g (k := (2 * x.1)) (by omega) hab (i := ((gl l (2 * x.1)).1)) (j := ((gl l (2 * x.1)).2)) (by omega) (by omega)
              rw [rwB_at (show ((gl l (2 * x.1)).1) < x.2.length by omega)]
              refine TC.draw 18 Tb.mixed (by kernel_rfl) ?_
              simp only [List.take_succ_cons, List.take_zero, List.drop_succ_cons, List.drop_zero]
              refine TS.pure (PV.move rfl) rfl (by decide) ?_
              refine TS.pure (PV.move rfl) rfl (by decide) ?_
              refine TS.pure (PV.move rfl) rfl (by decide) ?_
              refine TS.pure (PV.indexA (j := (2 * x.1)) rfl hq7p rfl Tb.elm_49 rfl (by omega)) rfl (by decide) ?_
              refine TS.pure (PV.indexArrA (j := 0) rfl rfl arr_84 rfl (by decide)) rfl (by decide) ?_
              refine TS.pure (PV.loadOld rfl Tb.one_3 hq7a) rfl (by decide) ?_
              refine TS.pure (PV.indexG (h := y9.1) (len := t.s.length) (ys := rcs rwR x.2) (j := ((gl l (2 * x.1)).1)) rfl rfl hts22.gk Tb.elm_23 rfl (by omega)) rfl (by decide) ?_
              refine TS.pure (PV.loadRecF (R := rwR) (h := y9.1) (l := x.2) (j := ((gl l (2 * x.1)).1)) (f := 0) (v := gval (x.2.getD ((gl l (2 * x.1)).1) default).h (x.2.getD ((gl l (2 * x.1)).1) default).l.length) (e := 22) rfl Tb.one_22 (fun yy hyy => by repeat (first | exact List.mem_append_left _ hyy | exact List.mem_append_left _ (List.mem_append_right _ hyy) | exact List.mem_append_left _ (List.mem_append_left _ hyy) | refine List.mem_append_right _ ?_ | refine List.Mem.tail _ ?_)) hts22.go (by omega) Nat.one_pos rfl) rfl (by decide) ?_
              refine TS.pure (PV.move rfl) rfl (by decide) ?_
              refine TS.pure (PV.move rfl) rfl (by decide) ?_
              refine TS.pure (PV.indexA (j := (2 * x.1)) rfl hq7p rfl Tb.elm_49 rfl (by omega)) rfl (by decide) ?_
              refine TS.pure (PV.indexArrA (j := 1) rfl rfl arr_84 rfl (by decide)) rfl (by decide) ?_
              refine TS.pure (PV.loadOld rfl Tb.one_3 hq7b) rfl (by decide) ?_
              refine TS.pure (PV.indexG (h := (x.2.getD ((gl l (2 * x.1)).1) default).h) (len := (x.2.getD ((gl l (2 * x.1)).1) default).l.length) (ys := ival (x.2.getD ((gl l (2 * x.1)).1) default).l) (j := ((gl l (2 * x.1)).2)) rfl rfl hro22 Tb.elm_22 rfl (by omega)) rfl (by decide) ?_
              refine TS.pure (PV.loadGI (y := ((x.2.getD ((gl l (2 * x.1)).1) default).h, (x.2.getD ((gl l (2 * x.1)).1) default).l)) (j := ((gl l (2 * x.1)).2)) (v := (alo (getM m) ((2 * x.1)) (gl l) (amt (getM m) (gl l) l.length) ((gl l (2 * x.1)).1) ((gl l (2 * x.1)).2))) rfl Tb.one_3 (fun yy hyy => by repeat (first | exact List.mem_append_left _ hyy | exact List.mem_append_left _ (List.mem_append_right _ hyy) | exact List.mem_append_left _ (List.mem_append_left _ hyy) | refine List.mem_append_right _ ?_ | refine List.Mem.tail _ ?_)) hro22 (by show _ < (x.2.getD ((gl l (2 * x.1)).1) default).l.length; omega) (hts22.va (by omega) (by omega))) rfl (by decide) ?_
              refine TS.pure (PV.move rfl) rfl (by decide) ?_
              refine TS.pure (PV.add rfl rfl (by omega)) rfl (by decide) ?_
              refine TS.pure (PV.indexG (h := (x.2.getD ((gl l (2 * x.1)).1) default).h) (len := (x.2.getD ((gl l (2 * x.1)).1) default).l.length) (ys := ival (x.2.getD ((gl l (2 * x.1)).1) default).l) (j := ((gl l (2 * x.1)).2)) rfl rfl hro22 Tb.elm_22 rfl (by omega)) rfl (by decide) ?_
              refine TS.nil ?_
              refine TL.putI (h := (x.2.getD ((gl l (2 * x.1)).1) default).h) (xs := (x.2.getD ((gl l (2 * x.1)).1) default).l) (xs' := (x.2.getD ((gl l (2 * x.1)).1) default).l.set ((gl l (2 * x.1)).2) ((alo (getM m) ((2 * x.1)) (gl l) (amt (getM m) (gl l) l.length) ((gl l (2 * x.1)).1) ((gl l (2 * x.1)).2)) + (amt (getM m) (gl l) l.length))) (j := ((gl l (2 * x.1)).2)) rfl rfl Tb.cells_3 hro22 rfl (by repeat (first | exact PutH.here _ _ _ _ | apply PutH.tail | apply PutH.app)) (by omega) rfl rfl ?_
              obtain ⟨r1, hr1⟩ : ∃ z, z = rwS x.2 ((gl l (2 * x.1)).1) ((gl l (2 * x.1)).2) ((alo (getM m) ((2 * x.1)) (gl l) (amt (getM m) (gl l) l.length) ((gl l (2 * x.1)).1) ((gl l (2 * x.1)).2)) + (amt (getM m) (gl l) l.length)) := ⟨_, rfl⟩
              refine TL.congrG (G' := gbR rwR 22 y9.1 r1 ++ (rwB r1 ++ [(b0, Obj.cells #[.slice p1 t.s.length c1, .slice p2 t.d.length c2, .slice p3 t.c.length c3] 25 (0, 0))])) (by rw [hr1]; exact (rwS_blk (h := y9.1) (by omega) _ _ _).symm) ?_
              have hst22 : TbS t.s.length t.d.length (alo (getM m) ((2 * x.1) + 1) (gl l) (amt (getM m) (gl l) l.length)) y9.1 r1 := by rw [hr1]; exact hts22.set (by omega) (by omega) (alo_e (by omega)).symm (fun p q hp hq hne => alo_other hne)
              refine TL.nil ?_
              refine TQ.thenC ?_
              obtain ⟨q8, hq8p, hq8a, hq8b⟩ := prAt (n := l.length) (g := gl l) hl9 (k := (2 * x.1 + 1)) (by omega)
              have hts23 := hst22
              have hxl23 := hts23.len
              have hik23 := hin (2 * x.1 + 1) (by omega)
              have hro23 := hts23.rk (i := ((gl l (2 * x.1 + 1)).1)) (by omega)
              have hrl23 := hts23.rl (i := ((gl l (2 * x.1 + 1)).1)) (by omega)
              have hvb23 := alo_bd (g := gl l) (a := (amt (getM m) (gl l) l.length)) hV.g (k := (2 * x.1 + 1)) (by omega) hab (i := ((gl l (2 * x.1 + 1)).1)) (j := ((gl l (2 * x.1 + 1)).2)) (by omega) (by omega)
              rw [rwB_at (show ((gl l (2 * x.1 + 1)).1) < r1.length by omega)]
              refine TC.draw 20 Tb.mixed (by kernel_rfl) ?_
              simp only [List.take_succ_cons, List.take_zero, List.drop_succ_cons, List.drop_zero]
              refine TS.pure (PV.move rfl) rfl (by decide) ?_
              refine TS.pure (PV.move rfl) rfl (by decide) ?_
              refine TS.pure (PV.move rfl) rfl (by decide) ?_
              refine TS.pure (PV.add rfl rfl (by omega)) rfl (by decide) ?_
              refine TS.pure (PV.indexA (j := (2 * x.1 + 1)) rfl hq8p rfl Tb.elm_49 rfl (by omega)) rfl (by decide) ?_
              refine TS.pure (PV.indexArrA (j := 0) rfl rfl arr_84 rfl (by decide)) rfl (by decide) ?_
              refine TS.pure (PV.loadOld rfl Tb.one_3 hq8a) rfl (by decide) ?_
              refine TS.pure (PV.indexG (h := y9.1) (len := t.s.length) (ys := rcs rwR r1) (j := ((gl l (2 * x.1 + 1)).1)) rfl rfl hts23.gk Tb.elm_23 rfl (by omega)) rfl (by decide) ?_
              refine TS.pure (PV.loadRecF (R := rwR) (h := y9.1) (l := r1) (j := ((gl l (2 * x.1 + 1)).1)) (f := 0) (v := gval (r1.getD ((gl l (2 * x.1 + 1)).1) default).h (r1.getD ((gl l (2 * x.1 + 1)).1) default).l.length) (e := 22) rfl Tb.one_22 (fun yy hyy => by repeat (first | exact List.mem_append_left _ hyy | exact List.mem_append_left _ (List.mem_append_right _ hyy) | exact List.mem_append_left _ (List.mem_append_left _ hyy) | refine List.mem_append_right _ ?_ | refine List.Mem.tail _ ?_)) hts23.go (by omega) Nat.one_pos rfl) rfl (by decide) ?_
              refine TS.pure (PV.move rfl) rfl (by decide) ?_
              refine TS.pure (PV.move rfl) rfl (by decide) ?_
              refine TS.pure (PV.add rfl rfl (by omega)) rfl (by decide) ?_
              refine TS.pure (PV.indexA (j := (2 * x.1 + 1)) rfl hq8p rfl Tb.elm_49 rfl (by omega)) rfl (by decide) ?_
              refine TS.pure (PV.indexArrA (j := 1) rfl rfl arr_84 rfl (by decide)) rfl (by decide) ?_
              refine TS.pure (PV.loadOld rfl Tb.one_3 hq8b) rfl (by decide) ?_
              refine TS.pure (PV.indexG (h := (r1.getD ((gl l (2 * x.1 + 1)).1) default).h) (len := (r1.getD ((gl l (2 * x.1 + 1)).1) default).l.length) (ys := ival (r1.getD ((gl l (2 * x.1 + 1)).1) default).l) (j := ((gl l (2 * x.1 + 1)).2)) rfl rfl hro23 Tb.elm_22 rfl (by omega)) rfl (by decide) ?_
              refine TS.pure (PV.loadGI (y := ((r1.getD ((gl l (2 * x.1 + 1)).1) default).h, (r1.getD ((gl l (2 * x.1 + 1)).1) default).l)) (j := ((gl l (2 * x.1 + 1)).2)) (v := (alo (getM m) ((2 * x.1 + 1)) (gl l) (amt (getM m) (gl l) l.length) ((gl l (2 * x.1 + 1)).1) ((gl l (2 * x.1 + 1)).2))) rfl Tb.one_3 (fun yy hyy => by repeat (first | exact List.mem_append_left _ hyy | exact List.mem_append_left _ (List.mem_append_right _ hyy) | exact List.mem_append_left _ (List.mem_append_left _ hyy) | refine List.mem_append_right _ ?_ | refine List.Mem.tail _ ?_)) hro23 (by show _ < (r1.getD ((gl l (2 * x.1 + 1)).1) default).l.length; omega) (hts23.va (by omega) (by omega))) rfl (by decide) ?_
              refine TS.pure (PV.move rfl) rfl (by decide) ?_
              refine TS.pure (PV.sub rfl rfl (by omega)) rfl (by decide) ?_
              refine TS.pure (PV.indexG (h := (r1.getD ((gl l (2 * x.1 + 1)).1) default).h) (len := (r1.getD ((gl l (2 * x.1 + 1)).1) default).l.length) (ys := ival (r1.getD ((gl l (2 * x.1 + 1)).1) default).l) (j := ((gl l (2 * x.1 + 1)).2)) rfl rfl hro23 Tb.elm_22 rfl (by omega)) rfl (by decide) ?_
              refine TS.nil ?_
              refine TL.putI (h := (r1.getD ((gl l (2 * x.1 + 1)).1) default).h) (xs := (r1.getD ((gl l (2 * x.1 + 1)).1) default).l) (xs' := (r1.getD ((gl l (2 * x.1 + 1)).1) default).l.set ((gl l (2 * x.1 + 1)).2) ((alo (getM m) ((2 * x.1 + 1)) (gl l) (amt (getM m) (gl l) l.length) ((gl l (2 * x.1 + 1)).1) ((gl l (2 * x.1 + 1)).2)) - (amt (getM m) (gl l) l.length))) (j := ((gl l (2 * x.1 + 1)).2)) rfl rfl Tb.cells_3 hro23 rfl (by repeat (first | exact PutH.here _ _ _ _ | apply PutH.tail | apply PutH.app)) (by omega) rfl rfl ?_
              obtain ⟨r2, hr2⟩ : ∃ z, z = rwS r1 ((gl l (2 * x.1 + 1)).1) ((gl l (2 * x.1 + 1)).2) ((alo (getM m) ((2 * x.1 + 1)) (gl l) (amt (getM m) (gl l) l.length) ((gl l (2 * x.1 + 1)).1) ((gl l (2 * x.1 + 1)).2)) - (amt (getM m) (gl l) l.length)) := ⟨_, rfl⟩
              refine TL.congrG (G' := gbR rwR 22 y9.1 r2 ++ (rwB r2 ++ [(b0, Obj.cells #[.slice p1 t.s.length c1, .slice p2 t.d.length c2, .slice p3 t.c.length c3] 25 (0, 0))])) (by rw [hr2]; exact (rwS_blk (h := y9.1) (by omega) _ _ _).symm) ?_
              have hst23 : TbS t.s.length t.d.length (alo (getM m) ((2 * x.1 + 1) + 1) (gl l) (amt (getM m) (gl l) l.length)) y9.1 r2 := by rw [hr2]; exact hts23.set (by omega) (by omega) (alo_o (by omega)).symm (fun p q hp hq hne => alo_other hne)
              refine TL.nil ?_
              refine TQ.blkN ?_
              refine TQ.thenC ?_
              refine TC.region ?_
              refine TL.pure (PV.move rfl) rfl (by decide) ?_
              refine TL.pure (PV.add rfl rfl (by omega)) rfl (by decide) ?_
              refine TL.pure (PV.assign rfl) rfl (by decide) ?_
              refine TL.nil ?_
              refine TQ.thenN ?_
              refine TQ.backK (x.1 + 1, r2) (And.intro (by show some (Value.int .i64 (((2 * x.1 : Nat) : Int) + 2)) = some (Value.int .i64 ((2 * (x.1 + 1) : Nat) : Int)); exact congrArg (fun z => some (Value.int .i64 z)) (by omega)) True.intro) (by repeat (first | exact True.intro | refine And.intro rfl ?_)) (List.Sublist.refl _) ⟨by simp only; omega, hst23⟩ (by simp only; omega)
            · skip
              refine TC.exit ?_
              refine TQ.thenE ?_
              refine TQ.thenE ?_
              refine TQ.blkS ?_
              refine TQ.thenC ?_
              refine TC.seq ?_
              have hxe : 2 * x.1 = l.length := by omega
              have hx8 := hx9.2
              rw [hxe] at hx8
              refine TC.region ?_
              refine TL.pure (PV.move rfl) rfl (by decide) ?_
              refine TL.pure (PV.move rfl) rfl (by decide) ?_
              refine TL.pure (PV.assign rfl) rfl (by decide) ?_
              refine TL.pure (PV.assign rfl) rfl (by decide) ?_
              refine TL.pure (PV.assign rfl) rfl (by decide) ?_
              refine TL.nil ?_
              refine TQ.thenC ?_
              refine TC.ret ?_
              refine TQ.retE3 rfl rfl rfl rfl ?_
              have e9 : aloR t m l = (aloT t.s.length t.d.length m l.length (gl l), amt (getM m) (gl l) l.length, 0) := by unfold aloR; rw [if_neg a1, if_neg hrn]
              exact ⟨(gval y9.1 t.s.length, gbR rwR 22 y9.1 x.2 ++ rwB x.2), by rw [e9], by rw [e9]; exact RdG.tb hx8, by rw [← List.append_assoc]; exact List.sublist_append_left _ _⟩

end Go.Proofs.Ytghlkndanpegbaa
