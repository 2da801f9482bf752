/- The law of trades turned: contract. -/
import Derived.Test.YtghlkndanpegbaaBx
set_option linter.unusedVariables false
set_option linter.unusedSimpArgs false
namespace Go.Proofs.Ytghlkndanpegbaa
open Go.Sx Go.RowKit Go.Sand Go.Tp

theorem LsG.len1 {m : List (List Int)} (h : m.length ≤ 9223372036854775807) (k : Nat) : (([m] : List (List (List Int))).getD k []).length ≤ 9223372036854775807 := by
  match k with
  | 0 => exact h
  | k + 1 => simp [List.getD]
theorem len0 (k : Nat) : (([] : List (List (List Int))).getD k []).length ≤ 9223372036854775807 := by simp [List.getD]


set_option maxRecDepth 100000 in
set_option maxHeartbeats 4000000 in
theorem bulkTurns_ok (w0 : World) (vt : Value) (t : Td) (ht : IsT w0 vt t) (hlc : t.c.length ≤ 9223372036854775807) (vg : Value) (m : List (List Int)) (hg : IsG w0 vg m) (hlm : m.length ≤ 9223372036854775807) :
    Calls Try.prog 13 #[vt, vg] w0 (Post (X := Unit) (fun _ => .bool true) (fun _ => True) (fun _ => []) w0) := by
  obtain ⟨p1, c1, p2, c2, p3, c3, rfl, t1, t2, t3⟩ := ht
  have hg0 := hg
  obtain ⟨pg, cg, rfl, g1⟩ := hg
  refine calls Try.func13 rfl (n := 97) rfl (by simp) ?_
  refine TC.seq ?_
  refine TC.region ?_
  refine TL.box rfl rfl (by decide) (fun b0 hb0 => ?_)
  refine TL.pure (PV.assign rfl) rfl (by decide) ?_
  refine TL.nil ?_
  refine TQ.thenC ?_
  refine TC.seq ?_
  refine TC.seq ?_
  refine TC.region ?_
  refine TL.pure (PV.loadBox rfl Tb.agg_25 (by repeat (first | exact List.Mem.head _ | refine List.Mem.tail _ ?_ | refine List.mem_append_right _ ?_)) rfl) rfl (by decide) ?_
  refine TL.pure (PV.move rfl) rfl (by decide) ?_
  refine TL.buildSlice (cs := #[.slice pg m.length cg]) rfl Tb.sl_63 Tb.zi_23 (by decide) (fill_o _ _ _) (by decide) rfl (by decide) (fun bs hbs => ?_)
  refine TL.call rfl Tb.gofn_17 (fun a w hs => long_ok w _ t (IsT.mk (t1.new hs.new) (t2.new hs.new) (t3.new hs.new)) hlc (some ⟨bs, 0, none⟩) 1 [m] (LsG.one hs.new (by repeat (first | exact List.Mem.head _ | refine List.Mem.tail _ ?_ | refine List.mem_append_right _ ?_)) (g1.new hs.new)) (LsG.len1 hlm) (by show 1 ≤ 1000; decide)) rfl (by decide) (fun _ _ => ?_)
  refine TL.nil ?_
  refine TQ.thenC ?_
  first | refine TC.condD rfl (fun hlg => ?_) (fun hlg => ?_) | refine TC.cond rfl (fun hlg => ?_) (fun hlg => ?_)
  · skip
    refine TC.seq ?_
    refine TC.region ?_
    refine TL.call rfl Tb.gofn_18 (fun a w hs => sane_ok w) rfl (by decide) (fun _ _ => ?_)
    refine TL.pure (PV.assign rfl) rfl (by decide) ?_
    refine TL.nil ?_
    refine TQ.thenC ?_
    refine TC.ret ?_
    refine TQ.thenR ?_
    refine TQ.retE1 rfl rfl ?_
    first | exact ⟨(), rfl, trivial, List.nil_sublist _⟩ | (exfalso; simp_all; done) | (exfalso; simp_all; omega) | exact ⟨(), by simp, trivial, List.nil_sublist _⟩
  · skip
    refine TC.skip ?_
    refine TQ.thenC ?_
    refine TC.seq ?_
    have hT := (lgT_0 hlg).1
    have hM := (lgT_0 hlg).2 m (by simp)
    refine TC.region ?_
    refine TL.pure (PV.loadBox rfl Tb.agg_25 (by repeat (first | exact List.Mem.head _ | refine List.Mem.tail _ ?_ | refine List.mem_append_right _ ?_)) rfl) rfl (by decide) ?_
    refine TL.call rfl Tb.gofn_47 (fun a w hs => Turn_ok w _ t (IsT.mk (t1.new hs.new) (t2.new hs.new) (t3.new hs.new)) hT) rfl (by decide) (fun y8 hy8 => ?_)
    obtain ⟨y81, y82, y83, y84, y85, y86, ey8, ry8⟩ := id hy8
    rw [ey8]
    refine TL.pure (PV.move rfl) rfl (by decide) ?_
    refine TL.pure (PV.extract rfl rfl) rfl (by decide) ?_
    refine TL.pure (PV.extract rfl rfl) rfl (by decide) ?_
    refine TL.alloc Tb.zero_25 rfl (by decide) (fun bq hbq => ?_)
    refine TL.storeAgg (vs := [.slice y81 (turnR t).1.s.length y82, .slice y83 (turnR t).1.d.length y84, .slice y85 (turnR t).1.c.length y86]) rfl rfl Tb.cells_25 (by repeat (first | exact Upd.head _ | apply Upd.tail | apply Upd.appR)) rfl rfl (all_sss _ _ _ _ _ _ _ _ _) rfl rfl ?_
    refine TL.pure (PV.assign rfl) rfl (by decide) ?_
    refine TL.nil ?_
    refine TQ.thenC ?_
    refine TC.seq ?_
    refine TC.region ?_
    refine TL.pure (PV.loadBox rfl Tb.agg_25 (by repeat (first | exact List.Mem.head _ | refine List.Mem.tail _ ?_ | refine List.mem_append_right _ ?_)) rfl) rfl (by decide) ?_
    refine TL.call rfl Tb.gofn_48 (fun a w hs => rTurn_ok w _ t (IsT.mk (t1.new hs.new) (t2.new hs.new) (t3.new hs.new)) hT) rfl (by decide) (fun y9 hy9 => ?_)
    obtain ⟨y91, y92, y93, y94, y95, y96, ey9, ry9⟩ := id hy9
    rw [ey9]
    refine TL.pure (PV.move rfl) rfl (by decide) ?_
    refine TL.pure (PV.extract rfl rfl) rfl (by decide) ?_
    refine TL.pure (PV.extract rfl rfl) rfl (by decide) ?_
    refine TL.alloc Tb.zero_25 rfl (by decide) (fun br hbr => ?_)
    refine TL.storeAgg (vs := [.slice y91 (turnR t).1.s.length y92, .slice y93 (turnR t).1.d.length y94, .slice y95 (turnR t).1.c.length y96]) rfl rfl Tb.cells_25 (by repeat (first | exact Upd.head _ | apply Upd.tail | apply Upd.appR)) rfl rfl (all_sss _ _ _ _ _ _ _ _ _) rfl rfl ?_
    refine TL.pure (PV.assign rfl) rfl (by decide) ?_
    refine TL.nil ?_
    refine TQ.thenC ?_
    refine TC.seq ?_
    refine TC.seq ?_
    refine TC.region ?_
    refine TL.pure (PV.loadBox (cs := [.slice y81 (turnR t).1.s.length y82, .slice y83 (turnR t).1.d.length y84, .slice y85 (turnR t).1.c.length y86]) rfl Tb.agg_25 (by repeat (first | exact List.Mem.head _ | refine List.Mem.tail _ ?_ | refine List.mem_append_right _ ?_)) rfl) rfl (by decide) ?_
    refine TL.pure (PV.loadBox (cs := [.slice y91 (turnR t).1.s.length y92, .slice y93 (turnR t).1.d.length y94, .slice y95 (turnR t).1.c.length y96]) rfl Tb.agg_25 (by repeat (first | exact List.Mem.head _ | refine List.Mem.tail _ ?_ | refine List.mem_append_right _ ?_)) rfl) rfl (by decide) ?_
    refine TL.call rfl Tb.gofn_46 (fun a w hs => Same_ok w _ _ (RdT.at' ey8 hy8 hs.new (fun yy hyy => by repeat (first | exact List.mem_append_left _ hyy | exact List.mem_append_left _ (List.mem_append_right _ hyy) | exact List.mem_append_left _ (List.mem_append_left _ hyy) | refine List.mem_append_right _ ?_ | refine List.Mem.tail _ ?_))) (tur_sm hT) _ _ (RdT.at' ey9 hy9 hs.new (fun yy hyy => by repeat (first | exact List.mem_append_left _ hyy | exact List.mem_append_left _ (List.mem_append_right _ hyy) | exact List.mem_append_left _ (List.mem_append_left _ hyy) | refine List.mem_append_right _ ?_ | refine List.Mem.tail _ ?_))) (tur_sm hT)) rfl (by decide) (fun _ _ => ?_)
    rw [eqT_self]
    refine TL.pure ((by first | exact PV.notD rfl | exact PV.not rfl)) rfl (by decide) ?_
    refine TL.pure (PV.move rfl) rfl (by decide) ?_
    first | refine TL.splitD 36 rfl (fun e0 => ?_) (fun e0 => ?_) | refine TL.split 36 rfl (fun e0 => ?_) (fun e0 => ?_)
    · skip
      refine TL.skip rfl (fun k hk => by cases hk; decide) ?_
      refine TL.skip rfl (fun k hk => by cases hk; decide) ?_
      refine TL.skip rfl (fun k hk => by cases hk; decide) ?_
      refine TL.pure (PV.pickT rfl rfl) rfl (by decide) ?_
      refine TL.nil ?_
      refine TQ.thenC ?_
      refine TC.condT rfl ?_
      refine TC.seq ?_
      refine TC.region ?_
      refine TL.pure (PV.assign rfl) rfl (by decide) ?_
      refine TL.nil ?_
      refine TQ.thenC ?_
      refine TC.ret ?_
      refine TQ.thenR ?_
      refine TQ.retE1 rfl rfl ?_
      first | exact ⟨(), rfl, trivial, List.nil_sublist _⟩ | (exfalso; simp_all; done) | (exfalso; simp_all; omega) | exact ⟨(), by simp, trivial, List.nil_sublist _⟩
    · skip
      refine TL.pure (PV.move rfl) rfl (by decide) ?_
      refine TL.pure (PV.move rfl) rfl (by decide) ?_
      refine TL.pure (PV.neq rfl rfl) rfl (by decide) ?_
      refine TL.pure (PV.pickF rfl rfl) rfl (by decide) ?_
      refine TL.nil ?_
      refine TQ.thenC ?_
      first | refine TC.condD rfl (fun e1 => ?_) (fun e1 => ?_) | refine TC.cond rfl (fun e1 => ?_) (fun e1 => ?_)
      · skip
        refine TC.seq ?_
        refine TC.region ?_
        refine TL.pure (PV.assign rfl) rfl (by decide) ?_
        refine TL.nil ?_
        refine TQ.thenC ?_
        refine TC.ret ?_
        refine TQ.thenR ?_
        refine TQ.retE1 rfl rfl ?_
        first | exact ⟨(), rfl, trivial, List.nil_sublist _⟩ | (exfalso; simp_all; done) | (exfalso; simp_all; omega) | exact ⟨(), by simp, trivial, List.nil_sublist _⟩
      · skip
        refine TC.skip ?_
        refine TQ.thenC ?_
        refine TC.seq ?_
        refine TC.seq ?_
        refine TC.region ?_
        refine TL.pure (PV.move rfl) rfl (by decide) ?_
        refine TL.pure (PV.neq rfl rfl) rfl (by decide) ?_
        refine TL.nil ?_
        refine TQ.thenC ?_
        first | refine TC.condD rfl (fun e2 => ?_) (fun e2 => ?_) | refine TC.cond rfl (fun e2 => ?_) (fun e2 => ?_)
        · skip
          refine TC.seq ?_
          refine TC.region ?_
          refine TL.call rfl Tb.gofn_18 (fun a w hs => sane_ok w) rfl (by decide) (fun _ _ => ?_)
          refine TL.pure (PV.assign rfl) rfl (by decide) ?_
          refine TL.nil ?_
          refine TQ.thenC ?_
          refine TC.ret ?_
          refine TQ.thenR ?_
          refine TQ.retE1 rfl rfl ?_
          first | exact ⟨(), rfl, trivial, List.nil_sublist _⟩ | (exfalso; simp_all; done) | (exfalso; simp_all; omega) | exact ⟨(), by simp, trivial, List.nil_sublist _⟩
        · skip
          refine TC.skip ?_
          refine TQ.thenC ?_
          refine TC.seq ?_
          have hvl := tur_v (by simpa using e2)
          obtain ⟨el1, el2⟩ := tur_l hvl
          refine TC.region ?_
          refine TL.pure (PV.loadBox (cs := [.slice y81 (turnR t).1.s.length y82, .slice y83 (turnR t).1.d.length y84, .slice y85 (turnR t).1.c.length y86]) rfl Tb.agg_25 (by repeat (first | exact List.Mem.head _ | refine List.Mem.tail _ ?_ | refine List.mem_append_right _ ?_)) rfl) rfl (by decide) ?_
          refine TL.call rfl Tb.gofn_28 (fun a w hs => Least_ok w _ _ (RdT.at' ey8 hy8 hs.new (fun yy hyy => by repeat (first | exact List.mem_append_left _ hyy | exact List.mem_append_left _ (List.mem_append_right _ hyy) | exact List.mem_append_left _ (List.mem_append_left _ hyy) | refine List.mem_append_right _ ?_ | refine List.Mem.tail _ ?_))) (tur_sm hT)) rfl (by decide) (fun _ _ => ?_)
          rw [el1]
          refine TL.pure (PV.move rfl) rfl (by decide) ?_
          refine TL.pure (PV.extract rfl rfl) rfl (by decide) ?_
          refine TL.pure (PV.extract rfl rfl) rfl (by decide) ?_
          refine TL.pure (PV.assign rfl) rfl (by decide) ?_
          refine TL.pure (PV.assign rfl) rfl (by decide) ?_
          refine TL.nil ?_
          refine TQ.thenC ?_
          refine TC.seq ?_
          refine TC.region ?_
          refine TL.pure (PV.loadBox rfl Tb.agg_25 (by repeat (first | exact List.Mem.head _ | refine List.Mem.tail _ ?_ | refine List.mem_append_right _ ?_)) rfl) rfl (by decide) ?_
          refine TL.call rfl Tb.gofn_28 (fun a w hs => Least_ok w _ t (IsT.mk (t1.new hs.new) (t2.new hs.new) (t3.new hs.new)) hT) rfl (by decide) (fun _ _ => ?_)
          rw [el2]
          refine TL.pure (PV.move rfl) rfl (by decide) ?_
          refine TL.pure (PV.extract rfl rfl) rfl (by decide) ?_
          refine TL.pure (PV.extract rfl rfl) rfl (by decide) ?_
          refine TL.pure (PV.assign rfl) rfl (by decide) ?_
          refine TL.pure (PV.assign rfl) rfl (by decide) ?_
          refine TL.nil ?_
          refine TQ.thenC ?_
          refine TC.seq ?_
          refine TC.seq ?_
          refine TC.region ?_
          refine TL.pure (PV.move rfl) rfl (by decide) ?_
          refine TL.pure (PV.neq rfl rfl) rfl (by decide) ?_
          refine TL.pure (PV.move rfl) rfl (by decide) ?_
          first | refine TL.splitD 56 rfl (fun e3 => ?_) (fun e3 => ?_) | refine TL.split 56 rfl (fun e3 => ?_) (fun e3 => ?_)
          · skip
            refine TL.skip rfl (fun k hk => by cases hk; decide) ?_
            refine TL.skip rfl (fun k hk => by cases hk; decide) ?_
            refine TL.pure (PV.pickT rfl rfl) rfl (by decide) ?_
            refine TL.pure (PV.move rfl) rfl (by decide) ?_
            refine TL.skip rfl (fun k hk => by cases hk; decide) ?_
            refine TL.skip rfl (fun k hk => by cases hk; decide) ?_
            refine TL.skip rfl (fun k hk => by cases hk; decide) ?_
            refine TL.pure (PV.pickT rfl rfl) rfl (by decide) ?_
            refine TL.nil ?_
            refine TQ.thenC ?_
            refine TC.condT rfl ?_
            refine TC.seq ?_
            refine TC.region ?_
            refine TL.pure (PV.assign rfl) rfl (by decide) ?_
            refine TL.nil ?_
            refine TQ.thenC ?_
            refine TC.ret ?_
            refine TQ.thenR ?_
            refine TQ.retE1 rfl rfl ?_
            first | exact ⟨(), rfl, trivial, List.nil_sublist _⟩ | (exfalso; simp_all; done) | (exfalso; simp_all; omega) | exact ⟨(), by simp, trivial, List.nil_sublist _⟩
          · skip
            refine TL.pure (PV.move rfl) rfl (by decide) ?_
            refine TL.pure (PV.neq rfl rfl) rfl (by decide) ?_
            refine TL.pure (PV.pickF rfl rfl) rfl (by decide) ?_
            refine TL.pure (PV.move rfl) rfl (by decide) ?_
            first | refine TL.splitD 60 rfl (fun e4 => ?_) (fun e4 => ?_) | refine TL.split 60 rfl (fun e4 => ?_) (fun e4 => ?_)
            · skip
              refine TL.skip rfl (fun k hk => by cases hk; decide) ?_
              refine TL.skip rfl (fun k hk => by cases hk; decide) ?_
              refine TL.skip rfl (fun k hk => by cases hk; decide) ?_
              refine TL.pure (PV.pickT rfl rfl) rfl (by decide) ?_
              refine TL.nil ?_
              refine TQ.thenC ?_
              refine TC.condT rfl ?_
              refine TC.seq ?_
              refine TC.region ?_
              refine TL.pure (PV.assign rfl) rfl (by decide) ?_
              refine TL.nil ?_
              refine TQ.thenC ?_
              refine TC.ret ?_
              refine TQ.thenR ?_
              refine TQ.retE1 rfl rfl ?_
              first | exact ⟨(), rfl, trivial, List.nil_sublist _⟩ | (exfalso; simp_all; done) | (exfalso; simp_all; omega) | exact ⟨(), by simp, trivial, List.nil_sublist _⟩
            · skip
              refine TL.pure (PV.move rfl) rfl (by decide) ?_
              refine TL.pure (PV.move rfl) rfl (by decide) ?_
              refine TL.pure (PV.neq rfl rfl) rfl (by decide) ?_
              refine TL.pure (PV.pickF rfl rfl) rfl (by decide) ?_
              refine TL.nil ?_
              refine TQ.thenC ?_
              first | refine TC.condD rfl (fun e5 => ?_) (fun e5 => ?_) | refine TC.cond rfl (fun e5 => ?_) (fun e5 => ?_)
              · skip
                refine TC.seq ?_
                refine TC.region ?_
                refine TL.pure (PV.assign rfl) rfl (by decide) ?_
                refine TL.nil ?_
                refine TQ.thenC ?_
                refine TC.ret ?_
                refine TQ.thenR ?_
                refine TQ.retE1 rfl rfl ?_
                first | exact ⟨(), rfl, trivial, List.nil_sublist _⟩ | (exfalso; simp_all; done) | (exfalso; simp_all; omega) | exact ⟨(), by simp, trivial, List.nil_sublist _⟩
              · skip
                refine TC.skip ?_
                refine TQ.thenC ?_
                refine TC.seq ?_
                refine TC.seq ?_
                refine TC.region ?_
                refine TL.pure (PV.loadBox rfl Tb.agg_25 (by repeat (first | exact List.Mem.head _ | refine List.Mem.tail _ ?_ | refine List.mem_append_right _ ?_)) rfl) rfl (by decide) ?_
                refine TL.pure (PV.move rfl) rfl (by decide) ?_
                refine TL.call rfl Tb.gofn_23 (fun a w hs => checkPlan_ok w _ t (IsT.mk (t1.new hs.new) (t2.new hs.new) (t3.new hs.new)) hT _ m (IsG.of (g1.new hs.new)) hM) rfl (by decide) (fun _ _ => ?_)
                refine TL.pure (PV.neq rfl rfl) rfl (by decide) ?_
                refine TL.nil ?_
                refine TQ.thenC ?_
                first | refine TC.condD rfl (fun a2 => ?_) (fun a2 => ?_) | refine TC.cond rfl (fun a2 => ?_) (fun a2 => ?_)
                · skip
                  refine TC.seq ?_
                  refine TC.region ?_
                  refine TL.call rfl Tb.gofn_18 (fun a w hs => sane_ok w) rfl (by decide) (fun _ _ => ?_)
                  refine TL.pure (PV.assign rfl) rfl (by decide) ?_
                  refine TL.nil ?_
                  refine TQ.thenC ?_
                  refine TC.ret ?_
                  refine TQ.thenR ?_
                  refine TQ.retE1 rfl rfl ?_
                  first | exact ⟨(), rfl, trivial, List.nil_sublist _⟩ | (exfalso; simp_all; done) | (exfalso; simp_all; omega) | exact ⟨(), by simp, trivial, List.nil_sublist _⟩
                · skip
                  refine TC.skip ?_
                  refine TQ.thenC ?_
                  refine TC.seq ?_
                  have hVP := vp_of a2
                  have ec1 : cstR (turnR t).1 (trnL m) = (costI t m, 0) := by rw [tur_0 hvl]; show cstR (trnT t) (trnL m) = _; rw [cst_0 (by rw [(trn_vp hVP).p]; decide), trn_cost hVP]
                  refine TC.mix [true, true, false, false, false, false, false, false, false] _ 7 Tb.mixed rfl (by kernel_rfl) (by kernel_rfl) (by kernel_rfl) (by kernel_rfl) (List.Sublist.refl _) ?_
                  refine TB.op (SOK.pure (PV.loadBox (cs := [.slice y81 (turnR t).1.s.length y82, .slice y83 (turnR t).1.d.length y84, .slice y85 (turnR t).1.c.length y86]) rfl Tb.agg_25 (by repeat (first | exact List.Mem.head _ | refine List.Mem.tail _ ?_ | refine List.mem_append_right _ ?_)) rfl) rfl) (by decide) ?_
                  refine TB.op (SOK.pure (PV.move rfl) rfl) (by decide) ?_
                  refine TB.no ?_
                  refine TB.no ?_
                  refine TB.no ?_
                  refine TB.no ?_
                  refine TB.no ?_
                  refine TB.no ?_
                  refine TB.no ?_
                  refine TB.fin ?_
                  refine TX.step [2] (by kernel_rfl) (by decide) ⟨⟨_, rfl, ?_⟩, trivial⟩
                  refine TL.call rfl Tb.gofn_49 (fun a w hs => Turned_ok w _ _ (IsG.of (g1.new hs.new)) hM (by have := hVP.g.len; have := hVP.ns; omega) (fun i hi => by rw [hVP.g.row i (by have := hVP.g.len; omega), hVP.g.row 0 (by have := hVP.ns; omega)])) rfl (by decide) (fun yt hyt => ?_)
                  refine TL.nil ?_
                  refine TX.next (.inl (by repeat (first | exact List.Sublist.slnil | exact List.nil_sublist _ | exact List.Sublist.refl _ | refine List.Sublist.cons_cons _ ?_ | refine List.Sublist.cons _ ?_ | refine List.Sublist.trans ?_ (List.sublist_append_right _ _)))) ?_
                  refine TX.step [3] (by kernel_rfl) (by decide) ⟨⟨_, rfl, ?_⟩, trivial⟩
                  refine TL.call rfl Tb.gofn_19 (fun a w hs => Cost_ok w _ _ (RdT.at' ey8 hy8 hs.new (fun yy hyy => by repeat (first | exact List.mem_append_left _ hyy | exact List.mem_append_left _ (List.mem_append_right _ hyy) | exact List.mem_append_left _ (List.mem_append_left _ hyy) | refine List.mem_append_right _ ?_ | refine List.Mem.tail _ ?_))) (tur_sm hT) _ _ (hyt.at hs.new (fun yy hyy => by repeat (first | exact List.mem_append_left _ hyy | exact List.mem_append_left _ (List.mem_append_right _ hyy) | exact List.mem_append_left _ (List.mem_append_left _ hyy) | refine List.mem_append_right _ ?_ | refine List.Mem.tail _ ?_))) (trn_smg hM (by have := hVP.g.len; have := hVP.ns; omega))) rfl (by decide) (fun _ _ => ?_)
                  rw [ec1]
                  refine TL.nil ?_
                  refine TX.next (.inl (by repeat (first | exact List.Sublist.slnil | exact List.nil_sublist _ | exact List.Sublist.refl _ | refine List.Sublist.cons_cons _ ?_ | refine List.Sublist.cons _ ?_ | refine List.Sublist.trans ?_ (List.sublist_append_right _ _)))) ?_
                  refine TX.step [4] (by kernel_rfl) (by decide) ⟨⟨_, rfl, ?_⟩, trivial⟩
                  refine TL.pure (PV.move rfl) rfl (by decide) ?_
                  refine TL.nil ?_
                  refine TX.next (.inl (by repeat (first | exact List.Sublist.slnil | exact List.nil_sublist _ | exact List.Sublist.refl _ | refine List.Sublist.cons_cons _ ?_ | refine List.Sublist.cons _ ?_ | refine List.Sublist.trans ?_ (List.sublist_append_right _ _)))) ?_
                  refine TX.step [5, 6] (by kernel_rfl) (by decide) ⟨⟨_, rfl, ?_⟩, ⟨_, rfl, ?_⟩, trivial⟩
                  · skip
                    refine TL.pure (PV.extract rfl rfl) rfl (by decide) ?_
                    refine TL.nil ?_
                    refine TX.next (.inl (by repeat (first | exact List.Sublist.slnil | exact List.nil_sublist _ | exact List.Sublist.refl _ | refine List.Sublist.cons_cons _ ?_ | refine List.Sublist.cons _ ?_ | refine List.Sublist.trans ?_ (List.sublist_append_right _ _)))) ?_
                    refine TX.step [6, 7] (by kernel_rfl) (by decide) ⟨⟨_, rfl, ?_⟩, ⟨_, rfl, ?_⟩, trivial⟩
                    · skip
                      refine TL.pure (PV.extract rfl rfl) rfl (by decide) ?_
                      refine TL.nil ?_
                      refine TX.next (.inl (by repeat (first | exact List.Sublist.slnil | exact List.nil_sublist _ | exact List.Sublist.refl _ | refine List.Sublist.cons_cons _ ?_ | refine List.Sublist.cons _ ?_ | refine List.Sublist.trans ?_ (List.sublist_append_right _ _)))) ?_
                      refine TX.step [7] (by kernel_rfl) (by decide) ⟨⟨_, rfl, ?_⟩, trivial⟩
                      refine TL.pure (PV.assign rfl) rfl (by decide) ?_
                      refine TL.nil ?_
                      refine TX.next (.inr (by kernel_rfl)) ?_
                      refine TX.step [8] (by kernel_rfl) (by decide) ⟨⟨_, rfl, ?_⟩, trivial⟩
                      refine TL.pure (PV.assign rfl) rfl (by decide) ?_
                      refine TL.nil ?_
                      refine TX.next (.inr (by kernel_rfl)) ?_
                      refine TX.done (by kernel_rfl) ?_
                      refine TQ.thenC ?_
                      refine TC.seq ?_
                      refine TC.region ?_
                      refine TL.pure (PV.loadBox rfl Tb.agg_25 (by repeat (first | exact List.Mem.head _ | refine List.Mem.tail _ ?_ | refine List.mem_append_right _ ?_)) rfl) rfl (by decide) ?_
                      refine TL.pure (PV.move rfl) rfl (by decide) ?_
                      refine TL.call rfl Tb.gofn_19 (fun a w hs => Cost_ok w _ t (IsT.mk (t1.new hs.new) (t2.new hs.new) (t3.new hs.new)) hT _ m (IsG.of (g1.new hs.new)) hM) rfl (by decide) (fun _ _ => ?_)
                      rw [cst_0 (show ¬ planI t m ≠ 0 by rw [hVP.p]; decide)]
                      refine TL.pure (PV.move rfl) rfl (by decide) ?_
                      refine TL.pure (PV.extract rfl rfl) rfl (by decide) ?_
                      refine TL.pure (PV.extract rfl rfl) rfl (by decide) ?_
                      refine TL.pure (PV.assign rfl) rfl (by decide) ?_
                      refine TL.pure (PV.assign rfl) rfl (by decide) ?_
                      refine TL.nil ?_
                      refine TQ.thenC ?_
                      refine TC.seq ?_
                      refine TC.region ?_
                      refine TL.pure (PV.move rfl) rfl (by decide) ?_
                      refine TL.pure (PV.eql rfl rfl) rfl (by decide) ?_
                      refine TL.pure (PV.move rfl) rfl (by decide) ?_
                      first | refine TL.splitD 85 rfl (fun e6 => ?_) (fun e6 => ?_) | refine TL.split 85 rfl (fun e6 => ?_) (fun e6 => ?_)
                      · skip
                        refine TL.pure (PV.move rfl) rfl (by decide) ?_
                        refine TL.pure (PV.eql rfl rfl) rfl (by decide) ?_
                        refine TL.pure (PV.pickT rfl rfl) rfl (by decide) ?_
                        refine TL.pure (PV.move rfl) rfl (by decide) ?_
                        first | refine TL.splitD 89 rfl (fun e7 => ?_) (fun e7 => ?_) | refine TL.split 89 rfl (fun e7 => ?_) (fun e7 => ?_)
                        · skip
                          refine TL.pure (PV.move rfl) rfl (by decide) ?_
                          refine TL.pure (PV.move rfl) rfl (by decide) ?_
                          refine TL.pure (PV.eql rfl rfl) rfl (by decide) ?_
                          refine TL.pure (PV.pickT rfl rfl) rfl (by decide) ?_
                          refine TL.pure (PV.move rfl) rfl (by decide) ?_
                          first | refine TL.splitD 94 rfl (fun e8 => ?_) (fun e8 => ?_) | refine TL.split 94 rfl (fun e8 => ?_) (fun e8 => ?_)
                          · skip
                            refine TL.call rfl Tb.gofn_18 (fun a w hs => sane_ok w) rfl (by decide) (fun _ _ => ?_)
                            refine TL.pure (PV.pickT rfl rfl) rfl (by decide) ?_
                            refine TL.pure (PV.assign rfl) rfl (by decide) ?_
                            refine TL.nil ?_
                            refine TQ.thenC ?_
                            refine TC.ret ?_
                            refine TQ.retE1 rfl rfl ?_
                            first | exact ⟨(), rfl, trivial, List.nil_sublist _⟩ | (exfalso; simp_all; done) | (exfalso; simp_all; omega) | exact ⟨(), by simp, trivial, List.nil_sublist _⟩
                          · skip
                            refine TL.skip rfl (fun k hk => by cases hk; decide) ?_
                            refine TL.pure (PV.pickF rfl rfl) rfl (by decide) ?_
                            refine TL.pure (PV.assign rfl) rfl (by decide) ?_
                            refine TL.nil ?_
                            refine TQ.thenC ?_
                            refine TC.ret ?_
                            refine TQ.retE1 rfl rfl ?_
                            first | exact ⟨(), rfl, trivial, List.nil_sublist _⟩ | (exfalso; simp_all; done) | (exfalso; simp_all; omega) | exact ⟨(), by simp, trivial, List.nil_sublist _⟩
                        · skip
                          refine TL.skip rfl (fun k hk => by cases hk; decide) ?_
                          refine TL.skip rfl (fun k hk => by cases hk; decide) ?_
                          refine TL.skip rfl (fun k hk => by cases hk; decide) ?_
                          refine TL.pure (PV.pickF rfl rfl) rfl (by decide) ?_
                          refine TL.pure (PV.move rfl) rfl (by decide) ?_
                          refine TL.skip rfl (fun k hk => by cases hk; decide) ?_
                          refine TL.pure (PV.pickF rfl rfl) rfl (by decide) ?_
                          refine TL.pure (PV.assign rfl) rfl (by decide) ?_
                          refine TL.nil ?_
                          refine TQ.thenC ?_
                          refine TC.ret ?_
                          refine TQ.retE1 rfl rfl ?_
                          first | exact ⟨(), rfl, trivial, List.nil_sublist _⟩ | (exfalso; simp_all; done) | (exfalso; simp_all; omega) | exact ⟨(), by simp, trivial, List.nil_sublist _⟩
                      · skip
                        refine TL.skip rfl (fun k hk => by cases hk; decide) ?_
                        refine TL.skip rfl (fun k hk => by cases hk; decide) ?_
                        refine TL.pure (PV.pickF rfl rfl) rfl (by decide) ?_
                        refine TL.pure (PV.move rfl) rfl (by decide) ?_
                        refine TL.skip rfl (fun k hk => by cases hk; decide) ?_
                        refine TL.skip rfl (fun k hk => by cases hk; decide) ?_
                        refine TL.skip rfl (fun k hk => by cases hk; decide) ?_
                        refine TL.pure (PV.pickF rfl rfl) rfl (by decide) ?_
                        refine TL.pure (PV.move rfl) rfl (by decide) ?_
                        refine TL.skip rfl (fun k hk => by cases hk; decide) ?_
                        refine TL.pure (PV.pickF rfl rfl) rfl (by decide) ?_
                        refine TL.pure (PV.assign rfl) rfl (by decide) ?_
                        refine TL.nil ?_
                        refine TQ.thenC ?_
                        refine TC.ret ?_
                        refine TQ.retE1 rfl rfl ?_
                        first | exact ⟨(), rfl, trivial, List.nil_sublist _⟩ | (exfalso; simp_all; done) | (exfalso; simp_all; omega) | exact ⟨(), by simp, trivial, List.nil_sublist _⟩
                    · skip
                      refine TL.pure (PV.assign rfl) rfl (by decide) ?_
                      refine TL.nil ?_
                      refine TX.next (.inr (by kernel_rfl)) ?_
                      refine TX.step [6] (by kernel_rfl) (by decide) ⟨⟨_, rfl, ?_⟩, trivial⟩
                      refine TL.pure (PV.extract rfl rfl) rfl (by decide) ?_
                      refine TL.nil ?_
                      refine TX.next (.inl (by repeat (first | exact List.Sublist.slnil | exact List.nil_sublist _ | exact List.Sublist.refl _ | refine List.Sublist.cons_cons _ ?_ | refine List.Sublist.cons _ ?_ | refine List.Sublist.trans ?_ (List.sublist_append_right _ _)))) ?_
                      refine TX.step [8] (by kernel_rfl) (by decide) ⟨⟨_, rfl, ?_⟩, trivial⟩
                      refine TL.pure (PV.assign rfl) rfl (by decide) ?_
                      refine TL.nil ?_
                      refine TX.next (.inr (by kernel_rfl)) ?_
                      refine TX.done (by kernel_rfl) ?_
                      refine TQ.thenC ?_
                      refine TC.seq ?_
                      refine TC.region ?_
                      refine TL.pure (PV.loadBox rfl Tb.agg_25 (by repeat (first | exact List.Mem.head _ | refine List.Mem.tail _ ?_ | refine List.mem_append_right _ ?_)) rfl) rfl (by decide) ?_
                      refine TL.pure (PV.move rfl) rfl (by decide) ?_
                      refine TL.call rfl Tb.gofn_19 (fun a w hs => Cost_ok w _ t (IsT.mk (t1.new hs.new) (t2.new hs.new) (t3.new hs.new)) hT _ m (IsG.of (g1.new hs.new)) hM) rfl (by decide) (fun _ _ => ?_)
                      rw [cst_0 (show ¬ planI t m ≠ 0 by rw [hVP.p]; decide)]
                      refine TL.pure (PV.move rfl) rfl (by decide) ?_
                      refine TL.pure (PV.extract rfl rfl) rfl (by decide) ?_
                      refine TL.pure (PV.extract rfl rfl) rfl (by decide) ?_
                      refine TL.pure (PV.assign rfl) rfl (by decide) ?_
                      refine TL.pure (PV.assign rfl) rfl (by decide) ?_
                      refine TL.nil ?_
                      refine TQ.thenC ?_
                      refine TC.seq ?_
                      refine TC.region ?_
                      refine TL.pure (PV.move rfl) rfl (by decide) ?_
                      refine TL.pure (PV.eql rfl rfl) rfl (by decide) ?_
                      refine TL.pure (PV.move rfl) rfl (by decide) ?_
                      first | refine TL.splitD 85 rfl (fun e6 => ?_) (fun e6 => ?_) | refine TL.split 85 rfl (fun e6 => ?_) (fun e6 => ?_)
                      · skip
                        refine TL.pure (PV.move rfl) rfl (by decide) ?_
                        refine TL.pure (PV.eql rfl rfl) rfl (by decide) ?_
                        refine TL.pure (PV.pickT rfl rfl) rfl (by decide) ?_
                        refine TL.pure (PV.move rfl) rfl (by decide) ?_
                        first | refine TL.splitD 89 rfl (fun e7 => ?_) (fun e7 => ?_) | refine TL.split 89 rfl (fun e7 => ?_) (fun e7 => ?_)
                        · skip
                          refine TL.pure (PV.move rfl) rfl (by decide) ?_
                          refine TL.pure (PV.move rfl) rfl (by decide) ?_
                          refine TL.pure (PV.eql rfl rfl) rfl (by decide) ?_
                          refine TL.pure (PV.pickT rfl rfl) rfl (by decide) ?_
                          refine TL.pure (PV.move rfl) rfl (by decide) ?_
                          first | refine TL.splitD 94 rfl (fun e8 => ?_) (fun e8 => ?_) | refine TL.split 94 rfl (fun e8 => ?_) (fun e8 => ?_)
                          · skip
                            refine TL.call rfl Tb.gofn_18 (fun a w hs => sane_ok w) rfl (by decide) (fun _ _ => ?_)
                            refine TL.pure (PV.pickT rfl rfl) rfl (by decide) ?_
                            refine TL.pure (PV.assign rfl) rfl (by decide) ?_
                            refine TL.nil ?_
                            refine TQ.thenC ?_
                            refine TC.ret ?_
                            refine TQ.retE1 rfl rfl ?_
                            first | exact ⟨(), rfl, trivial, List.nil_sublist _⟩ | (exfalso; simp_all; done) | (exfalso; simp_all; omega) | exact ⟨(), by simp, trivial, List.nil_sublist _⟩
                          · skip
                            refine TL.skip rfl (fun k hk => by cases hk; decide) ?_
                            refine TL.pure (PV.pickF rfl rfl) rfl (by decide) ?_
                            refine TL.pure (PV.assign rfl) rfl (by decide) ?_
                            refine TL.nil ?_
                            refine TQ.thenC ?_
                            refine TC.ret ?_
                            refine TQ.retE1 rfl rfl ?_
                            first | exact ⟨(), rfl, trivial, List.nil_sublist _⟩ | (exfalso; simp_all; done) | (exfalso; simp_all; omega) | exact ⟨(), by simp, trivial, List.nil_sublist _⟩
                        · skip
                          refine TL.skip rfl (fun k hk => by cases hk; decide) ?_
                          refine TL.skip rfl (fun k hk => by cases hk; decide) ?_
                          refine TL.skip rfl (fun k hk => by cases hk; decide) ?_
                          refine TL.pure (PV.pickF rfl rfl) rfl (by decide) ?_
                          refine TL.pure (PV.move rfl) rfl (by decide) ?_
                          refine TL.skip rfl (fun k hk => by cases hk; decide) ?_
                          refine TL.pure (PV.pickF rfl rfl) rfl (by decide) ?_
                          refine TL.pure (PV.assign rfl) rfl (by decide) ?_
                          refine TL.nil ?_
                          refine TQ.thenC ?_
                          refine TC.ret ?_
                          refine TQ.retE1 rfl rfl ?_
                          first | exact ⟨(), rfl, trivial, List.nil_sublist _⟩ | (exfalso; simp_all; done) | (exfalso; simp_all; omega) | exact ⟨(), by simp, trivial, List.nil_sublist _⟩
                      · skip
                        refine TL.skip rfl (fun k hk => by cases hk; decide) ?_
                        refine TL.skip rfl (fun k hk => by cases hk; decide) ?_
                        refine TL.pure (PV.pickF rfl rfl) rfl (by decide) ?_
                        refine TL.pure (PV.move rfl) rfl (by decide) ?_
                        refine TL.skip rfl (fun k hk => by cases hk; decide) ?_
                        refine TL.skip rfl (fun k hk => by cases hk; decide) ?_
                        refine TL.skip rfl (fun k hk => by cases hk; decide) ?_
                        refine TL.pure (PV.pickF rfl rfl) rfl (by decide) ?_
                        refine TL.pure (PV.move rfl) rfl (by decide) ?_
                        refine TL.skip rfl (fun k hk => by cases hk; decide) ?_
                        refine TL.pure (PV.pickF rfl rfl) rfl (by decide) ?_
                        refine TL.pure (PV.assign rfl) rfl (by decide) ?_
                        refine TL.nil ?_
                        refine TQ.thenC ?_
                        refine TC.ret ?_
                        refine TQ.retE1 rfl rfl ?_
                        first | exact ⟨(), rfl, trivial, List.nil_sublist _⟩ | (exfalso; simp_all; done) | (exfalso; simp_all; omega) | exact ⟨(), by simp, trivial, List.nil_sublist _⟩
                  · skip
                    refine TL.pure (PV.extract rfl rfl) rfl (by decide) ?_
                    refine TL.nil ?_
                    refine TX.next (.inl (by repeat (first | exact List.Sublist.slnil | exact List.nil_sublist _ | exact List.Sublist.refl _ | refine List.Sublist.cons_cons _ ?_ | refine List.Sublist.cons _ ?_ | refine List.Sublist.trans ?_ (List.sublist_append_right _ _)))) ?_
                    refine TX.step [5] (by kernel_rfl) (by decide) ⟨⟨_, rfl, ?_⟩, trivial⟩
                    refine TL.pure (PV.extract rfl rfl) rfl (by decide) ?_
                    refine TL.nil ?_
                    refine TX.next (.inl (by repeat (first | exact List.Sublist.slnil | exact List.nil_sublist _ | exact List.Sublist.refl _ | refine List.Sublist.cons_cons _ ?_ | refine List.Sublist.cons _ ?_ | refine List.Sublist.trans ?_ (List.sublist_append_right _ _)))) ?_
                    refine TX.step [7] (by kernel_rfl) (by decide) ⟨⟨_, rfl, ?_⟩, trivial⟩
                    refine TL.pure (PV.assign rfl) rfl (by decide) ?_
                    refine TL.nil ?_
                    refine TX.next (.inr (by kernel_rfl)) ?_
                    refine TX.step [8] (by kernel_rfl) (by decide) ⟨⟨_, rfl, ?_⟩, trivial⟩
                    refine TL.pure (PV.assign rfl) rfl (by decide) ?_
                    refine TL.nil ?_
                    refine TX.next (.inr (by kernel_rfl)) ?_
                    refine TX.done (by kernel_rfl) ?_
                    refine TQ.thenC ?_
                    refine TC.seq ?_
                    refine TC.region ?_
                    refine TL.pure (PV.loadBox rfl Tb.agg_25 (by repeat (first | exact List.Mem.head _ | refine List.Mem.tail _ ?_ | refine List.mem_append_right _ ?_)) rfl) rfl (by decide) ?_
                    refine TL.pure (PV.move rfl) rfl (by decide) ?_
                    refine TL.call rfl Tb.gofn_19 (fun a w hs => Cost_ok w _ t (IsT.mk (t1.new hs.new) (t2.new hs.new) (t3.new hs.new)) hT _ m (IsG.of (g1.new hs.new)) hM) rfl (by decide) (fun _ _ => ?_)
                    rw [cst_0 (show ¬ planI t m ≠ 0 by rw [hVP.p]; decide)]
                    refine TL.pure (PV.move rfl) rfl (by decide) ?_
                    refine TL.pure (PV.extract rfl rfl) rfl (by decide) ?_
                    refine TL.pure (PV.extract rfl rfl) rfl (by decide) ?_
                    refine TL.pure (PV.assign rfl) rfl (by decide) ?_
                    refine TL.pure (PV.assign rfl) rfl (by decide) ?_
                    refine TL.nil ?_
                    refine TQ.thenC ?_
                    refine TC.seq ?_
                    refine TC.region ?_
                    refine TL.pure (PV.move rfl) rfl (by decide) ?_
                    refine TL.pure (PV.eql rfl rfl) rfl (by decide) ?_
                    refine TL.pure (PV.move rfl) rfl (by decide) ?_
                    first | refine TL.splitD 85 rfl (fun e6 => ?_) (fun e6 => ?_) | refine TL.split 85 rfl (fun e6 => ?_) (fun e6 => ?_)
                    · skip
                      refine TL.pure (PV.move rfl) rfl (by decide) ?_
                      refine TL.pure (PV.eql rfl rfl) rfl (by decide) ?_
                      refine TL.pure (PV.pickT rfl rfl) rfl (by decide) ?_
                      refine TL.pure (PV.move rfl) rfl (by decide) ?_
                      first | refine TL.splitD 89 rfl (fun e7 => ?_) (fun e7 => ?_) | refine TL.split 89 rfl (fun e7 => ?_) (fun e7 => ?_)
                      · skip
                        refine TL.pure (PV.move rfl) rfl (by decide) ?_
                        refine TL.pure (PV.move rfl) rfl (by decide) ?_
                        refine TL.pure (PV.eql rfl rfl) rfl (by decide) ?_
                        refine TL.pure (PV.pickT rfl rfl) rfl (by decide) ?_
                        refine TL.pure (PV.move rfl) rfl (by decide) ?_
                        first | refine TL.splitD 94 rfl (fun e8 => ?_) (fun e8 => ?_) | refine TL.split 94 rfl (fun e8 => ?_) (fun e8 => ?_)
                        · skip
                          refine TL.call rfl Tb.gofn_18 (fun a w hs => sane_ok w) rfl (by decide) (fun _ _ => ?_)
                          refine TL.pure (PV.pickT rfl rfl) rfl (by decide) ?_
                          refine TL.pure (PV.assign rfl) rfl (by decide) ?_
                          refine TL.nil ?_
                          refine TQ.thenC ?_
                          refine TC.ret ?_
                          refine TQ.retE1 rfl rfl ?_
                          first | exact ⟨(), rfl, trivial, List.nil_sublist _⟩ | (exfalso; simp_all; done) | (exfalso; simp_all; omega) | exact ⟨(), by simp, trivial, List.nil_sublist _⟩
                        · skip
                          refine TL.skip rfl (fun k hk => by cases hk; decide) ?_
                          refine TL.pure (PV.pickF rfl rfl) rfl (by decide) ?_
                          refine TL.pure (PV.assign rfl) rfl (by decide) ?_
                          refine TL.nil ?_
                          refine TQ.thenC ?_
                          refine TC.ret ?_
                          refine TQ.retE1 rfl rfl ?_
                          first | exact ⟨(), rfl, trivial, List.nil_sublist _⟩ | (exfalso; simp_all; done) | (exfalso; simp_all; omega) | exact ⟨(), by simp, trivial, List.nil_sublist _⟩
                      · skip
                        refine TL.skip rfl (fun k hk => by cases hk; decide) ?_
                        refine TL.skip rfl (fun k hk => by cases hk; decide) ?_
                        refine TL.skip rfl (fun k hk => by cases hk; decide) ?_
                        refine TL.pure (PV.pickF rfl rfl) rfl (by decide) ?_
                        refine TL.pure (PV.move rfl) rfl (by decide) ?_
                        refine TL.skip rfl (fun k hk => by cases hk; decide) ?_
                        refine TL.pure (PV.pickF rfl rfl) rfl (by decide) ?_
                        refine TL.pure (PV.assign rfl) rfl (by decide) ?_
                        refine TL.nil ?_
                        refine TQ.thenC ?_
                        refine TC.ret ?_
                        refine TQ.retE1 rfl rfl ?_
                        first | exact ⟨(), rfl, trivial, List.nil_sublist _⟩ | (exfalso; simp_all; done) | (exfalso; simp_all; omega) | exact ⟨(), by simp, trivial, List.nil_sublist _⟩
                    · skip
                      refine TL.skip rfl (fun k hk => by cases hk; decide) ?_
                      refine TL.skip rfl (fun k hk => by cases hk; decide) ?_
                      refine TL.pure (PV.pickF rfl rfl) rfl (by decide) ?_
                      refine TL.pure (PV.move rfl) rfl (by decide) ?_
                      refine TL.skip rfl (fun k hk => by cases hk; decide) ?_
                      refine TL.skip rfl (fun k hk => by cases hk; decide) ?_
                      refine TL.skip rfl (fun k hk => by cases hk; decide) ?_
                      refine TL.pure (PV.pickF rfl rfl) rfl (by decide) ?_
                      refine TL.pure (PV.move rfl) rfl (by decide) ?_
                      refine TL.skip rfl (fun k hk => by cases hk; decide) ?_
                      refine TL.pure (PV.pickF rfl rfl) rfl (by decide) ?_
                      refine TL.pure (PV.assign rfl) rfl (by decide) ?_
                      refine TL.nil ?_
                      refine TQ.thenC ?_
                      refine TC.ret ?_
                      refine TQ.retE1 rfl rfl ?_
                      first | exact ⟨(), rfl, trivial, List.nil_sublist _⟩ | (exfalso; simp_all; done) | (exfalso; simp_all; omega) | exact ⟨(), by simp, trivial, List.nil_sublist _⟩

end Go.Proofs.Ytghlkndanpegbaa
