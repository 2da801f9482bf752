/- The law of rounds: contract. -/
import Derived.Test.YtghlkndanpegbaaCm
set_option linter.unusedVariables false
set_option linter.unusedSimpArgs false
namespace Go.Proofs.Ytghlkndanpegbaa
open Go.Sx Go.RowKit Go.Sand Go.Tp

theorem round_any (w0 : World) (vt : Value) (t : Td) (ht : IsT w0 vt t) (hT : SmT t) (vg : Value) (m : List (List Int)) (hg : IsG w0 vg m) (hM : SmG m) :
    Calls Try.prog 40 #[vt, vg] w0 (Post (X := HD × List Pr) (fun y => .tuple #[gval y.1 y.2.length, .bool (decide (planI t m = 0 ∧ costI t m ≠ mnI t)), .int .i64 (planI t m)]) (fun y => goR prR y.1 y.2 ∧ ((planI t m = 0 ∧ costI t m ≠ mnI t) → ∃ g, GdR t.s.length t.d.length (getM t.c) (getM m) y.2 g) ∧ (¬ (planI t m = 0 ∧ costI t m ≠ mnI t) → y.2 = [])) (fun y => gbR prR 84 y.1 y.2) w0) := by
  refine (Round_ok w0 vt t ht hT vg m hg hM).mono fun e w' h => ?_
  obtain ⟨y, h1, h2, h3⟩ := h
  match y, h1, h2, h3 with
  | none, h1, h2, h3 =>
    have h4 : ¬ (planI t m = 0 ∧ costI t m ≠ mnI t) := fun h => by
      rcases h2 with h2 | h2
      · exact h2 h.1
      · exact h.2 h2.2
    refine ⟨(none, []), ?_, ⟨⟨rfl, rfl⟩, fun h => absurd h h4, fun _ => rfl⟩, h3⟩
    rw [h1, decide_eq_false h4]
    rfl
  | some z, h1, h2, h3 =>
    obtain ⟨hV, h5, g, h6⟩ := h2
    have h4 : planI t m = 0 ∧ costI t m ≠ mnI t := ⟨hV.p, not_best hV h6 (mn_is hV.toVT)⟩
    refine ⟨z, ?_, ⟨h5, fun _ => ⟨g, h6⟩, fun h => absurd h4 h⟩, h3⟩
    rw [h1, decide_eq_true h4, hV.p]


set_option maxRecDepth 100000 in
set_option maxHeartbeats 4000000 in
theorem bulkRounds_ok (w0 : World) (vt : Value) (t : Td) (ht : IsT w0 vt t) (hlc : t.c.length ≤ 9223372036854775807) (vg : Value) (m : List (List Int)) (hg : IsG w0 vg m) (hlm : m.length ≤ 9223372036854775807) :
    Calls Try.prog 10 #[vt, vg] w0 (Post (X := Unit) (fun _ => .bool true) (fun _ => True) (fun _ => []) w0) := by
  obtain ⟨p1, c1, p2, c2, p3, c3, rfl, t1, t2, t3⟩ := ht
  obtain ⟨pg, cg, rfl, g1⟩ := hg
  refine calls Try.func10 rfl (n := 94) rfl (by simp) ?_
  refine TC.seq ?_
  refine TC.region ?_
  refine TL.box rfl rfl (by decide) (fun b0 hb0 => ?_)
  refine TL.pure (PV.assign rfl) rfl (by decide) ?_
  refine TL.nil ?_
  refine TQ.thenC ?_
  refine TC.seq ?_
  refine TC.seq ?_
  refine TC.region ?_
  refine TL.pure (PV.loadBox rfl Tb.agg_25 (by repeat (first | exact List.Mem.head _ | refine List.Mem.tail _ ?_ | refine List.mem_append_right _ ?_)) rfl) rfl (by decide) ?_
  refine TL.pure (PV.move rfl) rfl (by decide) ?_
  refine TL.buildSlice (cs := #[.slice pg m.length cg]) rfl Tb.sl_63 Tb.zi_23 (by decide) (fill_o _ _ _) (by decide) rfl (by decide) (fun bs hbs => ?_)
  refine TL.call rfl Tb.gofn_17 (fun a w hs => long_ok w _ t (IsT.mk (t1.new hs.new) (t2.new hs.new) (t3.new hs.new)) hlc (some ⟨bs, 0, none⟩) 1 [m] (LsG.one hs.new (by repeat (first | exact List.Mem.head _ | refine List.Mem.tail _ ?_ | refine List.mem_append_right _ ?_)) (g1.new hs.new)) (LsG.len1 hlm) (by show 1 ≤ 1000; decide)) rfl (by decide) (fun _ _ => ?_)
  refine TL.nil ?_
  refine TQ.thenC ?_
  first | refine TC.condD rfl (fun hlg => ?_) (fun hlg => ?_) | refine TC.cond rfl (fun hlg => ?_) (fun hlg => ?_)
  · skip
    refine TC.seq ?_
    refine TC.region ?_
    refine TL.call rfl Tb.gofn_18 (fun a w hs => sane_ok w) rfl (by decide) (fun _ _ => ?_)
    refine TL.pure (PV.assign rfl) rfl (by decide) ?_
    refine TL.nil ?_
    refine TQ.thenC ?_
    refine TC.ret ?_
    refine TQ.thenR ?_
    refine TQ.retE1 rfl rfl ?_
    first | exact ⟨(), rfl, trivial, List.nil_sublist _⟩ | (exfalso; simp_all; done) | (exfalso; simp_all; omega) | exact ⟨(), by simp, trivial, List.nil_sublist _⟩
  · skip
    refine TC.skip ?_
    refine TQ.thenC ?_
    refine TC.seq ?_
    have hT := (lgT_0 hlg).1
    have hM := (lgT_0 hlg).2 m (by simp)
    refine TC.region ?_
    refine TL.pure (PV.loadBox rfl Tb.agg_25 (by repeat (first | exact List.Mem.head _ | refine List.Mem.tail _ ?_ | refine List.mem_append_right _ ?_)) rfl) rfl (by decide) ?_
    refine TL.pure (PV.move rfl) rfl (by decide) ?_
    refine TL.call rfl Tb.gofn_40 (fun a w hs => round_any w _ t (IsT.mk (t1.new hs.new) (t2.new hs.new) (t3.new hs.new)) hT _ m (IsG.of (g1.new hs.new)) hM) rfl (by decide) (fun yr hyr => ?_)
    rw [gval_eq hyr.1]
    refine TL.pure (PV.move rfl) rfl (by decide) ?_
    refine TL.pure (PV.extract rfl rfl) rfl (by decide) ?_
    refine TL.pure (PV.extract rfl rfl) rfl (by decide) ?_
    refine TL.pure (PV.extract rfl rfl) rfl (by decide) ?_
    refine TL.pure (PV.assign rfl) rfl (by decide) ?_
    refine TL.pure (PV.assign rfl) rfl (by decide) ?_
    refine TL.pure (PV.assign rfl) rfl (by decide) ?_
    refine TL.nil ?_
    refine TQ.thenC ?_
    refine TC.seq ?_
    refine TC.region ?_
    refine TL.pure (PV.loadBox rfl Tb.agg_25 (by repeat (first | exact List.Mem.head _ | refine List.Mem.tail _ ?_ | refine List.mem_append_right _ ?_)) rfl) rfl (by decide) ?_
    refine TL.pure (PV.move rfl) rfl (by decide) ?_
    refine TL.call rfl Tb.gofn_32 (fun a w hs => rIsBest_ok w _ t (IsT.mk (t1.new hs.new) (t2.new hs.new) (t3.new hs.new)) hT _ m (IsG.of (g1.new hs.new)) hM) rfl (by decide) (fun _ _ => ?_)
    rw [ib_r t m]
    refine TL.pure (PV.move rfl) rfl (by decide) ?_
    refine TL.pure (PV.extract rfl rfl) rfl (by decide) ?_
    refine TL.pure (PV.extract rfl rfl) rfl (by decide) ?_
    refine TL.pure (PV.assign rfl) rfl (by decide) ?_
    refine TL.pure (PV.assign rfl) rfl (by decide) ?_
    refine TL.nil ?_
    refine TQ.thenC ?_
    refine TC.seq ?_
    refine TC.seq ?_
    refine TC.region ?_
    refine TL.pure (PV.move rfl) rfl (by decide) ?_
    refine TL.pure (PV.move rfl) rfl (by decide) ?_
    refine TL.pure (PV.neq rfl rfl) rfl (by decide) ?_
    refine TL.nil ?_
    refine TQ.thenC ?_
    first | refine TC.condD rfl (fun e0 => ?_) (fun e0 => ?_) | refine TC.cond rfl (fun e0 => ?_) (fun e0 => ?_)
    · skip
      refine TC.seq ?_
      refine TC.region ?_
      refine TL.pure (PV.assign rfl) rfl (by decide) ?_
      refine TL.nil ?_
      refine TQ.thenC ?_
      refine TC.ret ?_
      refine TQ.thenR ?_
      refine TQ.retE1 rfl rfl ?_
      first | exact ⟨(), rfl, trivial, List.nil_sublist _⟩ | (exfalso; simp_all; done) | (exfalso; simp_all; omega) | exact ⟨(), by simp, trivial, List.nil_sublist _⟩
    · skip
      refine TC.skip ?_
      refine TQ.thenC ?_
      refine TC.seq ?_
      refine TC.seq ?_
      refine TC.region ?_
      refine TL.pure (PV.move rfl) rfl (by decide) ?_
      refine TL.pure (PV.neq rfl rfl) rfl (by decide) ?_
      refine TL.pure (PV.move rfl) rfl (by decide) ?_
      first | refine TL.splitD 40 rfl (fun e1 => ?_) (fun e1 => ?_) | refine TL.split 40 rfl (fun e1 => ?_) (fun e1 => ?_)
      · skip
        refine TL.skip rfl (fun k hk => by cases hk; decide) ?_
        refine TL.pure (PV.pickT rfl rfl) rfl (by decide) ?_
        refine TL.nil ?_
        refine TQ.thenC ?_
        refine TC.condT rfl ?_
        refine TC.seq ?_
        have hno : ¬ (planI t m = 0 ∧ costI t m ≠ mnI t) := fun h => by have hb := (best_eq h.1).1; have h1 := h.1; have h2 := h.2; simp_all
        have hyn := hyr.2.2 hno
        have hyl : yr.2.length = 0 := by rw [hyn]; rfl
        rw [decide_eq_false hno, hyl]
        refine TC.region ?_
        refine TL.pure (PV.move rfl) rfl (by decide) ?_
        refine TL.pure ((by first | exact PV.notD rfl | exact PV.not rfl)) rfl (by decide) ?_
        refine TL.pure (PV.move rfl) rfl (by decide) ?_
        first | refine TL.splitD 45 rfl (fun e3 => ?_) (fun e3 => ?_) | refine TL.split 45 rfl (fun e3 => ?_) (fun e3 => ?_)
        · skip
          refine TL.pure (PV.move rfl) rfl (by decide) ?_
          refine TL.pure (PV.len rfl Tb.sl_49) rfl (by decide) ?_
          refine TL.pure (PV.eql rfl rfl) rfl (by decide) ?_
          refine TL.pure (PV.pickT rfl rfl) rfl (by decide) ?_
          refine TL.pure (PV.move rfl) rfl (by decide) ?_
          first | refine TL.splitD 50 rfl (fun e4 => ?_) (fun e4 => ?_) | refine TL.split 50 rfl (fun e4 => ?_) (fun e4 => ?_)
          · skip
            refine TL.call rfl Tb.gofn_18 (fun a w hs => sane_ok w) rfl (by decide) (fun _ _ => ?_)
            refine TL.pure (PV.pickT rfl rfl) rfl (by decide) ?_
            refine TL.pure (PV.assign rfl) rfl (by decide) ?_
            refine TL.nil ?_
            refine TQ.thenC ?_
            refine TC.ret ?_
            refine TQ.thenR ?_
            refine TQ.retE1 rfl rfl ?_
            first | exact ⟨(), rfl, trivial, List.nil_sublist _⟩ | (exfalso; simp_all; done) | (exfalso; simp_all; omega) | exact ⟨(), by simp, trivial, List.nil_sublist _⟩
          · skip
            refine TL.skip rfl (fun k hk => by cases hk; decide) ?_
            refine TL.pure (PV.pickF rfl rfl) rfl (by decide) ?_
            refine TL.pure (PV.assign rfl) rfl (by decide) ?_
            refine TL.nil ?_
            refine TQ.thenC ?_
            refine TC.ret ?_
            refine TQ.thenR ?_
            refine TQ.retE1 rfl rfl ?_
            first | exact ⟨(), rfl, trivial, List.nil_sublist _⟩ | (exfalso; simp_all; done) | (exfalso; simp_all; omega) | exact ⟨(), by simp, trivial, List.nil_sublist _⟩
        · skip
          refine TL.skip rfl (fun k hk => by cases hk; decide) ?_
          refine TL.skip rfl (fun k hk => by cases hk; decide) ?_
          refine TL.skip rfl (fun k hk => by cases hk; decide) ?_
          refine TL.pure (PV.pickF rfl rfl) rfl (by decide) ?_
          refine TL.pure (PV.move rfl) rfl (by decide) ?_
          refine TL.skip rfl (fun k hk => by cases hk; decide) ?_
          refine TL.pure (PV.pickF rfl rfl) rfl (by decide) ?_
          refine TL.pure (PV.assign rfl) rfl (by decide) ?_
          refine TL.nil ?_
          refine TQ.thenC ?_
          refine TC.ret ?_
          refine TQ.thenR ?_
          refine TQ.retE1 rfl rfl ?_
          first | exact ⟨(), rfl, trivial, List.nil_sublist _⟩ | (exfalso; simp_all; done) | (exfalso; simp_all; omega) | exact ⟨(), by simp, trivial, List.nil_sublist _⟩
      · skip
        refine TL.pure (PV.move rfl) rfl (by decide) ?_
        refine TL.pure (PV.pickF rfl rfl) rfl (by decide) ?_
        refine TL.nil ?_
        refine TQ.thenC ?_
        first | refine TC.condD rfl (fun e2 => ?_) (fun e2 => ?_) | refine TC.cond rfl (fun e2 => ?_) (fun e2 => ?_)
        · skip
          refine TC.seq ?_
          have hno : ¬ (planI t m = 0 ∧ costI t m ≠ mnI t) := fun h => by have hb := (best_eq h.1).1; have h1 := h.1; have h2 := h.2; simp_all
          have hyn := hyr.2.2 hno
          have hyl : yr.2.length = 0 := by rw [hyn]; rfl
          rw [decide_eq_false hno, hyl]
          refine TC.region ?_
          refine TL.pure (PV.move rfl) rfl (by decide) ?_
          refine TL.pure ((by first | exact PV.notD rfl | exact PV.not rfl)) rfl (by decide) ?_
          refine TL.pure (PV.move rfl) rfl (by decide) ?_
          first | refine TL.splitD 45 rfl (fun e3 => ?_) (fun e3 => ?_) | refine TL.split 45 rfl (fun e3 => ?_) (fun e3 => ?_)
          · skip
            refine TL.pure (PV.move rfl) rfl (by decide) ?_
            refine TL.pure (PV.len rfl Tb.sl_49) rfl (by decide) ?_
            refine TL.pure (PV.eql rfl rfl) rfl (by decide) ?_
            refine TL.pure (PV.pickT rfl rfl) rfl (by decide) ?_
            refine TL.pure (PV.move rfl) rfl (by decide) ?_
            first | refine TL.splitD 50 rfl (fun e4 => ?_) (fun e4 => ?_) | refine TL.split 50 rfl (fun e4 => ?_) (fun e4 => ?_)
            · skip
              refine TL.call rfl Tb.gofn_18 (fun a w hs => sane_ok w) rfl (by decide) (fun _ _ => ?_)
              refine TL.pure (PV.pickT rfl rfl) rfl (by decide) ?_
              refine TL.pure (PV.assign rfl) rfl (by decide) ?_
              refine TL.nil ?_
              refine TQ.thenC ?_
              refine TC.ret ?_
              refine TQ.thenR ?_
              refine TQ.retE1 rfl rfl ?_
              first | exact ⟨(), rfl, trivial, List.nil_sublist _⟩ | (exfalso; simp_all; done) | (exfalso; simp_all; omega) | exact ⟨(), by simp, trivial, List.nil_sublist _⟩
            · skip
              refine TL.skip rfl (fun k hk => by cases hk; decide) ?_
              refine TL.pure (PV.pickF rfl rfl) rfl (by decide) ?_
              refine TL.pure (PV.assign rfl) rfl (by decide) ?_
              refine TL.nil ?_
              refine TQ.thenC ?_
              refine TC.ret ?_
              refine TQ.thenR ?_
              refine TQ.retE1 rfl rfl ?_
              first | exact ⟨(), rfl, trivial, List.nil_sublist _⟩ | (exfalso; simp_all; done) | (exfalso; simp_all; omega) | exact ⟨(), by simp, trivial, List.nil_sublist _⟩
          · skip
            refine TL.skip rfl (fun k hk => by cases hk; decide) ?_
            refine TL.skip rfl (fun k hk => by cases hk; decide) ?_
            refine TL.skip rfl (fun k hk => by cases hk; decide) ?_
            refine TL.pure (PV.pickF rfl rfl) rfl (by decide) ?_
            refine TL.pure (PV.move rfl) rfl (by decide) ?_
            refine TL.skip rfl (fun k hk => by cases hk; decide) ?_
            refine TL.pure (PV.pickF rfl rfl) rfl (by decide) ?_
            refine TL.pure (PV.assign rfl) rfl (by decide) ?_
            refine TL.nil ?_
            refine TQ.thenC ?_
            refine TC.ret ?_
            refine TQ.thenR ?_
            refine TQ.retE1 rfl rfl ?_
            first | exact ⟨(), rfl, trivial, List.nil_sublist _⟩ | (exfalso; simp_all; done) | (exfalso; simp_all; omega) | exact ⟨(), by simp, trivial, List.nil_sublist _⟩
        · skip
          refine TC.skip ?_
          refine TQ.thenC ?_
          refine TC.seq ?_
          have hyes : planI t m = 0 ∧ costI t m ≠ mnI t := by have hp : planI t m = 0 := (by first | exact Decidable.of_not_not e1 | simpa using e1); have hb := (best_eq hp).1; exact ⟨hp, fun h => by simp_all⟩
          have hVP := vp_of (show ¬ planI t m ≠ 0 by rw [hyes.1]; decide)
          obtain ⟨s1, s2, s3, s4, s5⟩ := alo_step hVP (hyr.2.1 hyes)
          rw [decide_eq_true hyes]
          refine TC.region ?_
          refine TL.pure (PV.loadBox rfl Tb.agg_25 (by repeat (first | exact List.Mem.head _ | refine List.Mem.tail _ ?_ | refine List.mem_append_right _ ?_)) rfl) rfl (by decide) ?_
          refine TL.pure (PV.move rfl) rfl (by decide) ?_
          refine TL.pure (PV.move rfl) rfl (by decide) ?_
          refine TL.call rfl Tb.gofn_41 (fun a w hs => rAlong_ok w _ t (IsT.mk (t1.new hs.new) (t2.new hs.new) (t3.new hs.new)) hT _ m (IsG.of (g1.new hs.new)) hM (gp yr.1) (gc yr.1) yr.2 (RecsAt.s hs.new (fun yy hyy => by repeat (first | exact List.mem_append_left _ hyy | exact List.mem_append_left _ (List.mem_append_right _ hyy) | exact List.mem_append_left _ (List.mem_append_left _ hyy) | refine List.mem_append_right _ ?_ | refine List.Mem.tail _ ?_)) hyr.1) (by omega)) rfl (by decide) (fun ya hya => ?_)
          obtain ⟨pb9, cb9, eb9, rb9⟩ := id hya
          rw [eb9, s1]
          refine TL.pure (PV.move rfl) rfl (by decide) ?_
          refine TL.pure (PV.extract rfl rfl) rfl (by decide) ?_
          refine TL.pure (PV.extract rfl rfl) rfl (by decide) ?_
          refine TL.pure (PV.extract rfl rfl) rfl (by decide) ?_
          refine TL.pure (PV.assign rfl) rfl (by decide) ?_
          refine TL.pure (PV.assign rfl) rfl (by decide) ?_
          refine TL.pure (PV.assign rfl) rfl (by decide) ?_
          refine TL.nil ?_
          refine TQ.thenC ?_
          refine TC.seq ?_
          refine TC.region ?_
          refine TL.pure (PV.loadBox rfl Tb.agg_25 (by repeat (first | exact List.Mem.head _ | refine List.Mem.tail _ ?_ | refine List.mem_append_right _ ?_)) rfl) rfl (by decide) ?_
          refine TL.pure (PV.move rfl) rfl (by decide) ?_
          refine TL.call rfl Tb.gofn_20 (fun a w hs => rCost_ok w _ t (IsT.mk (t1.new hs.new) (t2.new hs.new) (t3.new hs.new)) hT _ m (IsG.of (g1.new hs.new)) hM) rfl (by decide) (fun _ _ => ?_)
          rw [cst_0 (show ¬ planI t m ≠ 0 by rw [hVP.p]; decide)]
          refine TL.pure (PV.move rfl) rfl (by decide) ?_
          refine TL.pure (PV.extract rfl rfl) rfl (by decide) ?_
          refine TL.pure (PV.extract rfl rfl) rfl (by decide) ?_
          refine TL.pure (PV.assign rfl) rfl (by decide) ?_
          refine TL.pure (PV.assign rfl) rfl (by decide) ?_
          refine TL.nil ?_
          refine TQ.thenC ?_
          refine TC.seq ?_
          refine TC.region ?_
          refine TL.pure (PV.loadBox rfl Tb.agg_25 (by repeat (first | exact List.Mem.head _ | refine List.Mem.tail _ ?_ | refine List.mem_append_right _ ?_)) rfl) rfl (by decide) ?_
          refine TL.pure (PV.move rfl) rfl (by decide) ?_
          refine TL.call rfl Tb.gofn_20 (fun a w hs => rCost_ok w _ t (IsT.mk (t1.new hs.new) (t2.new hs.new) (t3.new hs.new)) hT _ _ (RdG.at' eb9 hya hs.new (fun yy hyy => by repeat (first | exact List.mem_append_left _ hyy | exact List.mem_append_left _ (List.mem_append_right _ hyy) | exact List.mem_append_left _ (List.mem_append_left _ hyy) | refine List.mem_append_right _ ?_ | refine List.Mem.tail _ ?_))) (s3.g.sm hT.s hT.d)) rfl (by decide) (fun _ _ => ?_)
          rw [cst_0 (show ¬ planI t _ ≠ 0 by rw [s3.p]; decide)]
          refine TL.pure (PV.move rfl) rfl (by decide) ?_
          refine TL.pure (PV.extract rfl rfl) rfl (by decide) ?_
          refine TL.pure (PV.extract rfl rfl) rfl (by decide) ?_
          refine TL.pure (PV.assign rfl) rfl (by decide) ?_
          refine TL.pure (PV.assign rfl) rfl (by decide) ?_
          refine TL.nil ?_
          refine TQ.thenC ?_
          refine TC.seq ?_
          refine TC.region ?_
          refine TL.pure (PV.move rfl) rfl (by decide) ?_
          refine TL.pure (PV.move rfl) rfl (by decide) ?_
          first | refine TL.splitD 74 rfl (fun e5 => ?_) (fun e5 => ?_) | refine TL.split 74 rfl (fun e5 => ?_) (fun e5 => ?_)
          · skip
            refine TL.pure (PV.move rfl) rfl (by decide) ?_
            refine TL.pure (PV.eql rfl rfl) rfl (by decide) ?_
            refine TL.pure (PV.pickT rfl rfl) rfl (by decide) ?_
            refine TL.pure (PV.move rfl) rfl (by decide) ?_
            first | refine TL.splitD 78 rfl (fun e6 => ?_) (fun e6 => ?_) | refine TL.split 78 rfl (fun e6 => ?_) (fun e6 => ?_)
            · skip
              refine TL.pure (PV.move rfl) rfl (by decide) ?_
              refine TL.pure (PV.gtr rfl rfl) rfl (by decide) ?_
              refine TL.pure (PV.pickT rfl rfl) rfl (by decide) ?_
              refine TL.pure (PV.move rfl) rfl (by decide) ?_
              first | refine TL.splitD 82 rfl (fun e7 => ?_) (fun e7 => ?_) | refine TL.split 82 rfl (fun e7 => ?_) (fun e7 => ?_)
              · skip
                refine TL.pure (PV.move rfl) rfl (by decide) ?_
                refine TL.pure (PV.eql rfl rfl) rfl (by decide) ?_
                refine TL.pure (PV.pickT rfl rfl) rfl (by decide) ?_
                refine TL.pure (PV.move rfl) rfl (by decide) ?_
                first | refine TL.splitD 86 rfl (fun e8 => ?_) (fun e8 => ?_) | refine TL.split 86 rfl (fun e8 => ?_) (fun e8 => ?_)
                · skip
                  refine TL.pure (PV.move rfl) rfl (by decide) ?_
                  refine TL.pure (PV.move rfl) rfl (by decide) ?_
                  refine TL.pure (PV.lss rfl rfl) rfl (by decide) ?_
                  refine TL.pure (PV.pickT rfl rfl) rfl (by decide) ?_
                  refine TL.pure (PV.move rfl) rfl (by decide) ?_
                  first | refine TL.splitD 91 rfl (fun e9 => ?_) (fun e9 => ?_) | refine TL.split 91 rfl (fun e9 => ?_) (fun e9 => ?_)
                  · skip
                    refine TL.call rfl Tb.gofn_18 (fun a w hs => sane_ok w) rfl (by decide) (fun _ _ => ?_)
                    refine TL.pure (PV.pickT rfl rfl) rfl (by decide) ?_
                    refine TL.pure (PV.assign rfl) rfl (by decide) ?_
                    refine TL.nil ?_
                    refine TQ.thenC ?_
                    refine TC.ret ?_
                    refine TQ.retE1 rfl rfl ?_
                    first | exact ⟨(), rfl, trivial, List.nil_sublist _⟩ | (exfalso; simp_all; done) | (exfalso; simp_all; omega) | exact ⟨(), by simp, trivial, List.nil_sublist _⟩
                  · skip
                    refine TL.skip rfl (fun k hk => by cases hk; decide) ?_
                    refine TL.pure (PV.pickF rfl rfl) rfl (by decide) ?_
                    refine TL.pure (PV.assign rfl) rfl (by decide) ?_
                    refine TL.nil ?_
                    refine TQ.thenC ?_
                    refine TC.ret ?_
                    refine TQ.retE1 rfl rfl ?_
                    first | exact ⟨(), rfl, trivial, List.nil_sublist _⟩ | (exfalso; simp_all; done) | (exfalso; simp_all; omega) | exact ⟨(), by simp, trivial, List.nil_sublist _⟩
                · skip
                  refine TL.skip rfl (fun k hk => by cases hk; decide) ?_
                  refine TL.skip rfl (fun k hk => by cases hk; decide) ?_
                  refine TL.skip rfl (fun k hk => by cases hk; decide) ?_
                  refine TL.pure (PV.pickF rfl rfl) rfl (by decide) ?_
                  refine TL.pure (PV.move rfl) rfl (by decide) ?_
                  refine TL.skip rfl (fun k hk => by cases hk; decide) ?_
                  refine TL.pure (PV.pickF rfl rfl) rfl (by decide) ?_
                  refine TL.pure (PV.assign rfl) rfl (by decide) ?_
                  refine TL.nil ?_
                  refine TQ.thenC ?_
                  refine TC.ret ?_
                  refine TQ.retE1 rfl rfl ?_
                  first | exact ⟨(), rfl, trivial, List.nil_sublist _⟩ | (exfalso; simp_all; done) | (exfalso; simp_all; omega) | exact ⟨(), by simp, trivial, List.nil_sublist _⟩
              · skip
                refine TL.skip rfl (fun k hk => by cases hk; decide) ?_
                refine TL.skip rfl (fun k hk => by cases hk; decide) ?_
                refine TL.pure (PV.pickF rfl rfl) rfl (by decide) ?_
                refine TL.pure (PV.move rfl) rfl (by decide) ?_
                refine TL.skip rfl (fun k hk => by cases hk; decide) ?_
                refine TL.skip rfl (fun k hk => by cases hk; decide) ?_
                refine TL.skip rfl (fun k hk => by cases hk; decide) ?_
                refine TL.pure (PV.pickF rfl rfl) rfl (by decide) ?_
                refine TL.pure (PV.move rfl) rfl (by decide) ?_
                refine TL.skip rfl (fun k hk => by cases hk; decide) ?_
                refine TL.pure (PV.pickF rfl rfl) rfl (by decide) ?_
                refine TL.pure (PV.assign rfl) rfl (by decide) ?_
                refine TL.nil ?_
                refine TQ.thenC ?_
                refine TC.ret ?_
                refine TQ.retE1 rfl rfl ?_
                first | exact ⟨(), rfl, trivial, List.nil_sublist _⟩ | (exfalso; simp_all; done) | (exfalso; simp_all; omega) | exact ⟨(), by simp, trivial, List.nil_sublist _⟩
            · skip
              refine TL.skip rfl (fun k hk => by cases hk; decide) ?_
              refine TL.skip rfl (fun k hk => by cases hk; decide) ?_
              refine TL.pure (PV.pickF rfl rfl) rfl (by decide) ?_
              refine TL.pure (PV.move rfl) rfl (by decide) ?_
              refine TL.skip rfl (fun k hk => by cases hk; decide) ?_
              refine TL.skip rfl (fun k hk => by cases hk; decide) ?_
              refine TL.pure (PV.pickF rfl rfl) rfl (by decide) ?_
              refine TL.pure (PV.move rfl) rfl (by decide) ?_
              refine TL.skip rfl (fun k hk => by cases hk; decide) ?_
              refine TL.skip rfl (fun k hk => by cases hk; decide) ?_
              refine TL.skip rfl (fun k hk => by cases hk; decide) ?_
              refine TL.pure (PV.pickF rfl rfl) rfl (by decide) ?_
              refine TL.pure (PV.move rfl) rfl (by decide) ?_
              refine TL.skip rfl (fun k hk => by cases hk; decide) ?_
              refine TL.pure (PV.pickF rfl rfl) rfl (by decide) ?_
              refine TL.pure (PV.assign rfl) rfl (by decide) ?_
              refine TL.nil ?_
              refine TQ.thenC ?_
              refine TC.ret ?_
              refine TQ.retE1 rfl rfl ?_
              first | exact ⟨(), rfl, trivial, List.nil_sublist _⟩ | (exfalso; simp_all; done) | (exfalso; simp_all; omega) | exact ⟨(), by simp, trivial, List.nil_sublist _⟩
          · skip
            refine TL.skip rfl (fun k hk => by cases hk; decide) ?_
            refine TL.skip rfl (fun k hk => by cases hk; decide) ?_
            refine TL.pure (PV.pickF rfl rfl) rfl (by decide) ?_
            refine TL.pure (PV.move rfl) rfl (by decide) ?_
            refine TL.skip rfl (fun k hk => by cases hk; decide) ?_
            refine TL.skip rfl (fun k hk => by cases hk; decide) ?_
            refine TL.pure (PV.pickF rfl rfl) rfl (by decide) ?_
            refine TL.pure (PV.move rfl) rfl (by decide) ?_
            refine TL.skip rfl (fun k hk => by cases hk; decide) ?_
            refine TL.skip rfl (fun k hk => by cases hk; decide) ?_
            refine TL.pure (PV.pickF rfl rfl) rfl (by decide) ?_
            refine TL.pure (PV.move rfl) rfl (by decide) ?_
            refine TL.skip rfl (fun k hk => by cases hk; decide) ?_
            refine TL.skip rfl (fun k hk => by cases hk; decide) ?_
            refine TL.skip rfl (fun k hk => by cases hk; decide) ?_
            refine TL.pure (PV.pickF rfl rfl) rfl (by decide) ?_
            refine TL.pure (PV.move rfl) rfl (by decide) ?_
            refine TL.skip rfl (fun k hk => by cases hk; decide) ?_
            refine TL.pure (PV.pickF rfl rfl) rfl (by decide) ?_
            refine TL.pure (PV.assign rfl) rfl (by decide) ?_
            refine TL.nil ?_
            refine TQ.thenC ?_
            refine TC.ret ?_
            refine TQ.retE1 rfl rfl ?_
            first | exact ⟨(), rfl, trivial, List.nil_sublist _⟩ | (exfalso; simp_all; done) | (exfalso; simp_all; omega) | exact ⟨(), by simp, trivial, List.nil_sublist _⟩

end Go.Proofs.Ytghlkndanpegbaa
