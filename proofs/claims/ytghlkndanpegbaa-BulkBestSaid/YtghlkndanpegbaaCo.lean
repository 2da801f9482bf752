/- The law of best plans: contract. -/
import Derived.Test.YtghlkndanpegbaaCm
set_option linter.unusedVariables false
set_option linter.unusedSimpArgs false
namespace Go.Proofs.Ytghlkndanpegbaa
open Go.Sx Go.RowKit Go.Sand Go.Tp



set_option maxRecDepth 100000 in
set_option maxHeartbeats 4000000 in
theorem bulkBest_ok (w0 : World) (vt : Value) (t : Td) (ht : IsT w0 vt t) (hlc : t.c.length ≤ 9223372036854775807) (vg : Value) (m : List (List Int)) (hg : IsG w0 vg m) (hlm : m.length ≤ 9223372036854775807) :
    Calls Try.prog 6 #[vt, vg] w0 (Post (X := Unit) (fun _ => .bool true) (fun _ => True) (fun _ => []) w0) := by
  obtain ⟨p1, c1, p2, c2, p3, c3, rfl, t1, t2, t3⟩ := ht
  obtain ⟨pg, cg, rfl, g1⟩ := hg
  refine calls Try.func6 rfl (n := 76) rfl (by simp) ?_
  refine TC.seq ?_
  refine TC.region ?_
  refine TL.box rfl rfl (by decide) (fun b0 hb0 => ?_)
  refine TL.pure (PV.assign rfl) rfl (by decide) ?_
  refine TL.nil ?_
  refine TQ.thenC ?_
  refine TC.seq ?_
  refine TC.seq ?_
  refine TC.region ?_
  refine TL.pure (PV.loadBox rfl Tb.agg_25 (by repeat (first | exact List.Mem.head _ | refine List.Mem.tail _ ?_ | refine List.mem_append_right _ ?_)) rfl) rfl (by decide) ?_
  refine TL.pure (PV.move rfl) rfl (by decide) ?_
  refine TL.buildSlice (cs := #[.slice pg m.length cg]) rfl Tb.sl_63 Tb.zi_23 (by decide) (fill_o _ _ _) (by decide) rfl (by decide) (fun bs hbs => ?_)
  refine TL.call rfl Tb.gofn_17 (fun a w hs => long_ok w _ t (IsT.mk (t1.new hs.new) (t2.new hs.new) (t3.new hs.new)) hlc (some ⟨bs, 0, none⟩) 1 [m] (LsG.one hs.new (by repeat (first | exact List.Mem.head _ | refine List.Mem.tail _ ?_ | refine List.mem_append_right _ ?_)) (g1.new hs.new)) (LsG.len1 hlm) (by show 1 ≤ 1000; decide)) rfl (by decide) (fun _ _ => ?_)
  refine TL.nil ?_
  refine TQ.thenC ?_
  first | refine TC.condD rfl (fun hlg => ?_) (fun hlg => ?_) | refine TC.cond rfl (fun hlg => ?_) (fun hlg => ?_)
  · skip
    refine TC.seq ?_
    refine TC.region ?_
    refine TL.call rfl Tb.gofn_18 (fun a w hs => sane_ok w) rfl (by decide) (fun _ _ => ?_)
    refine TL.pure (PV.assign rfl) rfl (by decide) ?_
    refine TL.nil ?_
    refine TQ.thenC ?_
    refine TC.ret ?_
    refine TQ.thenR ?_
    refine TQ.retE1 rfl rfl ?_
    first | exact ⟨(), rfl, trivial, List.nil_sublist _⟩ | (exfalso; have hp : planI t m = 0 := (by first | exact Decidable.of_not_not e2 | simpa using e2); obtain ⟨k1, k2, k3, k4, k5⟩ := hbe hp; simp_all; done) | (exfalso; simp_all; done) | (exfalso; simp_all; omega) | exact ⟨(), by simp, trivial, List.nil_sublist _⟩
  · skip
    refine TC.skip ?_
    refine TQ.thenC ?_
    refine TC.seq ?_
    have hT := (lgT_0 hlg).1
    have hM := (lgT_0 hlg).2 m (by simp)
    refine TC.region ?_
    refine TL.pure (PV.loadBox rfl Tb.agg_25 (by repeat (first | exact List.Mem.head _ | refine List.Mem.tail _ ?_ | refine List.mem_append_right _ ?_)) rfl) rfl (by decide) ?_
    refine TL.pure (PV.move rfl) rfl (by decide) ?_
    refine TL.call rfl Tb.gofn_31 (fun a w hs => IsBest_ok w _ t (IsT.mk (t1.new hs.new) (t2.new hs.new) (t3.new hs.new)) hT _ m (IsG.of (g1.new hs.new)) hM) rfl (by decide) (fun _ _ => ?_)
    rw [ib_r t m]
    refine TL.pure (PV.move rfl) rfl (by decide) ?_
    refine TL.pure (PV.extract rfl rfl) rfl (by decide) ?_
    refine TL.pure (PV.extract rfl rfl) rfl (by decide) ?_
    refine TL.pure (PV.assign rfl) rfl (by decide) ?_
    refine TL.pure (PV.assign rfl) rfl (by decide) ?_
    refine TL.nil ?_
    refine TQ.thenC ?_
    refine TC.seq ?_
    refine TC.region ?_
    refine TL.pure (PV.loadBox rfl Tb.agg_25 (by repeat (first | exact List.Mem.head _ | refine List.Mem.tail _ ?_ | refine List.mem_append_right _ ?_)) rfl) rfl (by decide) ?_
    refine TL.pure (PV.move rfl) rfl (by decide) ?_
    refine TL.call rfl Tb.gofn_32 (fun a w hs => rIsBest_ok w _ t (IsT.mk (t1.new hs.new) (t2.new hs.new) (t3.new hs.new)) hT _ m (IsG.of (g1.new hs.new)) hM) rfl (by decide) (fun _ _ => ?_)
    rw [ib_r t m]
    refine TL.pure (PV.move rfl) rfl (by decide) ?_
    refine TL.pure (PV.extract rfl rfl) rfl (by decide) ?_
    refine TL.pure (PV.extract rfl rfl) rfl (by decide) ?_
    refine TL.pure (PV.assign rfl) rfl (by decide) ?_
    refine TL.pure (PV.assign rfl) rfl (by decide) ?_
    refine TL.nil ?_
    refine TQ.thenC ?_
    refine TC.seq ?_
    refine TC.region ?_
    refine TL.pure (PV.loadBox rfl Tb.agg_25 (by repeat (first | exact List.Mem.head _ | refine List.Mem.tail _ ?_ | refine List.mem_append_right _ ?_)) rfl) rfl (by decide) ?_
    refine TL.pure (PV.move rfl) rfl (by decide) ?_
    refine TL.call rfl Tb.gofn_19 (fun a w hs => Cost_ok w _ t (IsT.mk (t1.new hs.new) (t2.new hs.new) (t3.new hs.new)) hT _ m (IsG.of (g1.new hs.new)) hM) rfl (by decide) (fun _ _ => ?_)
    refine TL.pure (PV.move rfl) rfl (by decide) ?_
    refine TL.pure (PV.extract rfl rfl) rfl (by decide) ?_
    refine TL.pure (PV.extract rfl rfl) rfl (by decide) ?_
    refine TL.pure (PV.assign rfl) rfl (by decide) ?_
    refine TL.pure (PV.assign rfl) rfl (by decide) ?_
    refine TL.nil ?_
    refine TQ.thenC ?_
    refine TC.seq ?_
    refine TC.region ?_
    refine TL.pure (PV.loadBox rfl Tb.agg_25 (by repeat (first | exact List.Mem.head _ | refine List.Mem.tail _ ?_ | refine List.mem_append_right _ ?_)) rfl) rfl (by decide) ?_
    refine TL.call rfl Tb.gofn_28 (fun a w hs => Least_ok w _ t (IsT.mk (t1.new hs.new) (t2.new hs.new) (t3.new hs.new)) hT) rfl (by decide) (fun _ _ => ?_)
    refine TL.pure (PV.move rfl) rfl (by decide) ?_
    refine TL.pure (PV.extract rfl rfl) rfl (by decide) ?_
    refine TL.pure (PV.extract rfl rfl) rfl (by decide) ?_
    refine TL.pure (PV.assign rfl) rfl (by decide) ?_
    refine TL.pure (PV.assign rfl) rfl (by decide) ?_
    refine TL.nil ?_
    refine TQ.thenC ?_
    refine TC.seq ?_
    have hbe := best_eq (t := t) (m := m)
    refine TC.region ?_
    refine TL.pure (PV.move rfl) rfl (by decide) ?_
    refine TL.pure (PV.move rfl) rfl (by decide) ?_
    refine TL.pure (PV.eqlB rfl rfl Tb.bool_4) rfl (by decide) ?_
    refine TL.pure (PV.move rfl) rfl (by decide) ?_
    first | refine TL.splitD 44 rfl (fun e0 => ?_) (fun e0 => ?_) | refine TL.split 44 rfl (fun e0 => ?_) (fun e0 => ?_)
    · skip
      refine TL.pure (PV.move rfl) rfl (by decide) ?_
      refine TL.pure (PV.move rfl) rfl (by decide) ?_
      refine TL.pure (PV.eql rfl rfl) rfl (by decide) ?_
      refine TL.pure (PV.pickT rfl rfl) rfl (by decide) ?_
      refine TL.pure (PV.move rfl) rfl (by decide) ?_
      first | refine TL.splitD 49 rfl (fun e1 => ?_) (fun e1 => ?_) | refine TL.split 49 rfl (fun e1 => ?_) (fun e1 => ?_)
      · skip
        refine TL.pure (PV.move rfl) rfl (by decide) ?_
        refine TL.pure (PV.neq rfl rfl) rfl (by decide) ?_
        refine TL.pure (PV.move rfl) rfl (by decide) ?_
        first | refine TL.splitD 52 rfl (fun e2 => ?_) (fun e2 => ?_) | refine TL.split 52 rfl (fun e2 => ?_) (fun e2 => ?_)
        · skip
          refine TL.skip rfl (fun k hk => by cases hk; decide) ?_
          refine TL.skip rfl (fun k hk => by cases hk; decide) ?_
          refine TL.skip rfl (fun k hk => by cases hk; decide) ?_
          refine TL.skipU rfl (fun k hk => by cases hk; decide) ?_
          refine TL.skipU rfl (fun k hk => by cases hk; decide) ?_
          refine TL.skip rfl (fun k hk => by cases hk; decide) ?_
          refine TL.skip rfl (fun k hk => by cases hk; decide) ?_
          refine TL.skipU rfl (fun k hk => by cases hk; decide) ?_
          refine TL.skipU rfl (fun k hk => by cases hk; decide) ?_
          refine TL.skipU rfl (fun k hk => by cases hk; decide) ?_
          refine TL.skip rfl (fun k hk => by cases hk; decide) ?_
          refine TL.skip rfl (fun k hk => by cases hk; decide) ?_
          refine TL.skipU rfl (fun k hk => by cases hk; decide) ?_
          refine TL.skipU rfl (fun k hk => by cases hk; decide) ?_
          refine TL.skipU rfl (fun k hk => by cases hk; decide) ?_
          refine TL.skipU rfl (fun k hk => by cases hk; decide) ?_
          refine TL.skipU rfl (fun k hk => by cases hk; decide) ?_
          refine TL.skip rfl (fun k hk => by cases hk; decide) ?_
          refine TL.pure (PV.pickT rfl rfl) rfl (by decide) ?_
          refine TL.pure (PV.pickT rfl rfl) rfl (by decide) ?_
          refine TL.pure (PV.move rfl) rfl (by decide) ?_
          refine TL.call rfl Tb.gofn_18 (fun a w hs => sane_ok w) rfl (by decide) (fun _ _ => ?_)
          refine TL.pure (PV.pickT rfl rfl) rfl (by decide) ?_
          refine TL.pure (PV.assign rfl) rfl (by decide) ?_
          refine TL.nil ?_
          refine TQ.thenC ?_
          refine TC.ret ?_
          refine TQ.retE1 rfl rfl ?_
          first | exact ⟨(), rfl, trivial, List.nil_sublist _⟩ | (exfalso; have hp : planI t m = 0 := (by first | exact Decidable.of_not_not e2 | simpa using e2); obtain ⟨k1, k2, k3, k4, k5⟩ := hbe hp; simp_all; done) | (exfalso; simp_all; done) | (exfalso; simp_all; omega) | exact ⟨(), by simp, trivial, List.nil_sublist _⟩
        · skip
          refine TL.pure (PV.move rfl) rfl (by decide) ?_
          refine TL.pure (PV.eql rfl rfl) rfl (by decide) ?_
          refine TL.pure (PV.move rfl) rfl (by decide) ?_
          first | refine TL.splitD 55 rfl (fun e3 => ?_) (fun e3 => ?_) | refine TL.split 55 rfl (fun e3 => ?_) (fun e3 => ?_)
          · skip
            refine TL.pure (PV.move rfl) rfl (by decide) ?_
            refine TL.pure (PV.eql rfl rfl) rfl (by decide) ?_
            refine TL.pure (PV.pickT rfl rfl) rfl (by decide) ?_
            refine TL.pure (PV.move rfl) rfl (by decide) ?_
            first | refine TL.splitD 59 rfl (fun e4 => ?_) (fun e4 => ?_) | refine TL.split 59 rfl (fun e4 => ?_) (fun e4 => ?_)
            · skip
              refine TL.pure (PV.move rfl) rfl (by decide) ?_
              refine TL.pure (PV.move rfl) rfl (by decide) ?_
              refine TL.pure (PV.leq rfl rfl) rfl (by decide) ?_
              refine TL.pure (PV.pickT rfl rfl) rfl (by decide) ?_
              refine TL.pure (PV.move rfl) rfl (by decide) ?_
              first | refine TL.splitD 64 rfl (fun e5 => ?_) (fun e5 => ?_) | refine TL.split 64 rfl (fun e5 => ?_) (fun e5 => ?_)
              · skip
                refine TL.pure (PV.move rfl) rfl (by decide) ?_
                refine TL.pure (PV.move rfl) rfl (by decide) ?_
                refine TL.pure (PV.move rfl) rfl (by decide) ?_
                refine TL.pure (PV.eql rfl rfl) rfl (by decide) ?_
                refine TL.pure (PV.eqlB rfl rfl Tb.bool_4) rfl (by decide) ?_
                refine TL.pure (PV.pickT rfl rfl) rfl (by decide) ?_
                refine TL.pure (PV.pickF rfl rfl) rfl (by decide) ?_
                refine TL.pure (PV.pickT rfl rfl) rfl (by decide) ?_
                refine TL.pure (PV.move rfl) rfl (by decide) ?_
                first | refine TL.splitD 73 rfl (fun e6 => ?_) (fun e6 => ?_) | refine TL.split 73 rfl (fun e6 => ?_) (fun e6 => ?_)
                · skip
                  refine TL.call rfl Tb.gofn_18 (fun a w hs => sane_ok w) rfl (by decide) (fun _ _ => ?_)
                  refine TL.pure (PV.pickT rfl rfl) rfl (by decide) ?_
                  refine TL.pure (PV.assign rfl) rfl (by decide) ?_
                  refine TL.nil ?_
                  refine TQ.thenC ?_
                  refine TC.ret ?_
                  refine TQ.retE1 rfl rfl ?_
                  first | exact ⟨(), rfl, trivial, List.nil_sublist _⟩ | (exfalso; have hp : planI t m = 0 := (by first | exact Decidable.of_not_not e2 | simpa using e2); obtain ⟨k1, k2, k3, k4, k5⟩ := hbe hp; simp_all; done) | (exfalso; simp_all; done) | (exfalso; simp_all; omega) | exact ⟨(), by simp, trivial, List.nil_sublist _⟩
                · skip
                  refine TL.skip rfl (fun k hk => by cases hk; decide) ?_
                  refine TL.pure (PV.pickF rfl rfl) rfl (by decide) ?_
                  refine TL.pure (PV.assign rfl) rfl (by decide) ?_
                  refine TL.nil ?_
                  refine TQ.thenC ?_
                  refine TC.ret ?_
                  refine TQ.retE1 rfl rfl ?_
                  first | exact ⟨(), rfl, trivial, List.nil_sublist _⟩ | (exfalso; have hp : planI t m = 0 := (by first | exact Decidable.of_not_not e2 | simpa using e2); obtain ⟨k1, k2, k3, k4, k5⟩ := hbe hp; simp_all; done) | (exfalso; simp_all; done) | (exfalso; simp_all; omega) | exact ⟨(), by simp, trivial, List.nil_sublist _⟩
              · skip
                refine TL.skip rfl (fun k hk => by cases hk; decide) ?_
                refine TL.skip rfl (fun k hk => by cases hk; decide) ?_
                refine TL.skip rfl (fun k hk => by cases hk; decide) ?_
                refine TL.skip rfl (fun k hk => by cases hk; decide) ?_
                refine TL.skip rfl (fun k hk => by cases hk; decide) ?_
                refine TL.pure (PV.pickF rfl rfl) rfl (by decide) ?_
                refine TL.pure (PV.pickF rfl rfl) rfl (by decide) ?_
                refine TL.pure (PV.pickT rfl rfl) rfl (by decide) ?_
                refine TL.pure (PV.move rfl) rfl (by decide) ?_
                refine TL.skip rfl (fun k hk => by cases hk; decide) ?_
                refine TL.pure (PV.pickF rfl rfl) rfl (by decide) ?_
                refine TL.pure (PV.assign rfl) rfl (by decide) ?_
                refine TL.nil ?_
                refine TQ.thenC ?_
                refine TC.ret ?_
                refine TQ.retE1 rfl rfl ?_
                first | exact ⟨(), rfl, trivial, List.nil_sublist _⟩ | (exfalso; have hp : planI t m = 0 := (by first | exact Decidable.of_not_not e2 | simpa using e2); obtain ⟨k1, k2, k3, k4, k5⟩ := hbe hp; simp_all; done) | (exfalso; simp_all; done) | (exfalso; simp_all; omega) | exact ⟨(), by simp, trivial, List.nil_sublist _⟩
            · skip
              refine TL.skip rfl (fun k hk => by cases hk; decide) ?_
              refine TL.skip rfl (fun k hk => by cases hk; decide) ?_
              refine TL.skip rfl (fun k hk => by cases hk; decide) ?_
              refine TL.pure (PV.pickF rfl rfl) rfl (by decide) ?_
              refine TL.pure (PV.move rfl) rfl (by decide) ?_
              refine TL.skip rfl (fun k hk => by cases hk; decide) ?_
              refine TL.skip rfl (fun k hk => by cases hk; decide) ?_
              refine TL.skip rfl (fun k hk => by cases hk; decide) ?_
              refine TL.skip rfl (fun k hk => by cases hk; decide) ?_
              refine TL.skip rfl (fun k hk => by cases hk; decide) ?_
              refine TL.pure (PV.pickF rfl rfl) rfl (by decide) ?_
              refine TL.pure (PV.pickF rfl rfl) rfl (by decide) ?_
              refine TL.pure (PV.pickT rfl rfl) rfl (by decide) ?_
              refine TL.pure (PV.move rfl) rfl (by decide) ?_
              refine TL.skip rfl (fun k hk => by cases hk; decide) ?_
              refine TL.pure (PV.pickF rfl rfl) rfl (by decide) ?_
              refine TL.pure (PV.assign rfl) rfl (by decide) ?_
              refine TL.nil ?_
              refine TQ.thenC ?_
              refine TC.ret ?_
              refine TQ.retE1 rfl rfl ?_
              first | exact ⟨(), rfl, trivial, List.nil_sublist _⟩ | (exfalso; have hp : planI t m = 0 := (by first | exact Decidable.of_not_not e2 | simpa using e2); obtain ⟨k1, k2, k3, k4, k5⟩ := hbe hp; simp_all; done) | (exfalso; simp_all; done) | (exfalso; simp_all; omega) | exact ⟨(), by simp, trivial, List.nil_sublist _⟩
          · skip
            refine TL.skip rfl (fun k hk => by cases hk; decide) ?_
            refine TL.skip rfl (fun k hk => by cases hk; decide) ?_
            refine TL.pure (PV.pickF rfl rfl) rfl (by decide) ?_
            refine TL.pure (PV.move rfl) rfl (by decide) ?_
            refine TL.skip rfl (fun k hk => by cases hk; decide) ?_
            refine TL.skip rfl (fun k hk => by cases hk; decide) ?_
            refine TL.skip rfl (fun k hk => by cases hk; decide) ?_
            refine TL.pure (PV.pickF rfl rfl) rfl (by decide) ?_
            refine TL.pure (PV.move rfl) rfl (by decide) ?_
            refine TL.skip rfl (fun k hk => by cases hk; decide) ?_
            refine TL.skip rfl (fun k hk => by cases hk; decide) ?_
            refine TL.skip rfl (fun k hk => by cases hk; decide) ?_
            refine TL.skip rfl (fun k hk => by cases hk; decide) ?_
            refine TL.skip rfl (fun k hk => by cases hk; decide) ?_
            refine TL.pure (PV.pickF rfl rfl) rfl (by decide) ?_
            refine TL.pure (PV.pickF rfl rfl) rfl (by decide) ?_
            refine TL.pure (PV.pickT rfl rfl) rfl (by decide) ?_
            refine TL.pure (PV.move rfl) rfl (by decide) ?_
            refine TL.skip rfl (fun k hk => by cases hk; decide) ?_
            refine TL.pure (PV.pickF rfl rfl) rfl (by decide) ?_
            refine TL.pure (PV.assign rfl) rfl (by decide) ?_
            refine TL.nil ?_
            refine TQ.thenC ?_
            refine TC.ret ?_
            refine TQ.retE1 rfl rfl ?_
            first | exact ⟨(), rfl, trivial, List.nil_sublist _⟩ | (exfalso; have hp : planI t m = 0 := (by first | exact Decidable.of_not_not e2 | simpa using e2); obtain ⟨k1, k2, k3, k4, k5⟩ := hbe hp; simp_all; done) | (exfalso; simp_all; done) | (exfalso; simp_all; omega) | exact ⟨(), by simp, trivial, List.nil_sublist _⟩
      · skip
        refine TL.skip rfl (fun k hk => by cases hk; decide) ?_
        refine TL.skip rfl (fun k hk => by cases hk; decide) ?_
        refine TL.skip rfl (fun k hk => by cases hk; decide) ?_
        refine TL.skipU rfl (fun k hk => by cases hk; decide) ?_
        refine TL.skipU rfl (fun k hk => by cases hk; decide) ?_
        refine TL.skipU rfl (fun k hk => by cases hk; decide) ?_
        refine TL.skipU rfl (fun k hk => by cases hk; decide) ?_
        refine TL.skipU rfl (fun k hk => by cases hk; decide) ?_
        refine TL.skipU rfl (fun k hk => by cases hk; decide) ?_
        refine TL.skipU rfl (fun k hk => by cases hk; decide) ?_
        refine TL.skipU rfl (fun k hk => by cases hk; decide) ?_
        refine TL.skipU rfl (fun k hk => by cases hk; decide) ?_
        refine TL.skipU rfl (fun k hk => by cases hk; decide) ?_
        refine TL.skipU rfl (fun k hk => by cases hk; decide) ?_
        refine TL.skipU rfl (fun k hk => by cases hk; decide) ?_
        refine TL.skipU rfl (fun k hk => by cases hk; decide) ?_
        refine TL.skipU rfl (fun k hk => by cases hk; decide) ?_
        refine TL.skipU rfl (fun k hk => by cases hk; decide) ?_
        refine TL.skipU rfl (fun k hk => by cases hk; decide) ?_
        refine TL.skipU rfl (fun k hk => by cases hk; decide) ?_
        refine TL.skipU rfl (fun k hk => by cases hk; decide) ?_
        refine TL.skip rfl (fun k hk => by cases hk; decide) ?_
        refine TL.pure (PV.pickF rfl rfl) rfl (by decide) ?_
        refine TL.pure (PV.move rfl) rfl (by decide) ?_
        refine TL.skip rfl (fun k hk => by cases hk; decide) ?_
        refine TL.pure (PV.pickF rfl rfl) rfl (by decide) ?_
        refine TL.pure (PV.assign rfl) rfl (by decide) ?_
        refine TL.nil ?_
        refine TQ.thenC ?_
        refine TC.ret ?_
        refine TQ.retE1 rfl rfl ?_
        first | exact ⟨(), rfl, trivial, List.nil_sublist _⟩ | (exfalso; have hp : planI t m = 0 := (by first | exact Decidable.of_not_not e2 | simpa using e2); obtain ⟨k1, k2, k3, k4, k5⟩ := hbe hp; simp_all; done) | (exfalso; simp_all; done) | (exfalso; simp_all; omega) | exact ⟨(), by simp, trivial, List.nil_sublist _⟩
    · skip
      refine TL.skip rfl (fun k hk => by cases hk; decide) ?_
      refine TL.skip rfl (fun k hk => by cases hk; decide) ?_
      refine TL.skip rfl (fun k hk => by cases hk; decide) ?_
      refine TL.pure (PV.pickF rfl rfl) rfl (by decide) ?_
      refine TL.pure (PV.move rfl) rfl (by decide) ?_
      refine TL.skip rfl (fun k hk => by cases hk; decide) ?_
      refine TL.skip rfl (fun k hk => by cases hk; decide) ?_
      refine TL.skip rfl (fun k hk => by cases hk; decide) ?_
      refine TL.skipU rfl (fun k hk => by cases hk; decide) ?_
      refine TL.skipU rfl (fun k hk => by cases hk; decide) ?_
      refine TL.skipU rfl (fun k hk => by cases hk; decide) ?_
      refine TL.skipU rfl (fun k hk => by cases hk; decide) ?_
      refine TL.skipU rfl (fun k hk => by cases hk; decide) ?_
      refine TL.skipU rfl (fun k hk => by cases hk; decide) ?_
      refine TL.skipU rfl (fun k hk => by cases hk; decide) ?_
      refine TL.skipU rfl (fun k hk => by cases hk; decide) ?_
      refine TL.skipU rfl (fun k hk => by cases hk; decide) ?_
      refine TL.skipU rfl (fun k hk => by cases hk; decide) ?_
      refine TL.skipU rfl (fun k hk => by cases hk; decide) ?_
      refine TL.skipU rfl (fun k hk => by cases hk; decide) ?_
      refine TL.skipU rfl (fun k hk => by cases hk; decide) ?_
      refine TL.skipU rfl (fun k hk => by cases hk; decide) ?_
      refine TL.skipU rfl (fun k hk => by cases hk; decide) ?_
      refine TL.skipU rfl (fun k hk => by cases hk; decide) ?_
      refine TL.skipU rfl (fun k hk => by cases hk; decide) ?_
      refine TL.skipU rfl (fun k hk => by cases hk; decide) ?_
      refine TL.skip rfl (fun k hk => by cases hk; decide) ?_
      refine TL.pure (PV.pickF rfl rfl) rfl (by decide) ?_
      refine TL.pure (PV.move rfl) rfl (by decide) ?_
      refine TL.skip rfl (fun k hk => by cases hk; decide) ?_
      refine TL.pure (PV.pickF rfl rfl) rfl (by decide) ?_
      refine TL.pure (PV.assign rfl) rfl (by decide) ?_
      refine TL.nil ?_
      refine TQ.thenC ?_
      refine TC.ret ?_
      refine TQ.retE1 rfl rfl ?_
      first | exact ⟨(), rfl, trivial, List.nil_sublist _⟩ | (exfalso; have hp : planI t m = 0 := (by first | exact Decidable.of_not_not e2 | simpa using e2); obtain ⟨k1, k2, k3, k4, k5⟩ := hbe hp; simp_all; done) | (exfalso; simp_all; done) | (exfalso; simp_all; omega) | exact ⟨(), by simp, trivial, List.nil_sublist _⟩

end Go.Proofs.Ytghlkndanpegbaa
