/- The laws of neighbors and of steps. -/
import Derived.Test.YtaeobkgogipceaaDoorQi
set_option linter.unusedVariables false
set_option linter.unusedSimpArgs false
namespace Go.Proofs.YtaeobkgogipceaaDoor
open Go.Sx Go.RowKit

theorem nL_len (r c k s : Int) : (nL r c k s).length ≤ 1000000 := by
  by_cases h : nE r c k s = 0
  · have hv : vI r c k = 0 := by
      by_cases h1 : vI r c k = 0
      · exact h1
      · rw [nE_v h1] at h; exact h
    obtain ⟨m, ho, rfl, rfl, rfl⟩ := vI_is hv
    unfold nL
    rw [if_pos h, List.length_map]
    have := nbF_len m s.toNat m.N
    have := ho.N36
    show (nbF m s.toNat m.N).length ≤ 1000000
    omega
  · rw [nL_no h]; exact Nat.zero_le _
theorem same_ok (w0 : World) (va vb : Value) (xs : List Int) (hxa : IsI w0 va xs) (hyb : IsI w0 vb xs) (hl : xs.length ≤ 1000000) : Calls Tryd.prog 21 #[va, vb] w0 (Post (X := Unit) (fun _ => .bool true) (fun _ => True) (fun _ => []) w0) := by
  have h := sameInts_ok w0 va vb xs xs hxa hyb hl hl
  rwa [decide_eq_true rfl] at h


set_option maxRecDepth 100000 in
theorem mossNeighbors_ok (w0 : World) (ht : TzAt w0) (r c k s9 : Int) :
    Calls Tryd.prog 3 #[.agg #[.int .i64 r, .int .i64 c, .int .i64 k], .int .i64 s9] w0 (Post (X := Unit) (fun _ => .bool true) (fun _ => True) (fun _ => []) w0) := by
  refine calls Tryd.func3 rfl (n := 39) rfl (by simp) ?_
  refine TC.seq ?_
  refine TC.region ?_
  refine TL.box rfl rfl (by decide) (fun b0 hb0 => ?_)
  refine TL.pure (PV.assign rfl) rfl (by decide) ?_
  refine TL.nil ?_
  refine TQ.thenC ?_
  refine TC.seq ?_
  refine TC.region ?_
  refine TL.pure (PV.loadBox rfl Tb.agg_23 (by repeat (first | exact List.Mem.head _ | refine List.Mem.tail _ ?_ | refine List.mem_append_right _ ?_)) rfl) rfl (by decide) ?_
  refine TL.pure (PV.move rfl) rfl (by decide) ?_
  refine TL.call rfl Tb.gofn_17 (fun a w hs => Neighbors_ok w (ht.new hs.new) _ _ _ _) rfl (by decide) (fun y1 hy1 => ?_)
  refine TL.pure (PV.move rfl) rfl (by decide) ?_
  refine TL.pure (PV.extract rfl rfl) rfl (by decide) ?_
  refine TL.pure (PV.extract rfl rfl) rfl (by decide) ?_
  refine TL.pure (PV.assign rfl) rfl (by decide) ?_
  refine TL.pure (PV.assign rfl) rfl (by decide) ?_
  refine TL.nil ?_
  refine TQ.thenC ?_
  refine TC.seq ?_
  refine TC.region ?_
  refine TL.pure (PV.loadBox rfl Tb.agg_23 (by repeat (first | exact List.Mem.head _ | refine List.Mem.tail _ ?_ | refine List.mem_append_right _ ?_)) rfl) rfl (by decide) ?_
  refine TL.pure (PV.move rfl) rfl (by decide) ?_
  refine TL.call rfl Tb.gofn_18 (fun a w hs => rNeighbors_ok w _ _ _ _) rfl (by decide) (fun y2 hy2 => ?_)
  refine TL.pure (PV.move rfl) rfl (by decide) ?_
  refine TL.pure (PV.extract rfl rfl) rfl (by decide) ?_
  refine TL.pure (PV.extract rfl rfl) rfl (by decide) ?_
  refine TL.pure (PV.assign rfl) rfl (by decide) ?_
  refine TL.pure (PV.assign rfl) rfl (by decide) ?_
  refine TL.nil ?_
  refine TQ.thenC ?_
  refine TC.seq ?_
  refine TC.any Tb.mixed rfl rfl ?_
  refine TA.op (OpOK.pure (PV.loadBox rfl Tb.agg_23 (by repeat (first | exact List.Mem.head _ | refine List.Mem.tail _ ?_ | refine List.mem_append_right _ ?_)) rfl) rfl (by decide)) (by decide) ?_
  refine TA.op (OpOK.call rfl Tb.gofn_19 (fun a w hs => validate_ok w _ _ _) rfl (by decide)) (by decide) ?_
  refine TA.op (OpOK.pure (PV.loadBox rfl Tb.agg_23 (by repeat (first | exact List.Mem.head _ | refine List.Mem.tail _ ?_ | refine List.mem_append_right _ ?_)) rfl) rfl (by decide)) (by decide) ?_
  refine TA.op (OpOK.call rfl Tb.gofn_20 (fun a w hs => rvalidate_ok w _ _ _) rfl (by decide)) (by decide) ?_
  refine TA.op (OpOK.pure (PV.eqlI rfl rfl) rfl (by decide)) (by decide) ?_
  refine TA.op (OpOK.pure (PV.move rfl) rfl (by decide)) (by decide) ?_
  refine TA.op (OpOK.pure (PV.move rfl) rfl (by decide)) (by decide) ?_
  refine TA.op (OpOK.pure (PV.move rfl) rfl (by decide)) (by decide) ?_
  refine TA.op (OpOK.call rfl Tb.gofn_21 (fun a w hs => same_ok w _ _ _ (hy1.isI hs.new (fun y hy => by simp [hy])) (hy2.isI hs.new (fun y hy => by simp [hy])) (nL_len _ _ _ _)) rfl (by decide)) (by decide) ?_
  refine TA.op (OpOK.pure (PV.pickT rfl rfl) rfl (by decide)) (by decide) ?_
  refine TA.op (OpOK.pure (PV.move rfl) rfl (by decide)) (by decide) ?_
  refine TA.op (OpOK.pure (PV.move rfl) rfl (by decide)) (by decide) ?_
  refine TA.op (OpOK.pure (PV.move rfl) rfl (by decide)) (by decide) ?_
  refine TA.op (OpOK.pure (PV.eqlI rfl rfl) rfl (by decide)) (by decide) ?_
  refine TA.op (OpOK.pure (PV.pickT rfl rfl) rfl (by decide)) (by decide) ?_
  refine TA.op (OpOK.pure (PV.move rfl) rfl (by decide)) (by decide) ?_
  refine TA.op (OpOK.call rfl Tb.gofn_22 (fun a w hs => sane_ok w (ht.new hs.new)) rfl (by decide)) (by decide) ?_
  refine TA.op (OpOK.pure (PV.pickT rfl rfl) rfl (by decide)) (by decide) ?_
  refine TA.op (OpOK.pure (PV.assign rfl) rfl (by decide)) (by decide) ?_
  show TQ _ _ _ _ _
  refine TQ.thenC ?_
  refine TC.ret ?_
  refine TQ.retE1 rfl rfl ?_
  exact ⟨(), rfl, trivial, List.nil_sublist _⟩

set_option maxRecDepth 100000 in
theorem mossSteps_ok (w0 : World) (ht : TzAt w0) (r c k w9 : Int) :
    Calls Tryd.prog 4 #[.agg #[.int .i64 r, .int .i64 c, .int .i64 k], .int .i64 w9] w0 (Post (X := Unit) (fun _ => .bool true) (fun _ => True) (fun _ => []) w0) := by
  refine calls Tryd.func4 rfl (n := 93) rfl (by simp) ?_
  refine TC.seq ?_
  refine TC.region ?_
  refine TL.box rfl rfl (by decide) (fun b0 hb0 => ?_)
  refine TL.pure (PV.assign rfl) rfl (by decide) ?_
  refine TL.nil ?_
  refine TQ.thenC ?_
  refine TC.seq ?_
  refine TC.region ?_
  refine TL.pure (PV.loadBox rfl Tb.agg_23 (by repeat (first | exact List.Mem.head _ | refine List.Mem.tail _ ?_ | refine List.mem_append_right _ ?_)) rfl) rfl (by decide) ?_
  refine TL.pure (PV.move rfl) rfl (by decide) ?_
  refine TL.call rfl Tb.gofn_23 (fun a w hs => Step_ok w (ht.new hs.new) _ _ _ _) rfl (by decide) (fun _ _ => ?_)
  refine TL.pure (PV.move rfl) rfl (by decide) ?_
  refine TL.pure (PV.extract rfl rfl) rfl (by decide) ?_
  refine TL.pure (PV.extract rfl rfl) rfl (by decide) ?_
  refine TL.pure (PV.assign rfl) rfl (by decide) ?_
  refine TL.pure (PV.assign rfl) rfl (by decide) ?_
  refine TL.nil ?_
  refine TQ.thenC ?_
  refine TC.seq ?_
  refine TC.region ?_
  refine TL.pure (PV.loadBox rfl Tb.agg_23 (by repeat (first | exact List.Mem.head _ | refine List.Mem.tail _ ?_ | refine List.mem_append_right _ ?_)) rfl) rfl (by decide) ?_
  refine TL.pure (PV.move rfl) rfl (by decide) ?_
  refine TL.call rfl Tb.gofn_24 (fun a w hs => rStep_ok w _ _ _ _) rfl (by decide) (fun _ _ => ?_)
  refine TL.pure (PV.move rfl) rfl (by decide) ?_
  refine TL.pure (PV.extract rfl rfl) rfl (by decide) ?_
  refine TL.pure (PV.extract rfl rfl) rfl (by decide) ?_
  refine TL.pure (PV.assign rfl) rfl (by decide) ?_
  refine TL.pure (PV.assign rfl) rfl (by decide) ?_
  refine TL.nil ?_
  refine TQ.thenC ?_
  refine TC.seq ?_
  refine TC.region ?_
  refine TL.pure (PV.loadBox rfl Tb.agg_23 (by repeat (first | exact List.Mem.head _ | refine List.Mem.tail _ ?_ | refine List.mem_append_right _ ?_)) rfl) rfl (by decide) ?_
  refine TL.pure (PV.move rfl) rfl (by decide) ?_
  refine TL.call rfl Tb.gofn_25 (fun a w hs => Spread_ok w (ht.new hs.new) _ _ _ _) rfl (by decide) (fun _ _ => ?_)
  refine TL.pure (PV.move rfl) rfl (by decide) ?_
  refine TL.pure (PV.extract rfl rfl) rfl (by decide) ?_
  refine TL.pure (PV.extract rfl rfl) rfl (by decide) ?_
  refine TL.pure (PV.extract rfl rfl) rfl (by decide) ?_
  refine TL.pure (PV.assign rfl) rfl (by decide) ?_
  refine TL.pure (PV.assign rfl) rfl (by decide) ?_
  refine TL.pure (PV.assign rfl) rfl (by decide) ?_
  refine TL.nil ?_
  refine TQ.thenC ?_
  refine TC.seq ?_
  refine TC.region ?_
  refine TL.pure (PV.loadBox rfl Tb.agg_23 (by repeat (first | exact List.Mem.head _ | refine List.Mem.tail _ ?_ | refine List.mem_append_right _ ?_)) rfl) rfl (by decide) ?_
  refine TL.pure (PV.move rfl) rfl (by decide) ?_
  refine TL.call rfl Tb.gofn_26 (fun a w hs => rSpread_ok w _ _ _ _) rfl (by decide) (fun _ _ => ?_)
  refine TL.pure (PV.move rfl) rfl (by decide) ?_
  refine TL.pure (PV.extract rfl rfl) rfl (by decide) ?_
  refine TL.pure (PV.extract rfl rfl) rfl (by decide) ?_
  refine TL.pure (PV.extract rfl rfl) rfl (by decide) ?_
  refine TL.pure (PV.assign rfl) rfl (by decide) ?_
  refine TL.pure (PV.assign rfl) rfl (by decide) ?_
  refine TL.pure (PV.assign rfl) rfl (by decide) ?_
  refine TL.nil ?_
  refine TQ.thenC ?_
  refine TC.seq ?_
  refine TC.region ?_
  refine TL.pure (PV.loadBox rfl Tb.agg_23 (by repeat (first | exact List.Mem.head _ | refine List.Mem.tail _ ?_ | refine List.mem_append_right _ ?_)) rfl) rfl (by decide) ?_
  refine TL.pure (PV.move rfl) rfl (by decide) ?_
  refine TL.call rfl Tb.gofn_27 (fun a w hs => Fills_ok w (ht.new hs.new) _ _ _ _) rfl (by decide) (fun _ _ => ?_)
  refine TL.pure (PV.move rfl) rfl (by decide) ?_
  refine TL.pure (PV.extract rfl rfl) rfl (by decide) ?_
  refine TL.pure (PV.extract rfl rfl) rfl (by decide) ?_
  refine TL.pure (PV.assign rfl) rfl (by decide) ?_
  refine TL.pure (PV.assign rfl) rfl (by decide) ?_
  refine TL.nil ?_
  refine TQ.thenC ?_
  refine TC.seq ?_
  refine TC.region ?_
  refine TL.pure (PV.loadBox rfl Tb.agg_23 (by repeat (first | exact List.Mem.head _ | refine List.Mem.tail _ ?_ | refine List.mem_append_right _ ?_)) rfl) rfl (by decide) ?_
  refine TL.pure (PV.move rfl) rfl (by decide) ?_
  refine TL.call rfl Tb.gofn_28 (fun a w hs => rFills_ok w _ _ _ _) rfl (by decide) (fun _ _ => ?_)
  refine TL.pure (PV.move rfl) rfl (by decide) ?_
  refine TL.pure (PV.extract rfl rfl) rfl (by decide) ?_
  refine TL.pure (PV.extract rfl rfl) rfl (by decide) ?_
  refine TL.pure (PV.assign rfl) rfl (by decide) ?_
  refine TL.pure (PV.assign rfl) rfl (by decide) ?_
  refine TL.nil ?_
  refine TQ.thenC ?_
  refine TC.seq ?_
  refine TC.region ?_
  refine TL.pure (PV.move rfl) rfl (by decide) ?_
  refine TL.pure (PV.move rfl) rfl (by decide) ?_
  refine TL.pure (PV.eqlI rfl rfl) rfl (by decide) ?_
  refine TL.pure (PV.move rfl) rfl (by decide) ?_
  refine TL.pure (PV.move rfl) rfl (by decide) ?_
  refine TL.pure (PV.move rfl) rfl (by decide) ?_
  refine TL.pure (PV.eqlI rfl rfl) rfl (by decide) ?_
  refine TL.pure (PV.pickT rfl rfl) rfl (by decide) ?_
  refine TL.pure (PV.move rfl) rfl (by decide) ?_
  refine TL.pure (PV.move rfl) rfl (by decide) ?_
  refine TL.pure (PV.move rfl) rfl (by decide) ?_
  refine TL.pure (PV.eqlI rfl rfl) rfl (by decide) ?_
  refine TL.pure (PV.pickT rfl rfl) rfl (by decide) ?_
  refine TL.pure (PV.move rfl) rfl (by decide) ?_
  refine TL.pure (PV.move rfl) rfl (by decide) ?_
  refine TL.pure (PV.move rfl) rfl (by decide) ?_
  refine TL.pure (PV.eqlI rfl rfl) rfl (by decide) ?_
  refine TL.pure (PV.pickT rfl rfl) rfl (by decide) ?_
  refine TL.pure (PV.move rfl) rfl (by decide) ?_
  refine TL.pure (PV.move rfl) rfl (by decide) ?_
  refine TL.pure (PV.move rfl) rfl (by decide) ?_
  refine TL.pure (PV.eqlI rfl rfl) rfl (by decide) ?_
  refine TL.pure (PV.pickT rfl rfl) rfl (by decide) ?_
  refine TL.pure (PV.move rfl) rfl (by decide) ?_
  refine TL.pure (PV.move rfl) rfl (by decide) ?_
  refine TL.pure (PV.move rfl) rfl (by decide) ?_
  refine TL.pure (PV.eqlBI rfl rfl Tb.bool_4) rfl (by decide) ?_
  refine TL.pure (PV.pickT rfl rfl) rfl (by decide) ?_
  refine TL.pure (PV.move rfl) rfl (by decide) ?_
  refine TL.pure (PV.move rfl) rfl (by decide) ?_
  refine TL.pure (PV.move rfl) rfl (by decide) ?_
  refine TL.pure (PV.eqlI rfl rfl) rfl (by decide) ?_
  refine TL.pure (PV.pickT rfl rfl) rfl (by decide) ?_
  refine TL.pure (PV.move rfl) rfl (by decide) ?_
  refine TL.call rfl Tb.gofn_22 (fun a w hs => sane_ok w (ht.new hs.new)) rfl (by decide) (fun _ _ => ?_)
  refine TL.pure (PV.pickT rfl rfl) rfl (by decide) ?_
  refine TL.pure (PV.assign rfl) rfl (by decide) ?_
  refine TL.nil ?_
  refine TQ.thenC ?_
  refine TC.ret ?_
  refine TQ.retE1 rfl rfl ?_
  exact ⟨(), rfl, trivial, List.nil_sublist _⟩

end Go.Proofs.YtaeobkgogipceaaDoor
