/- The room of a yard and of the turned one: the law's contract. -/
import Derived.Test.YtkkipbkkijoneaaLi
import Derived.Test.YtkkipbkkijoneaaRs
set_option linter.unusedVariables false
set_option linter.unusedSimpArgs false
namespace Go.Proofs.Ytkkipbkkijoneaa
open Go.Sx Go.RowKit Go.Sand

theorem dd_sw (ss : List St) (i j : Nat) : dd (ss.map swS) i j = - dd ss i j := by
  unfold dd
  by_cases hi : i < ss.length
  · have e : (ss.map swS).getD i default = swS (ss.getD i default) := by simp [List.getD, hi]
    rw [e]
    show (ss.getD i default).t.getD j 0 - (ss.getD i default).g.getD j 0 = _
    omega
  · have e1 : (ss.map swS).getD i default = default := by rw [List.getD_eq_getElem?_getD, List.getElem?_eq_none (by rw [List.length_map]; omega)]; rfl
    have e2 : ss.getD i default = default := by rw [List.getD_eq_getElem?_getD, List.getElem?_eq_none (by omega)]; rfl
    rw [e1, e2]
    simp [default, instInhabitedSt.default]
theorem rk_turn {n : Int} {ss : List St} {r r' : Nat} (h : IsRk (dd ss) ss.length n.toNat r) (h' : IsRk (dd (ss.map swS)) (ss.map swS).length n.toNat r') : r = r' := by
  rw [List.length_map] at h'
  exact h.uniq h' fun k I J => dt_neg_sub (dd_sw ss) k I J
theorem SpaceY (w : World) (v : Value) (n : Int) (ss : List St) (h : IsY w v n ss) (hS : SmS ss) :
    Calls Try.prog 45 #[v] w (Post (X := Nat) (fun r => .tuple #[.int .i64 (spc n ss r), .int .i64 (validI n ss)]) (fun r => ¬ validI n ss ≠ 0 → IsRk (dd ss) ss.length n.toNat r) (fun _ => []) w) := by
  obtain ⟨p, cp, rfl, hr⟩ := h
  exact Space_ok w n p cp ss hr hS
theorem spc_eq {n : Int} {ss : List St} {r k : Nat} (h : ¬ validI n ss ≠ 0 → IsRk (dd ss) ss.length n.toNat r) (h' : ¬ validI n ss ≠ 0 → RfRk (dd ss) ss.length n.toNat k) : spc n ss r = spc n ss k := by
  unfold spc
  by_cases hv : validI n ss ≠ 0
  · rw [if_pos hv, if_pos hv]
  · rw [if_neg hv, if_neg hv, (h' hv).eq (h hv)]
theorem spc_turn {n : Int} {ss : List St} {r r' : Nat} (hv : ¬ validI n ss ≠ 0) (hv2 : ¬ validI (trnR n ss).1 (trnR n ss).2 ≠ 0) (h : ¬ validI n ss ≠ 0 → IsRk (dd ss) ss.length n.toNat r) (h' : ¬ validI (trnR n ss).1 (trnR n ss).2 ≠ 0 → IsRk (dd (trnR n ss).2) (trnR n ss).2.length (trnR n ss).1.toNat r') : spc (trnR n ss).1 (trnR n ss).2 r' = spc n ss r := by
  have htr : trnR n ss = (n, ss.map swS) := if_neg hv
  rw [htr] at hv2 h' ⊢
  unfold spc
  rw [if_neg hv, if_neg hv2, rk_turn (h hv) (h' hv2)]
theorem valid_turn {n : Int} {ss : List St} (hv : ¬ validI n ss ≠ 0) : validI (trnR n ss).1 (trnR n ss).2 = 0 := by
  have htr : trnR n ss = (n, ss.map swS) := if_neg hv
  rw [htr]
  exact (vy_of hv).sw.v


set_option maxRecDepth 100000 in
set_option maxHeartbeats 4000000 in
theorem drySpace_ok (w0 : World) (n : Int) (p : Option Addr) (cp : Nat) (ss : List St) (hr : StsAt w0 p ss) :
    Calls Try.prog 12 #[yv n p ss.length cp] w0 (Post (X := Unit) (fun _ => .bool true) (fun _ => True) (fun _ => []) w0) := by
  refine calls Try.func12 rfl (n := 60) rfl (by simp) ?_
  refine TC.seq ?_
  refine TC.region ?_
  refine TL.box rfl rfl (by decide) (fun b0 hb0 => ?_)
  refine TL.pure (PV.assign rfl) rfl (by decide) ?_
  refine TL.nil ?_
  refine TQ.thenC ?_
  refine TC.seq ?_
  refine TC.seq ?_
  refine TC.region ?_
  refine TL.pure (PV.loadBox rfl Tb.agg_24 (by repeat (first | exact List.Mem.head _ | refine List.Mem.tail _ ?_ | refine List.mem_append_right _ ?_)) rfl) rfl (by decide) ?_
  refine TL.call rfl Tb.gofn_17 (fun a w hs => long_ok w _ _ _ _ (hr.new hs.new)) rfl (by decide) (fun _ _ => ?_)
  refine TL.nil ?_
  refine TQ.thenC ?_
  first | refine TC.condD rfl (fun e1 => ?_) (fun e1 => ?_) | refine TC.cond rfl (fun e1 => ?_) (fun e1 => ?_)
  · skip
    refine TC.seq ?_
    refine TC.region ?_
    refine TL.call rfl Tb.gofn_19 (fun a w hs => known_ok w) rfl (by decide) (fun _ _ => ?_)
    refine TL.pure (PV.assign rfl) rfl (by decide) ?_
    refine TL.nil ?_
    refine TQ.thenC ?_
    refine TC.ret ?_
    refine TQ.thenR ?_
    refine TQ.retE1 rfl rfl ?_
    first | exact ⟨(), rfl, trivial, List.nil_sublist _⟩ | exact absurd (spc_turn c1 (by rw [valid_turn c1]; decide) hr1 hr3) c4 | (exfalso; first | (have hv9 := valid_turn c1; simp_all; done) | (simp_all; done))
  · skip
    refine TC.skip ?_
    refine TQ.thenC ?_
    refine TC.seq ?_
    have hS : SmS ss := long_0 (by simpa using e1)
    refine TC.region ?_
    refine TL.pure (PV.loadBox rfl Tb.agg_24 (by repeat (first | exact List.Mem.head _ | refine List.Mem.tail _ ?_ | refine List.mem_append_right _ ?_)) rfl) rfl (by decide) ?_
    refine TL.call rfl Tb.gofn_45 (fun a w hs => Space_ok w _ _ _ _ (hr.new hs.new) hS) rfl (by decide) (fun r1 hr1 => ?_)
    refine TL.pure (PV.move rfl) rfl (by decide) ?_
    refine TL.pure (PV.extract rfl rfl) rfl (by decide) ?_
    refine TL.pure (PV.extract rfl rfl) rfl (by decide) ?_
    refine TL.pure (PV.assign rfl) rfl (by decide) ?_
    refine TL.pure (PV.assign rfl) rfl (by decide) ?_
    refine TL.nil ?_
    refine TQ.thenC ?_
    refine TC.seq ?_
    refine TC.region ?_
    refine TL.pure (PV.loadBox rfl Tb.agg_24 (by repeat (first | exact List.Mem.head _ | refine List.Mem.tail _ ?_ | refine List.mem_append_right _ ?_)) rfl) rfl (by decide) ?_
    refine TL.call rfl Tb.gofn_46 (fun a w hs => rSpace_ok w _ _ _ _ (hr.new hs.new) hS) rfl (by decide) (fun r2 hr2 => ?_)
    refine TL.pure (PV.move rfl) rfl (by decide) ?_
    refine TL.pure (PV.extract rfl rfl) rfl (by decide) ?_
    refine TL.pure (PV.extract rfl rfl) rfl (by decide) ?_
    refine TL.pure (PV.assign rfl) rfl (by decide) ?_
    refine TL.pure (PV.assign rfl) rfl (by decide) ?_
    refine TL.nil ?_
    refine TQ.thenC ?_
    refine TC.seq ?_
    refine TC.seq ?_
    have heq := spc_eq hr1 hr2
    refine TC.region ?_
    refine TL.pure (PV.move rfl) rfl (by decide) ?_
    refine TL.pure (PV.move rfl) rfl (by decide) ?_
    refine TL.pure (PV.neq rfl rfl) rfl (by decide) ?_
    refine TL.pure (PV.move rfl) rfl (by decide) ?_
    first | refine TL.splitD 27 rfl (fun g1 => ?_) (fun g1 => ?_) | refine TL.split 27 rfl (fun g1 => ?_) (fun g1 => ?_)
    · skip
      exact absurd heq g1
    · skip
      refine TL.pure (PV.move rfl) rfl (by decide) ?_
      refine TL.pure (PV.move rfl) rfl (by decide) ?_
      refine TL.pure (PV.neq rfl rfl) rfl (by decide) ?_
      refine TL.pure (PV.pickF rfl rfl) rfl (by decide) ?_
      refine TL.nil ?_
      refine TQ.thenC ?_
      first | refine TC.condD rfl (fun g2 => ?_) (fun g2 => ?_) | refine TC.cond rfl (fun g2 => ?_) (fun g2 => ?_)
      · skip
        exact absurd rfl g2
      · skip
        refine TC.skip ?_
        refine TQ.thenC ?_
        refine TC.seq ?_
        refine TC.region ?_
        refine TL.pure (PV.loadBox rfl Tb.agg_24 (by repeat (first | exact List.Mem.head _ | refine List.Mem.tail _ ?_ | refine List.mem_append_right _ ?_)) rfl) rfl (by decide) ?_
        refine TL.call rfl Tb.gofn_47 (fun a w hs => TurnY w _ n ss (IsY.of (hr.new hs.new)) hS) rfl (by decide) (fun y1 hy1 => ?_)
        refine TL.pure (PV.move rfl) rfl (by decide) ?_
        refine TL.pure (PV.extract rfl rfl) rfl (by decide) ?_
        refine TL.pure (PV.extract rfl rfl) rfl (by decide) ?_
        refine TL.alloc Tb.zero_24 rfl (by decide) (fun bA hbA => ?_)
        refine TL.storeAgg (vs := [.int .i64 (trnR n ss).1, gval y1.1 (trnR n ss).2.length]) rfl rfl Tb.cells_24 (by repeat (first | exact Upd.head _ | apply Upd.tail | apply Upd.appR)) rfl rfl (sv_one _ _ _) rfl rfl ?_
        refine TL.pure (PV.assign rfl) rfl (by decide) ?_
        refine TL.nil ?_
        refine TQ.thenC ?_
        refine TC.seq ?_
        refine TC.region ?_
        refine TL.pure (PV.loadBox (cs := [.int .i64 (trnR n ss).1, gval y1.1 (trnR n ss).2.length]) rfl Tb.agg_24 (by repeat (first | exact List.Mem.head _ | refine List.Mem.tail _ ?_ | refine List.mem_append_right _ ?_)) rfl) rfl (by decide) ?_
        refine TL.call rfl Tb.gofn_45 (fun a w hs => SpaceY w _ (trnR n ss).1 (trnR n ss).2 (IsY.sr hy1 hs.new (fun yy hyy => by repeat (first | exact List.mem_append_left _ hyy | exact List.mem_append_left _ (List.mem_append_right _ hyy) | exact List.mem_append_left _ (List.mem_append_left _ hyy) | refine List.mem_append_right _ ?_ | refine List.Mem.tail _ ?_))) (trn_sm hS)) rfl (by decide) (fun r3 hr3 => ?_)
        refine TL.pure (PV.move rfl) rfl (by decide) ?_
        refine TL.pure (PV.extract rfl rfl) rfl (by decide) ?_
        refine TL.pure (PV.extract rfl rfl) rfl (by decide) ?_
        refine TL.pure (PV.assign rfl) rfl (by decide) ?_
        refine TL.pure (PV.assign rfl) rfl (by decide) ?_
        refine TL.nil ?_
        refine TQ.thenC ?_
        refine TC.seq ?_
        refine TC.region ?_
        refine TL.pure (PV.move rfl) rfl (by decide) ?_
        refine TL.pure (PV.neq rfl rfl) rfl (by decide) ?_
        refine TL.pure (PV.move rfl) rfl (by decide) ?_
        first | refine TL.splitD 44 rfl (fun c1 => ?_) (fun c1 => ?_) | refine TL.split 44 rfl (fun c1 => ?_) (fun c1 => ?_)
        · skip
          refine TL.skip rfl (fun k hk => by cases hk; decide) ?_
          refine TL.skip rfl (fun k hk => by cases hk; decide) ?_
          refine TL.skip rfl (fun k hk => by cases hk; decide) ?_
          refine TL.skipU rfl (fun k hk => by cases hk; decide) ?_
          refine TL.skipU rfl (fun k hk => by cases hk; decide) ?_
          refine TL.skip rfl (fun k hk => by cases hk; decide) ?_
          refine TL.skip rfl (fun k hk => by cases hk; decide) ?_
          refine TL.skipU rfl (fun k hk => by cases hk; decide) ?_
          refine TL.skipU rfl (fun k hk => by cases hk; decide) ?_
          refine TL.skipU rfl (fun k hk => by cases hk; decide) ?_
          refine TL.skip rfl (fun k hk => by cases hk; decide) ?_
          refine TL.pure (PV.pickT rfl rfl) rfl (by decide) ?_
          refine TL.pure (PV.move rfl) rfl (by decide) ?_
          refine TL.call rfl Tb.gofn_19 (fun a w hs => known_ok w) rfl (by decide) (fun _ _ => ?_)
          refine TL.pure (PV.pickT rfl rfl) rfl (by decide) ?_
          refine TL.pure (PV.assign rfl) rfl (by decide) ?_
          refine TL.nil ?_
          refine TQ.thenC ?_
          refine TC.ret ?_
          refine TQ.retE1 rfl rfl ?_
          first | exact ⟨(), rfl, trivial, List.nil_sublist _⟩ | exact absurd (spc_turn c1 (by rw [valid_turn c1]; decide) hr1 hr3) c4 | (exfalso; first | (have hv9 := valid_turn c1; simp_all; done) | (simp_all; done))
        · skip
          refine TL.pure (PV.move rfl) rfl (by decide) ?_
          refine TL.pure (PV.eql rfl rfl) rfl (by decide) ?_
          refine TL.pure (PV.move rfl) rfl (by decide) ?_
          first | refine TL.splitD 47 rfl (fun c2 => ?_) (fun c2 => ?_) | refine TL.split 47 rfl (fun c2 => ?_) (fun c2 => ?_)
          · skip
            refine TL.pure (PV.move rfl) rfl (by decide) ?_
            refine TL.pure (PV.eql rfl rfl) rfl (by decide) ?_
            refine TL.pure (PV.pickT rfl rfl) rfl (by decide) ?_
            refine TL.pure (PV.move rfl) rfl (by decide) ?_
            first | refine TL.splitD 51 rfl (fun c3 => ?_) (fun c3 => ?_) | refine TL.split 51 rfl (fun c3 => ?_) (fun c3 => ?_)
            · skip
              refine TL.pure (PV.move rfl) rfl (by decide) ?_
              refine TL.pure (PV.move rfl) rfl (by decide) ?_
              refine TL.pure (PV.eql rfl rfl) rfl (by decide) ?_
              refine TL.pure (PV.pickT rfl rfl) rfl (by decide) ?_
              refine TL.pure (PV.pickF rfl rfl) rfl (by decide) ?_
              refine TL.pure (PV.move rfl) rfl (by decide) ?_
              first | refine TL.splitD 57 rfl (fun c4 => ?_) (fun c4 => ?_) | refine TL.split 57 rfl (fun c4 => ?_) (fun c4 => ?_)
              · skip
                refine TL.call rfl Tb.gofn_19 (fun a w hs => known_ok w) rfl (by decide) (fun _ _ => ?_)
                refine TL.pure (PV.pickT rfl rfl) rfl (by decide) ?_
                refine TL.pure (PV.assign rfl) rfl (by decide) ?_
                refine TL.nil ?_
                refine TQ.thenC ?_
                refine TC.ret ?_
                refine TQ.retE1 rfl rfl ?_
                first | exact ⟨(), rfl, trivial, List.nil_sublist _⟩ | exact absurd (spc_turn c1 (by rw [valid_turn c1]; decide) hr1 hr3) c4 | (exfalso; first | (have hv9 := valid_turn c1; simp_all; done) | (simp_all; done))
              · skip
                refine TL.skip rfl (fun k hk => by cases hk; decide) ?_
                refine TL.pure (PV.pickF rfl rfl) rfl (by decide) ?_
                refine TL.pure (PV.assign rfl) rfl (by decide) ?_
                refine TL.nil ?_
                refine TQ.thenC ?_
                refine TC.ret ?_
                refine TQ.retE1 rfl rfl ?_
                first | exact ⟨(), rfl, trivial, List.nil_sublist _⟩ | exact absurd (spc_turn c1 (by rw [valid_turn c1]; decide) hr1 hr3) c4 | (exfalso; first | (have hv9 := valid_turn c1; simp_all; done) | (simp_all; done))
            · skip
              refine TL.skip rfl (fun k hk => by cases hk; decide) ?_
              refine TL.skip rfl (fun k hk => by cases hk; decide) ?_
              refine TL.skip rfl (fun k hk => by cases hk; decide) ?_
              refine TL.pure (PV.pickF rfl rfl) rfl (by decide) ?_
              refine TL.pure (PV.pickF rfl rfl) rfl (by decide) ?_
              refine TL.pure (PV.move rfl) rfl (by decide) ?_
              refine TL.skip rfl (fun k hk => by cases hk; decide) ?_
              refine TL.pure (PV.pickF rfl rfl) rfl (by decide) ?_
              refine TL.pure (PV.assign rfl) rfl (by decide) ?_
              refine TL.nil ?_
              refine TQ.thenC ?_
              refine TC.ret ?_
              refine TQ.retE1 rfl rfl ?_
              first | exact ⟨(), rfl, trivial, List.nil_sublist _⟩ | exact absurd (spc_turn c1 (by rw [valid_turn c1]; decide) hr1 hr3) c4 | (exfalso; first | (have hv9 := valid_turn c1; simp_all; done) | (simp_all; done))
          · skip
            refine TL.skip rfl (fun k hk => by cases hk; decide) ?_
            refine TL.skip rfl (fun k hk => by cases hk; decide) ?_
            refine TL.pure (PV.pickF rfl rfl) rfl (by decide) ?_
            refine TL.pure (PV.move rfl) rfl (by decide) ?_
            refine TL.skip rfl (fun k hk => by cases hk; decide) ?_
            refine TL.skip rfl (fun k hk => by cases hk; decide) ?_
            refine TL.skip rfl (fun k hk => by cases hk; decide) ?_
            refine TL.pure (PV.pickF rfl rfl) rfl (by decide) ?_
            refine TL.pure (PV.pickF rfl rfl) rfl (by decide) ?_
            refine TL.pure (PV.move rfl) rfl (by decide) ?_
            refine TL.skip rfl (fun k hk => by cases hk; decide) ?_
            refine TL.pure (PV.pickF rfl rfl) rfl (by decide) ?_
            refine TL.pure (PV.assign rfl) rfl (by decide) ?_
            refine TL.nil ?_
            refine TQ.thenC ?_
            refine TC.ret ?_
            refine TQ.retE1 rfl rfl ?_
            first | exact ⟨(), rfl, trivial, List.nil_sublist _⟩ | exact absurd (spc_turn c1 (by rw [valid_turn c1]; decide) hr1 hr3) c4 | (exfalso; first | (have hv9 := valid_turn c1; simp_all; done) | (simp_all; done))

end Go.Proofs.Ytkkipbkkijoneaa
