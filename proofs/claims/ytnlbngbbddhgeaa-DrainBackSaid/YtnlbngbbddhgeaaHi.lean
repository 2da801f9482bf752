/- The law that a split sums back. -/
import Derived.Test.YtnlbngbbddhgeaaHg
import Derived.Test.YtnlbngbbddhgeaaOp
import Derived.Test.YtnlbngbbddhgeaaGw
set_option linter.unusedVariables false
set_option linter.unusedSimpArgs false
namespace Go.Proofs.Ytnlbngbbddhgeaa
open Go.Sx Go.RowKit


theorem fl_bd {n s t : Nat} {rs : List Bd} (hv : Vd n s t rs) {fs : List Int} (h : (cfV n s t rs fs).2 = 0) : ∀ j, j < rs.length → 0 ≤ fs.getD j 0 ∧ fs.getD j 0 ≤ 20 := fun j hj => by
  have hf := (cfV_flow hv h).1
  have hm : (cfL rs fs).getD j default ∈ cfL rs fs := mem_getD (by rw [cfL_len]; exact hj)
  have h1 := hf.bd _ hm
  have e : (cfL rs fs).getD j default = mkE (rs.getD j default) (fs.getD j 0) := mkL_getD hj
  rw [e] at h1
  have h2 := hv.at hj
  simp only [mkE] at h1
  omega
theorem mwV_nn {n s t : Nat} {rs : List Bd} (hv : Vd n s t rs) : 0 ≤ Fl.mw s t (dr0 rs) := Fl.mw_nn hv.w1.st hv.w1.nn


set_option maxRecDepth 100000 in
set_option maxHeartbeats 2000000 in
theorem DrainBack_v (w0 : World) (n s t : Nat) (p : Option Addr) (cap : Nat) (rs : List Bd) (hr : BdsAt w0 p rs) (hv : Vd n s t rs) (hd0 : dI n s t rs = 0) :
    Calls Try.prog 14 #[dnV n s t p rs.length cap] w0 (Post (X := Unit) (fun _ => .bool true) (fun _ => True) (fun _ => []) w0) := by
  have hw := hv.w1
  have hlen := hv.len
  have hn8 := hw.n8
  have hsn := hw.sn
  have htn := hw.tn
  have h256 := p2_256 hn8
  have hpos := Nat.two_pow_pos n
  refine calls Try.func14 rfl (n := 46) rfl (by simp) ?_
  refine TC.seq ?_
  refine TC.region ?_
  refine TL.box rfl rfl (by decide) (fun b0 hb0 => ?_)
  refine TL.pure (PV.assign rfl) rfl (by decide) ?_
  refine TL.nil ?_
  refine TQ.thenC ?_
  refine TC.seq ?_
  refine TC.seq ?_
  refine TC.region ?_
  refine TL.pure (PV.loadBox rfl Tb.agg_24 (by repeat (first | exact List.Mem.head _ | refine List.Mem.tail _ ?_ | refine List.mem_append_right _ ?_)) rfl) rfl (by decide) ?_
  refine TL.call rfl Tb.gofn_16 (fun a w hs => Long_ok w _ _ _ _ _ _) rfl (by decide) (fun _ _ => ?_)
  refine TL.nil ?_
  refine TQ.thenC ?_
  first | refine TC.condD rfl (fun h0 => ?_) (fun h0 => ?_) | refine TC.cond rfl (fun h0 => ?_) (fun h0 => ?_)
  · skip
    refine TC.seq ?_
    refine TC.region ?_
    refine TL.call rfl Tb.gofn_17 (fun a w hs => known_true w) rfl (by decide) (fun _ _ => ?_)
    refine TL.pure (PV.assign rfl) rfl (by decide) ?_
    refine TL.nil ?_
    refine TQ.thenC ?_
    refine TC.ret ?_
    refine TQ.thenR ?_
    refine TQ.retE1 rfl rfl ?_
    exact ⟨(), rfl, trivial, List.nil_sublist _⟩
  · skip
    refine TC.skip ?_
    refine TQ.thenC ?_
    refine TC.seq ?_
    refine TC.region ?_
    refine TL.pure (PV.loadBox rfl Tb.agg_24 (by repeat (first | exact List.Mem.head _ | refine List.Mem.tail _ ?_ | refine List.mem_append_right _ ?_)) rfl) rfl (by decide) ?_
    refine TL.call rfl Tb.gofn_24 (fun a w hs => Flow_i (hr.new hs.new) hv) rfl (by decide) (fun x1 hx1 => ?_)
    refine TL.pure (PV.move rfl) rfl (by decide) ?_
    refine TL.pure (PV.extract rfl rfl) rfl (by decide) ?_
    refine TL.pure (PV.extract rfl rfl) rfl (by decide) ?_
    refine TL.pure (PV.assign rfl) rfl (by decide) ?_
    refine TL.pure (PV.assign rfl) rfl (by decide) ?_
    refine TL.nil ?_
    refine TQ.thenC ?_
    refine TC.seq ?_
    refine TC.seq ?_
    have hb20 : ∀ j, j < rs.length → 0 ≤ (x1.2.map (·.r)).getD j 0 ∧ (x1.2.map (·.r)).getD j 0 ≤ 20 := fl_bd hv (by rw [hx1.2.1])
    have hm0 : 0 ≤ Fl.mw s t (dr0 rs) := mwV_nn hv
    refine TC.region ?_
    refine TL.pure (PV.move rfl) rfl (by decide) ?_
    refine TL.pure (PV.neqI rfl rfl) rfl (by decide) ?_
    refine TL.nil ?_
    refine TQ.thenC ?_
    refine TC.condF rfl ?_
    refine TC.skip ?_
    refine TQ.thenC ?_
    refine TC.seq ?_
    refine TC.region ?_
    refine TL.pure (PV.loadBox rfl Tb.agg_24 (by repeat (first | exact List.Mem.head _ | refine List.Mem.tail _ ?_ | refine List.mem_append_right _ ?_)) rfl) rfl (by decide) ?_
    refine TL.pure (PV.move rfl) rfl (by decide) ?_
    refine TL.call rfl Tb.gofn_53 (fun a w hs => by have h9 := Split_v w n s t p cap rs (hr.new hs.new) hv hd0 (some ⟨x1.1, 0, none⟩) rs.length (x1.2.map (·.r)) (by exact IntsAt.arr hs.new (by repeat (first | exact List.Mem.head _ | refine List.Mem.tail _ ?_ | refine List.mem_append_right _ ?_))) hx1.2.2 (by rw [hx1.2.1]) hb20 (by rw [hx1.2.1]; exact hm0); rw [hx1.2.2] at h9; exact h9) rfl (by decide) (fun sp hsp => ?_)
    refine TL.pure (PV.move rfl) rfl (by decide) ?_
    refine TL.pure (PV.extract rfl rfl) rfl (by decide) ?_
    refine TL.pure (PV.extract rfl rfl) rfl (by decide) ?_
    refine TL.pure (PV.assign rfl) rfl (by decide) ?_
    refine TL.pure (PV.assign rfl) rfl (by decide) ?_
    refine TL.nil ?_
    refine TQ.thenC ?_
    refine TC.seq ?_
    have hsl : sumL s t rs sp.2.1 = x1.2.map (·.r) := by unfold sumL; rw [if_pos hsp.2.2.1, hsp.2.2.2.1]
    refine TC.region ?_
    refine TL.pure (PV.loadBox rfl Tb.agg_24 (by repeat (first | exact List.Mem.head _ | refine List.Mem.tail _ ?_ | refine List.mem_append_right _ ?_)) rfl) rfl (by decide) ?_
    refine TL.pure (PV.move rfl) rfl (by decide) ?_
    refine TL.call rfl Tb.gofn_51 (fun a w hs => by have h9 := Sum_v w n s t p cap rs (hr.new hs.new) hv hd0 (gp sp.1) (gc sp.1) sp.2.1 ⟨RecsAt.s hs.new (fun yy hyy => by repeat (first | exact hyy | exact List.mem_append_left _ hyy | exact List.mem_append_left _ (List.mem_append_left _ hyy) | exact List.mem_append_left _ (List.mem_append_right _ hyy) | refine List.mem_append_right _ ?_ | refine List.Mem.tail _ ?_)) hsp.1, fun tv htv => (TB.more (hsp.2.1 tv htv) (fun yy hyy => by repeat (first | exact hyy | exact List.mem_append_left _ hyy | exact List.mem_append_left _ (List.mem_append_left _ hyy) | exact List.mem_append_left _ (List.mem_append_right _ hyy) | refine List.mem_append_right _ ?_ | refine List.Mem.tail _ ?_))).ints hs.new⟩ (fun tv htv => by have := hsp.2.2.2.2.2 tv htv; omega) (by have := hsp.2.2.2.2.1; omega); rw [hsl, hsp.2.2.1, ← gval_eq hsp.1] at h9; exact h9) rfl (by decide) (fun hS hhS => ?_)
    refine TL.pure (PV.move rfl) rfl (by decide) ?_
    refine TL.pure (PV.extract rfl rfl) rfl (by decide) ?_
    refine TL.pure (PV.extract rfl rfl) rfl (by decide) ?_
    refine TL.pure (PV.assign rfl) rfl (by decide) ?_
    refine TL.pure (PV.assign rfl) rfl (by decide) ?_
    refine TL.nil ?_
    refine TQ.thenC ?_
    refine TC.seq ?_
    refine TC.region ?_
    refine TL.pure (PV.move rfl) rfl (by decide) ?_
    refine TL.pure (PV.eqlI rfl rfl) rfl (by decide) ?_
    refine TL.pure (PV.move rfl) rfl (by decide) ?_
    refine TL.pure (PV.move rfl) rfl (by decide) ?_
    refine TL.pure (PV.eqlI rfl rfl) rfl (by decide) ?_
    refine TL.pure (PV.pickT rfl rfl) rfl (by decide) ?_
    refine TL.pure (PV.move rfl) rfl (by decide) ?_
    refine TL.pure (PV.move rfl) rfl (by decide) ?_
    refine TL.pure (PV.move rfl) rfl (by decide) ?_
    refine TL.call rfl Tb.gofn_31 (fun a w hs => sameI (IsI.g (h := hS) hs.new (by intro y hy; repeat (first | exact hy | exact List.mem_append_left _ hy | refine List.mem_append_right _ ?_ | refine List.Mem.tail _ ?_)) hhS) (IsI.ofl hx1.2.2 (IntsAt.arr hs.new (by repeat (first | exact List.Mem.head _ | refine List.Mem.tail _ ?_ | refine List.mem_append_right _ ?_)))) (by rw [hx1.2.2]; omega)) rfl (by decide) (fun _ _ => ?_)
    refine TL.pure (PV.pickT rfl rfl) rfl (by decide) ?_
    refine TL.pure (PV.move rfl) rfl (by decide) ?_
    refine TL.call rfl Tb.gofn_17 (fun a w hs => known_true w) rfl (by decide) (fun _ _ => ?_)
    refine TL.pure (PV.pickT rfl rfl) rfl (by decide) ?_
    refine TL.pure (PV.assign rfl) rfl (by decide) ?_
    refine TL.nil ?_
    refine TQ.thenC ?_
    refine TC.ret ?_
    refine TQ.retE1 rfl rfl ?_
    exact ⟨(), rfl, trivial, List.nil_sublist _⟩

set_option maxRecDepth 100000 in
set_option maxHeartbeats 2000000 in
theorem DrainBack_n (w0 : World) (n s t : Int) (p : Option Addr) (cap : Nat) (rs : List Bd) (hr : BdsAt w0 p rs) (hd0 : dI n s t rs ≠ 0) :
    Calls Try.prog 14 #[dnV n s t p rs.length cap] w0 (Post (X := Unit) (fun _ => .bool true) (fun _ => True) (fun _ => []) w0) := by
  refine calls Try.func14 rfl (n := 46) rfl (by simp) ?_
  refine TC.seq ?_
  refine TC.region ?_
  refine TL.box rfl rfl (by decide) (fun b0 hb0 => ?_)
  refine TL.pure (PV.assign rfl) rfl (by decide) ?_
  refine TL.nil ?_
  refine TQ.thenC ?_
  refine TC.seq ?_
  refine TC.seq ?_
  refine TC.region ?_
  refine TL.pure (PV.loadBox rfl Tb.agg_24 (by repeat (first | exact List.Mem.head _ | refine List.Mem.tail _ ?_ | refine List.mem_append_right _ ?_)) rfl) rfl (by decide) ?_
  refine TL.call rfl Tb.gofn_16 (fun a w hs => Long_ok w _ _ _ _ _ _) rfl (by decide) (fun _ _ => ?_)
  refine TL.nil ?_
  refine TQ.thenC ?_
  first | refine TC.condD rfl (fun h0 => ?_) (fun h0 => ?_) | refine TC.cond rfl (fun h0 => ?_) (fun h0 => ?_)
  · skip
    refine TC.seq ?_
    refine TC.region ?_
    refine TL.call rfl Tb.gofn_17 (fun a w hs => known_true w) rfl (by decide) (fun _ _ => ?_)
    refine TL.pure (PV.assign rfl) rfl (by decide) ?_
    refine TL.nil ?_
    refine TQ.thenC ?_
    refine TC.ret ?_
    refine TQ.thenR ?_
    refine TQ.retE1 rfl rfl ?_
    exact ⟨(), rfl, trivial, List.nil_sublist _⟩
  · skip
    refine TC.skip ?_
    refine TQ.thenC ?_
    refine TC.seq ?_
    refine TC.region ?_
    refine TL.pure (PV.loadBox rfl Tb.agg_24 (by repeat (first | exact List.Mem.head _ | refine List.Mem.tail _ ?_ | refine List.mem_append_right _ ?_)) rfl) rfl (by decide) ?_
    refine TL.call rfl Tb.gofn_24 (fun a w hs => Flow_n w n s t p cap rs (hr.new hs.new) hd0) rfl (by decide) (fun _ _ => ?_)
    refine TL.pure (PV.move rfl) rfl (by decide) ?_
    refine TL.pure (PV.extract rfl rfl) rfl (by decide) ?_
    refine TL.pure (PV.extract rfl rfl) rfl (by decide) ?_
    refine TL.pure (PV.assign rfl) rfl (by decide) ?_
    refine TL.pure (PV.assign rfl) rfl (by decide) ?_
    refine TL.nil ?_
    refine TQ.thenC ?_
    refine TC.seq ?_
    refine TC.seq ?_
    refine TC.region ?_
    refine TL.pure (PV.move rfl) rfl (by decide) ?_
    refine TL.pure (PV.neq rfl rfl) rfl (by decide) ?_
    refine TL.nil ?_
    refine TQ.thenC ?_
    first | refine TC.condD rfl (fun h18 => ?_) (fun h18 => ?_) | refine TC.cond rfl (fun h18 => ?_) (fun h18 => ?_)
    · skip
      refine TC.seq ?_
      refine TC.region ?_
      refine TL.call rfl Tb.gofn_17 (fun a w hs => known_true w) rfl (by decide) (fun _ _ => ?_)
      refine TL.pure (PV.assign rfl) rfl (by decide) ?_
      refine TL.nil ?_
      refine TQ.thenC ?_
      refine TC.ret ?_
      refine TQ.thenR ?_
      refine TQ.retE1 rfl rfl ?_
      exact ⟨(), rfl, trivial, List.nil_sublist _⟩
    · skip
      exact absurd hd0 h18

theorem DrainBack_law (w0 : World) (n s t : Int) (p : Option Addr) (cap : Nat) (rs : List Bd) (hr : BdsAt w0 p rs) :
    Calls Try.prog 14 #[dnV n s t p rs.length cap] w0 (Post (X := Unit) (fun _ => .bool true) (fun _ => True) (fun _ => []) w0) := by
  by_cases hd0 : dI n s t rs = 0
  · obtain ⟨n', s', t', rfl, rfl, rfl⟩ := nsplit hd0
    exact DrainBack_v w0 n' s' t' p cap rs hr (dI_is hd0) hd0
  · exact DrainBack_n w0 n s t p cap rs hr hd0

end Go.Proofs.Ytnlbngbbddhgeaa
