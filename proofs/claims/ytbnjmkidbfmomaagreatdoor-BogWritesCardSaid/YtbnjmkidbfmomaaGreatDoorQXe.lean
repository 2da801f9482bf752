/- A change by an order: contract. -/
import Derived.Test.YtbnjmkidbfmomaaGreatDoorQXd
set_option linter.unusedVariables false
set_option linter.unusedSimpArgs false
namespace Go.Proofs.YtbnjmkidbfmomaaGreatDoor
open Go.Sx Go.RowKit Go.Bt Go.Lib Go.Sand

def OdOk (o : Od) : Prop := (o.k = 0 ∧ o.ns.length = 0 ∨ o.k = 1 ∧ o.ns.length = 1 ∨ o.k = 2 ∧ o.ns.length = 2 ∨ o.k = 3 ∧ o.ns.length = 2 ∨ o.k = 4 ∧ o.ns.length = 0) ∧ ∀ j, 0 ≤ o.ns.getD j 0 ∧ o.ns.getD j 0 ≤ 999
theorem od_0 {o : Od} {k : Nat} (h : o.k = k) (h2 : o.ns.length = 0) : o = ⟨k, []⟩ := by
  obtain ⟨a, b⟩ := o
  simp only at h h2
  rw [h, List.length_eq_zero_iff.1 h2]
theorem od_1 {o : Od} {k : Nat} (h : o.k = k) (h2 : o.ns.length = 1) : o = ⟨k, [o.ns.getD 0 0]⟩ := by
  obtain ⟨a, b⟩ := o
  simp only at h h2
  obtain ⟨x, rfl⟩ := List.length_eq_one_iff.1 h2
  rw [h]; rfl
theorem od_2 {o : Od} {k : Nat} (h : o.k = k) (h2 : o.ns.length = 2) : o = ⟨k, [o.ns.getD 0 0, o.ns.getD 1 0]⟩ := by
  obtain ⟨a, b⟩ := o
  simp only at h h2
  match b, h2 with
  | [x, y], _ => rw [h]; rfl

set_option maxRecDepth 100000 in
set_option maxHeartbeats 1000000 in
theorem change_ok (w0 w : World) (s : St) (hv : SV s) (u : SU) (c : Co) (v : TV) (hi : Inv s c) (b : Nat) (Z : Heap) (hN : New w0 w ((b, .cells (tyL c v).toArray 101 (0, 0)) :: Z)) (Zf : Heap) (hZf : List.Sublist Zf Z) (hS : ∀ w9, New w0 w9 Zf → SiteAt w9 s u) (hT : ∀ w9, New w0 w9 Zf → TurAt w9 c v) (htz : M.TzAt w0) (o : Od) (ho : OdOk o) (pn : Option Addr) (cn : Nat) (hon : ∀ w9, New w0 w9 Zf → IntsAt w9 pn o.ns) :
    Calls Tryz.prog 103 #[.agg (siL s u).toArray, .pointer (some ⟨b, 0, none⟩), .agg #[.int .i64 (o.k : Nat), .slice pn o.ns.length cn]] w (Post (X := TV × Heap) (fun _ => .int .i64 (actI s c o)) (fun y => ∀ w9, New w0 w9 (y.2 ++ Zf) → TurAt w9 (chgC s c o) y.1) (fun y => (b, Obj.cells (tyL (chgC s c o) y.1).toArray 101 (0, 0)) :: (y.2 ++ Z)) w0) := by
  have hNZ := hN.sub (hZf.trans (List.sublist_cons_self _ _))
  have hob := ho.2
  have hok := ho.1
  refine callsM hN Tryz.func103 rfl (n := 52) rfl (by simp) ?_
  refine TC.seq ?_
  refine TC.region ?_
  refine TL.box rfl rfl (by decide) (fun b0 hb0 => ?_)
  refine TL.box rfl rfl (by decide) (fun b1 hb1 => ?_)
  refine TL.pure (PV.assign rfl) rfl (by decide) ?_
  refine TL.nil ?_
  refine TQ.thenC ?_
  refine TC.seq ?_
  refine TC.seq ?_
  refine TC.region ?_
  refine TL.pure (PV.fieldAddr rfl Tb.fo_144_0) rfl (by decide) ?_
  refine TL.pure (PV.load rfl Tb.one_142 (by repeat (first | exact List.Mem.head _ | refine List.Mem.tail _ ?_ | refine List.mem_append_right _ ?_)) rfl) rfl (by decide) ?_
  refine TL.nil ?_
  refine TQ.thenC ?_
  refine TC.block ?_
  refine TC.seq ?_
  refine TC.region ?_
  refine TL.pure (PV.eql rfl rfl) rfl (by decide) ?_
  refine TL.pure (PV.assign rfl) rfl (by decide) ?_
  refine TL.nil ?_
  refine TQ.thenC ?_
  first | refine TC.condD rfl (fun k0 => ?_) (fun k0 => ?_) | refine TC.cond rfl (fun k0 => ?_) (fun k0 => ?_)
  · refine TC.seq ?_
    have hoE := od_0 (o := o) (k := 0) (by omega) (by omega)
    refine TC.region ?_
    refine TL.pure (PV.loadBox (cs := siL s u) rfl Tb.agg_90 (by repeat (first | exact List.Mem.head _ | refine List.Mem.tail _ ?_ | refine List.mem_append_right _ ?_)) rfl) rfl (by decide) ?_
    refine TL.pure (PV.move rfl) rfl (by decide) ?_
    refine TL.callW (X := TV × Heap) (fun _ => .int .i64 (actI s c o)) (fun y => ∀ w9, New w0 w9 (y.2 ++ Zf) → TurAt w9 (chgC s c o) y.1) (fun y => (b, Obj.cells (tyL (chgC s c o) y.1).toArray 101 (0, 0)) :: (y.2 ++ Z)) rfl Tb.gofn_150 (fun a w hs => (by have h9 := day_ok w0 w s hv u c v hi b Z (hs.new.sub (List.sublist_append_right [_, _] _)) Zf hZf hS hT htz; rw [← hoE] at h9; exact h9)) rfl (by decide) (fun y hy => ?_)
    refine TL.pure (PV.assign rfl) rfl (by decide) ?_
    refine TL.nil ?_
    refine TQ.thenC ?_
    refine TC.ret ?_
    refine TQ.blkR ?_
    refine TQ.thenR ?_
    refine TQ.retE1 rfl rfl ?_
    exact ⟨y, rfl, hy, List.Sublist.refl _⟩
  · refine TC.seq ?_
    refine TC.region ?_
    refine TL.pure (PV.eql rfl rfl) rfl (by decide) ?_
    refine TL.pure (PV.assign rfl) rfl (by decide) ?_
    refine TL.nil ?_
    refine TQ.thenC ?_
    first | refine TC.condD rfl (fun k1 => ?_) (fun k1 => ?_) | refine TC.cond rfl (fun k1 => ?_) (fun k1 => ?_)
    · refine TC.seq ?_
      have hoE := od_1 (o := o) (k := 1) (by omega) (by omega)
      obtain ⟨q0, q0p, q0v⟩ := ints_now hon hNZ (k := 0) (by omega)
      refine TC.draw 6 Tb.mixed (by kernel_rfl) ?_
      simp only [List.take_succ_cons, List.take_zero, List.drop_succ_cons, List.drop_zero]
      refine TS.pure (PV.loadBox (cs := siL s u) rfl Tb.agg_90 (by repeat (first | exact List.Mem.head _ | refine List.Mem.tail _ ?_ | refine List.mem_append_right _ ?_)) rfl) rfl (by decide) ?_
      refine TS.pure (PV.move rfl) rfl (by decide) ?_
      refine TS.pure (PV.fieldAddr rfl Tb.fo_144_1) rfl (by decide) ?_
      refine TS.pure (PV.load rfl Tb.one_25 (by repeat (first | exact List.Mem.head _ | refine List.Mem.tail _ ?_ | refine List.mem_append_right _ ?_)) rfl) rfl (by decide) ?_
      refine TS.pure (PV.indexA (j := 0) rfl q0p rfl Tb.elm_25 rfl (by omega)) rfl (by decide) ?_
      refine TS.pure (PV.loadN rfl Tb.one_3 (hZf.trans (by repeat (first | exact .slnil | exact List.nil_sublist _ | exact .refl _ | refine .cons_cons _ ?_ | refine .cons _ ?_ | refine .trans ?_ (List.sublist_append_right _ _)))) q0v) rfl (by decide) ?_
      refine TS.nil ?_
      refine TL.callW (X := TV × Heap) (fun _ => .int .i64 (actI s c o)) (fun y => ∀ w9, New w0 w9 (y.2 ++ Zf) → TurAt w9 (chgC s c o) y.1) (fun y => (b, Obj.cells (tyL (chgC s c o) y.1).toArray 101 (0, 0)) :: (y.2 ++ Z)) rfl Tb.gofn_151 (fun a w hs => (by have h9 := cut_ok w0 w s hv u c v hi b Z (hs.new.sub (List.sublist_append_right [_, _] _)) Zf hZf hS hT (o.ns.getD 0 0) (hob 0); rw [← hoE] at h9; exact h9)) rfl (by decide) (fun y hy => ?_)
      refine TL.pure (PV.assign rfl) rfl (by decide) ?_
      refine TL.nil ?_
      refine TQ.thenC ?_
      refine TC.ret ?_
      refine TQ.blkR ?_
      refine TQ.thenR ?_
      refine TQ.retE1 rfl rfl ?_
      exact ⟨y, rfl, hy, List.Sublist.refl _⟩
    · refine TC.seq ?_
      refine TC.region ?_
      refine TL.pure (PV.eql rfl rfl) rfl (by decide) ?_
      refine TL.pure (PV.assign rfl) rfl (by decide) ?_
      refine TL.nil ?_
      refine TQ.thenC ?_
      first | refine TC.condD rfl (fun k2 => ?_) (fun k2 => ?_) | refine TC.cond rfl (fun k2 => ?_) (fun k2 => ?_)
      · refine TC.seq ?_
        have hoE := od_2 (o := o) (k := 2) (by omega) (by omega)
        obtain ⟨q0, q0p, q0v⟩ := ints_now hon hNZ (k := 0) (by omega)
        obtain ⟨q1, q1p, q1v⟩ := ints_now hon hNZ (k := 1) (by omega)
        refine TC.draw 10 Tb.mixed (by kernel_rfl) ?_
        simp only [List.take_succ_cons, List.take_zero, List.drop_succ_cons, List.drop_zero]
        refine TS.pure (PV.loadBox (cs := siL s u) rfl Tb.agg_90 (by repeat (first | exact List.Mem.head _ | refine List.Mem.tail _ ?_ | refine List.mem_append_right _ ?_)) rfl) rfl (by decide) ?_
        refine TS.pure (PV.move rfl) rfl (by decide) ?_
        refine TS.pure (PV.fieldAddr rfl Tb.fo_144_1) rfl (by decide) ?_
        refine TS.pure (PV.load rfl Tb.one_25 (by repeat (first | exact List.Mem.head _ | refine List.Mem.tail _ ?_ | refine List.mem_append_right _ ?_)) rfl) rfl (by decide) ?_
        refine TS.pure (PV.indexA (j := 0) rfl q0p rfl Tb.elm_25 rfl (by omega)) rfl (by decide) ?_
        refine TS.pure (PV.loadN rfl Tb.one_3 (hZf.trans (by repeat (first | exact .slnil | exact List.nil_sublist _ | exact .refl _ | refine .cons_cons _ ?_ | refine .cons _ ?_ | refine .trans ?_ (List.sublist_append_right _ _)))) q0v) rfl (by decide) ?_
        refine TS.pure (PV.fieldAddr rfl Tb.fo_144_1) rfl (by decide) ?_
        refine TS.pure (PV.load rfl Tb.one_25 (by repeat (first | exact List.Mem.head _ | refine List.Mem.tail _ ?_ | refine List.mem_append_right _ ?_)) rfl) rfl (by decide) ?_
        refine TS.pure (PV.indexA (j := 1) rfl q1p rfl Tb.elm_25 rfl (by omega)) rfl (by decide) ?_
        refine TS.pure (PV.loadN rfl Tb.one_3 (hZf.trans (by repeat (first | exact .slnil | exact List.nil_sublist _ | exact .refl _ | refine .cons_cons _ ?_ | refine .cons _ ?_ | refine .trans ?_ (List.sublist_append_right _ _)))) q1v) rfl (by decide) ?_
        refine TS.nil ?_
        refine TL.callW (X := TV × Heap) (fun _ => .int .i64 (actI s c o)) (fun y => ∀ w9, New w0 w9 (y.2 ++ Zf) → TurAt w9 (chgC s c o) y.1) (fun y => (b, Obj.cells (tyL (chgC s c o) y.1).toArray 101 (0, 0)) :: (y.2 ++ Z)) rfl Tb.gofn_152 (fun a w hs => (by have h9 := load_ok w0 w s hv u c v hi b Z (hs.new.sub (List.sublist_append_right [_, _] _)) Zf hZf hS hT (o.ns.getD 0 0) (o.ns.getD 1 0) (hob 0) (hob 1); rw [← hoE] at h9; exact h9)) rfl (by decide) (fun y hy => ?_)
        refine TL.pure (PV.assign rfl) rfl (by decide) ?_
        refine TL.nil ?_
        refine TQ.thenC ?_
        refine TC.ret ?_
        refine TQ.blkR ?_
        refine TQ.thenR ?_
        refine TQ.retE1 rfl rfl ?_
        exact ⟨y, rfl, hy, List.Sublist.refl _⟩
      · refine TC.seq ?_
        refine TC.region ?_
        refine TL.pure (PV.eql rfl rfl) rfl (by decide) ?_
        refine TL.pure (PV.assign rfl) rfl (by decide) ?_
        refine TL.nil ?_
        refine TQ.thenC ?_
        first | refine TC.condD rfl (fun k3 => ?_) (fun k3 => ?_) | refine TC.cond rfl (fun k3 => ?_) (fun k3 => ?_)
        · refine TC.seq ?_
          have hoE := od_2 (o := o) (k := 3) (by omega) (by omega)
          obtain ⟨q0, q0p, q0v⟩ := ints_now hon hNZ (k := 0) (by omega)
          obtain ⟨q1, q1p, q1v⟩ := ints_now hon hNZ (k := 1) (by omega)
          refine TC.draw 10 Tb.mixed (by kernel_rfl) ?_
          simp only [List.take_succ_cons, List.take_zero, List.drop_succ_cons, List.drop_zero]
          refine TS.pure (PV.loadBox (cs := siL s u) rfl Tb.agg_90 (by repeat (first | exact List.Mem.head _ | refine List.Mem.tail _ ?_ | refine List.mem_append_right _ ?_)) rfl) rfl (by decide) ?_
          refine TS.pure (PV.move rfl) rfl (by decide) ?_
          refine TS.pure (PV.fieldAddr rfl Tb.fo_144_1) rfl (by decide) ?_
          refine TS.pure (PV.load rfl Tb.one_25 (by repeat (first | exact List.Mem.head _ | refine List.Mem.tail _ ?_ | refine List.mem_append_right _ ?_)) rfl) rfl (by decide) ?_
          refine TS.pure (PV.indexA (j := 0) rfl q0p rfl Tb.elm_25 rfl (by omega)) rfl (by decide) ?_
          refine TS.pure (PV.loadN rfl Tb.one_3 (hZf.trans (by repeat (first | exact .slnil | exact List.nil_sublist _ | exact .refl _ | refine .cons_cons _ ?_ | refine .cons _ ?_ | refine .trans ?_ (List.sublist_append_right _ _)))) q0v) rfl (by decide) ?_
          refine TS.pure (PV.fieldAddr rfl Tb.fo_144_1) rfl (by decide) ?_
          refine TS.pure (PV.load rfl Tb.one_25 (by repeat (first | exact List.Mem.head _ | refine List.Mem.tail _ ?_ | refine List.mem_append_right _ ?_)) rfl) rfl (by decide) ?_
          refine TS.pure (PV.indexA (j := 1) rfl q1p rfl Tb.elm_25 rfl (by omega)) rfl (by decide) ?_
          refine TS.pure (PV.loadN rfl Tb.one_3 (hZf.trans (by repeat (first | exact .slnil | exact List.nil_sublist _ | exact .refl _ | refine .cons_cons _ ?_ | refine .cons _ ?_ | refine .trans ?_ (List.sublist_append_right _ _)))) q1v) rfl (by decide) ?_
          refine TS.nil ?_
          refine TL.callW (X := TV × Heap) (fun _ => .int .i64 (actI s c o)) (fun y => ∀ w9, New w0 w9 (y.2 ++ Zf) → TurAt w9 (chgC s c o) y.1) (fun y => (b, Obj.cells (tyL (chgC s c o) y.1).toArray 101 (0, 0)) :: (y.2 ++ Z)) rfl Tb.gofn_153 (fun a w hs => (by have h9 := wet_ok w0 w s hv u c v hi b Z (hs.new.sub (List.sublist_append_right [_, _] _)) Zf hZf hS hT (o.ns.getD 0 0) (o.ns.getD 1 0) (hob 0) (hob 1); rw [← hoE] at h9; exact h9)) rfl (by decide) (fun y hy => ?_)
          refine TL.pure (PV.assign rfl) rfl (by decide) ?_
          refine TL.nil ?_
          refine TQ.thenC ?_
          refine TC.ret ?_
          refine TQ.blkR ?_
          refine TQ.thenR ?_
          refine TQ.retE1 rfl rfl ?_
          exact ⟨y, rfl, hy, List.Sublist.refl _⟩
        · refine TC.skip ?_
          refine TQ.blkN ?_
          refine TQ.thenC ?_
          refine TC.seq ?_
          have hoE := od_0 (o := o) (k := 4) (by omega) (by omega)
          refine TC.region ?_
          refine TL.pure (PV.loadBox (cs := siL s u) rfl Tb.agg_90 (by repeat (first | exact List.Mem.head _ | refine List.Mem.tail _ ?_ | refine List.mem_append_right _ ?_)) rfl) rfl (by decide) ?_
          refine TL.pure (PV.move rfl) rfl (by decide) ?_
          refine TL.callW (X := TV × Heap) (fun _ => .int .i64 (actI s c o)) (fun y => ∀ w9, New w0 w9 (y.2 ++ Zf) → TurAt w9 (chgC s c o) y.1) (fun y => (b, Obj.cells (tyL (chgC s c o) y.1).toArray 101 (0, 0)) :: (y.2 ++ Z)) rfl Tb.gofn_154 (fun a w hs => (by have h9 := shut_ok w0 w s hv u c v hi b Z (hs.new.sub (List.sublist_append_right [_, _] _)) Zf hZf hS hT ; rw [← hoE] at h9; exact h9)) rfl (by decide) (fun y hy => ?_)
          refine TL.pure (PV.assign rfl) rfl (by decide) ?_
          refine TL.nil ?_
          refine TQ.thenC ?_
          refine TC.ret ?_
          refine TQ.retE1 rfl rfl ?_
          exact ⟨y, rfl, hy, List.Sublist.refl _⟩

set_option maxRecDepth 100000 in
theorem kindOf_ok (w0 : World) (L : List UInt8) :
    Calls Tryz.prog 148 #[str L] w0 (Post (X := Unit) (fun _ => .tuple #[.int .i64 (((kdF L).getD (0, 0)).1 : Nat), .int .i64 (((kdF L).getD (0, 0)).2 : Nat), .bool (kdF L).isSome]) (fun _ => True) (fun _ => []) w0) := by
  refine calls Tryz.func148 rfl (n := 16) rfl (by simp) ?_
  refine TC.seq ?_
  refine TC.region ?_
  refine TL.pure (PV.assign rfl) rfl (by decide) ?_
  refine TL.pure (PV.assign rfl) rfl (by decide) ?_
  refine TL.pure (PV.assign rfl) rfl (by decide) ?_
  refine TL.nil ?_
  refine TQ.thenC ?_
  refine TC.seq ?_
  refine TC.seq ?_
  refine TC.region ?_
  refine TL.pure (PV.move rfl) rfl (by decide) ?_
  refine TL.nil ?_
  refine TQ.thenC ?_
  refine TC.block ?_
  refine TC.seq ?_
  refine TC.region ?_
  refine TL.pure (PV.eqS (M := dayB) rfl rfl) rfl (by decide) ?_
  refine TL.pure (PV.assign rfl) rfl (by decide) ?_
  refine TL.nil ?_
  refine TQ.thenC ?_
  first | refine TC.condD rfl (fun e0 => ?_) (fun e0 => ?_) | refine TC.cond rfl (fun e0 => ?_) (fun e0 => ?_)
  · refine TC.seq ?_
    refine TC.region ?_
    refine TL.pure (PV.assign rfl) rfl (by decide) ?_
    refine TL.pure (PV.assign rfl) rfl (by decide) ?_
    refine TL.pure (PV.assign rfl) rfl (by decide) ?_
    refine TL.nil ?_
    refine TQ.thenC ?_
    refine TC.ret ?_
    refine TQ.blkR ?_
    refine TQ.thenR ?_
    refine TQ.retE3 rfl rfl rfl rfl ?_
    have hk : kdF L = some (0, 0) := by unfold kdF; rw [if_pos e0]
    exact ⟨(), by rw [hk]; rfl, trivial, List.nil_sublist _⟩
  · refine TC.seq ?_
    refine TC.region ?_
    refine TL.pure (PV.eqS (M := cutB) rfl rfl) rfl (by decide) ?_
    refine TL.pure (PV.assign rfl) rfl (by decide) ?_
    refine TL.nil ?_
    refine TQ.thenC ?_
    first | refine TC.condD rfl (fun e1 => ?_) (fun e1 => ?_) | refine TC.cond rfl (fun e1 => ?_) (fun e1 => ?_)
    · refine TC.seq ?_
      refine TC.region ?_
      refine TL.pure (PV.assign rfl) rfl (by decide) ?_
      refine TL.pure (PV.assign rfl) rfl (by decide) ?_
      refine TL.pure (PV.assign rfl) rfl (by decide) ?_
      refine TL.nil ?_
      refine TQ.thenC ?_
      refine TC.ret ?_
      refine TQ.blkR ?_
      refine TQ.thenR ?_
      refine TQ.retE3 rfl rfl rfl rfl ?_
      have hk : kdF L = some (1, 1) := by unfold kdF; rw [if_neg e0, if_pos e1]
      exact ⟨(), by rw [hk]; rfl, trivial, List.nil_sublist _⟩
    · refine TC.seq ?_
      refine TC.region ?_
      refine TL.pure (PV.eqS (M := loadB) rfl rfl) rfl (by decide) ?_
      refine TL.pure (PV.assign rfl) rfl (by decide) ?_
      refine TL.nil ?_
      refine TQ.thenC ?_
      first | refine TC.condD rfl (fun e2 => ?_) (fun e2 => ?_) | refine TC.cond rfl (fun e2 => ?_) (fun e2 => ?_)
      · refine TC.seq ?_
        refine TC.region ?_
        refine TL.pure (PV.assign rfl) rfl (by decide) ?_
        refine TL.pure (PV.assign rfl) rfl (by decide) ?_
        refine TL.pure (PV.assign rfl) rfl (by decide) ?_
        refine TL.nil ?_
        refine TQ.thenC ?_
        refine TC.ret ?_
        refine TQ.blkR ?_
        refine TQ.thenR ?_
        refine TQ.retE3 rfl rfl rfl rfl ?_
        have hk : kdF L = some (2, 2) := by unfold kdF; rw [if_neg e0, if_neg e1, if_pos e2]
        exact ⟨(), by rw [hk]; rfl, trivial, List.nil_sublist _⟩
      · refine TC.seq ?_
        refine TC.region ?_
        refine TL.pure (PV.eqS (M := wetB) rfl rfl) rfl (by decide) ?_
        refine TL.pure (PV.assign rfl) rfl (by decide) ?_
        refine TL.nil ?_
        refine TQ.thenC ?_
        first | refine TC.condD rfl (fun e3 => ?_) (fun e3 => ?_) | refine TC.cond rfl (fun e3 => ?_) (fun e3 => ?_)
        · refine TC.seq ?_
          refine TC.region ?_
          refine TL.pure (PV.assign rfl) rfl (by decide) ?_
          refine TL.pure (PV.assign rfl) rfl (by decide) ?_
          refine TL.pure (PV.assign rfl) rfl (by decide) ?_
          refine TL.nil ?_
          refine TQ.thenC ?_
          refine TC.ret ?_
          refine TQ.blkR ?_
          refine TQ.thenR ?_
          refine TQ.retE3 rfl rfl rfl rfl ?_
          have hk : kdF L = some (3, 2) := by unfold kdF; rw [if_neg e0, if_neg e1, if_neg e2, if_pos e3]
          exact ⟨(), by rw [hk]; rfl, trivial, List.nil_sublist _⟩
        · refine TC.seq ?_
          refine TC.region ?_
          refine TL.pure (PV.eqS (M := shutB) rfl rfl) rfl (by decide) ?_
          refine TL.pure (PV.assign rfl) rfl (by decide) ?_
          refine TL.nil ?_
          refine TQ.thenC ?_
          first | refine TC.condD rfl (fun e4 => ?_) (fun e4 => ?_) | refine TC.cond rfl (fun e4 => ?_) (fun e4 => ?_)
          · refine TC.seq ?_
            refine TC.region ?_
            refine TL.pure (PV.assign rfl) rfl (by decide) ?_
            refine TL.pure (PV.assign rfl) rfl (by decide) ?_
            refine TL.pure (PV.assign rfl) rfl (by decide) ?_
            refine TL.nil ?_
            refine TQ.thenC ?_
            refine TC.ret ?_
            refine TQ.blkR ?_
            refine TQ.thenR ?_
            refine TQ.retE3 rfl rfl rfl rfl ?_
            have hk : kdF L = some (4, 0) := by unfold kdF; rw [if_neg e0, if_neg e1, if_neg e2, if_neg e3, if_pos e4]
            exact ⟨(), by rw [hk]; rfl, trivial, List.nil_sublist _⟩
          · refine TC.skip ?_
            refine TQ.blkN ?_
            refine TQ.thenC ?_
            refine TC.seq ?_
            refine TC.region ?_
            refine TL.pure (PV.assign rfl) rfl (by decide) ?_
            refine TL.pure (PV.assign rfl) rfl (by decide) ?_
            refine TL.pure (PV.assign rfl) rfl (by decide) ?_
            refine TL.nil ?_
            refine TQ.thenC ?_
            refine TC.ret ?_
            refine TQ.retE3 rfl rfl rfl rfl ?_
            have hk : kdF L = none := by unfold kdF; rw [if_neg e0, if_neg e1, if_neg e2, if_neg e3, if_neg e4]
            exact ⟨(), by rw [hk]; rfl, trivial, List.nil_sublist _⟩

end Go.Proofs.YtbnjmkidbfmomaaGreatDoor
