/- Do: contract. -/
import Derived.Test.YtbnjmkidbfmomaaGreatDoorQXg
set_option linter.unusedVariables false
set_option linter.unusedSimpArgs false
namespace Go.Proofs.YtbnjmkidbfmomaaGreatDoor
open Go.Sx Go.RowKit Go.Bt Go.Lib Go.Sand

section
variable {P : Program} {r : Option Nat} {ds : List Deferred} {n : Nat} {w0 : World} {E : Env} {G : Heap} {Q : Exit → Act → World → Prop}
theorem TG.sub {c : Code} {G' : Heap} (hp : List.Sublist G' G) (h : TG r ds P n w0 c Q E G') : TG r ds P n w0 c Q E G := fun a w hs => h a w (hs.world (hs.new.sub hp))
end
theorem after_ok (w0 w : World) (hW : WAt w0) (s : St) (hv : SV s) (u : SU) (c : Co) (v : TV) (hi : Inv s c) (b : Nat) (ho : HD) (hgo : goR stR ho c.ords) (Z : Heap) (hN : New w0 w (coB b s u 1 c v ho :: Z)) (Zf : Heap) (hZf : List.Sublist Zf Z) (hS : ∀ w9, New w0 w9 Zf → SiteAt w9 s u) (hT : ∀ w9, New w0 w9 Zf → TurAt w9 c v) (t : List UInt8) (ht : t.length ≤ 1000000) :
    Calls Tryz.prog 64 #[.pointer (some ⟨b, 0, none⟩), str t] w (Post (X := TV × Heap) (fun y => afV (doI s c t) t (afC s c t) y.1) (fun y => ∀ w9, New w0 w9 (y.2 ++ Zf) → TurAt w9 (afC s c t) y.1) (fun y => y.2 ++ (coB b s u 1 c v ho :: Z)) w0) := by
  cases hp : prsO t with
  | none => exact after_n w0 w hW s hv u c v hi b ho hgo Z hN Zf hZf hS hT t ht hp
  | some o => exact after_y w0 w hW s hv u c v hi b ho hgo Z hN Zf hZf hS hT t ht o hp
set_option maxRecDepth 100000 in
set_option maxHeartbeats 1000000 in
theorem Do_e (w0 w : World) (hW : WAt w0) (s : St) (hv : SV s) (u : SU) (c : Co) (v : TV) (hi : Inv s c) (b : Nat) (ho : HD) (hgo : goR stR ho c.ords) (Z : Heap) (hN : New w0 w (coB b s u 0 c v ho :: (gbR stR 9 ho c.ords ++ Z))) (Zf : Heap) (hZf : List.Sublist Zf Z) (hS : ∀ w9, New w0 w9 Zf → SiteAt w9 s u) (hT : ∀ w9, New w0 w9 Zf → TurAt w9 c v) (t : List UInt8) (ht : t.length ≤ 1000000) (he : doI s c t ≠ 0) :
    Calls Tryz.prog 18 #[.pointer (some ⟨b, 0, none⟩), str t] w (Post (X := TV × HD × Heap) (fun _ => .int .i64 (doI s c t)) (fun y => goR stR y.2.1 (doC s c t).ords ∧ ∀ w9, New w0 w9 (y.2.2 ++ Zf) → TurAt w9 (doC s c t) y.1) (fun y => coB b s u 0 (doC s c t) y.1 y.2.1 :: (gbR stR 9 y.2.1 (doC s c t).ords ++ (y.2.2 ++ Z))) w0) := by
  refine callsDfM hN Tryz.func18 rfl (n := 42) rfl (by simp) ?_
  refine TG.seq ?_
  refine TG.region (by repeat (first | with_reducible exact RB.lo | with_reducible exact QN.lo | with_reducible exact bodyM_lo | with_reducible exact bodyP_lo | with_reducible exact bodyD_lo | with_reducible apply lo_then | with_reducible apply lo_blk)) (by kernel_rfl) ?_
  refine TL.pure (PV.assign rfl) rfl (by decide) ?_
  refine TL.nil ?_
  refine TQ.thenG ?_
  refine TG.seq ?_
  refine TG.seq ?_
  refine TG.region (by repeat (first | with_reducible exact RB.lo | with_reducible exact QN.lo | with_reducible exact bodyM_lo | with_reducible exact bodyP_lo | with_reducible exact bodyD_lo | with_reducible apply lo_then | with_reducible apply lo_blk)) (by kernel_rfl) ?_
  refine TL.pure (PV.move rfl) rfl (by decide) ?_
  refine TL.call rfl Tb.gofn_61 (fun a w hs => isNone_ok w b s.need (Inv.need hv) (hs.new.cell (by repeat (first | exact List.Mem.head _ | refine List.Mem.tail _ ?_ | refine List.mem_append_right _ ?_)) rfl)) rfl (by decide) (fun _ _ => ?_)
  refine TL.nil ?_
  refine TQ.thenG ?_
  refine TG.condF rfl ?_
  refine TG.skip ?_
  refine TQ.thenG ?_
  refine TG.seq ?_
  refine TG.region (by repeat (first | with_reducible exact RB.lo | with_reducible exact QN.lo | with_reducible exact bodyM_lo | with_reducible exact bodyP_lo | with_reducible exact bodyD_lo | with_reducible apply lo_then | with_reducible apply lo_blk)) (by kernel_rfl) ?_
  refine TL.pure (PV.move rfl) rfl (by decide) ?_
  refine TL.pure (PV.nilCheck rfl) rfl (by decide) ?_
  refine TL.pure (PV.fieldAddr rfl Tb.fo_103_1) rfl (by decide) ?_
  refine TL.callW (X := Unit) (fun _ => .tuple #[]) (fun _ => True) (fun _ => coB b s u 1 c v ho :: (gbR stR 9 ho c.ords ++ Z)) rfl Tb.gofn_62 (fun a w hs => lock_co hs.new) rfl (by decide) (fun _ _ => ?_)
  refine TL.nil ?_
  refine TQ.thenG ?_
  refine TG.seq ?_
  refine TG.regionL ?_
  refine TGL.pre 3 (by repeat (first | with_reducible exact RB.lo | with_reducible exact QN.lo | with_reducible exact bodyM_lo | with_reducible exact bodyP_lo | with_reducible exact bodyD_lo | with_reducible apply lo_then | with_reducible apply lo_blk)) (by kernel_rfl) ?_
  simp only [List.take_succ_cons, List.take_zero, List.drop_succ_cons, List.drop_zero]
  refine TL.pure (PV.move rfl) rfl (by decide) ?_
  refine TL.pure (PV.nilCheck rfl) rfl (by decide) ?_
  refine TL.pure (PV.fieldAddr rfl Tb.fo_103_1) rfl (by decide) ?_
  refine TL.nil ?_
  refine TQ.thenL ?_
  refine TGL.defer (fun a w hs => resolve_fn rfl hs rfl) ?_
  refine TGL.opsAll (by repeat (first | with_reducible exact RB.lo | with_reducible exact QN.lo | with_reducible exact bodyM_lo | with_reducible exact bodyP_lo | with_reducible exact bodyD_lo | with_reducible apply lo_then | with_reducible apply lo_blk)) (by kernel_rfl) (TL.nil ?_)
  refine TQ.thenG ?_
  refine TG.seq ?_
  refine TG.region (by repeat (first | with_reducible exact RB.lo | with_reducible exact QN.lo | with_reducible exact bodyM_lo | with_reducible exact bodyP_lo | with_reducible exact bodyD_lo | with_reducible apply lo_then | with_reducible apply lo_blk)) (by kernel_rfl) ?_
  refine TL.pure (PV.move rfl) rfl (by decide) ?_
  refine TL.pure (PV.move rfl) rfl (by decide) ?_
  refine TL.callW (X := TV × Heap) (fun _ => .tuple #[.agg tyZ.toArray, .iface 109 (.agg #[str t, .int .i64 (doI s c t)])]) (fun y => ∀ w9, New w0 w9 (y.2 ++ Zf) → TurAt w9 (afC s c t) y.1) (fun y => y.2 ++ (coB b s u 1 c v ho :: (gbR stR 9 ho c.ords ++ Z))) rfl Tb.gofn_64 (fun a w hs => (after_ok w0 w hW s hv u c v hi b ho hgo _ hs.new Zf (hZf.trans (List.sublist_append_right _ _)) hS hT t ht).mono fun _ _ ⟨y, e1, e2, e3⟩ => ⟨y, by rw [e1]; exact congrArg Ending.returned (afV_e he), e2, e3⟩) rfl (by decide) (fun y hy => ?_)
  refine TL.pure (PV.move rfl) rfl (by decide) ?_
  refine TL.pure (PV.extract rfl rfl) rfl (by decide) ?_
  refine TL.pure (PV.extract rfl rfl) rfl (by decide) ?_
  refine TL.alloc Tb.zero_101 rfl (by decide) (fun b0 hb0 => ?_)
  refine TL.storeAgg rfl rfl Tb.cells_101 (by repeat (first | exact Upd.head _ | apply Upd.tail | apply Upd.appR)) rfl rfl rfl rfl rfl ?_
  refine TL.pure (PV.assign rfl) rfl (by decide) ?_
  refine TL.nil ?_
  refine TQ.thenG ?_
  refine TG.seq ?_
  refine TG.region (by repeat (first | with_reducible exact RB.lo | with_reducible exact QN.lo | with_reducible exact bodyM_lo | with_reducible exact bodyP_lo | with_reducible exact bodyD_lo | with_reducible apply lo_then | with_reducible apply lo_blk)) (by kernel_rfl) ?_
  refine TL.alloc Tb.zero_109 rfl (by decide) (fun b1 hb1 => ?_)
  refine TL.nil ?_
  refine TQ.thenG ?_
  refine TG.seq ?_
  refine TG.seq ?_
  refine TG.region (by repeat (first | with_reducible exact RB.lo | with_reducible exact QN.lo | with_reducible exact bodyM_lo | with_reducible exact bodyP_lo | with_reducible exact bodyD_lo | with_reducible apply lo_then | with_reducible apply lo_blk)) (by kernel_rfl) ?_
  refine TL.pure (PV.move rfl) rfl (by decide) ?_
  refine TL.pure (PV.makeIface rfl (by kernel_rfl)) rfl (by decide) ?_
  refine TL.callW (X := Unit) (fun _ => .bool true) (fun _ => True) (fun _ => (b1, Obj.cells #[str t, .int .i64 (doI s c t)] 109 (0, 0)) :: (b0, Obj.cells tyZ.toArray 101 (0, 0)) :: (y.2 ++ (coB b s u 1 c v ho :: (gbR stR 9 ho c.ords ++ Z)))) rfl Tb.gofn_65 (fun a w hs => as_new (hW.new hs.new) rfl rfl hs.new) rfl (by decide) (fun _ _ => ?_)
  refine TL.nil ?_
  refine TQ.thenG ?_
  refine TG.condT rfl ?_
  refine TG.seq ?_
  refine TG.region (by repeat (first | with_reducible exact RB.lo | with_reducible exact QN.lo | with_reducible exact bodyM_lo | with_reducible exact bodyP_lo | with_reducible exact bodyD_lo | with_reducible apply lo_then | with_reducible apply lo_blk)) (by kernel_rfl) ?_
  refine TL.pure (PV.fieldAddr rfl Tb.fo_109_1) rfl (by decide) ?_
  refine TL.pure (PV.load rfl Tb.one_31 (by repeat (first | exact List.Mem.head _ | refine List.Mem.tail _ ?_ | refine List.mem_append_right _ ?_)) rfl) rfl (by decide) ?_
  refine TL.pure (PV.assign rfl) rfl (by decide) ?_
  refine TL.nil ?_
  refine TQ.thenG ?_
  refine TG.ret ?_
  refine TQ.gthenR ?_
  refine TQ.retD (caps := []) (G' := (b1, Obj.cells #[str t, .int .i64 (doI s c t)] 109 (0, 0)) :: (b0, Obj.cells tyZ.toArray 101 (0, 0)) :: (y.2 ++ (coB b s u 0 c v ho :: (gbR stR 9 ho c.ords ++ Z)))) Tb.gofn_63 (unlock_new (cs := (coL s u 1 c v (gval ho c.ords.length)).toArray) (by repeat (first | exact Upd.head _ | apply Upd.tail | apply Upd.appR)) rfl) ?_
  refine TQ.retE1 rfl rfl ?_
  exact ⟨(v, ho, []), rfl, by rw [doC_no he]; exact ⟨hgo, hT⟩, by rw [doC_no he]; exact (by repeat (first | exact .slnil | exact List.nil_sublist _ | exact .refl _ | refine .cons_cons _ ?_ | refine .cons _ ?_ | refine .trans ?_ (List.sublist_append_right _ _)))⟩

set_option maxRecDepth 100000 in
set_option maxHeartbeats 1000000 in
theorem Do_y (w0 w : World) (hW : WAt w0) (s : St) (hv : SV s) (u : SU) (c : Co) (v : TV) (hi : Inv s c) (b : Nat) (ho : HD) (hgo : goR stR ho c.ords) (Z : Heap) (hN : New w0 w (coB b s u 0 c v ho :: (gbR stR 9 ho c.ords ++ Z))) (Zf : Heap) (hZf : List.Sublist Zf Z) (hS : ∀ w9, New w0 w9 Zf → SiteAt w9 s u) (hT : ∀ w9, New w0 w9 Zf → TurAt w9 c v) (t : List UInt8) (ht : t.length ≤ 1000000) (he : doI s c t = 0) :
    Calls Tryz.prog 18 #[.pointer (some ⟨b, 0, none⟩), str t] w (Post (X := TV × HD × Heap) (fun _ => .int .i64 (doI s c t)) (fun y => goR stR y.2.1 (doC s c t).ords ∧ ∀ w9, New w0 w9 (y.2.2 ++ Zf) → TurAt w9 (doC s c t) y.1) (fun y => coB b s u 0 (doC s c t) y.1 y.2.1 :: (gbR stR 9 y.2.1 (doC s c t).ords ++ (y.2.2 ++ Z))) w0) := by
  have hol := hi.ol
  refine callsDfM hN Tryz.func18 rfl (n := 42) rfl (by simp) ?_
  refine TG.seq ?_
  refine TG.region (by repeat (first | with_reducible exact RB.lo | with_reducible exact QN.lo | with_reducible exact bodyM_lo | with_reducible exact bodyP_lo | with_reducible exact bodyD_lo | with_reducible apply lo_then | with_reducible apply lo_blk)) (by kernel_rfl) ?_
  refine TL.pure (PV.assign rfl) rfl (by decide) ?_
  refine TL.nil ?_
  refine TQ.thenG ?_
  refine TG.seq ?_
  refine TG.seq ?_
  refine TG.region (by repeat (first | with_reducible exact RB.lo | with_reducible exact QN.lo | with_reducible exact bodyM_lo | with_reducible exact bodyP_lo | with_reducible exact bodyD_lo | with_reducible apply lo_then | with_reducible apply lo_blk)) (by kernel_rfl) ?_
  refine TL.pure (PV.move rfl) rfl (by decide) ?_
  refine TL.call rfl Tb.gofn_61 (fun a w hs => isNone_ok w b s.need (Inv.need hv) (hs.new.cell (by repeat (first | exact List.Mem.head _ | refine List.Mem.tail _ ?_ | refine List.mem_append_right _ ?_)) rfl)) rfl (by decide) (fun _ _ => ?_)
  refine TL.nil ?_
  refine TQ.thenG ?_
  refine TG.condF rfl ?_
  refine TG.skip ?_
  refine TQ.thenG ?_
  refine TG.seq ?_
  refine TG.region (by repeat (first | with_reducible exact RB.lo | with_reducible exact QN.lo | with_reducible exact bodyM_lo | with_reducible exact bodyP_lo | with_reducible exact bodyD_lo | with_reducible apply lo_then | with_reducible apply lo_blk)) (by kernel_rfl) ?_
  refine TL.pure (PV.move rfl) rfl (by decide) ?_
  refine TL.pure (PV.nilCheck rfl) rfl (by decide) ?_
  refine TL.pure (PV.fieldAddr rfl Tb.fo_103_1) rfl (by decide) ?_
  refine TL.callW (X := Unit) (fun _ => .tuple #[]) (fun _ => True) (fun _ => coB b s u 1 c v ho :: (gbR stR 9 ho c.ords ++ Z)) rfl Tb.gofn_62 (fun a w hs => lock_co hs.new) rfl (by decide) (fun _ _ => ?_)
  refine TL.nil ?_
  refine TQ.thenG ?_
  refine TG.seq ?_
  refine TG.regionL ?_
  refine TGL.pre 3 (by repeat (first | with_reducible exact RB.lo | with_reducible exact QN.lo | with_reducible exact bodyM_lo | with_reducible exact bodyP_lo | with_reducible exact bodyD_lo | with_reducible apply lo_then | with_reducible apply lo_blk)) (by kernel_rfl) ?_
  simp only [List.take_succ_cons, List.take_zero, List.drop_succ_cons, List.drop_zero]
  refine TL.pure (PV.move rfl) rfl (by decide) ?_
  refine TL.pure (PV.nilCheck rfl) rfl (by decide) ?_
  refine TL.pure (PV.fieldAddr rfl Tb.fo_103_1) rfl (by decide) ?_
  refine TL.nil ?_
  refine TQ.thenL ?_
  refine TGL.defer (fun a w hs => resolve_fn rfl hs rfl) ?_
  refine TGL.opsAll (by repeat (first | with_reducible exact RB.lo | with_reducible exact QN.lo | with_reducible exact bodyM_lo | with_reducible exact bodyP_lo | with_reducible exact bodyD_lo | with_reducible apply lo_then | with_reducible apply lo_blk)) (by kernel_rfl) (TL.nil ?_)
  refine TQ.thenG ?_
  refine TG.seq ?_
  refine TG.region (by repeat (first | with_reducible exact RB.lo | with_reducible exact QN.lo | with_reducible exact bodyM_lo | with_reducible exact bodyP_lo | with_reducible exact bodyD_lo | with_reducible apply lo_then | with_reducible apply lo_blk)) (by kernel_rfl) ?_
  refine TL.pure (PV.move rfl) rfl (by decide) ?_
  refine TL.pure (PV.move rfl) rfl (by decide) ?_
  refine TL.callW (X := TV × Heap) (fun y => .tuple #[.agg (tyL (afC s c t) y.1).toArray, .nilIface]) (fun y => ∀ w9, New w0 w9 (y.2 ++ Zf) → TurAt w9 (afC s c t) y.1) (fun y => y.2 ++ (coB b s u 1 c v ho :: (gbR stR 9 ho c.ords ++ Z))) rfl Tb.gofn_64 (fun a w hs => (after_ok w0 w hW s hv u c v hi b ho hgo _ hs.new Zf (hZf.trans (List.sublist_append_right _ _)) hS hT t ht).mono fun _ _ ⟨y, e1, e2, e3⟩ => ⟨y, by rw [e1]; exact congrArg Ending.returned (afV_0 he), e2, e3⟩) rfl (by decide) (fun y hy => ?_)
  refine TL.pure (PV.move rfl) rfl (by decide) ?_
  refine TL.pure (PV.extract rfl rfl) rfl (by decide) ?_
  refine TL.pure (PV.extract rfl rfl) rfl (by decide) ?_
  refine TL.alloc Tb.zero_101 rfl (by decide) (fun b0 hb0 => ?_)
  refine TL.storeAgg rfl rfl Tb.cells_101 (by repeat (first | exact Upd.head _ | apply Upd.tail | apply Upd.appR)) rfl rfl rfl rfl rfl ?_
  refine TL.pure (PV.assign rfl) rfl (by decide) ?_
  refine TL.nil ?_
  refine TQ.thenG ?_
  refine TG.seq ?_
  refine TG.region (by repeat (first | with_reducible exact RB.lo | with_reducible exact QN.lo | with_reducible exact bodyM_lo | with_reducible exact bodyP_lo | with_reducible exact bodyD_lo | with_reducible apply lo_then | with_reducible apply lo_blk)) (by kernel_rfl) ?_
  refine TL.alloc Tb.zero_109 rfl (by decide) (fun b1 hb1 => ?_)
  refine TL.nil ?_
  refine TQ.thenG ?_
  refine TG.seq ?_
  refine TG.seq ?_
  refine TG.region (by repeat (first | with_reducible exact RB.lo | with_reducible exact QN.lo | with_reducible exact bodyM_lo | with_reducible exact bodyP_lo | with_reducible exact bodyD_lo | with_reducible apply lo_then | with_reducible apply lo_blk)) (by kernel_rfl) ?_
  refine TL.pure (PV.move rfl) rfl (by decide) ?_
  refine TL.pure (PV.makeIface rfl (by kernel_rfl)) rfl (by decide) ?_
  refine TL.callW (X := Unit) (fun _ => .bool false) (fun _ => True) (fun _ => (b1, Obj.cells #[str [], .int .i64 0] 109 (0, 0)) :: (b0, Obj.cells (tyL (afC s c t) y.1).toArray 101 (0, 0)) :: (y.2 ++ (coB b s u 1 c v ho :: (gbR stR 9 ho c.ords ++ Z)))) rfl Tb.gofn_65 (fun a w hs => (as_nil _ w).mono fun _ _ ⟨h1, h2⟩ => ⟨(), h1, trivial, by rw [h2]; exact hs.new⟩) rfl (by decide) (fun _ _ => ?_)
  refine TL.nil ?_
  refine TQ.thenG ?_
  refine TG.condF rfl ?_
  refine TG.skip ?_
  refine TQ.thenG ?_
  refine TG.seq ?_
  refine TG.region (by repeat (first | with_reducible exact RB.lo | with_reducible exact QN.lo | with_reducible exact bodyM_lo | with_reducible exact bodyP_lo | with_reducible exact bodyD_lo | with_reducible apply lo_then | with_reducible apply lo_blk)) (by kernel_rfl) ?_
  refine TL.pure (PV.move rfl) rfl (by decide) ?_
  refine TL.pure (PV.loadBox (cs := tyL (afC s c t) y.1) rfl Tb.agg_101 (by repeat (first | exact List.Mem.head _ | refine List.Mem.tail _ ?_ | refine List.mem_append_right _ ?_)) rfl) rfl (by decide) ?_
  refine TL.pure (PV.nilCheck rfl) rfl (by decide) ?_
  refine TL.pure (PV.fieldAddr rfl Tb.fo_103_2) rfl (by decide) ?_
  refine TL.storeMid (cs := coL s u 1 c v (gval ho c.ords.length)) (cs' := coL s u 1 (afC s c t) y.1 (gval ho c.ords.length)) (off := 8) (k := 9) (vs := tyL (afC s c t) y.1) rfl rfl Tb.cells_101 (by repeat (first | exact Upd.head _ | apply Upd.tail | apply Upd.appR)) rfl rfl (Nat.le_of_ble_eq_true rfl) rfl rfl rfl ?_
  refine TL.nil ?_
  refine TQ.thenG ?_
  refine TG.seq ?_
  refine TG.region (by repeat (first | with_reducible exact RB.lo | with_reducible exact QN.lo | with_reducible exact bodyM_lo | with_reducible exact bodyP_lo | with_reducible exact bodyD_lo | with_reducible apply lo_then | with_reducible apply lo_blk)) (by kernel_rfl) ?_
  refine TL.pure (PV.move rfl) rfl (by decide) ?_
  refine TL.pure (PV.move rfl) rfl (by decide) ?_
  refine TL.pure (PV.nilCheck rfl) rfl (by decide) ?_
  refine TL.pure (PV.fieldAddr rfl Tb.fo_103_3) rfl (by decide) ?_
  refine TL.pure (PV.load rfl Tb.one_43 (by repeat (first | exact List.Mem.head _ | refine List.Mem.tail _ ?_ | refine List.mem_append_right _ ?_)) rfl) rfl (by decide) ?_
  refine TL.pure (PV.move rfl) rfl (by decide) ?_
  refine TL.buildSlice (cs := #[str t]) rfl Tb.sl_43 Tb.zi_9 (by decide) (fill_s t) (by decide) rfl (by decide) (fun bI hbI => ?_)
  refine TL.appendRec (R := stR) (h0 := ho) (ys := c.ords) (r := t) Tb.sl_43 Tb.zi_9 rfl rfl rfl (by repeat (first | exact List.Mem.head _ | refine List.Mem.tail _ ?_ | refine List.mem_append_right _ ?_)) hgo (by repeat (first | exact TakeH.here _ _ _ _ | apply TakeH.tail | apply TakeH.app)) (by omega) (by omega) rfl (by decide) (fun h9 ho9 => ?_)
  refine TL.pure (PV.nilCheck rfl) rfl (by decide) ?_
  refine TL.pure (PV.fieldAddr rfl Tb.fo_103_3) rfl (by decide) ?_
  refine TL.store rfl rfl Tb.cells_43 (gval_one _ _) (by repeat (first | exact Upd.head _ | apply Upd.tail | apply Upd.appR)) (by first | decide | (simp; done)) rfl rfl ?_
  refine TL.nil ?_
  refine TQ.thenG ?_
  refine TG.seq ?_
  refine TG.sub (G' := gbR stR 9 h9 (c.ords ++ [t]) ++ (y.2 ++ (coB b s u 1 { afC s c t with ords := c.ords ++ [t] } y.1 h9 :: Z))) (List.Sublist.append (List.Sublist.refl _) (List.Sublist.cons _ (List.Sublist.cons _ (List.Sublist.cons _ (List.Sublist.refl _))))) ?_
  refine TG.perm (G' := coB b s u 1 { afC s c t with ords := c.ords ++ [t] } y.1 h9 :: (gbR stR 9 h9 (c.ords ++ [t]) ++ (y.2 ++ Z))) (List.perm_middle.symm.trans (List.Perm.append_left _ List.perm_middle.symm)) ?_
  refine TG.region (by repeat (first | with_reducible exact RB.lo | with_reducible exact QN.lo | with_reducible exact bodyM_lo | with_reducible exact bodyP_lo | with_reducible exact bodyD_lo | with_reducible apply lo_then | with_reducible apply lo_blk)) (by kernel_rfl) ?_
  refine TL.pure (PV.assign rfl) rfl (by decide) ?_
  refine TL.nil ?_
  refine TQ.thenG ?_
  refine TG.ret ?_
  refine TQ.retD (caps := []) (G' := coB b s u 0 { afC s c t with ords := c.ords ++ [t] } y.1 h9 :: (gbR stR 9 h9 (c.ords ++ [t]) ++ (y.2 ++ Z))) Tb.gofn_63 (unlock_new (cs := (coL s u 1 { afC s c t with ords := c.ords ++ [t] } y.1 (gval h9 (c.ords ++ [t]).length)).toArray) (Upd.head _) rfl) ?_
  refine TQ.retE1 rfl rfl ?_
  exact ⟨(y.1, h9, y.2), by rw [he], by rw [do_af he]; exact ⟨ho9, fun w9 hn9 => ⟨(hy w9 hn9).ah, (hy w9 hn9).at_⟩⟩, by rw [do_af he]; exact List.Sublist.refl _⟩

theorem Do_ok (w0 w : World) (hW : WAt w0) (s : St) (hv : SV s) (u : SU) (c : Co) (v : TV) (hi : Inv s c) (b : Nat) (ho : HD) (hgo : goR stR ho c.ords) (Z : Heap) (hN : New w0 w (coB b s u 0 c v ho :: (gbR stR 9 ho c.ords ++ Z))) (Zf : Heap) (hZf : List.Sublist Zf Z) (hS : ∀ w9, New w0 w9 Zf → SiteAt w9 s u) (hT : ∀ w9, New w0 w9 Zf → TurAt w9 c v) (t : List UInt8) (ht : t.length ≤ 1000000) :
    Calls Tryz.prog 18 #[.pointer (some ⟨b, 0, none⟩), str t] w (Post (X := TV × HD × Heap) (fun _ => .int .i64 (doI s c t)) (fun y => goR stR y.2.1 (doC s c t).ords ∧ ∀ w9, New w0 w9 (y.2.2 ++ Zf) → TurAt w9 (doC s c t) y.1) (fun y => coB b s u 0 (doC s c t) y.1 y.2.1 :: (gbR stR 9 y.2.1 (doC s c t).ords ++ (y.2.2 ++ Z))) w0) := by
  by_cases he : doI s c t = 0
  · exact Do_y w0 w hW s hv u c v hi b ho hgo Z hN Zf hZf hS hT t ht he
  · exact Do_e w0 w hW s hv u c v hi b ho hgo Z hN Zf hZf hS hT t ht he

end Go.Proofs.YtbnjmkidbfmomaaGreatDoor
