/- Xh Rw Rx Rp Xi Xk Xl -/
import Derived.Test.YtbnjmkidbfmomaaGreatDoorV06
import Derived.Test.YtbnjmkidbfmomaaGreatDoorV07
import Derived.Test.YtbnjmkidbfmomaaGreatDoorV08
import Derived.Test.YtbnjmkidbfmomaaGreatDoorV10
import Derived.Test.YtbnjmkidbfmomaaGreatDoorV20
import Derived.Test.YtbnjmkidbfmomaaGreatDoorV21
import Derived.Test.YtbnjmkidbfmomaaGreatDoorV22
set_option linter.unusedVariables false
set_option linter.unusedSimpArgs false
set_option maxRecDepth 100000
namespace Go.Proofs.YtbnjmkidbfmomaaGreatDoor
open Go.Sx Go.RowKit Go.Bt Go.Lib Go.Sand
section
variable {P : Program} {r : Option Nat} {ds : List Deferred} {n : Nat} {w0 : World} {E : Env} {G : Heap} {Q : Exit → Act → World → Prop}
theorem TG.sub {c : Code} {G' : Heap} (hp : List.Sublist G' G) (h : TG r ds P n w0 c Q E G') : TG r ds P n w0 c Q E G := fun a w hs => h a w (hs.world (hs.new.sub hp))
end
theorem after_ok (w0 w : World) (hW : WAt w0) (s : St) (hv : SV s) (u : SU) (c : Co) (v : TV) (hi : Inv s c) (b : Nat) (ho : HD) (hgo : goR stR ho c.ords) (Z : Heap) (hN : New w0 w (coB b s u 1 c v ho :: Z)) (Zf : Heap) (hZf : List.Sublist Zf Z) (hS : ∀ w9, New w0 w9 Zf → SiteAt w9 s u) (hT : ∀ w9, New w0 w9 Zf → TurAt w9 c v) (t : List UInt8) (ht : t.length ≤ 1000000) :
    Calls Tryz.prog 64 #[.pointer (some ⟨b, 0, none⟩), str t] w (Post (X := TV × Heap) (fun y => afV (doI s c t) t (afC s c t) y.1) (fun y => ∀ w9, New w0 w9 (y.2 ++ Zf) → TurAt w9 (afC s c t) y.1) (fun y => y.2 ++ (coB b s u 1 c v ho :: Z)) w0) := by
  cases hp : prsO t with
  | none => exact after_n w0 w hW s hv u c v hi b ho hgo Z hN Zf hZf hS hT t ht hp
  | some o => exact after_y w0 w hW s hv u c v hi b ho hgo Z hN Zf hZf hS hT t ht o hp
set_option maxHeartbeats 1000000 in
theorem Do_e (w0 w : World) (hW : WAt w0) (s : St) (hv : SV s) (u : SU) (c : Co) (v : TV) (hi : Inv s c) (b : Nat) (ho : HD) (hgo : goR stR ho c.ords) (Z : Heap) (hN : New w0 w (coB b s u 0 c v ho :: (gbR stR 9 ho c.ords ++ Z))) (Zf : Heap) (hZf : List.Sublist Zf Z) (hS : ∀ w9, New w0 w9 Zf → SiteAt w9 s u) (hT : ∀ w9, New w0 w9 Zf → TurAt w9 c v) (t : List UInt8) (ht : t.length ≤ 1000000) (he : doI s c t ≠ 0) :
    Calls Tryz.prog 18 #[.pointer (some ⟨b, 0, none⟩), str t] w (Post (X := TV × HD × Heap) (fun _ => .int .i64 (doI s c t)) (fun y => goR stR y.2.1 (doC s c t).ords ∧ ∀ w9, New w0 w9 (y.2.2 ++ Zf) → TurAt w9 (doC s c t) y.1) (fun y => coB b s u 0 (doC s c t) y.1 y.2.1 :: (gbR stR 9 y.2.1 (doC s c t).ords ++ (y.2.2 ++ Z))) w0) := by
  refine callsDfM hN Tryz.func18 rfl (n := 42) rfl (by simp) ?_
  refine TG.seq (TG.region o9z kr ?_)
  refine za rfl (TL.nil (TQ.thenG (TG.seq (TG.seq (TG.region o9z kr ?_)))))
  refine zm rfl (TL.call rfl Tb.gofn_61 (fun a w hs => isNone_ok w b s.need (Inv.need hv) (hs.new.cell m9z rfl)) rfl dc (fun _ _ => ?_))
  refine TL.nil (TQ.thenG (TG.condF rfl ?_))
  refine TG.skip (TQ.thenG (TG.seq (TG.region o9z kr ?_)))
  refine zm rfl (zq (PV.nilCheck rfl) rfl (zq (PV.fieldAddr rfl Tb.fo_103_1) rfl (TL.callW (X := Unit) (fun _ => .tuple #[]) (fun _ => True) (fun _ => coB b s u 1 c v ho :: (gbR stR 9 ho c.ords ++ Z)) rfl Tb.gofn_62 (fun a w hs => lock_co hs.new) rfl dc (fun _ _ => ?_))))
  refine TL.nil (TQ.thenG (TG.seq (TG.regionL ?_)))
  refine TGL.pre 3 o9z (by kernel_rfl) ?_
  simp only [List.take_succ_cons, List.take_zero, List.drop_succ_cons, List.drop_zero]
  refine zm rfl (zq (PV.nilCheck rfl) rfl (zq (PV.fieldAddr rfl Tb.fo_103_1) rfl (TL.nil (TQ.thenL ?_))))
  refine TGL.defer (fun a w hs => resolve_fn rfl hs rfl) ?_
  refine TGL.opsAll o9z (by kernel_rfl) (TL.nil ?_)
  refine TQ.thenG (TG.seq (TG.region o9z kr ?_))
  refine zm rfl (zm rfl (TL.callW (X := TV × Heap) (fun _ => .tuple #[.agg tyZ.toArray, .iface 109 (.agg #[str t, .int .i64 (doI s c t)])]) (fun y => ∀ w9, New w0 w9 (y.2 ++ Zf) → TurAt w9 (afC s c t) y.1) (fun y => y.2 ++ (coB b s u 1 c v ho :: (gbR stR 9 ho c.ords ++ Z))) rfl Tb.gofn_64 (fun a w hs => (after_ok w0 w hW s hv u c v hi b ho hgo _ hs.new Zf (hZf.trans (List.sublist_append_right _ _)) hS hT t ht).mono fun _ _ ⟨y, e1, e2, e3⟩ => ⟨y, by rw [e1]; exact congrArg Ending.returned (afV_e he), e2, e3⟩) rfl dc (fun y hy => ?_)))
  refine zm rfl (zq (PV.extract rfl rfl) rfl (zq (PV.extract rfl rfl) rfl (TL.alloc Tb.zero_101 rfl dc (fun b0 hb0 => ?_))))
  refine TL.storeAgg rfl rfl Tb.cells_101 u9z rfl rfl rfl rfl rfl ?_
  refine za rfl (TL.nil (TQ.thenG (TG.seq (TG.region o9z kr ?_))))
  refine TL.alloc Tb.zero_109 rfl dc (fun b1 hb1 => ?_)
  refine TL.nil (TQ.thenG (TG.seq (TG.seq (TG.region o9z kr ?_))))
  refine zm rfl (zq (PV.makeIface rfl kr) rfl (TL.callW (X := Unit) (fun _ => .bool true) (fun _ => True) (fun _ => (b1, Obj.cells #[str t, .int .i64 (doI s c t)] 109 (0, 0)) :: (b0, Obj.cells tyZ.toArray 101 (0, 0)) :: (y.2 ++ (coB b s u 1 c v ho :: (gbR stR 9 ho c.ords ++ Z)))) rfl Tb.gofn_65 (fun a w hs => as_new (hW.new hs.new) rfl rfl hs.new) rfl dc (fun _ _ => ?_)))
  refine TL.nil (TQ.thenG (TG.condT rfl ?_))
  refine TG.seq (TG.region o9z kr ?_)
  refine zq (PV.fieldAddr rfl Tb.fo_109_1) rfl (zq (PV.load rfl Tb.one_31 m9z rfl) rfl ?_)
  refine za rfl (TL.nil (TQ.thenG (TG.ret (TQ.gthenR (TQ.retD (caps := []) (G' := (b1, Obj.cells #[str t, .int .i64 (doI s c t)] 109 (0, 0)) :: (b0, Obj.cells tyZ.toArray 101 (0, 0)) :: (y.2 ++ (coB b s u 0 c v ho :: (gbR stR 9 ho c.ords ++ Z)))) Tb.gofn_63 (unlock_new (cs := (coL s u 1 c v (gval ho c.ords.length)).toArray) u9z rfl) ?_)))))
  refine TQ.retE1 rfl rfl ?_
  exact ⟨(v, ho, []), rfl, by rw [doC_no he]; exact ⟨hgo, hT⟩, by rw [doC_no he]; exact s9z⟩
set_option maxHeartbeats 1000000 in
theorem Do_y (w0 w : World) (hW : WAt w0) (s : St) (hv : SV s) (u : SU) (c : Co) (v : TV) (hi : Inv s c) (b : Nat) (ho : HD) (hgo : goR stR ho c.ords) (Z : Heap) (hN : New w0 w (coB b s u 0 c v ho :: (gbR stR 9 ho c.ords ++ Z))) (Zf : Heap) (hZf : List.Sublist Zf Z) (hS : ∀ w9, New w0 w9 Zf → SiteAt w9 s u) (hT : ∀ w9, New w0 w9 Zf → TurAt w9 c v) (t : List UInt8) (ht : t.length ≤ 1000000) (he : doI s c t = 0) :
    Calls Tryz.prog 18 #[.pointer (some ⟨b, 0, none⟩), str t] w (Post (X := TV × HD × Heap) (fun _ => .int .i64 (doI s c t)) (fun y => goR stR y.2.1 (doC s c t).ords ∧ ∀ w9, New w0 w9 (y.2.2 ++ Zf) → TurAt w9 (doC s c t) y.1) (fun y => coB b s u 0 (doC s c t) y.1 y.2.1 :: (gbR stR 9 y.2.1 (doC s c t).ords ++ (y.2.2 ++ Z))) w0) := by
  have hol := hi.ol
  refine callsDfM hN Tryz.func18 rfl (n := 42) rfl (by simp) ?_
  refine TG.seq (TG.region o9z kr ?_)
  refine za rfl (TL.nil (TQ.thenG (TG.seq (TG.seq (TG.region o9z kr ?_)))))
  refine zm rfl (TL.call rfl Tb.gofn_61 (fun a w hs => isNone_ok w b s.need (Inv.need hv) (hs.new.cell m9z rfl)) rfl dc (fun _ _ => ?_))
  refine TL.nil (TQ.thenG (TG.condF rfl ?_))
  refine TG.skip (TQ.thenG (TG.seq (TG.region o9z kr ?_)))
  refine zm rfl (zq (PV.nilCheck rfl) rfl (zq (PV.fieldAddr rfl Tb.fo_103_1) rfl (TL.callW (X := Unit) (fun _ => .tuple #[]) (fun _ => True) (fun _ => coB b s u 1 c v ho :: (gbR stR 9 ho c.ords ++ Z)) rfl Tb.gofn_62 (fun a w hs => lock_co hs.new) rfl dc (fun _ _ => ?_))))
  refine TL.nil (TQ.thenG (TG.seq (TG.regionL ?_)))
  refine TGL.pre 3 o9z (by kernel_rfl) ?_
  simp only [List.take_succ_cons, List.take_zero, List.drop_succ_cons, List.drop_zero]
  refine zm rfl (zq (PV.nilCheck rfl) rfl (zq (PV.fieldAddr rfl Tb.fo_103_1) rfl (TL.nil (TQ.thenL ?_))))
  refine TGL.defer (fun a w hs => resolve_fn rfl hs rfl) ?_
  refine TGL.opsAll o9z (by kernel_rfl) (TL.nil ?_)
  refine TQ.thenG (TG.seq (TG.region o9z kr ?_))
  refine zm rfl (zm rfl (TL.callW (X := TV × Heap) (fun y => .tuple #[.agg (tyL (afC s c t) y.1).toArray, .nilIface]) (fun y => ∀ w9, New w0 w9 (y.2 ++ Zf) → TurAt w9 (afC s c t) y.1) (fun y => y.2 ++ (coB b s u 1 c v ho :: (gbR stR 9 ho c.ords ++ Z))) rfl Tb.gofn_64 (fun a w hs => (after_ok w0 w hW s hv u c v hi b ho hgo _ hs.new Zf (hZf.trans (List.sublist_append_right _ _)) hS hT t ht).mono fun _ _ ⟨y, e1, e2, e3⟩ => ⟨y, by rw [e1]; exact congrArg Ending.returned (afV_0 he), e2, e3⟩) rfl dc (fun y hy => ?_)))
  refine zm rfl (zq (PV.extract rfl rfl) rfl (zq (PV.extract rfl rfl) rfl (TL.alloc Tb.zero_101 rfl dc (fun b0 hb0 => ?_))))
  refine TL.storeAgg rfl rfl Tb.cells_101 u9z rfl rfl rfl rfl rfl ?_
  refine za rfl (TL.nil (TQ.thenG (TG.seq (TG.region o9z kr ?_))))
  refine TL.alloc Tb.zero_109 rfl dc (fun b1 hb1 => ?_)
  refine TL.nil (TQ.thenG (TG.seq (TG.seq (TG.region o9z kr ?_))))
  refine zm rfl (zq (PV.makeIface rfl kr) rfl (TL.callW (X := Unit) (fun _ => .bool false) (fun _ => True) (fun _ => (b1, Obj.cells #[str [], .int .i64 0] 109 (0, 0)) :: (b0, Obj.cells (tyL (afC s c t) y.1).toArray 101 (0, 0)) :: (y.2 ++ (coB b s u 1 c v ho :: (gbR stR 9 ho c.ords ++ Z)))) rfl Tb.gofn_65 (fun a w hs => (as_nil _ w).mono fun _ _ ⟨h1, h2⟩ => ⟨(), h1, trivial, by rw [h2]; exact hs.new⟩) rfl dc (fun _ _ => ?_)))
  refine TL.nil (TQ.thenG (TG.condF rfl ?_))
  refine TG.skip (TQ.thenG (TG.seq (TG.region o9z kr ?_)))
  refine zm rfl (zq (PV.loadBox (cs := tyL (afC s c t) y.1) rfl Tb.agg_101 m9z rfl) rfl ?_)
  refine zq (PV.nilCheck rfl) rfl (zq (PV.fieldAddr rfl Tb.fo_103_2) rfl (TL.storeMid (cs := coL s u 1 c v (gval ho c.ords.length)) (cs' := coL s u 1 (afC s c t) y.1 (gval ho c.ords.length)) (off := 8) (k := 9) (vs := tyL (afC s c t) y.1) rfl rfl Tb.cells_101 u9z rfl rfl (Nat.le_of_ble_eq_true rfl) rfl rfl rfl ?_))
  refine TL.nil (TQ.thenG (TG.seq (TG.region o9z kr ?_)))
  refine zm rfl (zm rfl (zq (PV.nilCheck rfl) rfl (zq (PV.fieldAddr rfl Tb.fo_103_3) rfl (zq (PV.load rfl Tb.one_43 m9z rfl) rfl ?_))))
  refine zm rfl (TL.buildSlice (cs := #[str t]) rfl Tb.sl_43 Tb.zi_9 dc (fill_s t) dc rfl dc (fun bI hbI => ?_))
  refine TL.appendRec (R := stR) (h0 := ho) (ys := c.ords) (r := t) Tb.sl_43 Tb.zi_9 rfl rfl rfl m9z hgo h9z om om rfl dc (fun h9 ho9 => ?_)
  refine zq (PV.nilCheck rfl) rfl (zq (PV.fieldAddr rfl Tb.fo_103_3) rfl (TL.store rfl rfl Tb.cells_43 (gval_one _ _) u9z e9z rfl rfl ?_))
  refine TL.nil (TQ.thenG (TG.seq (TG.sub (G' := gbR stR 9 h9 (c.ords ++ [t]) ++ (y.2 ++ (coB b s u 1 { afC s c t with ords := c.ords ++ [t] } y.1 h9 :: Z))) (List.Sublist.append (List.Sublist.refl _) (List.Sublist.cons _ (List.Sublist.cons _ (List.Sublist.cons _ (List.Sublist.refl _))))) ?_)))
  refine TG.perm (G' := coB b s u 1 { afC s c t with ords := c.ords ++ [t] } y.1 h9 :: (gbR stR 9 h9 (c.ords ++ [t]) ++ (y.2 ++ Z))) (List.perm_middle.symm.trans (List.Perm.append_left _ List.perm_middle.symm)) ?_
  refine TG.region o9z kr ?_
  refine za rfl (TL.nil (TQ.thenG (TG.ret (TQ.retD (caps := []) (G' := coB b s u 0 { afC s c t with ords := c.ords ++ [t] } y.1 h9 :: (gbR stR 9 h9 (c.ords ++ [t]) ++ (y.2 ++ Z))) Tb.gofn_63 (unlock_new (cs := (coL s u 1 { afC s c t with ords := c.ords ++ [t] } y.1 (gval h9 (c.ords ++ [t]).length)).toArray) (Upd.head _) rfl) ?_))))
  refine TQ.retE1 rfl rfl ?_
  exact ⟨(y.1, h9, y.2), by rw [he], by rw [do_af he]; exact ⟨ho9, fun w9 hn9 => ⟨(hy w9 hn9).ah, (hy w9 hn9).at_⟩⟩, by rw [do_af he]; exact List.Sublist.refl _⟩
theorem Do_ok (w0 w : World) (hW : WAt w0) (s : St) (hv : SV s) (u : SU) (c : Co) (v : TV) (hi : Inv s c) (b : Nat) (ho : HD) (hgo : goR stR ho c.ords) (Z : Heap) (hN : New w0 w (coB b s u 0 c v ho :: (gbR stR 9 ho c.ords ++ Z))) (Zf : Heap) (hZf : List.Sublist Zf Z) (hS : ∀ w9, New w0 w9 Zf → SiteAt w9 s u) (hT : ∀ w9, New w0 w9 Zf → TurAt w9 c v) (t : List UInt8) (ht : t.length ≤ 1000000) :
    Calls Tryz.prog 18 #[.pointer (some ⟨b, 0, none⟩), str t] w (Post (X := TV × HD × Heap) (fun _ => .int .i64 (doI s c t)) (fun y => goR stR y.2.1 (doC s c t).ords ∧ ∀ w9, New w0 w9 (y.2.2 ++ Zf) → TurAt w9 (doC s c t) y.1) (fun y => coB b s u 0 (doC s c t) y.1 y.2.1 :: (gbR stR 9 y.2.1 (doC s c t).ords ++ (y.2.2 ++ Z))) w0) := by
  by_cases he : doI s c t = 0
  · exact Do_y w0 w hW s hv u c v hi b ho hgo Z hN Zf hZf hS hT t ht he
  · exact Do_e w0 w hW s hv u c v hi b ho hgo Z hN Zf hZf hS hT t ht he
end Go.Proofs.YtbnjmkidbfmomaaGreatDoor
namespace Go.Proofs.YtbnjmkidbfmomaaGreatDoor
open Go.Sx Go.RowKit Go.Sand
structure RW where
  h : HD
  l : List Int
  deriving Inhabited
def rwR : Rec RW where
  cells r := [gval r.h r.l.length]
  sz := 1
  len := fun _ => rfl
  one := fun r v hv => by rw [List.mem_singleton.1 hv]; exact gval_one _ _
  pos := by decide
def rwB (rs : List RW) : Heap := rs.flatMap fun r => gbI (r.h, r.l)
def rwOk (rs : List RW) : Prop := ∀ r ∈ rs, goI (r.h, r.l)
theorem rwB_mem {rs : List RW} {r : RW} (h : r ∈ rs) : ∀ y ∈ gbI (r.h, r.l), y ∈ rwB rs := fun y hy => List.mem_flatMap.2 ⟨r, h, hy⟩
theorem rw_at {rs : List RW} {j : Nat} (hj : j < rs.length) : rs.getD j default ∈ rs := by simp [List.getD, hj]
theorem LsAt.rw {w0 w : World} {G : Heap} {h : HD} {rs : List RW} (hn : New w0 w G) (hm : ∀ y ∈ gbR rwR 25 h rs, y ∈ G) (hm2 : ∀ y ∈ rwB rs, y ∈ G) (ho : goR rwR h rs) (hok : rwOk rs) : LsAt w (gp h) (rs.map RW.l) := by
  have hr := RecsAt.s (R := rwR) hn hm ho
  intro j hj
  rw [List.length_map] at hj
  obtain ⟨q, hq, hc⟩ := hr j hj
  have hmem := rw_at hj
  have e : (rs.map RW.l).getD j [] = (rs.getD j default).l := by simp [List.getD, hj]
  have h1 := hok _ hmem
  have c0 := hc 0 _ rfl
  rw [gval_eq h1, addr_add_add] at c0
  rw [e]
  exact ⟨q, hq, _, _, c0, IntsAt.g (x := ((rs.getD j default).h, (rs.getD j default).l)) hn (fun y hy => hm2 y (rwB_mem hmem y hy)) h1⟩
theorem rwB_app (a b : List RW) : rwB (a ++ b) = rwB a ++ rwB b := by simp [rwB]
theorem rwB_at {rs : List RW} {k : Nat} (hk : k < rs.length) (R : Heap) : rwB rs ++ R = rwB (rs.take k) ++ (gbI ((rs.getD k default).h, (rs.getD k default).l) ++ (rwB (rs.drop (k + 1)) ++ R)) := by
  have e : rs = rs.take k ++ rs.getD k default :: rs.drop (k + 1) := by
    have := List.take_append_drop k rs
    rw [List.drop_eq_getElem_cons hk] at this
    rw [show rs.getD k default = rs[k] by simp [List.getD, hk]]
    exact this.symm
  conv => lhs; rw [e]
  rw [rwB_app, show rwB (rs.getD k default :: rs.drop (k + 1)) = gbI ((rs.getD k default).h, (rs.getD k default).l) ++ rwB (rs.drop (k + 1)) from rfl]
  simp only [List.append_assoc]
theorem rwB_set {rs : List RW} {k : Nat} (hk : k < rs.length) (r : RW) (R : Heap) : rwB (rs.set k r) ++ R = rwB (rs.take k) ++ (gbI (r.h, r.l) ++ (rwB (rs.drop (k + 1)) ++ R)) := by
  have h1 : k < (rs.set k r).length := by simpa using hk
  rw [rwB_at h1 R]
  have e1 : (rs.set k r).getD k default = r := by simp [List.getD, hk]
  have e2 : (rs.set k r).take k = rs.take k := by rw [List.take_set]; exact List.set_eq_of_length_le (by rw [List.length_take]; omega)
  have e3 : (rs.set k r).drop (k + 1) = rs.drop (k + 1) := by rw [List.drop_set]; simp
  rw [e1, e2, e3]
theorem rw_ok0 (n : Nat) : rwOk (List.replicate n ⟨none, []⟩) := fun r hr => by rw [List.eq_of_mem_replicate hr]; exact ⟨rfl, rfl⟩
theorem rw_go0 (b n : Nat) : goR rwR (some (b, n, [])) (List.replicate n ⟨none, []⟩) := by
  refine ⟨rcs_len _, ?_⟩
  show n * 1 = (rcs rwR _).length + 0 ∧ _
  rw [rcs_len, List.length_replicate]
  exact ⟨by show n * 1 = n * 1 + 0; omega, Nat.le_refl _⟩
theorem rw_blk0 (b n : Nat) : (b, Obj.cells (List.replicate n (Value.slice none 0 0)).toArray 25 (0, 0)) :: rwB (List.replicate n ⟨none, []⟩) = gbR rwR 25 (some (b, n, [])) (List.replicate n ⟨none, []⟩) ++ rwB (List.replicate n ⟨none, []⟩) := by
  have : rcs rwR (List.replicate n ⟨none, []⟩) = List.replicate n (Value.slice none 0 0) := by
    induction n with
    | zero => rfl
    | succ n ih => rw [List.replicate_succ, List.replicate_succ, ← ih]; rfl
  show _ = [(b, Obj.cells (rcs rwR _ ++ []).toArray 25 (0, 0))] ++ _
  rw [this, List.append_nil]
  rfl
theorem rwB_none (n : Nat) : rwB (List.replicate n ⟨none, []⟩) = [] := by
  induction n with
  | zero => rfl
  | succ n ih => rw [List.replicate_succ]; show [] ++ rwB _ = []; rw [ih]; rfl
theorem rwOk.set {rs : List RW} (h : rwOk rs) {r : RW} (hr : goI (r.h, r.l)) (k : Nat) : rwOk (rs.set k r) := fun x hx => by
  rcases List.mem_or_eq_of_mem_set hx with h1 | h1
  · exact h x h1
  · rw [h1]; exact hr
end Go.Proofs.YtbnjmkidbfmomaaGreatDoor
namespace Go.Proofs.YtbnjmkidbfmomaaGreatDoor
open Go.Sx Go.RowKit Go.Sand
structure CpS (m : List (List Int)) (k : Nat) (h : HD) (rs : List RW) : Prop where
  len : rs.length = m.length
  go : goR rwR h rs
  ok : rwOk rs
  l : ∀ j, j < m.length → (rs.getD j default).l = if j < k then m.getD j [] else []
theorem CpS.zero {m : List (List Int)} {b n : Nat} (hn : m.length = n) : CpS m 0 (some (b, n, [])) (List.replicate n ⟨none, []⟩) := by
  subst hn
  refine ⟨List.length_replicate, rw_go0 b _, rw_ok0 _, fun j hj => ?_⟩
  rw [if_neg (Nat.not_lt_zero _), show (List.replicate m.length (⟨none, []⟩ : RW)).getD j default = ⟨none, []⟩ by simp [List.getD, hj]]
theorem CpS.step {m : List (List Int)} {k : Nat} {h h' : HD} {rs : List RW} (s : CpS m k h rs) (hk : k < m.length) (ho : goI (h', m.getD k [])) : CpS m (k + 1) h (rs.set k ⟨h', m.getD k []⟩) := by
  have hl := s.len
  refine ⟨by rw [List.length_set]; exact hl, goR_len s.go (by simp), s.ok.set ho k, fun j hj => ?_⟩
  rw [List.getD_eq_getElem?_getD, List.getElem?_set]
  by_cases e : k = j
  · subst e
    rw [if_pos rfl, if_pos (by omega), if_pos (Nat.lt_succ_self _)]
    rfl
  · rw [if_neg e, ← List.getD_eq_getElem?_getD, s.l j hj]
    by_cases e2 : j < k
    · rw [if_pos e2, if_pos (by omega)]
    · rw [if_neg e2, if_neg (by omega)]
theorem CpS.fin {m : List (List Int)} {k : Nat} {h : HD} {rs : List RW} (s : CpS m k h rs) (hk : m.length ≤ k) : rs.map RW.l = m := by
  have hl := s.len
  refine List.ext_getElem (by rw [List.length_map]; exact hl) fun j h1 h2 => ?_
  have h3 := s.l j h2
  rw [if_pos (by omega)] at h3
  rw [List.getElem_map]
  have e1 : rs.getD j default = rs[j]'(by omega) := by simp [List.getD, show j < rs.length by omega]
  have e2 : m.getD j [] = m[j] := by simp [List.getD, h2]
  rw [← e1, ← e2, h3]
end Go.Proofs.YtbnjmkidbfmomaaGreatDoor
namespace Go.Proofs.YtbnjmkidbfmomaaGreatDoor
open Go.Sx Go.RowKit
theorem perm_of {A B : Heap} (h : ∀ c : (Nat × Obj) → Nat, (A.map c).sum = (B.map c).sum) : List.Perm A B := by
  classical
  rw [List.perm_iff_count]
  intro a
  have hc : ∀ l : Heap, (l.map fun x => if x = a then 1 else 0).sum = l.count a := fun l => by
    induction l with
    | nil => rfl
    | cons x l ih =>
      rw [List.map_cons, List.sum_cons, ih, List.count_cons]
      by_cases e : x = a
      · subst e; simp; omega
      · simp [e]
  rw [← hc A, ← hc B]
  exact h _
end Go.Proofs.YtbnjmkidbfmomaaGreatDoor
namespace Go.Proofs.YtbnjmkidbfmomaaGreatDoor
open Go.Sx Go.RowKit Go.Bt Go.Lib Go.Sand
set_option maxHeartbeats 2000000 in
theorem copied_ok (w0 : World) (p : Option Addr) (cp : Nat) (m : List (List Int)) (hr : LsAt w0 p m) (hml : m.length ≤ 1000) (hM : ∀ k, (m.getD k []).length ≤ 1000000) :
    Calls Tryz.prog 99 #[.slice p m.length cp] w0 (Post (X := HD × List RW) (fun y => gval y.1 m.length) (fun y => goR rwR y.1 y.2 ∧ rwOk y.2 ∧ y.2.map RW.l = m) (fun y => gbR rwR 25 y.1 y.2 ++ rwB y.2) w0) := by
  refine calls Tryz.func99 rfl (n := 23) rfl (by simp) ?_
  refine zr (za rfl (zk (zm rfl (zq (PV.len rfl Tb.sl_22) rfl (TL.make (k := m.length) rfl rfl Tb.sl_22 Tb.zi_25 rfl rfl om om rfl dc (fun bO hbO => ?_))))))
  refine TL.congrG (G' := gbR rwR 25 (some (bO, m.length, [])) (List.replicate m.length ⟨none, []⟩) ++ (rwB (List.replicate m.length ⟨none, []⟩) ++ [])) (by rw [← List.append_assoc, ← rw_blk0, rwB_none]; rfl) ?_
  refine za rfl (zn (TC.seq (zr (zm rfl (zq (PV.len rfl Tb.sl_22) rfl (zm rfl (zn (TC.block (TC.lit [(2, _), (3, _), (9, _), (10, _), (11, _)] l9z ?_)))))))))
  refine TC.loopK [2, 3, 9, 10] (X := Nat × List RW) (fun x => x.1 ≤ m.length ∧ CpS m x.1 (some (bO, m.length, [])) x.2) (fun x => [(11, .int .i64 x.1)]) (fun x => gbR rwR 25 (some (bO, m.length, [])) x.2 ++ (rwB x.2 ++ [])) (fun x => m.length - x.1) (0, List.replicate m.length ⟨none, []⟩) ⟨Nat.zero_le _, CpS.zero rfl⟩ l9z (List.Sublist.refl _) ?_
  intro x hx9
  refine TC.lit [(2, _), (3, _), (9, _), (10, _), (11, _)] l9z ?_
  refine zr (zq (PV.lss rfl rfl) rfl (zn (TC.seq (TC.cd rfl (fun hlt => ?_) (fun hlt => ?_)))))
  refine TC.skip (TQ.thenC (TC.seq (TC.block (TC.seq ?_))))
  obtain ⟨q1, q1p, pj, cj, q1c, q1i⟩ := hr x.1 (by omega)
  have hMk := hM x.1
  have hxl := hx9.2.len
  have hxg := hx9.2.go
  have hgk : gok (some (bO, m.length, [])) m.length 1 (rcs rwR x.2) := by have h5 := hxg; unfold goR at h5; rw [hxl] at h5; exact h5
  refine TC.region (zm rfl (zq (PV.indexA rfl q1p rfl Tb.elm_22 rfl om) rfl (zq (PV.loadOld rfl Tb.one_25 q1c) rfl (za rfl (za rfl (zn (TC.region (zm rfl (zm rfl (zm rfl (TL.call rfl Tb.gofn_67 (fun a w hs => clone_ok w _ _ _ (q1i.new hs.new) hMk) rfl dc (fun hh hhh => ?_))))))))))))
  refine zq (PV.indexG (h := some (bO, m.length, [])) (len := m.length) (ys := rcs rwR x.2) (j := x.1) rfl rfl hgk Tb.elm_22 rfl om) rfl (TL.putCell (R := rwR) (h := some (bO, m.length, [])) (l0 := x.2) (j := x.1) (f := 0) (v := gval hh (m.getD x.1 []).length) (r := ⟨hh, m.getD x.1 []⟩) (e := 25) rfl rfl Tb.cells_25 (gval_one _ _) hxg rfl p9z om Nat.one_pos rfl rfl ?_)
  refine TL.nil (TQ.blkN (TQ.thenC (TC.region (zq (PV.add rfl rfl om) rfl (zm rfl (TL.nil (TQ.thenN (TQ.perm (G' := gbR rwR 25 (some (bO, m.length, [])) (x.2.set x.1 ⟨hh, m.getD x.1 []⟩) ++ (rwB (x.2.set x.1 ⟨hh, m.getD x.1 []⟩) ++ gbI ((x.2.getD x.1 default).h, (x.2.getD x.1 default).l))) (perm_of fun c9 => by rw [rwB_set om]; have h5 := congrArg (fun l => (l.map c9).sum) (rwB_at (rs := x.2) (show x.1 < x.2.length by omega) []); simp only [List.map_append, List.sum_append, List.map_cons, List.sum_cons, List.map_nil, List.sum_nil, gbI, gbR] at h5 ⊢; omega) ?_))))))))
  refine TQ.backK (x.1 + 1, x.2.set x.1 ⟨hh, m.getD x.1 []⟩) l9z l9z (List.Sublist.append_left (List.Sublist.append_left (List.nil_sublist _) _) _) ⟨by simp only; omega, hx9.2.step om hhh⟩ (by simp only; omega)
  refine TC.exit (TQ.thenE (TQ.thenE (TQ.blkS (TQ.thenC (zr (zm rfl (za rfl (zt (TQ.retE1 rfl rfl ?_)))))))))
  exact ⟨(some (bO, m.length, []), x.2), rfl, ⟨hx9.2.go, hx9.2.ok, hx9.2.fin (by omega)⟩, by simp only [List.append_nil]; exact List.Sublist.refl _⟩
theorem clone_v (w : World) (pl : Option Addr) (cl : Nat) (xs : List Int) (hx : IntsAt w pl xs) (hl : xs.length ≤ 1000000) :
    Calls Tryz.prog 67 #[.slice pl xs.length cl] w (Post (X := HD) (fun h => .slice (gp h) xs.length (gc h)) (fun h => goI (h, xs)) (fun h => gbI (h, xs)) w) :=
  (clone_ok w pl cl xs hx hl).mono fun _ _ ⟨y, e1, e2, e3⟩ => ⟨y, by rw [e1]; exact congrArg Ending.returned (gvs e2), e2, e3⟩
theorem copied_v (w : World) (p : Option Addr) (cp : Nat) (m : List (List Int)) (hr : LsAt w p m) (hml : m.length ≤ 1000) (hM : ∀ k, (m.getD k []).length ≤ 1000000) :
    Calls Tryz.prog 99 #[.slice p m.length cp] w (Post (X := HD × List RW) (fun y => .slice (gp y.1) m.length (gc y.1)) (fun y => goR rwR y.1 y.2 ∧ rwOk y.2 ∧ y.2.map RW.l = m) (fun y => gbR rwR 25 y.1 y.2 ++ rwB y.2) w) :=
  (copied_ok w p cp m hr hml hM).mono fun _ _ ⟨y, e1, e2, e3⟩ => ⟨y, by
    have hl : y.2.length = m.length := by rw [← e2.2.2, List.length_map]
    have hg : goR rwR y.1 y.2 := e2.1
    rw [e1, ← hl]; exact congrArg Ending.returned (gval_eq (sz := 1) hg), e2, e3⟩
end Go.Proofs.YtbnjmkidbfmomaaGreatDoor
namespace Go.Proofs.YtbnjmkidbfmomaaGreatDoor
open Go.Sx Go.RowKit Go.Bt Go.Lib Go.Sand
section
variable {P : Program} {n : Nat} {w0 : World} {E : Env} {G : Heap} {d : Option Nat} {ty : TypeId} {pos : String} {aft : Array Edge} {g : Option (Nat × Bool)}
theorem PV.field {x : Operand} {t f : Nat} {v r : Value} (hx : evo E x = some v) (h : ∀ w, (Instr.field t v f).run P w = .ok r w) : PV P n w0 E G ⟨d, .field t x f, ty, pos, aft, g⟩ r :=
  fun a w hs => by simp only [execOp, hs.ev hx]; simp [h]
end
abbrev bkL (c : Co) : List Value := [.int .i64 c.day, .int .i64 (c.wet : Nat), .int .i64 c.money, .int .i64 c.cut, .int .i64 c.load, .int .i64 c.grd, .bool c.shut]
theorem fd_0 (a b c d e f : Int) (g : Bool) (p q : Option Addr) (k l m n : Nat) (w : World) : (Instr.field 101 (.agg #[.int .i64 a, .int .i64 b, .int .i64 c, .int .i64 d, .int .i64 e, .int .i64 f, .bool g, .slice p k l, .slice q m n]) 0).run Tryz.prog w = .ok (.agg #[.int .i64 a, .int .i64 b, .int .i64 c, .int .i64 d, .int .i64 e, .int .i64 f, .bool g]) w := by kernel_rfl
theorem fd_1 (a b c d e f : Int) (g : Bool) (p q : Option Addr) (k l m n : Nat) (w : World) : (Instr.field 101 (.agg #[.int .i64 a, .int .i64 b, .int .i64 c, .int .i64 d, .int .i64 e, .int .i64 f, .bool g, .slice p k l, .slice q m n]) 1).run Tryz.prog w = .ok (.slice p k l) w := by kernel_rfl
theorem fd_2 (a b c d e f : Int) (g : Bool) (p q : Option Addr) (k l m n : Nat) (w : World) : (Instr.field 101 (.agg #[.int .i64 a, .int .i64 b, .int .i64 c, .int .i64 d, .int .i64 e, .int .i64 f, .bool g, .slice p k l, .slice q m n]) 2).run Tryz.prog w = .ok (.slice q m n) w := by kernel_rfl
theorem fe_0 (a b c d e f : Int) (g : Bool) (w : World) : (Instr.field 99 (.agg #[.int .i64 a, .int .i64 b, .int .i64 c, .int .i64 d, .int .i64 e, .int .i64 f, .bool g]) 0).run Tryz.prog w = .ok (.int .i64 a) w := by kernel_rfl
theorem fe_1 (a b c d e f : Int) (g : Bool) (w : World) : (Instr.field 99 (.agg #[.int .i64 a, .int .i64 b, .int .i64 c, .int .i64 d, .int .i64 e, .int .i64 f, .bool g]) 1).run Tryz.prog w = .ok (.int .i64 b) w := by kernel_rfl
theorem fe_2 (a b c d e f : Int) (g : Bool) (w : World) : (Instr.field 99 (.agg #[.int .i64 a, .int .i64 b, .int .i64 c, .int .i64 d, .int .i64 e, .int .i64 f, .bool g]) 2).run Tryz.prog w = .ok (.int .i64 c) w := by kernel_rfl
theorem fe_3 (a b c d e f : Int) (g : Bool) (w : World) : (Instr.field 99 (.agg #[.int .i64 a, .int .i64 b, .int .i64 c, .int .i64 d, .int .i64 e, .int .i64 f, .bool g]) 3).run Tryz.prog w = .ok (.int .i64 d) w := by kernel_rfl
theorem fe_4 (a b c d e f : Int) (g : Bool) (w : World) : (Instr.field 99 (.agg #[.int .i64 a, .int .i64 b, .int .i64 c, .int .i64 d, .int .i64 e, .int .i64 f, .bool g]) 4).run Tryz.prog w = .ok (.int .i64 e) w := by kernel_rfl
theorem fe_5 (a b c d e f : Int) (g : Bool) (w : World) : (Instr.field 99 (.agg #[.int .i64 a, .int .i64 b, .int .i64 c, .int .i64 d, .int .i64 e, .int .i64 f, .bool g]) 5).run Tryz.prog w = .ok (.int .i64 f) w := by kernel_rfl
theorem fe_6 (a b c d e f : Int) (g : Bool) (w : World) : (Instr.field 99 (.agg #[.int .i64 a, .int .i64 b, .int .i64 c, .int .i64 d, .int .i64 e, .int .i64 f, .bool g]) 6).run Tryz.prog w = .ok (.bool g) w := by kernel_rfl
theorem ords_at {w0 w : World} {G : Heap} {h : HD} {l : List (List UInt8)} (hn : New w0 w G) (hm : ∀ y ∈ gbR stR 9 h l, y ∈ G) (ho : goR stR h l) : StrsAt w (gp h) l := fun j hj => by
  obtain ⟨q, h1, h2⟩ := RecsAt.s (R := stR) hn hm ho j hj
  have := h2 0 _ rfl
  rw [addr_add_add] at this
  exact ⟨q, h1, this⟩
theorem ords_40 {s : St} {c : Co} (h : Inv s c) (j : Nat) : (c.ords.getD j []).length ≤ 40 := by
  by_cases hj : j < c.ords.length
  · have h1 := List.all_eq_true.1 h.rt c.ords[j] (List.getElem_mem hj)
    have e : c.ords.getD j [] = c.ords[j] := by simp [List.getD, hj]
    rw [e]
    exact (right_of h1).2.1
  · have e : c.ords.getD j [] = [] := by rw [List.getD_eq_getElem?_getD, List.getElem?_eq_none (by omega)]; rfl
    rw [e]; exact Nat.zero_le _
theorem look_ok (w0 w : World) (s : St) (hv : SV s) (u : SU) (c : Co) (v : TV) (b : Nat) (ho : HD) (Z : Heap) (hN : New w0 w (coB b s u 0 c v ho :: Z)) :
    Calls Tryz.prog 66 #[.pointer (some ⟨b, 0, none⟩)] w (Post (X := Unit) (fun _ => .agg (tyL c v).toArray) (fun _ => True) (fun _ => coB b s u 0 c v ho :: Z) w0) := by
  refine callsDfM hN Tryz.func66 rfl (n := 17) rfl (by simp) ?_
  refine TG.seq (TG.region o9z kr ?_)
  refine TL.alloc Tb.zero_101 rfl dc (fun b0 hb0 => ?_)
  refine TL.nil (TQ.thenG (TG.seq (TG.seq (TG.region o9z kr ?_))))
  refine zm rfl (TL.call rfl Tb.gofn_61 (fun a w hs => isNone_ok w b s.need (Inv.need hv) (hs.new.cell m9z rfl)) rfl dc (fun _ _ => ?_))
  refine TL.nil (TQ.thenG (TG.condF rfl ?_))
  refine TG.skip (TQ.thenG (TG.seq (TG.region o9z kr ?_)))
  refine zm rfl (zq (PV.nilCheck rfl) rfl (zq (PV.fieldAddr rfl Tb.fo_103_1) rfl (TL.callW (X := Unit) (fun _ => .tuple #[]) (fun _ => True) (fun _ => (b0, Obj.cells tyZ.toArray 101 (0, 0)) :: coB b s u 1 c v ho :: Z) rfl Tb.gofn_62 (fun a w hs => lock_new (cs := (coL s u 0 c v (gval ho c.ords.length)).toArray) hs.new u9z rfl) rfl dc (fun _ _ => ?_))))
  refine TL.nil (TQ.thenG (TG.seq (TG.regionL ?_)))
  refine TGL.pre 3 o9z (by kernel_rfl) ?_
  simp only [List.take_succ_cons, List.take_zero, List.drop_succ_cons, List.drop_zero]
  refine zm rfl (zq (PV.nilCheck rfl) rfl (zq (PV.fieldAddr rfl Tb.fo_103_1) rfl (TL.nil (TQ.thenL ?_))))
  refine TGL.defer (fun a w hs => resolve_fn rfl hs rfl) ?_
  refine TGL.opsAll o9z (by kernel_rfl) (TL.nil ?_)
  refine TQ.thenG (TG.seq (TG.region o9z kr ?_))
  refine zm rfl (zq (PV.nilCheck rfl) rfl (zq (PV.fieldAddr rfl Tb.fo_103_2) rfl (zq (PV.loadMid (cs := coL s u 1 c v (gval ho c.ords.length)) (off := 8) (k := 9) (vs := tyL c v) rfl Tb.agg_101 m9z rfl rfl) rfl ?_)))
  refine TL.storeAgg (vs := tyL c v) rfl rfl Tb.cells_101 u9z rfl rfl rfl rfl rfl ?_
  refine TL.nil (TQ.thenG (TG.ret (TQ.retD (caps := []) (G' := (b0, Obj.cells (tyL c v).toArray 101 (0, 0)) :: coB b s u 0 c v ho :: Z) Tb.gofn_63 (unlock_new (cs := (coL s u 1 c v (gval ho c.ords.length)).toArray) u9z rfl) ?_)))
  refine TQ.retR rfl (Res.agg rfl Tb.agg_101 m9z rfl Res.nil) ?_
  simp only [tup]
  exact ⟨(), trivial, trivial, List.Sublist.cons _ (List.Sublist.refl _)⟩
theorem Day_ok (w0 w : World) (s : St) (hv : SV s) (u : SU) (c : Co) (v : TV) (b : Nat) (ho : HD) (Z : Heap) (hN : New w0 w (coB b s u 0 c v ho :: Z)) :
    Calls Tryz.prog 19 #[.pointer (some ⟨b, 0, none⟩)] w (Post (X := Unit) (fun _ => .int .i64 c.day) (fun _ => True) (fun _ => coB b s u 0 c v ho :: Z) w0) := by
  refine callsM hN Tryz.func19 rfl (n := 7) rfl (by simp) ?_
  refine zr (za rfl (zk (zm rfl (TL.callW (X := Unit) (fun _ => .agg (tyL c v).toArray) (fun _ => True) (fun _ => coB b s u 0 c v ho :: Z) rfl Tb.gofn_66 (fun a w hs => look_ok w0 w s hv u c v b ho Z hs.new) rfl dc (fun _ _ => ?_)))))
  refine zq (PV.field rfl (fd_0 _ _ _ _ _ _ _ _ _ _ _ _ _)) rfl ?_
  refine zq (PV.field rfl (fe_0 _ _ _ _ _ _ _)) rfl ?_
  refine za rfl (zt (TQ.retE1 rfl rfl ?_))
  exact ⟨(), rfl, trivial, List.Sublist.refl _⟩
theorem Wet_ok (w0 w : World) (s : St) (hv : SV s) (u : SU) (c : Co) (v : TV) (b : Nat) (ho : HD) (Z : Heap) (hN : New w0 w (coB b s u 0 c v ho :: Z)) :
    Calls Tryz.prog 20 #[.pointer (some ⟨b, 0, none⟩)] w (Post (X := Unit) (fun _ => .int .i64 (c.wet : Nat)) (fun _ => True) (fun _ => coB b s u 0 c v ho :: Z) w0) := by
  refine callsM hN Tryz.func20 rfl (n := 7) rfl (by simp) ?_
  refine zr (za rfl (zk (zm rfl (TL.callW (X := Unit) (fun _ => .agg (tyL c v).toArray) (fun _ => True) (fun _ => coB b s u 0 c v ho :: Z) rfl Tb.gofn_66 (fun a w hs => look_ok w0 w s hv u c v b ho Z hs.new) rfl dc (fun _ _ => ?_)))))
  refine zq (PV.field rfl (fd_0 _ _ _ _ _ _ _ _ _ _ _ _ _)) rfl ?_
  refine zq (PV.field rfl (fe_1 _ _ _ _ _ _ _)) rfl ?_
  refine za rfl (zt (TQ.retE1 rfl rfl ?_))
  exact ⟨(), rfl, trivial, List.Sublist.refl _⟩
theorem Money_ok (w0 w : World) (s : St) (hv : SV s) (u : SU) (c : Co) (v : TV) (b : Nat) (ho : HD) (Z : Heap) (hN : New w0 w (coB b s u 0 c v ho :: Z)) :
    Calls Tryz.prog 21 #[.pointer (some ⟨b, 0, none⟩)] w (Post (X := Unit) (fun _ => .int .i64 c.money) (fun _ => True) (fun _ => coB b s u 0 c v ho :: Z) w0) := by
  refine callsM hN Tryz.func21 rfl (n := 7) rfl (by simp) ?_
  refine zr (za rfl (zk (zm rfl (TL.callW (X := Unit) (fun _ => .agg (tyL c v).toArray) (fun _ => True) (fun _ => coB b s u 0 c v ho :: Z) rfl Tb.gofn_66 (fun a w hs => look_ok w0 w s hv u c v b ho Z hs.new) rfl dc (fun _ _ => ?_)))))
  refine zq (PV.field rfl (fd_0 _ _ _ _ _ _ _ _ _ _ _ _ _)) rfl ?_
  refine zq (PV.field rfl (fe_2 _ _ _ _ _ _ _)) rfl ?_
  refine za rfl (zt (TQ.retE1 rfl rfl ?_))
  exact ⟨(), rfl, trivial, List.Sublist.refl _⟩
theorem Cut_ok (w0 w : World) (s : St) (hv : SV s) (u : SU) (c : Co) (v : TV) (b : Nat) (ho : HD) (Z : Heap) (hN : New w0 w (coB b s u 0 c v ho :: Z)) :
    Calls Tryz.prog 22 #[.pointer (some ⟨b, 0, none⟩)] w (Post (X := Unit) (fun _ => .int .i64 c.cut) (fun _ => True) (fun _ => coB b s u 0 c v ho :: Z) w0) := by
  refine callsM hN Tryz.func22 rfl (n := 7) rfl (by simp) ?_
  refine zr (za rfl (zk (zm rfl (TL.callW (X := Unit) (fun _ => .agg (tyL c v).toArray) (fun _ => True) (fun _ => coB b s u 0 c v ho :: Z) rfl Tb.gofn_66 (fun a w hs => look_ok w0 w s hv u c v b ho Z hs.new) rfl dc (fun _ _ => ?_)))))
  refine zq (PV.field rfl (fd_0 _ _ _ _ _ _ _ _ _ _ _ _ _)) rfl ?_
  refine zq (PV.field rfl (fe_3 _ _ _ _ _ _ _)) rfl ?_
  refine za rfl (zt (TQ.retE1 rfl rfl ?_))
  exact ⟨(), rfl, trivial, List.Sublist.refl _⟩
theorem Loaded_ok (w0 w : World) (s : St) (hv : SV s) (u : SU) (c : Co) (v : TV) (b : Nat) (ho : HD) (Z : Heap) (hN : New w0 w (coB b s u 0 c v ho :: Z)) :
    Calls Tryz.prog 23 #[.pointer (some ⟨b, 0, none⟩)] w (Post (X := Unit) (fun _ => .int .i64 c.load) (fun _ => True) (fun _ => coB b s u 0 c v ho :: Z) w0) := by
  refine callsM hN Tryz.func23 rfl (n := 7) rfl (by simp) ?_
  refine zr (za rfl (zk (zm rfl (TL.callW (X := Unit) (fun _ => .agg (tyL c v).toArray) (fun _ => True) (fun _ => coB b s u 0 c v ho :: Z) rfl Tb.gofn_66 (fun a w hs => look_ok w0 w s hv u c v b ho Z hs.new) rfl dc (fun _ _ => ?_)))))
  refine zq (PV.field rfl (fd_0 _ _ _ _ _ _ _ _ _ _ _ _ _)) rfl ?_
  refine zq (PV.field rfl (fe_4 _ _ _ _ _ _ _)) rfl ?_
  refine za rfl (zt (TQ.retE1 rfl rfl ?_))
  exact ⟨(), rfl, trivial, List.Sublist.refl _⟩
theorem Ground_ok (w0 w : World) (s : St) (hv : SV s) (u : SU) (c : Co) (v : TV) (b : Nat) (ho : HD) (Z : Heap) (hN : New w0 w (coB b s u 0 c v ho :: Z)) :
    Calls Tryz.prog 24 #[.pointer (some ⟨b, 0, none⟩)] w (Post (X := Unit) (fun _ => .int .i64 c.grd) (fun _ => True) (fun _ => coB b s u 0 c v ho :: Z) w0) := by
  refine callsM hN Tryz.func24 rfl (n := 7) rfl (by simp) ?_
  refine zr (za rfl (zk (zm rfl (TL.callW (X := Unit) (fun _ => .agg (tyL c v).toArray) (fun _ => True) (fun _ => coB b s u 0 c v ho :: Z) rfl Tb.gofn_66 (fun a w hs => look_ok w0 w s hv u c v b ho Z hs.new) rfl dc (fun _ _ => ?_)))))
  refine zq (PV.field rfl (fd_0 _ _ _ _ _ _ _ _ _ _ _ _ _)) rfl ?_
  refine zq (PV.field rfl (fe_5 _ _ _ _ _ _ _)) rfl ?_
  refine za rfl (zt (TQ.retE1 rfl rfl ?_))
  exact ⟨(), rfl, trivial, List.Sublist.refl _⟩
theorem Shut_ok (w0 w : World) (s : St) (hv : SV s) (u : SU) (c : Co) (v : TV) (b : Nat) (ho : HD) (Z : Heap) (hN : New w0 w (coB b s u 0 c v ho :: Z)) :
    Calls Tryz.prog 27 #[.pointer (some ⟨b, 0, none⟩)] w (Post (X := Unit) (fun _ => .bool c.shut) (fun _ => True) (fun _ => coB b s u 0 c v ho :: Z) w0) := by
  refine callsM hN Tryz.func27 rfl (n := 7) rfl (by simp) ?_
  refine zr (za rfl (zk (zm rfl (TL.callW (X := Unit) (fun _ => .agg (tyL c v).toArray) (fun _ => True) (fun _ => coB b s u 0 c v ho :: Z) rfl Tb.gofn_66 (fun a w hs => look_ok w0 w s hv u c v b ho Z hs.new) rfl dc (fun _ _ => ?_)))))
  refine zq (PV.field rfl (fd_0 _ _ _ _ _ _ _ _ _ _ _ _ _)) rfl ?_
  refine zq (PV.field rfl (fe_6 _ _ _ _ _ _ _)) rfl ?_
  refine za rfl (zt (TQ.retE1 rfl rfl ?_))
  exact ⟨(), rfl, trivial, List.Sublist.refl _⟩
theorem Hollow_ok (w0 w : World) (s : St) (hv : SV s) (u : SU) (c : Co) (v : TV) (b : Nat) (ho : HD) (Z : Heap) (Zf : Heap) (hZf : List.Sublist Zf Z) (hT : ∀ w9, New w0 w9 Zf → TurAt w9 c v) (hl : c.hol.length ≤ 1000000) (hN : New w0 w (coB b s u 0 c v ho :: Z)) :
    Calls Tryz.prog 25 #[.pointer (some ⟨b, 0, none⟩)] w (Post (X := HD) (fun h => .slice (gp h) c.hol.length (gc h)) (fun h => goI (h, c.hol)) (fun h => gbI (h, c.hol) ++ (coB b s u 0 c v ho :: Z)) w0) := by
  refine callsM hN Tryz.func25 rfl (n := 7) rfl (by simp) ?_
  refine zr (za rfl (zk (zm rfl (TL.callW (X := Unit) (fun _ => .agg (tyL c v).toArray) (fun _ => True) (fun _ => coB b s u 0 c v ho :: Z) rfl Tb.gofn_66 (fun a w hs => look_ok w0 w s hv u c v b ho Z hs.new) rfl dc (fun _ _ => ?_)))))
  refine zq (PV.field rfl (fd_1 _ _ _ _ _ _ _ _ _ _ _ _ _)) rfl ?_
  refine TL.call rfl Tb.gofn_67 (fun a w hs => clone_v w v.ph v.ch c.hol (hT w (hs.new.sub (List.Sublist.cons _ hZf))).ah hl) rfl dc (fun hh hhh => ?_)
  refine za rfl (zt (TQ.retE1 rfl rfl ?_))
  exact ⟨hh, rfl, hhh, List.Sublist.refl _⟩
theorem Turves_ok (w0 w : World) (s : St) (hv : SV s) (u : SU) (c : Co) (v : TV) (b : Nat) (ho : HD) (Z : Heap) (Zf : Heap) (hZf : List.Sublist Zf Z) (hT : ∀ w9, New w0 w9 Zf → TurAt w9 c v) (hl : c.tur.length ≤ 1000000) (hN : New w0 w (coB b s u 0 c v ho :: Z)) :
    Calls Tryz.prog 26 #[.pointer (some ⟨b, 0, none⟩)] w (Post (X := HD) (fun h => .slice (gp h) c.tur.length (gc h)) (fun h => goI (h, c.tur)) (fun h => gbI (h, c.tur) ++ (coB b s u 0 c v ho :: Z)) w0) := by
  refine callsM hN Tryz.func26 rfl (n := 7) rfl (by simp) ?_
  refine zr (za rfl (zk (zm rfl (TL.callW (X := Unit) (fun _ => .agg (tyL c v).toArray) (fun _ => True) (fun _ => coB b s u 0 c v ho :: Z) rfl Tb.gofn_66 (fun a w hs => look_ok w0 w s hv u c v b ho Z hs.new) rfl dc (fun _ _ => ?_)))))
  refine zq (PV.field rfl (fd_2 _ _ _ _ _ _ _ _ _ _ _ _ _)) rfl ?_
  refine TL.call rfl Tb.gofn_67 (fun a w hs => clone_v w v.pt v.ct c.tur (hT w (hs.new.sub (List.Sublist.cons _ hZf))).at_ hl) rfl dc (fun hh hhh => ?_)
  refine za rfl (zt (TQ.retE1 rfl rfl ?_))
  exact ⟨hh, rfl, hhh, List.Sublist.refl _⟩
theorem Book_ok (w0 w : World) (hW : WAt w0) (s : St) (hv : SV s) (u : SU) (c : Co) (hi : Inv s c) (v : TV) (b : Nat) (ho : HD) (hgo : goR stR ho c.ords) (Z : Heap) (hN : New w0 w (coB b s u 0 c v ho :: (gbR stR 9 ho c.ords ++ Z))) :
    Calls Tryz.prog 28 #[.pointer (some ⟨b, 0, none⟩)] w (Post (X := Unit) (fun _ => str (bookL dI c.ords).2) (fun _ => True) (fun _ => coB b s u 0 c v ho :: (gbR stR 9 ho c.ords ++ Z)) w0) := by
  refine callsDfM hN Tryz.func28 rfl (n := 17) rfl (by simp) ?_
  refine TG.seq (TG.region o9z kr ?_)
  refine za rfl (TL.nil (TQ.thenG (TG.seq (TG.seq (TG.region o9z kr ?_)))))
  refine zm rfl (TL.call rfl Tb.gofn_61 (fun a w hs => isNone_ok w b s.need (Inv.need hv) (hs.new.cell m9z rfl)) rfl dc (fun _ _ => ?_))
  refine TL.nil (TQ.thenG (TG.condF rfl ?_))
  refine TG.skip (TQ.thenG (TG.seq (TG.region o9z kr ?_)))
  refine zm rfl (zq (PV.nilCheck rfl) rfl (zq (PV.fieldAddr rfl Tb.fo_103_1) rfl (TL.callW (X := Unit) (fun _ => .tuple #[]) (fun _ => True) (fun _ => coB b s u 1 c v ho :: (gbR stR 9 ho c.ords ++ Z)) rfl Tb.gofn_62 (fun a w hs => lock_new (cs := (coL s u 0 c v (gval ho c.ords.length)).toArray) hs.new u9z rfl) rfl dc (fun _ _ => ?_))))
  refine TL.nil (TQ.thenG (TG.seq (TG.regionL ?_)))
  refine TGL.pre 3 o9z (by kernel_rfl) ?_
  simp only [List.take_succ_cons, List.take_zero, List.drop_succ_cons, List.drop_zero]
  refine zm rfl (zq (PV.nilCheck rfl) rfl (zq (PV.fieldAddr rfl Tb.fo_103_1) rfl (TL.nil (TQ.thenL ?_))))
  refine TGL.defer (fun a w hs => resolve_fn rfl hs rfl) ?_
  refine TGL.opsAll o9z (by kernel_rfl) (TL.nil ?_)
  refine TQ.thenG (TG.seq (TG.region o9z kr ?_))
  refine zm rfl (zq (PV.nilCheck rfl) rfl (zq (PV.fieldAddr rfl Tb.fo_103_3) rfl (zq (PV.load (v := .slice (gp ho) c.ords.length (gc ho)) rfl Tb.one_43 m9z (by show some (gval ho c.ords.length) = _; rw [ords_len hgo])) rfl ?_)))
  refine TL.call rfl Tb.gofn_68 (fun a w hs => bookOf_ok w (hW.new hs.new) (gp ho) (gc ho) c.ords (ords_at hs.new (fun y hy => .tail _ (List.mem_append_left _ hy)) hgo) (by have := hi.ol; omega) (fun j => by have := ords_40 hi j; omega)) rfl dc (fun _ _ => ?_)
  refine za rfl (TL.nil (TQ.thenG (TG.ret (TQ.retD (caps := []) (G' := coB b s u 0 c v ho :: (gbR stR 9 ho c.ords ++ Z)) Tb.gofn_63 (unlock_new (cs := (coL s u 1 c v (gval ho c.ords.length)).toArray) u9z rfl) ?_))))
  refine TQ.retE1 rfl rfl ?_
  exact ⟨(), rfl, trivial, List.Sublist.refl _⟩
end Go.Proofs.YtbnjmkidbfmomaaGreatDoor
namespace Go.Proofs.YtbnjmkidbfmomaaGreatDoor
open Go.Sx Go.RowKit Go.Bt Go.Lib Go.Sand
def FstS (φ : List UInt8 → Bool) (L : List (List UInt8)) (i : Int) : Prop := (i = -1 ∧ ∀ j, j < L.length → φ (L.getD j []) = false) ∨ ∃ k : Nat, i = k ∧ k < L.length ∧ φ (L.getD k []) = true
theorem fstS_any {φ : List UInt8 → Bool} {L : List (List UInt8)} {i : Int} (h : FstS φ L i) : L.any φ = decide (0 ≤ i) := by
  rcases h with ⟨rfl, h⟩ | ⟨k, rfl, hk, h⟩
  · rw [decide_eq_false (by decide), List.any_eq_false]
    intro x hx
    obtain ⟨j, hj, rfl⟩ := List.getElem_of_mem hx
    have := h j hj
    simpa [List.getD, hj] using this
  · rw [decide_eq_true (by omega), List.any_eq_true]
    exact ⟨L.getD k [], by simp [List.getD, hk], h⟩
theorem any_not (L : List (List UInt8)) : (L.any fun s => !rightS s) = !L.all rightS := by
  induction L with
  | nil => rfl
  | cons x L ih => rw [List.any_cons, List.all_cons, ih, Bool.not_and]
theorem wr_any {L : List (List UInt8)} (h : ¬ 100 < L.length) : wrI L = if (L.any fun s => !rightS s) = true then 1 else 0 := by
  unfold wrI
  rw [if_neg h, any_not]
  cases L.all rightS <;> rfl
theorem indexFS_ok (w0 : World) (p : Option Addr) (c : Nat) (L : List (List UInt8)) (hL : StrsAt w0 p L) (h300 : L.length ≤ 1000000) (hs9 : ∀ j, (L.getD j []).length ≤ 1000000) (f : FuncId) (caps : List Value) (φ : List UInt8 → Bool) (hfn : goFn Tryz.prog f = true) (hcb : ∀ w G, New w0 w G → ∀ x : List UInt8, x.length ≤ 1000000 → Calls Tryz.prog f (str x :: caps).toArray w (Post (X := Unit) (fun _ => .bool (φ x)) (fun _ => True) (fun _ => []) w)) :
    Calls Tryz.prog 126 #[.slice p L.length c, .func (.func f) #[] caps.toArray] w0 (Post (X := Int) (fun i => .int .i64 i) (fun i => FstS φ L i) (fun _ => []) w0) := by
  refine calls Tryz.func126 rfl (n := 19) rfl (by simp) ?_
  refine zr (za rfl (zn (TC.seq (zr (zm rfl (zq (PV.len rfl Tb.sl_43) rfl (zm rfl (zn (TC.block (TC.loopK [0, 1, 7] (X := Nat) (fun k => k ≤ L.length ∧ ∀ j, j < k → φ (L.getD j []) = false) (fun k => [(8, .int .i64 (k : Nat))]) (fun k => []) (fun k => L.length - k) 0 ⟨Nat.zero_le _, fun j hj => absurd hj (Nat.not_lt_zero _)⟩ l9z s9z ?_))))))))))
  intro k hk
  have hk1 := hk.1
  refine zr (zq (PV.lss rfl rfl) rfl (zn (TC.seq (TC.cd rfl (fun hlt => ?_) (fun hlt => ?_)))))
  refine TC.skip (TQ.thenC (TC.seq (TC.block (zr (zm rfl (za rfl (zn (TC.seq ?_))))))))
  obtain ⟨q2, q2p, q2v⟩ := hL k (by omega)
  refine TC.region (zm rfl (zm rfl (zm rfl (zq (PV.indexA rfl q2p rfl Tb.elm_43 rfl om) rfl (zq (PV.loadOld rfl Tb.one_9 q2v) rfl (TL.callF (f := f) (caps := caps) (X := Unit) (fun _ => .bool (φ (L.getD k []))) (fun _ => True) (fun _ => []) rfl rfl hfn (fun a w hs => (hcb w _ hs.new (L.getD k []) (hs9 k)).mono fun e w' ⟨x9, h1, h2, h3⟩ => ⟨x9, h1, h2, hs.new.trans h3⟩) rfl dc (fun _ _ => ?_)))))))
  refine zn (TC.cd rfl (fun hno => ?_) (fun hno => ?_))
  refine zr (zm rfl (za rfl (zt (TQ.blkR (TQ.thenR (TQ.thenR (TQ.blkR (TQ.thenR (TQ.retE1 rfl rfl ?_)))))))))
  exact ⟨k, rfl, .inr ⟨k, rfl, by omega, by simpa using hno⟩, nils⟩
  refine TC.skip (TQ.blkN (TQ.thenC (TC.region (zq (PV.add rfl rfl om) rfl (zm rfl (TL.nil (TQ.thenN (TQ.backK (k + 1) l9z l9z s9z ⟨by omega, fun j hj => if e : j < k then hk.2 j e else (show k = j by omega) ▸ (by simpa using hno)⟩ om))))))))
  refine TC.exit (TQ.thenE (TQ.thenE (TQ.blkS (TQ.thenC (zr (za rfl (zt (TQ.retE1 rfl rfl ?_))))))))
  exact ⟨-1, rfl, .inl ⟨rfl, fun j hj => hk.2 j (by omega)⟩, nils⟩
theorem containsFS_ok (w0 : World) (p : Option Addr) (c : Nat) (L : List (List UInt8)) (hL : StrsAt w0 p L) (h300 : L.length ≤ 1000000) (hs9 : ∀ j, (L.getD j []).length ≤ 1000000) (f : FuncId) (caps : List Value) (φ : List UInt8 → Bool) (hfn : goFn Tryz.prog f = true) (hcb : ∀ w G, New w0 w G → ∀ x : List UInt8, x.length ≤ 1000000 → Calls Tryz.prog f (str x :: caps).toArray w (Post (X := Unit) (fun _ => .bool (φ x)) (fun _ => True) (fun _ => []) w)) :
    Calls Tryz.prog 84 #[.slice p L.length c, .func (.func f) #[] caps.toArray] w0 (Post (X := Unit) (fun _ => .bool (L.any φ)) (fun _ => True) (fun _ => []) w0) := by
  refine calls Tryz.func84 rfl (n := 9) rfl (by simp) ?_
  refine zr (za rfl (zk (zm rfl (zm rfl (TL.call rfl Tb.gofn_126 (fun a w hs => indexFS_ok w p c L (hL.new hs.new) h300 hs9 f caps φ hfn (fun w2 G2 hn2 x hx => hcb w2 _ (hs.new.trans hn2) x hx)) rfl dc (fun i9 hi9 => ?_))))))
  refine zq (PV.geq rfl rfl) rfl (za rfl (zt (TQ.retE1 rfl rfl ?_)))
  exact ⟨(), by rw [fstS_any hi9], trivial, nils⟩
theorem writeF_ok (w0 : World) (L : List UInt8) (hl : L.length ≤ 1000000) :
    Calls Tryz.prog 85 #[str L] w0 (Post (X := Unit) (fun _ => .bool (!rightS L)) (fun _ => True) (fun _ => []) w0) := by
  refine calls Tryz.func85 rfl (n := 6) rfl (by simp) ?_
  refine zr (za rfl (zk (zm rfl (TL.call rfl Tb.gofn_80 (fun a w hs => isLine_ok w L hl) rfl dc (fun _ _ => ?_)))))
  refine zq ((by first | exact PV.notD rfl | exact PV.not rfl)) rfl ?_
  refine za rfl (zt (TQ.retE1 rfl rfl ?_))
  exact ⟨(), congrArg Value.bool (by show decide (¬ _) = !decide _; rw [decide_not]), trivial, nils⟩
theorem Write_ok (w0 : World) (hW : WAt w0) (p : Option Addr) (c : Nat) (L : List (List UInt8)) (hL : StrsAt w0 p L) (h300 : L.length ≤ 300) (hs9 : ∀ j, (L.getD j []).length ≤ 400) :
    Calls Tryz.prog 48 #[.slice p L.length c] w0 (Post (X := Unit) (fun _ => .tuple #[str (wrL dI L), .int .i64 (wrI L)]) (fun _ => True) (fun _ => []) w0) := by
  refine calls Tryz.func48 rfl (n := 11) rfl (by simp) ?_
  refine zr (za rfl (za rfl (zn (TC.seq (zr (zm rfl (zq (PV.len rfl Tb.sl_43) rfl (zq (PV.gtr rfl rfl) rfl (zn (TC.cd rfl (fun h100 => ?_) (fun h100 => ?_)))))))))))
  refine zr (za rfl (za rfl (zt (TQ.thenR (TQ.retE2 rfl rfl rfl ?_)))))
  exact ⟨(), by unfold wrL; rw [wr_100 (L := L) (by omega), if_neg (by decide)]; rfl, trivial, nils⟩
  refine TC.skip (TQ.thenC (TC.seq (zr (zm rfl (TL.call rfl Tb.gofn_84 (fun a w hs => containsFS_ok w p c L (hL.new hs.new) om (fun j => by have := hs9 j; omega) 85 [] (fun s => !rightS s) Tb.gofn_85 (fun w2 G2 hn2 x hx => writeF_ok w2 x hx)) rfl dc (fun _ _ => ?_))))))
  refine zn (TC.cd rfl (fun hb => ?_) (fun hb => ?_))
  refine zr (za rfl (za rfl (zt (TQ.thenR (TQ.retE2 rfl rfl rfl ?_)))))
  have hw1 := wr_any (L := L) (by omega)
  rw [if_pos hb] at hw1
  exact ⟨(), by unfold wrL; rw [hw1, if_neg (by decide)]; rfl, trivial, nils⟩
  refine TC.skip (TQ.thenC (zr (zm rfl (TL.call rfl Tb.gofn_68 (fun a w hs => bookOf_ok w (hW.new hs.new) p c L (hL.new hs.new) h300 hs9) rfl dc (fun _ _ => ?_)))))
  refine za rfl (za rfl (zt (TQ.retE2 rfl rfl rfl ?_)))
  have hw1 := wr_any (L := L) (by omega)
  rw [if_neg (by rw [hb]; decide)] at hw1
  exact ⟨(), by unfold wrL; rw [hw1, if_pos rfl], trivial, nils⟩
end Go.Proofs.YtbnjmkidbfmomaaGreatDoor
