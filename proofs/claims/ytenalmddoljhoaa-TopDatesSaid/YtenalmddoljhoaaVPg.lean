/- The plain bounds of any valid core: contract, without premises. -/
import Derived.Test.YtenalmddoljhoaaVPb
set_option linter.unusedVariables false
set_option linter.unusedSimpArgs false
namespace Go.Proofs.Ytenalmddoljhoaa
open Go.Sx Go.RowKit

theorem PI.stepG {g : List Bd} {hG h' : HD} {N : Nat} {u : Nat × HD × Heap} (h : PI g hG N u) (hlt : u.1 < N) (ho : goB h' (tight (plainN g u.1 ++ sumsB (plainN g u.1) g))) :
    PI g hG N (u.1 + 1, h', gbB 88 h' (tight (plainN g u.1 ++ sumsB (plainN g u.1) g))) := ⟨hlt, ho, List.sublist_append_left _ _⟩


set_option maxRecDepth 100000 in
set_option maxHeartbeats 2000000 in
theorem plainG_ok (w0 : World) (n : Int) (p : Option Addr) (cap : Nat) (rs : List Bd) (hr : BdsAt w0 p rs) (hv0 : Valid n rs) :
    Calls Try.prog 84 #[cv n p rs.length cap] w0 (Post (X := HD) (fun h => gval h (plainB n.toNat rs).length) (fun h => goB h (plainB n.toNat rs)) (fun h => gbB 88 h (plainB n.toNat rs)) w0) := by
  have hpt0 := hv0.pts
  have hl := hv0.len
  have hPB := plain_pb hv0
  refine calls Try.func84 rfl (n := 35) rfl (by simp) ?_
  refine TC.seq ?_
  refine TC.region ?_
  refine TL.box rfl rfl (by decide) (fun b0 hb0 => ?_)
  refine TL.pure (PV.assign rfl) rfl (by decide) ?_
  refine TL.nil ?_
  refine TQ.thenC ?_
  refine TC.seq ?_
  refine TC.region ?_
  refine TL.pure (PV.assign rfl) rfl (by decide) ?_
  refine TL.nil ?_
  refine TQ.thenC ?_
  refine TC.seq ?_
  refine TC.seq ?_
  refine TC.region ?_
  refine TL.pure (PV.fieldAddr rfl Tb.fo_24_1) rfl (by decide) ?_
  refine TL.pure (PV.load rfl Tb.one_22 (by repeat (first | exact List.Mem.head _ | refine List.Mem.tail _ ?_ | refine List.mem_append_right _ ?_)) rfl) rfl (by decide) ?_
  refine TL.pure (PV.len rfl Tb.sl_22) rfl (by decide) ?_
  refine TL.pure (PV.move rfl) rfl (by decide) ?_
  refine TL.nil ?_
  refine TQ.thenC ?_
  refine TC.block ?_
  refine TC.loopK [1, 2, 8, 9] (X := Nat × HD × List Bd) (fun v => AC rs v.1 v.2) (fun v => [(10, .int .i64 v.1), (3, gval v.2.1 v.2.2.length)]) (fun v => gbB 88 v.2.1 v.2.2 ++ [(b0, Obj.cells #[.int .i64 n, .slice p rs.length cap] 24 (0, 0))]) (fun v => rs.length - v.1) (0, none, []) (AC.zero rs) (by repeat (first | exact True.intro | refine And.intro rfl ?_)) (List.Sublist.refl _) ?_
  intro v hv
  refine TC.seq ?_
  refine TC.region ?_
  refine TL.pure (PV.lss rfl rfl) rfl (by decide) ?_
  refine TL.nil ?_
  refine TQ.thenC ?_
  refine TC.seq ?_
  first | refine TC.condD rfl (fun hlt => ?_) (fun hlt => ?_) | refine TC.cond rfl (fun hlt => ?_) (fun hlt => ?_)
  · skip
    refine TC.skip ?_
    refine TQ.thenC ?_
    refine TC.seq ?_
    refine TC.block ?_
    refine TC.seq ?_
    obtain ⟨q, hqp, hqa⟩ := hr v.1 (by omega)
    have hvl := hv.len
    refine TC.region ?_
    refine TL.pure (PV.indexA rfl hqp rfl Tb.elm_22 rfl (by omega)) rfl (by decide) ?_
    refine TL.pure (PV.loadAggA rfl Tb.agg_42 rfl hqa) rfl (by decide) ?_
    refine TL.alloc Tb.zero_42 rfl (by decide) (fun b1 hb1 => ?_)
    refine TL.storeAgg rfl rfl Tb.cells_42 (by repeat (first | exact Upd.head _ | apply Upd.tail | apply Upd.appR)) rfl rfl rfl rfl rfl ?_
    refine TL.nil ?_
    refine TQ.thenC ?_
    refine TC.region ?_
    refine TL.pure (PV.move rfl) rfl (by decide) ?_
    refine TL.pure (PV.loadBox rfl Tb.agg_42 (by repeat (first | exact List.Mem.head _ | refine List.Mem.tail _ ?_ | refine List.mem_append_right _ ?_)) rfl) rfl (by decide) ?_
    refine TL.buildSlice (cs := (rs.getD v.1 default).cells.toArray) rfl Tb.sl_74 Tb.zi_88 (by decide) (fill_bd (rs.getD v.1 default)) (by simp) rfl (by decide) (fun b5 hb5 => ?_)
    refine TL.appendBL (h0 := v.2.1) (ys := v.2.2) (r := (rs.getD v.1 default)) Tb.sl_74 Tb.zi_88 rfl rfl rfl rfl (by repeat (first | exact List.Mem.head _ | refine List.Mem.tail _ ?_ | refine List.mem_append_right _ ?_)) hv.ok (by repeat (first | exact TakeH.here _ _ _ _ | apply TakeH.tail | apply TakeH.app)) (by omega) rfl (by decide) (fun h9 ho9 => ?_)
    refine TL.pure (PV.assign rfl) rfl (by decide) ?_
    refine TL.nil ?_
    refine TQ.blkN ?_
    refine TQ.thenC ?_
    refine TC.region ?_
    refine TL.pure (PV.add rfl rfl (by omega)) rfl (by decide) ?_
    refine TL.pure (PV.move rfl) rfl (by decide) ?_
    refine TL.nil ?_
    refine TQ.thenN ?_
    refine TQ.backK (v.1 + 1, h9, v.2.2 ++ [(rs.getD v.1 default)]) (by repeat (first | exact True.intro | refine And.intro rfl ?_)) (by repeat (first | exact True.intro | refine And.intro rfl ?_)) (by repeat (first | exact List.Sublist.slnil | exact List.nil_sublist _ | exact List.Sublist.refl _ | exact List.sublist_append_left _ _ | refine List.Sublist.cons_cons _ ?_ | refine (List.append_sublist_append_left _).2 ?_ | refine List.Sublist.cons _ ?_ | refine List.Sublist.trans ?_ (List.sublist_append_right _ _))) (hv.step (by omega) ho9) (by simp only; omega)
  · skip
    refine TC.exit ?_
    refine TQ.thenE ?_
    refine TQ.thenE ?_
    refine TQ.blkS ?_
    refine TQ.thenC ?_
    refine TC.seq ?_
    have hve := hv.all (by omega)
    have hvo := hv.ok
    rw [hve] at hvo
    rw [hve]
    refine TC.region ?_
    refine TL.pure (PV.move rfl) rfl (by decide) ?_
    refine TL.callW (X := HD) (fun x => gval x (tight rs).length) (fun x => goB x (tight rs)) (fun x => gbB 88 x (tight rs) ++ [(b0, Obj.cells #[.int .i64 n, .slice p rs.length cap] 24 (0, 0))]) rfl Tb.gofn_91 (fun a w hs => tight_g hs.new rfl hvo (by omega)) rfl (by decide) (fun h7 hg9 => ?_)
    refine TL.pure (PV.assign rfl) rfl (by decide) ?_
    refine TL.nil ?_
    refine TQ.thenC ?_
    refine TC.seq ?_
    refine TC.region ?_
    refine TL.pure (PV.move rfl) rfl (by decide) ?_
    refine TL.pure (PV.assign rfl) rfl (by decide) ?_
    refine TL.nil ?_
    refine TQ.thenC ?_
    refine TC.seq ?_
    refine TC.seq ?_
    refine TC.region ?_
    refine TL.pure (PV.fieldAddr rfl Tb.fo_24_0) rfl (by decide) ?_
    refine TL.pure (PV.load rfl Tb.one_3 (by repeat (first | exact List.Mem.head _ | refine List.Mem.tail _ ?_ | refine List.mem_append_right _ ?_)) rfl) rfl (by decide) ?_
    refine TL.pure (PV.move rfl) rfl (by decide) ?_
    refine TL.nil ?_
    refine TQ.thenC ?_
    refine TC.block ?_
    refine TC.loopK [2, 3, 23] (X := Nat × HD × Heap) (fun u => PI (tight rs) h7 n.toNat u) (fun u => [(24, .int .i64 u.1), (6, gval u.2.1 (plainN (tight rs) u.1).length)]) (fun u => u.2.2 ++ gbB 88 h7 (tight rs)) (fun u => n.toNat - u.1) (0, h7, []) (PI.zero n.toNat hg9) (by repeat (first | exact True.intro | refine And.intro rfl ?_)) (by exact List.sublist_append_left _ _) ?_
    intro u hu
    refine TC.seq ?_
    refine TC.region ?_
    refine TL.pure (PV.lss rfl rfl) rfl (by decide) ?_
    refine TL.nil ?_
    refine TQ.thenC ?_
    refine TC.seq ?_
    first | refine TC.condD rfl (fun hlt2 => ?_) (fun hlt2 => ?_) | refine TC.cond rfl (fun hlt2 => ?_) (fun hlt2 => ?_)
    · skip
      refine TC.skip ?_
      refine TQ.thenC ?_
      refine TC.seq ?_
      refine TC.block ?_
      have B1 := hPB u.1 (by omega)
      have B2 := hPB 0 (by omega)
      have B3 : (plainN (tight rs) u.1).length * (tight rs).length ≤ 300 * 300 := Nat.mul_le_mul B1.1 B2.1
      have B4 := sums_len (plainN (tight rs) u.1) (tight rs)
      have B6 : (tight rs).length ≤ 300 := B2.1
      have hlen9 : ((plainN (tight rs) u.1) ++ (sumsB (plainN (tight rs) u.1) (tight rs))).length ≤ 100000 := by rw [List.length_append]; omega
      refine TC.region ?_
      refine TL.pure (PV.move rfl) rfl (by decide) ?_
      refine TL.pure (PV.move rfl) rfl (by decide) ?_
      refine TL.pure (PV.move rfl) rfl (by decide) ?_
      refine TL.call (X := HD) (val := fun x => gval x (sumsB (plainN (tight rs) u.1) (tight rs)).length) (F := fun x => goB x (sumsB (plainN (tight rs) u.1) (tight rs))) (D := fun x => gbB 88 x (sumsB (plainN (tight rs) u.1) (tight rs))) rfl Tb.gofn_93 (fun a w hs => sums_g w u.2.1 h7 (plainN (tight rs) u.1) (tight rs) hu.ok hg9 (BdsAt.s hs.new (fun yy hyy => by have h8 := hu.sub.subset hyy; first | exact h8 | (repeat (first | exact h8 | refine List.mem_append_right _ ?_ | refine List.Mem.tail _ ?_))) hu.ok) (BdsAt.s hs.new (fun yy hyy => by repeat (first | exact hyy | refine List.mem_append_right _ ?_ | refine List.Mem.tail _ ?_)) hg9) B1.2 B2.2 (by omega) (by omega) (by omega)) rfl (by decide) (fun hS hhS => ?_)
      refine TL.buildSlice (cs := #[gval u.2.1 (plainN (tight rs) u.1).length, gval hS (sumsB (plainN (tight rs) u.1) (tight rs)).length]) rfl Tb.sl_114 Tb.zi_74 (by decide) (fill_2g _ _ _ _) (by decide) rfl (by decide) (fun bV hbV => ?_)
      refine TL.call (X := HD) (val := fun x => gval x ((plainN (tight rs) u.1) ++ (sumsB (plainN (tight rs) u.1) (tight rs))).length) (F := fun x => goB x ((plainN (tight rs) u.1) ++ (sumsB (plainN (tight rs) u.1) (tight rs)))) (D := fun x => gbB 88 x ((plainN (tight rs) u.1) ++ (sumsB (plainN (tight rs) u.1) (tight rs)))) rfl Tb.gofn_92 (fun a w hs => concat_g hs.new (by repeat (first | exact List.Mem.head _ | refine List.Mem.tail _ ?_ | refine List.mem_append_right _ ?_)) hu.ok hhS (BdsAt.s hs.new (fun yy hyy => by have h8 := hu.sub.subset hyy; first | exact h8 | (repeat (first | exact h8 | refine List.mem_append_right _ ?_ | refine List.Mem.tail _ ?_))) hu.ok) (BdsAt.s hs.new (fun yy hyy => by repeat (first | exact List.mem_append_left _ hyy | refine List.mem_append_right _ ?_ | refine List.Mem.tail _ ?_)) hhS) (by omega)) rfl (by decide) (fun hC hhC => ?_)
      refine TL.callW (X := HD) (fun x => gval x (tight ((plainN (tight rs) u.1) ++ (sumsB (plainN (tight rs) u.1) (tight rs)))).length) (fun x => goB x (tight ((plainN (tight rs) u.1) ++ (sumsB (plainN (tight rs) u.1) (tight rs))))) (fun x => gbB 88 x (tight ((plainN (tight rs) u.1) ++ (sumsB (plainN (tight rs) u.1) (tight rs)))) ++ ((bV, Obj.cells #[gval u.2.1 (plainN (tight rs) u.1).length, gval hS (sumsB (plainN (tight rs) u.1) (tight rs)).length] 74 (0, 0)) :: (gbB 88 hS (sumsB (plainN (tight rs) u.1) (tight rs)) ++ (u.2.2 ++ gbB 88 h7 (tight rs))))) rfl Tb.gofn_91 (fun a w hs => tight_g hs.new rfl hhC hlen9) rfl (by decide) (fun h8 hs8 => ?_)
      refine TL.pure (PV.assign rfl) rfl (by decide) ?_
      refine TL.nil ?_
      refine TQ.blkN ?_
      refine TQ.thenC ?_
      refine TC.region ?_
      refine TL.pure (PV.add rfl rfl (by omega)) rfl (by decide) ?_
      refine TL.pure (PV.move rfl) rfl (by decide) ?_
      refine TL.nil ?_
      refine TQ.thenN ?_
      refine TQ.backK (u.1 + 1, h8, gbB 88 h8 (tight ((plainN (tight rs) u.1) ++ (sumsB (plainN (tight rs) u.1) (tight rs))))) (by repeat (first | exact True.intro | refine And.intro rfl ?_)) (by repeat (first | exact True.intro | refine And.intro rfl ?_)) (by repeat (first | exact List.Sublist.slnil | exact List.nil_sublist _ | exact List.Sublist.refl _ | exact List.sublist_append_left _ _ | refine List.Sublist.cons_cons _ ?_ | refine (List.append_sublist_append_left _).2 ?_ | refine List.Sublist.cons _ ?_ | refine List.Sublist.trans ?_ (List.sublist_append_right _ _))) (hu.stepG (by omega) hs8) (by simp only; omega)
    · skip
      refine TC.exit ?_
      refine TQ.thenE ?_
      refine TQ.thenE ?_
      refine TQ.blkS ?_
      refine TQ.thenC ?_
      refine TC.seq ?_
      have hle9 := hu.le
      have e9 : u.1 = n.toNat := by omega
      have hk9 := hu.ok
      have hs9 := hu.sub
      refine TC.region ?_
      refine TL.pure (PV.move rfl) rfl (by decide) ?_
      refine TL.pure (PV.assign rfl) rfl (by decide) ?_
      refine TL.nil ?_
      refine TQ.thenC ?_
      refine TC.ret ?_
      refine TQ.retE1 rfl rfl ?_
      exact ⟨u.2.1, by unfold plainB; rw [← e9], by unfold plainB; rw [← e9]; exact hk9, by unfold plainB; rw [← e9]; exact hs9⟩

end Go.Proofs.Ytenalmddoljhoaa
