/- The reference's share of a reading: contracts. -/
import Derived.Test.YtmmgcajegokkoaaZ1
import Derived.Test.YtmmgcajegokkoaaU2
import Derived.Test.YtmmgcajegokkoaaU1
namespace Go.Proofs.Ytmmgcajegokkoaa
open Go.Sx Go.RowKit

theorem root_at {n : Int} {rs : List Rd} (hv : Valid n rs) {k : Nat} (hk : k < rs.length) : rootOf n.toNat rs (rs.getD k default).fr.toNat = rootOf n.toNat rs (rs.getD k default).to.toNat := root_ends hv.nat.1 (rd_in hv hk).2.2


set_option maxRecDepth 100000 in
theorem numbered_ok (w0 : World) (n : Int) (p : Option Addr) (cap : Nat) (rs : List Rd) (hr : RdsAt w0 p rs) (hl : rs.length ≤ 100000) (k : Int) :
    Calls Try.prog 87 #[sv n p rs.length cap, .int .i64 k] w0 (Post (X := Unit) (fun _ => .int .i64 (shE n rs k)) (fun _ => True) (fun _ => []) w0) := by
  refine calls Try.func87 rfl (n := 18) rfl (by simp) ?_
  refine TC.seq ?_
  refine TC.region ?_
  refine TL.box rfl rfl (by decide) (fun b0 hb0 => ?_)
  refine TL.pure (PV.assign rfl) rfl (by decide) ?_
  refine TL.nil ?_
  refine TQ.thenC ?_
  refine TC.seq ?_
  refine TC.seq ?_
  refine TC.region ?_
  refine TL.pure (PV.loadBox rfl Tb.agg_24 (by repeat (first | exact List.Mem.head _ | refine List.Mem.tail _ ?_ | refine List.mem_append_right _ ?_)) rfl) rfl (by decide) ?_
  refine TL.call rfl Tb.gofn_24 (fun a w hs => rvalidate_ok w _ _ _ _ (hr.new hs.new)) rfl (by decide) (fun _ _ => ?_)
  refine TL.pure (PV.assign rfl) rfl (by decide) ?_
  refine TL.nil ?_
  refine TQ.thenC ?_
  refine TC.seq ?_
  refine TC.region ?_
  refine TL.pure (PV.move rfl) rfl (by decide) ?_
  refine TL.pure (PV.neq rfl rfl) rfl (by decide) ?_
  refine TL.nil ?_
  refine TQ.thenC ?_
  first | refine TC.condD rfl (fun hne => ?_) (fun hne => ?_) | refine TC.cond rfl (fun hne => ?_) (fun hne => ?_)
  · skip
    refine TC.seq ?_
    refine TC.region ?_
    refine TL.pure (PV.move rfl) rfl (by decide) ?_
    refine TL.pure (PV.assign rfl) rfl (by decide) ?_
    refine TL.nil ?_
    refine TQ.thenC ?_
    refine TC.ret ?_
    refine TQ.thenR ?_
    refine TQ.retE1 rfl rfl ?_
    first | exact ⟨(), by rw [shE, if_pos hne], trivial, List.nil_sublist _⟩ | (refine ⟨(), ?_, trivial, List.nil_sublist _⟩; rw [shE, if_neg hne, if_pos (by first | omega | (simp_all; done) | (simp_all; omega))]; done) | (refine ⟨(), ?_, trivial, List.nil_sublist _⟩; rw [shE, if_neg hne, if_neg (not_not_intro (by first | omega | (simp_all; done) | (simp_all; omega)))]; done)
  · skip
    refine TC.skip ?_
    refine TQ.thenC ?_
    refine TC.seq ?_
    refine TC.seq ?_
    refine TC.region ?_
    refine TL.pure (PV.move rfl) rfl (by decide) ?_
    refine TL.pure (PV.fieldAddr rfl Tb.fo_24_1) rfl (by decide) ?_
    refine TL.pure (PV.load rfl Tb.one_22 (by repeat (first | exact List.Mem.head _ | refine List.Mem.tail _ ?_ | refine List.mem_append_right _ ?_)) rfl) rfl (by decide) ?_
    refine TL.pure (PV.len rfl Tb.sl_22) rfl (by decide) ?_
    refine TL.pure (PV.sub rfl rfl (by omega)) rfl (by decide) ?_
    refine TL.call rfl Tb.gofn_66 (fun a w hs => within_ok w _ _ _) rfl (by decide) (fun _ _ => ?_)
    refine TL.pure ((by first | exact PV.notD rfl | exact PV.not rfl)) rfl (by decide) ?_
    refine TL.nil ?_
    refine TQ.thenC ?_
    first | refine TC.condD rfl (fun hk => ?_) (fun hk => ?_) | refine TC.cond rfl (fun hk => ?_) (fun hk => ?_)
    · skip
      refine TC.seq ?_
      refine TC.region ?_
      refine TL.pure (PV.assign rfl) rfl (by decide) ?_
      refine TL.nil ?_
      refine TQ.thenC ?_
      refine TC.ret ?_
      refine TQ.thenR ?_
      refine TQ.retE1 rfl rfl ?_
      first | exact ⟨(), by rw [shE, if_pos hne], trivial, List.nil_sublist _⟩ | (refine ⟨(), ?_, trivial, List.nil_sublist _⟩; rw [shE, if_neg hne, if_pos (by first | omega | (simp_all; done) | (simp_all; omega))]; done) | (refine ⟨(), ?_, trivial, List.nil_sublist _⟩; rw [shE, if_neg hne, if_neg (not_not_intro (by first | omega | (simp_all; done) | (simp_all; omega)))]; done)
    · skip
      refine TC.skip ?_
      refine TQ.thenC ?_
      refine TC.seq ?_
      refine TC.region ?_
      refine TL.pure (PV.assign rfl) rfl (by decide) ?_
      refine TL.nil ?_
      refine TQ.thenC ?_
      refine TC.ret ?_
      refine TQ.retE1 rfl rfl ?_
      first | exact ⟨(), by rw [shE, if_pos hne], trivial, List.nil_sublist _⟩ | (refine ⟨(), ?_, trivial, List.nil_sublist _⟩; rw [shE, if_neg hne, if_pos (by first | omega | (simp_all; done) | (simp_all; omega))]; done) | (refine ⟨(), ?_, trivial, List.nil_sublist _⟩; rw [shE, if_neg hne, if_neg (not_not_intro (by first | omega | (simp_all; done) | (simp_all; omega)))]; done)

set_option maxRecDepth 100000 in
set_option maxHeartbeats 1000000 in
theorem rShare_ok (w0 : World) (n : Int) (p : Option Addr) (cap : Nat) (rs : List Rd) (hr : RdsAt w0 p rs) (hl : rs.length ≤ 100000) (k : Int) :
    Calls Try.prog 47 #[sv n p rs.length cap, .int .i64 k] w0 (Post (X := Unit) (fun _ => .tuple #[.agg #[.int .i64 (shN n rs k), .int .i64 (shD n rs k)], .int .i64 (shE n rs k)]) (fun _ => True) (fun _ => []) w0) := by
  refine calls Try.func47 rfl (n := 35) rfl (by simp) ?_
  refine TC.seq ?_
  refine TC.region ?_
  refine TL.box rfl rfl (by decide) (fun b0 hb0 => ?_)
  refine TL.alloc Tb.zero_46 rfl (by decide) (fun b1 hb1 => ?_)
  refine TL.pure (PV.assign rfl) rfl (by decide) ?_
  refine TL.nil ?_
  refine TQ.thenC ?_
  refine TC.seq ?_
  refine TC.seq ?_
  refine TC.region ?_
  refine TL.pure (PV.loadBox rfl Tb.agg_24 (by repeat (first | exact List.Mem.head _ | refine List.Mem.tail _ ?_ | refine List.mem_append_right _ ?_)) rfl) rfl (by decide) ?_
  refine TL.pure (PV.move rfl) rfl (by decide) ?_
  refine TL.call rfl Tb.gofn_87 (fun a w hs => numbered_ok w _ _ _ _ (hr.new hs.new) hl k) rfl (by decide) (fun _ _ => ?_)
  refine TL.pure (PV.assign rfl) rfl (by decide) ?_
  refine TL.nil ?_
  refine TQ.thenC ?_
  refine TC.seq ?_
  refine TC.region ?_
  refine TL.pure (PV.move rfl) rfl (by decide) ?_
  refine TL.pure (PV.neq rfl rfl) rfl (by decide) ?_
  refine TL.nil ?_
  refine TQ.thenC ?_
  first | refine TC.condD rfl (fun hne => ?_) (fun hne => ?_) | refine TC.cond rfl (fun hne => ?_) (fun hne => ?_)
  · skip
    refine TC.seq ?_
    refine TC.region ?_
    refine TL.pure (PV.build rfl Tb.zero_46 Tb.pl_46 rfl) rfl (by decide) ?_
    refine TL.pure (PV.move rfl) rfl (by decide) ?_
    refine TL.storeAgg rfl rfl Tb.cells_46 (by repeat (first | exact Upd.head _ | apply Upd.tail | apply Upd.appR)) rfl rfl rfl rfl rfl ?_
    refine TL.pure (PV.assign rfl) rfl (by decide) ?_
    refine TL.nil ?_
    refine TQ.thenC ?_
    refine TC.ret ?_
    refine TQ.thenR ?_
    refine TQ.retR rfl (Res.agg rfl Tb.agg_46 (by repeat (first | exact List.Mem.head _ | refine List.Mem.tail _ ?_ | refine List.mem_append_right _ ?_)) rfl (Res.tmp rfl Res.nil)) ?_
    simp only [tup]
    exact ⟨(), by rw [shN, if_neg hne, shD, if_neg hne], trivial, List.nil_sublist _⟩
  · skip
    refine TC.skip ?_
    refine TQ.thenC ?_
    refine TC.seq ?_
    have hz : shE n rs k = 0 := by omega
    obtain ⟨hv, hk0, hkl⟩ := shE_ok hz
    obtain ⟨q, rfl, hq⟩ := hr k.toNat hkl
    have hat := hv.at hkl
    obtain ⟨gg, hg⟩ := rIs (i := (rs.getD k.toNat default).f) (j := (rs.getD k.toNat default).t) hv.nat.1 (rd_in hv hkl).1 (rd_in hv hkl).2.1
    have hd1 := hg.dpos
    have hd2 := hg.dle
    have hxb : Bn (shX n rs k) 3981312 := ((show Bn (rs.getD k.toNat default).wt 3 from ⟨by omega, by omega⟩).mul hg.nb).mono (by omega)
    have hyd : 1 ≤ shY n rs k ∧ shY n rs k ≤ 331776 := ⟨hg.dpos, hg.dle⟩
    refine TC.region ?_
    refine TL.pure (PV.fieldAddr rfl Tb.fo_24_1) rfl (by decide) ?_
    refine TL.pure (PV.load rfl Tb.one_22 (by repeat (first | exact List.Mem.head _ | refine List.Mem.tail _ ?_ | refine List.mem_append_right _ ?_)) rfl) rfl (by decide) ?_
    refine TL.pure (PV.move rfl) rfl (by decide) ?_
    refine TL.pure (PV.indexA rfl rfl rfl Tb.elm_22 (Int.toNat_of_nonneg (by omega)).symm (by omega)) rfl (by decide) ?_
    refine TL.pure (PV.loadAggA rfl Tb.agg_61 rfl hq) rfl (by decide) ?_
    refine TL.alloc Tb.zero_61 rfl (by decide) (fun b2 hb2 => ?_)
    refine TL.storeAgg rfl rfl Tb.cells_61 (by repeat (first | exact Upd.head _ | apply Upd.tail | apply Upd.appR)) rfl rfl rfl rfl rfl ?_
    refine TL.nil ?_
    refine TQ.thenC ?_
    refine TC.seq ?_
    refine TC.region ?_
    refine TL.pure (PV.loadBox rfl Tb.agg_24 (by repeat (first | exact List.Mem.head _ | refine List.Mem.tail _ ?_ | refine List.mem_append_right _ ?_)) rfl) rfl (by decide) ?_
    refine TL.pure (PV.fieldAddr rfl Tb.fo_61_0) rfl (by decide) ?_
    refine TL.pure (PV.load rfl Tb.one_3 (by repeat (first | exact List.Mem.head _ | refine List.Mem.tail _ ?_ | refine List.mem_append_right _ ?_)) rfl) rfl (by decide) ?_
    refine TL.pure (PV.fieldAddr rfl Tb.fo_61_1) rfl (by decide) ?_
    refine TL.pure (PV.load rfl Tb.one_3 (by repeat (first | exact List.Mem.head _ | refine List.Mem.tail _ ?_ | refine List.mem_append_right _ ?_)) rfl) rfl (by decide) ?_
    refine TL.call rfl Tb.gofn_85 (fun a w hs => rresistance_ok w _ _ _ _ (hr.new hs.new) hv _ _ (by omega) (by omega) (root_at hv hkl)) rfl (by decide) (fun _ _ => ?_)
    refine TL.alloc Tb.zero_46 rfl (by decide) (fun b3 hb3 => ?_)
    refine TL.storeAgg rfl rfl Tb.cells_46 (by repeat (first | exact Upd.head _ | apply Upd.tail | apply Upd.appR)) rfl rfl rfl rfl rfl ?_
    refine TL.nil ?_
    refine TQ.thenC ?_
    refine TC.seq ?_
    refine TC.region ?_
    refine TL.pure (PV.fieldAddr rfl Tb.fo_61_3) rfl (by decide) ?_
    refine TL.pure (PV.load rfl Tb.one_3 (by repeat (first | exact List.Mem.head _ | refine List.Mem.tail _ ?_ | refine List.mem_append_right _ ?_)) rfl) rfl (by decide) ?_
    refine TL.pure (PV.fieldAddr rfl Tb.fo_46_0) rfl (by decide) ?_
    refine TL.pure (PV.load rfl Tb.one_3 (by repeat (first | exact List.Mem.head _ | refine List.Mem.tail _ ?_ | refine List.mem_append_right _ ?_)) rfl) rfl (by decide) ?_
    refine TL.pure (PV.mul rfl rfl (by have hxb2 : Bn ((rs.getD k.toNat default).wt * rA n.toNat rs (rs.getD k.toNat default).fr.toNat (rs.getD k.toNat default).to.toNat) 3981312 := hxb; unfold Bn at hxb2; omega)) rfl (by decide) ?_
    refine TL.pure (PV.fieldAddr rfl Tb.fo_46_1) rfl (by decide) ?_
    refine TL.pure (PV.load rfl Tb.one_3 (by repeat (first | exact List.Mem.head _ | refine List.Mem.tail _ ?_ | refine List.mem_append_right _ ?_)) rfl) rfl (by decide) ?_
    refine TL.call rfl Tb.gofn_50 (fun a w hs => ratio_ok w (shX n rs k) (shY n rs k) (by omega) (by unfold Bn at hxb; omega)) rfl (by decide) (fun _ _ => ?_)
    refine TL.storeAgg rfl rfl Tb.cells_46 (by repeat (first | exact Upd.head _ | apply Upd.tail | apply Upd.appR)) rfl rfl rfl rfl rfl ?_
    refine TL.pure (PV.assign rfl) rfl (by decide) ?_
    refine TL.nil ?_
    refine TQ.thenC ?_
    refine TC.ret ?_
    refine TQ.retR rfl (Res.agg rfl Tb.agg_46 (by repeat (first | exact List.Mem.head _ | refine List.Mem.tail _ ?_ | refine List.mem_append_right _ ?_)) rfl (Res.tmp rfl Res.nil)) ?_
    simp only [tup]
    exact ⟨(), by rw [shN, if_pos hz, shD, if_pos hz, hz], trivial, List.nil_sublist _⟩

end Go.Proofs.Ytmmgcajegokkoaa
