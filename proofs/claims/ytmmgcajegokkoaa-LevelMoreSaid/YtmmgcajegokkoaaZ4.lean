/- Best heights as quotients of determinants, in memory. -/
import Derived.Test.YtmmgcajegokkoaaZ3
import Derived.Test.YtmmgcajegokkoaaW1
namespace Go.Proofs.Ytmmgcajegokkoaa
open Go.Sx Go.RowKit

theorem lapGF (w : World) (n : Int) (p : Option Addr) (cap : Nat) (rs : List Rd) (hr : RdsAt w p rs) (hv : Valid n rs) (y : HD × List Int) (ho : goI y) (hl : y.2.length ≤ 5) (hx : IntsAt w (gp y.1) y.2) :
    Calls Try.prog 100 #[sv n p rs.length cap, gvI y] w (Post (X := HD × List (HD × List Int)) (fun x => gvP x) (LI rs y.2 y.2.length y.2.length) (fun x => gbP x ++ bl x.2) w) := lapG w n p cap rs hr hv y ho hl hx
theorem loadOf_parts (p : Nat) (r : Rd) (hft : r.f ≠ r.t) (x : Int) : x + loadOf Rd.rise p r = (if r.t = p then x + r.wt * r.rise else x) - (if r.f = p then r.wt * r.rise else 0) := by
  unfold loadOf
  by_cases h1 : r.t = p <;> by_cases h2 : r.f = p <;> simp [h1, h2] <;> omega
theorem gok_len {h : HD} {xs : List Int} {K : Nat} (hok : goI (h, xs)) (hK : xs.length = K) : gok h K 1 (ival xs) := by subst hK; exact hok
theorem ptI_get {N : Nat} {pts : List Int} (h : Pts N pts) {k : Nat} (hk : k < pts.length) (a : Int) (ha : 0 ≤ a) : a = pts.getD k 0 ↔ a.toNat = (pts.getD k 0).toNat := by
  have := h.rng k hk
  omega


set_option maxRecDepth 100000 in
set_option maxHeartbeats 8000000 in
theorem rbest_ok (w0 : World) (n : Int) (p : Option Addr) (cap : Nat) (rs : List Rd) (hr : RdsAt w0 p rs) (hv : Valid n rs) :
    Calls Try.prog 76 #[sv n p rs.length cap] w0 (Post (X := Nat) (fun b => .tuple #[.slice (some ⟨b, 0, none⟩) n.toNat n.toNat, .int .i64 (detF (freeK (firstsL n rs) n.toNat).length (lapE rs (freeK (firstsL n rs) n.toNat)))]) (fun _ => True) (fun b => [arrI b (outL n.toNat (freeK (firstsL n rs) n.toNat) (yF rs (freeK (firstsL n rs) n.toNat)) (freeK (firstsL n rs) n.toNat).length)]) w0) := by
  have hp := hv.pts
  have hll := hv.len
  obtain ⟨hN, hnn⟩ := hv.nat
  refine calls Try.func76 rfl (n := 114) rfl (by simp) ?_
  refine TC.seq ?_
  refine TC.region ?_
  refine TL.box rfl rfl (by decide) (fun b0 hb0 => ?_)
  refine TL.pure (PV.assign rfl) rfl (by decide) ?_
  refine TL.pure (PV.assign rfl) rfl (by decide) ?_
  refine TL.nil ?_
  refine TQ.thenC ?_
  refine TC.seq ?_
  refine TC.region ?_
  refine TL.pure (PV.loadBox rfl Tb.agg_24 (by repeat (first | exact List.Mem.head _ | refine List.Mem.tail _ ?_ | refine List.mem_append_right _ ?_)) rfl) rfl (by decide) ?_
  refine TL.call rfl Tb.gofn_99 (fun a w hs => free_ok w _ _ _ _ (hr.new hs.new) hv) rfl (by decide) (fun x hfx => ?_)
  refine TL.pure (PV.assign rfl) rfl (by decide) ?_
  refine TL.nil ?_
  refine TQ.thenC ?_
  refine TC.seq ?_
  have hx : FI n.toNat (firstsL n rs) n.toNat x := hfx
  have hxe : x.2 = freeK (firstsL n rs) n.toNat := hx.eq
  have hP : Pts n.toNat x.2 := by rw [hxe]; exact free_pts _ _
  have hx4 : x.2.length ≤ 4 := by rw [hxe]; have := free_len hN; rwa [hnn] at this
  refine TC.region ?_
  refine TL.pure (PV.loadBox rfl Tb.agg_24 (by repeat (first | exact List.Mem.head _ | refine List.Mem.tail _ ?_ | refine List.mem_append_right _ ?_)) rfl) rfl (by decide) ?_
  refine TL.pure (PV.move rfl) rfl (by decide) ?_
  refine TL.call rfl Tb.gofn_100 (fun a w hs => lapGF w _ _ _ _ (hr.new hs.new) hv x hx.ok (by omega) (IntsAt.g hs.new (fun yy hyy => (by first | exact List.mem_append_left _ hyy | (simp only [List.mem_append, List.mem_cons]; simp [hyy]))) hx.ok)) rfl (by decide) (fun y hy => ?_)
  refine TL.pure (PV.assign rfl) rfl (by decide) ?_
  refine TL.nil ?_
  refine TQ.thenC ?_
  refine TC.seq ?_
  have hyl := hy.len
  refine TC.region ?_
  refine TL.pure (PV.assign rfl) rfl (by decide) ?_
  refine TL.nil ?_
  refine TQ.thenC ?_
  refine TC.seq ?_
  refine TC.seq ?_
  refine TC.region ?_
  refine TL.pure (PV.assign rfl) rfl (by decide) ?_
  refine TL.nil ?_
  refine TQ.thenC ?_
  refine TC.block ?_
  refine TC.lit [(1, _), (4, _), (5, _), (6, _), (7, _)] (by repeat (first | exact True.intro | refine And.intro rfl ?_)) ?_
  refine TC.loopK [1, 2, 3, 4, 5] (X := Nat × HD × List Int) (fun z => RtI rs x.2 z.1 z.2) (fun z => [(7, .int .i64 z.1), (6, gvI z.2)]) (fun z => gbI z.2 ++ ((gbP y ++ bl y.2) ++ (gbI x ++ [(b0, .cells #[.int .i64 n, .slice p rs.length cap] 24 (0, 0))]))) (fun z => x.2.length - z.1) (0, none, []) (RtI.zero _ _) (by repeat (first | exact True.intro | refine And.intro rfl ?_)) (by repeat (first | exact List.Sublist.slnil | exact List.nil_sublist _ | exact List.Sublist.refl _ | refine List.Sublist.cons_cons _ ?_ | refine List.Sublist.cons _ ?_ | refine List.Sublist.trans ?_ (List.sublist_append_right _ _))) ?_
  intro z hz
  have hzle := hz.le
  have hzl0 := hz.len
  refine TC.seq ?_
  refine TC.seq ?_
  refine TC.region ?_
  refine TL.pure (PV.move rfl) rfl (by decide) ?_
  refine TL.pure (PV.move rfl) rfl (by decide) ?_
  refine TL.pure (PV.lenG rfl hx.ok Tb.sl_31) rfl (by decide) ?_
  refine TL.pure (PV.lss rfl rfl) rfl (by decide) ?_
  refine TL.nil ?_
  refine TQ.thenC ?_
  first | refine TC.condD rfl (fun hlt0 => ?_) (fun hlt0 => ?_) | refine TC.cond rfl (fun hlt0 => ?_) (fun hlt0 => ?_)
  · skip
    refine TC.skip ?_
    refine TQ.thenC ?_
    refine TC.seq ?_
    refine TC.block ?_
    refine TC.seq ?_
    refine TC.region ?_
    refine TL.pure (PV.assign rfl) rfl (by decide) ?_
    refine TL.nil ?_
    refine TQ.thenC ?_
    refine TC.seq ?_
    refine TC.seq ?_
    refine TC.region ?_
    refine TL.pure (PV.assign rfl) rfl (by decide) ?_
    refine TL.nil ?_
    refine TQ.thenC ?_
    refine TC.block ?_
    refine TC.lit [(1, _), (4, _), (5, _), (6, _), (7, _), (8, _), (9, _)] (by repeat (first | exact True.intro | refine And.intro rfl ?_)) ?_
    refine TC.loopK [1, 2, 3, 4, 5, 6, 7] (X := Nat) (fun m => m ≤ rs.length) (fun m => [(9, .int .i64 m), (8, .int .i64 (rS rs (x.2.getD z.1 0) m))]) (fun m => gbI z.2 ++ ((gbP y ++ bl y.2) ++ (gbI x ++ [(b0, .cells #[.int .i64 n, .slice p rs.length cap] 24 (0, 0))]))) (fun m => rs.length - m) 0 (Nat.zero_le _) (by repeat (first | exact True.intro | refine And.intro rfl ?_)) (by repeat (first | exact List.Sublist.slnil | exact List.nil_sublist _ | exact List.Sublist.refl _ | refine List.Sublist.cons_cons _ ?_ | refine List.Sublist.cons _ ?_ | refine List.Sublist.trans ?_ (List.sublist_append_right _ _))) ?_
    intro m hm
    refine TC.seq ?_
    refine TC.seq ?_
    refine TC.region ?_
    refine TL.pure (PV.move rfl) rfl (by decide) ?_
    refine TL.pure (PV.fieldAddr rfl Tb.fo_24_1) rfl (by decide) ?_
    refine TL.pure (PV.load rfl Tb.one_22 (by repeat (first | exact List.Mem.head _ | refine List.Mem.tail _ ?_ | refine List.mem_append_right _ ?_)) rfl) rfl (by decide) ?_
    refine TL.pure (PV.len rfl Tb.sl_22) rfl (by decide) ?_
    refine TL.pure (PV.lss rfl rfl) rfl (by decide) ?_
    refine TL.nil ?_
    refine TQ.thenC ?_
    first | refine TC.condD rfl (fun hlt1 => ?_) (fun hlt1 => ?_) | refine TC.cond rfl (fun hlt1 => ?_) (fun hlt1 => ?_)
    · skip
      refine TC.skip ?_
      refine TQ.thenC ?_
      refine TC.seq ?_
      refine TC.block ?_
      refine TC.seq ?_
      have hml : m < rs.length := by omega
      obtain ⟨q, hqp, hq⟩ := hr m (by omega)
      have hvk := hv.at hml
      have hrb := rS_bn hv (x.2.getD z.1 0) m (by omega)
      have hsucc : rS rs (x.2.getD z.1 0) (m + 1) = rS rs (x.2.getD z.1 0) m + loadOf Rd.rise (x.2.getD z.1 0).toNat (rs.getD m default) := rfl
      have hpz := hP.rng z.1 (by omega)
      generalize rs.getD m default = r at hq hvk hsucc
      have hft : r.f ≠ r.t := by unfold Rd.f Rd.t; omega
      rw [loadOf_parts _ _ hft] at hsucc
      have hwr := (show Bn r.wt 3 from ⟨by omega, by omega⟩).mul (show Bn r.rise 1000 from hvk.2.2.2.1)
      unfold Bn at hwr hrb
      refine TC.region ?_
      refine TL.pure (PV.fieldAddr rfl Tb.fo_24_1) rfl (by decide) ?_
      refine TL.pure (PV.load rfl Tb.one_22 (by repeat (first | exact List.Mem.head _ | refine List.Mem.tail _ ?_ | refine List.mem_append_right _ ?_)) rfl) rfl (by decide) ?_
      refine TL.pure (PV.move rfl) rfl (by decide) ?_
      refine TL.pure (PV.indexA rfl hqp rfl Tb.elm_22 rfl (by omega)) rfl (by decide) ?_
      refine TL.pure (PV.loadAggA rfl Tb.agg_61 rfl hq) rfl (by decide) ?_
      refine TL.alloc Tb.zero_61 rfl (by decide) (fun b1 hb1 => ?_)
      refine TL.storeAgg rfl rfl Tb.cells_61 (by repeat (first | exact Upd.head _ | apply Upd.tail | apply Upd.appR)) rfl rfl rfl rfl rfl ?_
      refine TL.nil ?_
      refine TQ.thenC ?_
      refine TC.seqK [1, 2, 3, 4, 5, 6, 7, 9, 10] (X := Int) (fun v1 => v1 = (if r.t = (x.2.getD z.1 0).toNat then rS rs (x.2.getD z.1 0) m + r.wt * r.rise else rS rs (x.2.getD z.1 0) m)) (fun v1 => [(8, .int .i64 v1)]) (fun v1 => (b1, Obj.cells r.cells.toArray 61 (0, 0)) :: (gbI z.2 ++ ((gbP y ++ bl y.2) ++ (gbI x ++ [(b0, .cells #[.int .i64 n, .slice p rs.length cap] 24 (0, 0))])))) ?_ ?_
      · skip
        refine TC.seq ?_
        refine TC.lit [(1, _), (4, _), (5, _), (6, _), (7, _), (8, _), (9, _), (10, _)] (by repeat (first | exact True.intro | refine And.intro rfl ?_)) ?_
        refine TC.any Tb.mixed rfl rfl ?_
        refine TA.op (OpOK.pure (PV.fieldAddr rfl Tb.fo_61_1) rfl (by decide)) (by decide) ?_
        refine TA.op (OpOK.pure (PV.load rfl Tb.one_3 (by repeat (first | exact List.Mem.head _ | refine List.Mem.tail _ ?_ | refine List.mem_append_right _ ?_)) rfl) rfl (by decide)) (by decide) ?_
        refine TA.op (OpOK.pure (PV.move rfl) rfl (by decide)) (by decide) ?_
        refine TA.op (OpOK.pure (PV.move rfl) rfl (by decide)) (by decide) ?_
        refine TA.op (OpOK.pure (PV.indexG rfl rfl hx.ok Tb.elm_31 rfl (by omega)) rfl (by decide)) (by decide) ?_
        refine TA.op (OpOK.pure (PV.loadG' rfl Tb.one_3 (by first | exact (.tail _ (List.mem_append_right _ (List.mem_append_right _ (List.mem_append_left _ (mem_gblk hx.ok (show 0 < x.2.length by omega)))))) | exact (List.mem_append_right _ (List.mem_append_right _ (List.mem_append_left _ (mem_gblk hx.ok (show 0 < x.2.length by omega))))) | exact (.tail _ (.tail _ (List.mem_append_right _ (List.mem_append_right _ (List.mem_append_left _ (mem_gblk hx.ok (show 0 < x.2.length by omega))))))) | exact (List.mem_append_right _ (List.mem_append_right _ (.tail _ (List.mem_append_right _ (List.mem_append_right _ (List.mem_append_left _ (mem_gblk hx.ok (show 0 < x.2.length by omega)))))))) | exact (List.mem_append_right _ (List.mem_append_right _ (List.mem_append_right _ (.tail _ (List.mem_append_right _ (List.mem_append_right _ (List.mem_append_left _ (mem_gblk hx.ok (show 0 < x.2.length by omega))))))))) | exact (.tail _ (List.mem_append_right _ (List.mem_append_right _ (.tail _ (List.mem_append_right _ (List.mem_append_right _ (List.mem_append_left _ (mem_gblk hx.ok (show 0 < x.2.length by omega))))))))) | exact (List.mem_append_right _ (List.mem_append_right _ (List.mem_append_right _ (List.mem_append_left _ (mem_gblk hx.ok (show 0 < x.2.length by omega)))))) | exact (List.mem_append_right _ (.tail _ (List.mem_append_right _ (List.mem_append_right _ (List.mem_append_left _ (mem_gblk hx.ok (show 0 < x.2.length by omega))))))) | exact (.tail _ (List.mem_append_right _ (List.mem_append_right _ (List.mem_append_right _ (List.mem_append_left _ (mem_gblk hx.ok (show 0 < x.2.length by omega)))))))) (ivalI_get (by omega))) rfl (by decide)) (by decide) ?_
        refine TA.op (OpOK.pure (PV.eql rfl rfl) rfl (by decide)) (by decide) ?_
        show TQ _ _ _ _ _
        refine TQ.thenC ?_
        first | refine TC.condD rfl (fun hto => ?_) (fun hto => ?_) | refine TC.cond rfl (fun hto => ?_) (fun hto => ?_)
        · skip
          refine TC.region ?_
          refine TL.pure (PV.move rfl) rfl (by decide) ?_
          refine TL.pure (PV.fieldAddr rfl Tb.fo_61_3) rfl (by decide) ?_
          refine TL.pure (PV.load rfl Tb.one_3 (by repeat (first | exact List.Mem.head _ | refine List.Mem.tail _ ?_ | refine List.mem_append_right _ ?_)) rfl) rfl (by decide) ?_
          refine TL.pure (PV.fieldAddr rfl Tb.fo_61_2) rfl (by decide) ?_
          refine TL.pure (PV.load rfl Tb.one_3 (by repeat (first | exact List.Mem.head _ | refine List.Mem.tail _ ?_ | refine List.mem_append_right _ ?_)) rfl) rfl (by decide) ?_
          refine TL.pure (PV.mul rfl rfl (by omega)) rfl (by decide) ?_
          refine TL.pure (PV.add rfl rfl (by omega)) rfl (by decide) ?_
          refine TL.pure (PV.assign rfl) rfl (by decide) ?_
          refine TL.nil ?_
          refine TQ.thenN ?_
          refine TQ.midK _ (by repeat (first | exact True.intro | refine And.intro rfl ?_)) (by repeat (first | exact True.intro | refine And.intro rfl ?_)) (by repeat (first | exact List.Sublist.slnil | exact List.nil_sublist _ | exact List.Sublist.refl _ | refine List.Sublist.cons_cons _ ?_ | refine List.Sublist.cons _ ?_ | refine List.Sublist.trans ?_ (List.sublist_append_right _ _))) (by first | (rw [if_pos (by unfold Rd.t; omega)]) | (rw [if_neg (by unfold Rd.t; omega)]))
        · skip
          refine TC.skip ?_
          refine TQ.thenN ?_
          refine TQ.midK _ (by repeat (first | exact True.intro | refine And.intro rfl ?_)) (by repeat (first | exact True.intro | refine And.intro rfl ?_)) (by repeat (first | exact List.Sublist.slnil | exact List.nil_sublist _ | exact List.Sublist.refl _ | refine List.Sublist.cons_cons _ ?_ | refine List.Sublist.cons _ ?_ | refine List.Sublist.trans ?_ (List.sublist_append_right _ _))) (by first | (rw [if_pos (by unfold Rd.t; omega)]) | (rw [if_neg (by unfold Rd.t; omega)]))
      · skip
        intro v1 hv1
        refine TC.seq ?_
        refine TC.any Tb.mixed rfl rfl ?_
        refine TA.op (OpOK.pure (PV.fieldAddr rfl Tb.fo_61_0) rfl (by decide)) (by decide) ?_
        refine TA.op (OpOK.pure (PV.load rfl Tb.one_3 (by repeat (first | exact List.Mem.head _ | refine List.Mem.tail _ ?_ | refine List.mem_append_right _ ?_)) rfl) rfl (by decide)) (by decide) ?_
        refine TA.op (OpOK.pure (PV.move rfl) rfl (by decide)) (by decide) ?_
        refine TA.op (OpOK.pure (PV.move rfl) rfl (by decide)) (by decide) ?_
        refine TA.op (OpOK.pure (PV.indexG rfl rfl hx.ok Tb.elm_31 rfl (by omega)) rfl (by decide)) (by decide) ?_
        refine TA.op (OpOK.pure (PV.loadG' rfl Tb.one_3 (by first | exact (.tail _ (List.mem_append_right _ (List.mem_append_right _ (List.mem_append_left _ (mem_gblk hx.ok (show 0 < x.2.length by omega)))))) | exact (List.mem_append_right _ (List.mem_append_right _ (List.mem_append_left _ (mem_gblk hx.ok (show 0 < x.2.length by omega))))) | exact (.tail _ (.tail _ (List.mem_append_right _ (List.mem_append_right _ (List.mem_append_left _ (mem_gblk hx.ok (show 0 < x.2.length by omega))))))) | exact (List.mem_append_right _ (List.mem_append_right _ (.tail _ (List.mem_append_right _ (List.mem_append_right _ (List.mem_append_left _ (mem_gblk hx.ok (show 0 < x.2.length by omega)))))))) | exact (List.mem_append_right _ (List.mem_append_right _ (List.mem_append_right _ (.tail _ (List.mem_append_right _ (List.mem_append_right _ (List.mem_append_left _ (mem_gblk hx.ok (show 0 < x.2.length by omega))))))))) | exact (.tail _ (List.mem_append_right _ (List.mem_append_right _ (.tail _ (List.mem_append_right _ (List.mem_append_right _ (List.mem_append_left _ (mem_gblk hx.ok (show 0 < x.2.length by omega))))))))) | exact (List.mem_append_right _ (List.mem_append_right _ (List.mem_append_right _ (List.mem_append_left _ (mem_gblk hx.ok (show 0 < x.2.length by omega)))))) | exact (List.mem_append_right _ (.tail _ (List.mem_append_right _ (List.mem_append_right _ (List.mem_append_left _ (mem_gblk hx.ok (show 0 < x.2.length by omega))))))) | exact (.tail _ (List.mem_append_right _ (List.mem_append_right _ (List.mem_append_right _ (List.mem_append_left _ (mem_gblk hx.ok (show 0 < x.2.length by omega)))))))) (ivalI_get (by omega))) rfl (by decide)) (by decide) ?_
        refine TA.op (OpOK.pure (PV.eql rfl rfl) rfl (by decide)) (by decide) ?_
        show TQ _ _ _ _ _
        refine TQ.thenC ?_
        first | refine TC.condD rfl (fun hfr => ?_) (fun hfr => ?_) | refine TC.cond rfl (fun hfr => ?_) (fun hfr => ?_)
        · skip
          refine TC.region ?_
          refine TL.pure (PV.move rfl) rfl (by decide) ?_
          refine TL.pure (PV.fieldAddr rfl Tb.fo_61_3) rfl (by decide) ?_
          refine TL.pure (PV.load rfl Tb.one_3 (by repeat (first | exact List.Mem.head _ | refine List.Mem.tail _ ?_ | refine List.mem_append_right _ ?_)) rfl) rfl (by decide) ?_
          refine TL.pure (PV.fieldAddr rfl Tb.fo_61_2) rfl (by decide) ?_
          refine TL.pure (PV.load rfl Tb.one_3 (by repeat (first | exact List.Mem.head _ | refine List.Mem.tail _ ?_ | refine List.mem_append_right _ ?_)) rfl) rfl (by decide) ?_
          refine TL.pure (PV.mul rfl rfl (by omega)) rfl (by decide) ?_
          refine TL.pure (PV.sub rfl rfl (by rw [hv1]; split <;> omega)) rfl (by decide) ?_
          refine TL.pure (PV.assign rfl) rfl (by decide) ?_
          refine TL.nil ?_
          refine TQ.blkN ?_
          refine TQ.thenC ?_
          refine TC.region ?_
          refine TL.pure (PV.move rfl) rfl (by decide) ?_
          refine TL.pure (PV.add rfl rfl (by omega)) rfl (by decide) ?_
          refine TL.pure (PV.assign rfl) rfl (by decide) ?_
          refine TL.nil ?_
          refine TQ.thenN ?_
          refine TQ.backK (m + 1) ⟨rfl, by first | (rw [hsucc, ← hv1, if_pos (by unfold Rd.f; omega)]; rfl) | (rw [hsucc, ← hv1, if_neg (by unfold Rd.f; omega), Int.sub_zero]; rfl), trivial⟩ (by repeat (first | exact True.intro | refine And.intro rfl ?_)) (List.Sublist.cons _ (List.Sublist.refl _)) (by omega) (by omega)
        · skip
          refine TC.skip ?_
          refine TQ.blkN ?_
          refine TQ.thenC ?_
          refine TC.region ?_
          refine TL.pure (PV.move rfl) rfl (by decide) ?_
          refine TL.pure (PV.add rfl rfl (by omega)) rfl (by decide) ?_
          refine TL.pure (PV.assign rfl) rfl (by decide) ?_
          refine TL.nil ?_
          refine TQ.thenN ?_
          refine TQ.backK (m + 1) ⟨rfl, by first | (rw [hsucc, ← hv1, if_pos (by unfold Rd.f; omega)]; rfl) | (rw [hsucc, ← hv1, if_neg (by unfold Rd.f; omega), Int.sub_zero]; rfl), trivial⟩ (by repeat (first | exact True.intro | refine And.intro rfl ?_)) (List.Sublist.cons _ (List.Sublist.refl _)) (by omega) (by omega)
    · skip
      refine TC.exit ?_
      refine TQ.thenE ?_
      refine TQ.thenE ?_
      refine TQ.blkS ?_
      refine TQ.thenC ?_
      refine TC.region ?_
      refine TL.pure (PV.move rfl) rfl (by decide) ?_
      refine TL.pure (PV.move rfl) rfl (by decide) ?_
      refine TL.buildSlice rfl Tb.sl_31 Tb.zi_3 (by decide) (fill_i _) (by decide) rfl (by decide) (fun bI hbI => ?_)
      refine TL.appendI rfl rfl (by repeat (first | exact List.Mem.head _ | refine List.Mem.tail _ ?_ | refine List.mem_append_right _ ?_)) hz.ok (by repeat (first | exact TakeH.here _ _ _ _ | apply TakeH.tail | apply TakeH.app)) (by omega) rfl (by decide) (fun hI_ hI => ?_)
      refine TL.pure (PV.assign rfl) rfl (by decide) ?_
      refine TL.nil ?_
      refine TQ.blkN ?_
      refine TQ.thenC ?_
      refine TC.region ?_
      refine TL.pure (PV.move rfl) rfl (by decide) ?_
      refine TL.pure (PV.add rfl rfl (by omega)) rfl (by decide) ?_
      refine TL.pure (PV.assign rfl) rfl (by decide) ?_
      refine TL.nil ?_
      refine TQ.thenN ?_
      refine TQ.backK (z.1 + 1, _) (by repeat (first | exact True.intro | refine And.intro rfl ?_)) (by repeat (first | exact True.intro | refine And.intro rfl ?_)) (List.Sublist.append_left (List.Sublist.cons _ (List.Sublist.refl _)) _) (hz.step (by omega) (by rw [show m = rs.length by omega]; unfold rtF bestR; rw [rsum_sumN]; rfl) hI) (by simp only; omega)
  · skip
    refine TC.exit ?_
    refine TQ.thenE ?_
    refine TQ.thenE ?_
    refine TQ.blkS ?_
    refine TQ.thenC ?_
    refine TC.seq ?_
    refine TC.lit [(1, _), (4, _), (5, _), (6, _)] (by repeat (first | exact True.intro | refine And.intro rfl ?_)) ?_
    have hze : z.1 = x.2.length := by omega
    rw [hze] at hz
    have hzl := hz.len
    refine TC.region ?_
    refine TL.pure (PV.fieldAddr rfl Tb.fo_24_0) rfl (by decide) ?_
    refine TL.pure (PV.load rfl Tb.one_3 (by repeat (first | exact List.Mem.head _ | refine List.Mem.tail _ ?_ | refine List.mem_append_right _ ?_)) rfl) rfl (by decide) ?_
    refine TL.makeI rfl rfl Tb.sl_31 Tb.zi_3 (k := n.toNat) hnn.symm (by omega) (by omega) rfl (by decide) (fun b2 hb2 => ?_)
    refine TL.pure (PV.assign rfl) rfl (by decide) ?_
    refine TL.nil ?_
    refine TQ.thenC ?_
    refine TC.seq ?_
    refine TC.seq ?_
    refine TC.region ?_
    refine TL.pure (PV.assign rfl) rfl (by decide) ?_
    refine TL.nil ?_
    refine TQ.thenC ?_
    refine TC.block ?_
    refine TC.lit [(4, _), (5, _), (6, _), (11, _), (12, _)] (by repeat (first | exact True.intro | refine And.intro rfl ?_)) ?_
    refine TC.loopK [2, 3, 4, 5, 6, 11] (X := Nat) (fun k => k ≤ x.2.length) (fun k => [(12, .int .i64 k)]) (fun k => arrI b2 (outL n.toNat x.2 (yF rs x.2) k) :: (gbI z.2 ++ ((gbP y ++ bl y.2) ++ (gbI x ++ [(b0, .cells #[.int .i64 n, .slice p rs.length cap] 24 (0, 0))])))) (fun k => x.2.length - k) 0 (Nat.zero_le _) (by repeat (first | exact True.intro | refine And.intro rfl ?_)) (by rw [← outL_zero]; exact List.Sublist.refl _) ?_
    intro k hk
    refine TC.seq ?_
    refine TC.seq ?_
    refine TC.region ?_
    refine TL.pure (PV.move rfl) rfl (by decide) ?_
    refine TL.pure (PV.move rfl) rfl (by decide) ?_
    refine TL.pure (PV.lenG rfl hx.ok Tb.sl_31) rfl (by decide) ?_
    refine TL.pure (PV.lss rfl rfl) rfl (by decide) ?_
    refine TL.nil ?_
    refine TQ.thenC ?_
    first | refine TC.condD rfl (fun hlt2 => ?_) (fun hlt2 => ?_) | refine TC.cond rfl (fun hlt2 => ?_) (fun hlt2 => ?_)
    · skip
      refine TC.skip ?_
      refine TQ.thenC ?_
      refine TC.seq ?_
      refine TC.block ?_
      refine TC.seq ?_
      refine TC.region ?_
      refine TL.pure (PV.assign rfl) rfl (by decide) ?_
      refine TL.nil ?_
      refine TQ.thenC ?_
      refine TC.seq ?_
      refine TC.seq ?_
      refine TC.region ?_
      refine TL.pure (PV.assign rfl) rfl (by decide) ?_
      refine TL.nil ?_
      refine TQ.thenC ?_
      refine TC.block ?_
      refine TC.lit [(4, _), (5, _), (6, _), (11, _), (12, _), (13, _), (14, _)] (by repeat (first | exact True.intro | refine And.intro rfl ?_)) ?_
      refine TC.loopK [2, 3, 4, 5, 6, 11, 12] (X := Nat × HD × List (HD × List Int)) (fun c => CI rs x.2 k c.1 c.2) (fun c => [(14, .int .i64 c.1), (13, gvP c.2)]) (fun c => gbP c.2 ++ (bl c.2.2 ++ (arrI b2 (outL n.toNat x.2 (yF rs x.2) k) :: (gbI z.2 ++ ((gbP y ++ bl y.2) ++ (gbI x ++ [(b0, .cells #[.int .i64 n, .slice p rs.length cap] 24 (0, 0))])))))) (fun c => x.2.length - c.1) (0, none, []) (CI.zero _ _ _) (by repeat (first | exact True.intro | refine And.intro rfl ?_)) (by repeat (first | exact List.Sublist.slnil | exact List.nil_sublist _ | exact List.Sublist.refl _ | refine List.Sublist.cons_cons _ ?_ | refine List.Sublist.cons _ ?_ | refine List.Sublist.trans ?_ (List.sublist_append_right _ _))) ?_
      intro c hc
      have hcle := hc.le
      refine TC.seq ?_
      refine TC.seq ?_
      refine TC.region ?_
      refine TL.pure (PV.move rfl) rfl (by decide) ?_
      refine TL.pure (PV.move rfl) rfl (by decide) ?_
      refine TL.pure (PV.lenG rfl hy.ok Tb.sl_27) rfl (by decide) ?_
      refine TL.pure (PV.lss rfl rfl) rfl (by decide) ?_
      refine TL.nil ?_
      refine TQ.thenC ?_
      first | refine TC.condD rfl (fun hlt3 => ?_) (fun hlt3 => ?_) | refine TC.cond rfl (fun hlt3 => ?_) (fun hlt3 => ?_)
      · skip
        refine TC.skip ?_
        refine TQ.thenC ?_
        refine TC.seq ?_
        refine TC.block ?_
        refine TC.seq ?_
        refine TC.lit [(4, _), (5, _), (6, _), (11, _), (12, _), (13, _), (14, _)] (by repeat (first | exact True.intro | refine And.intro rfl ?_)) ?_
        have hkl : k < x.2.length := by omega
        have hcl : c.1 < x.2.length := by omega
        have hrow := hy.row hcl
        have hrl : (rowOf y c.1).2.length = x.2.length := by rw [hrow]; simp
        have hrok := hy.all _ (row_mem (i := c.1) (y := y) (by omega))
        have hclen := hc.len
        refine TC.region ?_
        refine TL.buildSlice0 Tb.sl_31 Tb.zi_3 rfl (by decide) (fun bE hbE => ?_)
        refine TL.pure (PV.move rfl) rfl (by decide) ?_
        refine TL.pure (PV.move rfl) rfl (by decide) ?_
        refine TL.pure (PV.indexG rfl rfl hy.ok Tb.elm_27 rfl (by omega)) rfl (by decide) ?_
        refine TL.pure (PV.loadG' rfl Tb.one_31 (by first | exact (.tail _ (List.mem_append_right _ (List.mem_append_right _ (.tail _ (List.mem_append_right _ (List.mem_append_left _ (List.mem_append_left _ (mem_gblk hy.ok (show 0 < y.2.length by omega))))))))) | exact (List.mem_append_right _ (List.mem_append_right _ (.tail _ (List.mem_append_right _ (List.mem_append_left _ (List.mem_append_left _ (mem_gblk hy.ok (show 0 < y.2.length by omega)))))))) | exact (List.mem_append_right _ (List.mem_append_right _ (List.mem_append_right _ (.tail _ (List.mem_append_right _ (List.mem_append_left _ (List.mem_append_left _ (mem_gblk hy.ok (show 0 < y.2.length by omega)))))))))) (row_cell (by omega) hy.all hrl)) rfl (by decide) ?_
        refine TL.appendS (h0 := some (bE, 0, [])) (ys := []) (K0 := 0) (K := x.2.length) rfl rfl rfl hrl (fun w' hN => IntsAt.g hN (fun v hvv => by have h1 := gb_bl (row_mem (i := c.1) (y := y) (by omega)) v hvv; simp only [List.mem_append, List.mem_cons]; simp only [h1, true_or, or_true]) hrok) ⟨rfl, rfl, Nat.le_refl _⟩ (TakeH.here (some (bE, 0, [])) 3 [] _) (by omega) rfl (by decide) (fun hI1_ hI1 => ?_)
        refine TL.pure (PV.assign rfl) rfl (by decide) ?_
        refine TL.nil ?_
        refine TQ.thenC ?_
        refine TC.seq ?_
        have hnl : ([] ++ (rowOf y c.1).2).length = 0 + x.2.length := by rw [List.nil_append, hrl]; omega
        have hgs : goI (hI1_, ([] ++ (rowOf y c.1).2).set k (z.2.2.getD c.1 0)) := goI_set hI1
        have hset : ([] ++ (rowOf y c.1).2).set k (z.2.2.getD c.1 0) = ((List.range x.2.length).map (lapE rs x.2 c.1)).set k (rtF rs x.2 c.1) := by rw [List.nil_append, hrow, hz.get hcl]
        refine TC.region ?_
        refine TL.pure (PV.move rfl) rfl (by decide) ?_
        refine TL.pure (PV.move rfl) rfl (by decide) ?_
        refine TL.pure (PV.move rfl) rfl (by decide) ?_
        refine TL.pure (PV.move rfl) rfl (by decide) ?_
        refine TL.pure (PV.indexG rfl rfl hz.ok Tb.elm_31 rfl (by omega)) rfl (by decide) ?_
        refine TL.pure (PV.loadG' rfl Tb.one_3 (by first | exact (List.mem_append_right _ (List.mem_append_right _ (List.mem_append_right _ (.tail _ (List.mem_append_left _ (mem_gblk hz.ok (show 0 < z.2.2.length by omega))))))) | exact (List.mem_append_right _ (List.mem_append_right _ (.tail _ (List.mem_append_left _ (mem_gblk hz.ok (show 0 < z.2.2.length by omega)))))) | exact (.tail _ (List.mem_append_right _ (List.mem_append_right _ (List.mem_append_right _ (.tail _ (List.mem_append_left _ (mem_gblk hz.ok (show 0 < z.2.2.length by omega))))))))) (ivalI_get (by omega))) rfl (by decide) ?_
        refine TL.pure (PV.indexG rfl rfl (gok_len hI1 hnl) Tb.elm_31 rfl (by omega)) rfl (by decide) ?_
        refine TL.store rfl rfl Tb.cells_3 rfl (upd_gbI hI1 (by rw [hnl]; omega)) (store_lt (by rw [hnl]; omega)) rfl rfl ?_
        refine TL.nil ?_
        refine TQ.thenC ?_
        refine TC.region ?_
        refine TL.pure (PV.move rfl) rfl (by decide) ?_
        refine TL.pure (PV.move rfl) rfl (by decide) ?_
        have hlen : 0 + x.2.length = (([] ++ (rowOf y c.1).2).set k (z.2.2.getD c.1 0)).length := by rw [List.length_set, hnl]
        rw [hlen]
        refine TL.buildSlice (cs := #[gvI (hI1_, ([] ++ (rowOf y c.1).2).set k (z.2.2.getD c.1 0))]) rfl Tb.sl_27 Tb.zi_31 (by decide) (fill_g _ _) (by decide) rfl (by decide) (fun bO hbO => ?_)
        refine TL.appendP (x0 := c.2) (y := (hI1_, ([] ++ (rowOf y c.1).2).set k (z.2.2.getD c.1 0))) rfl rfl (by repeat (first | exact List.Mem.head _ | refine List.Mem.tail _ ?_ | refine List.mem_append_right _ ?_)) hc.ok (by repeat (first | exact TakeH.here _ _ _ _ | apply TakeH.tail | apply TakeH.app)) (by omega) rfl (by decide) (fun hP0_ hP_ => ?_)
        refine TL.pure (PV.assign rfl) rfl (by decide) ?_
        refine TL.nil ?_
        refine TQ.blkN ?_
        refine TQ.thenC ?_
        refine TC.region ?_
        refine TL.pure (PV.move rfl) rfl (by decide) ?_
        refine TL.pure (PV.add rfl rfl (by omega)) rfl (by decide) ?_
        refine TL.pure (PV.assign rfl) rfl (by decide) ?_
        refine TL.nil ?_
        refine TQ.thenN ?_
        refine TQ.backK (c.1 + 1, _, _) (by repeat (first | exact True.intro | refine And.intro rfl ?_)) (by repeat (first | exact True.intro | refine And.intro rfl ?_)) (by rw [bl_snoc]; simp only [List.append_assoc]; exact List.Sublist.append_left (List.Sublist.cons _ (List.Sublist.refl _)) _) (hc.step hcl hset hgs hP_) (by simp only; omega)
      · skip
        refine TC.exit ?_
        refine TQ.thenE ?_
        refine TQ.thenE ?_
        refine TQ.blkS ?_
        refine TQ.thenC ?_
        refine TC.lit [(4, _), (5, _), (6, _), (11, _), (12, _), (13, _)] (by repeat (first | exact True.intro | refine And.intro rfl ?_)) ?_
        have hkl : k < x.2.length := by omega
        have hce : c.1 = x.2.length := by omega
        rw [hce] at hc
        have hpk := hP.rng k hkl
        have hol := outL_len n.toNat x.2 (yF rs x.2) k
        refine TC.mix [true, true, true, true, true, true, false, false, false] _ 3 Tb.mixed rfl (by kernel_rfl) (by kernel_rfl) (by kernel_rfl) (by kernel_rfl) (List.Sublist.refl _) ?_
        refine TB.op (SOK.pure (PV.move rfl) rfl) (by decide) ?_
        refine TB.op (SOK.pure (PV.move rfl) rfl) (by decide) ?_
        refine TB.op (SOK.pure (PV.move rfl) rfl) (by decide) ?_
        refine TB.op (SOK.pure (PV.indexG rfl rfl hx.ok Tb.elm_31 rfl (by omega)) rfl) (by decide) ?_
        refine TB.op (SOK.pure (PV.loadG' rfl Tb.one_3 (by first | exact (.tail _ (List.mem_append_right _ (List.mem_append_right _ (List.mem_append_left _ (mem_gblk hx.ok (show 0 < x.2.length by omega)))))) | exact (List.mem_append_right _ (List.mem_append_right _ (List.mem_append_left _ (mem_gblk hx.ok (show 0 < x.2.length by omega))))) | exact (.tail _ (.tail _ (List.mem_append_right _ (List.mem_append_right _ (List.mem_append_left _ (mem_gblk hx.ok (show 0 < x.2.length by omega))))))) | exact (List.mem_append_right _ (List.mem_append_right _ (.tail _ (List.mem_append_right _ (List.mem_append_right _ (List.mem_append_left _ (mem_gblk hx.ok (show 0 < x.2.length by omega)))))))) | exact (List.mem_append_right _ (List.mem_append_right _ (List.mem_append_right _ (.tail _ (List.mem_append_right _ (List.mem_append_right _ (List.mem_append_left _ (mem_gblk hx.ok (show 0 < x.2.length by omega))))))))) | exact (.tail _ (List.mem_append_right _ (List.mem_append_right _ (.tail _ (List.mem_append_right _ (List.mem_append_right _ (List.mem_append_left _ (mem_gblk hx.ok (show 0 < x.2.length by omega))))))))) | exact (List.mem_append_right _ (List.mem_append_right _ (List.mem_append_right _ (List.mem_append_left _ (mem_gblk hx.ok (show 0 < x.2.length by omega)))))) | exact (List.mem_append_right _ (.tail _ (List.mem_append_right _ (List.mem_append_right _ (List.mem_append_left _ (mem_gblk hx.ok (show 0 < x.2.length by omega))))))) | exact (.tail _ (List.mem_append_right _ (List.mem_append_right _ (List.mem_append_right _ (List.mem_append_left _ (mem_gblk hx.ok (show 0 < x.2.length by omega)))))))) (ivalI_get (by omega))) rfl) (by decide) ?_
        refine TB.op (SOK.pure (PV.move rfl) rfl) (by decide) ?_
        refine TB.no ?_
        refine TB.no ?_
        refine TB.no ?_
        refine TB.fin ?_
        refine TX.step [6] (by kernel_rfl) (by decide) ⟨⟨_, rfl, ?_⟩, trivial⟩
        refine TL.call rfl Tb.gofn_101 (fun a w hs => detCh hv (by omega) hs.new (fun yy hyy => (by first | exact List.mem_append_left _ hyy | (simp only [List.mem_append, List.mem_cons]; simp [hyy]))) (fun yy hyy => (by first | exact List.mem_append_left _ hyy | (simp only [List.mem_append, List.mem_cons]; simp [hyy]))) hc) rfl (by decide) (fun _ _ => ?_)
        refine TL.nil ?_
        refine TX.next (.inl (by repeat (first | exact List.Sublist.slnil | exact List.nil_sublist _ | exact List.Sublist.refl _ | refine List.Sublist.cons_cons _ ?_ | refine List.Sublist.cons _ ?_ | refine List.Sublist.trans ?_ (List.sublist_append_right _ _)))) ?_
        refine TX.step [7] (by kernel_rfl) (by decide) ⟨⟨_, rfl, ?_⟩, trivial⟩
        refine TL.pure (PV.index1 rfl rfl Tb.elm_31 (Int.toNat_of_nonneg hpk.1).symm (by omega)) rfl (by decide) ?_
        refine TL.nil ?_
        refine TX.next (.inr (by kernel_rfl)) ?_
        refine TX.step [8] (by kernel_rfl) (by decide) ⟨⟨_, rfl, ?_⟩, trivial⟩
        refine TL.storeI rfl rfl Tb.cells_3 (by repeat (first | exact Upd.head _ | apply Upd.tail | apply Upd.appR)) (by rw [outL_len]; omega) rfl rfl ?_
        refine TL.nil ?_
        refine TX.next (.inr (by kernel_rfl)) ?_
        refine TX.done (by kernel_rfl) ?_
        refine TQ.blkN ?_
        refine TQ.thenC ?_
        refine TC.region ?_
        refine TL.pure (PV.move rfl) rfl (by decide) ?_
        refine TL.pure (PV.add rfl rfl (by omega)) rfl (by decide) ?_
        refine TL.pure (PV.assign rfl) rfl (by decide) ?_
        refine TL.nil ?_
        refine TQ.thenN ?_
        refine TQ.backK (k + 1) (by repeat (first | exact True.intro | refine And.intro rfl ?_)) (by repeat (first | exact True.intro | refine And.intro rfl ?_)) (by rw [← outL_set hP _ hkl]; first | exact (List.sublist_append_right _ _).trans (List.sublist_append_right _ _) | exact ((List.sublist_append_right _ _).trans (List.sublist_append_right _ _)).trans (List.sublist_append_right _ _)) (by omega) (by omega)
    · skip
      refine TC.exit ?_
      refine TQ.thenE ?_
      refine TQ.thenE ?_
      refine TQ.blkS ?_
      refine TQ.thenC ?_
      refine TC.seq ?_
      refine TC.lit [(5, _), (11, _)] (by repeat (first | exact True.intro | refine And.intro rfl ?_)) ?_
      have hke : k = x.2.length := by omega
      rw [hke]
      refine TC.region ?_
      refine TL.pure (PV.move rfl) rfl (by decide) ?_
      refine TL.pure (PV.move rfl) rfl (by decide) ?_
      refine TL.call rfl Tb.gofn_101 (fun a w hs => detLap hv (by omega) hs.new (fun yy hyy => (by first | exact List.mem_append_left _ hyy | (simp only [List.mem_append, List.mem_cons]; simp [hyy]))) (fun yy hyy => (by first | exact List.mem_append_left _ hyy | (simp only [List.mem_append, List.mem_cons]; simp [hyy]))) hy) rfl (by decide) (fun _ _ => ?_)
      refine TL.pure (PV.assign rfl) rfl (by decide) ?_
      refine TL.pure (PV.assign rfl) rfl (by decide) ?_
      refine TL.nil ?_
      refine TQ.thenC ?_
      refine TC.ret ?_
      refine TQ.retE2 rfl rfl rfl ?_
      exact ⟨b2, by rw [← hxe], trivial, by rw [← hxe]; exact List.Sublist.cons_cons _ (List.nil_sublist _)⟩

end Go.Proofs.Ytmmgcajegokkoaa
