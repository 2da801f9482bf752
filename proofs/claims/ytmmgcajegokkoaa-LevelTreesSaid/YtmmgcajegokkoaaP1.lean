/- Heights by the tree, the other way. -/
import Derived.Test.YtmmgcajegokkoaaP0
namespace Go.Proofs.Ytmmgcajegokkoaa
open Go.Sx Go.RowKit



set_option maxRecDepth 100000 in
set_option maxHeartbeats 40000000 in
theorem rbyTree_ok (w0 : World) (n : Int) (p : Option Addr) (cap : Nat) (rs : List Rd) (hr : RdsAt w0 p rs) (hv : Valid n rs) (G : Int → Int) (hG : Pot n rs G) :
    Calls Try.prog 68 #[sv n p rs.length cap] w0 (Post (X := Nat) (fun b => .slice (some ⟨b, 0, none⟩) n.toNat n.toNat) (fun _ => True) (fun b => [arrI b (hsL G (knEnd n rs))]) w0) := by
  have hp := hv.pts
  have hl := hv.len
  obtain ⟨N, rfl⟩ : ∃ N : Nat, n = N := ⟨n.toNat, by omega⟩
  have hfl : (firstsL (N : Int) rs).length = N := firstsL_len _ _
  refine calls Try.func68 rfl (n := 115) rfl (by simp) ?_
  refine TC.seq ?_
  refine TC.region ?_
  refine TL.box rfl rfl (by decide) (fun b0 hb0 => ?_)
  refine TL.pure (PV.assign rfl) rfl (by decide) ?_
  refine TL.nil ?_
  refine TQ.thenC ?_
  refine TC.seqK [1, 2] (X := Nat × HD × List Int) (fun z => TF N rs rs.length z.2) (fun z => [(3, .slice (some ⟨z.1, 0, none⟩) N N), (4, gvI z.2)]) (fun z => arrI z.1 (firstsL (N : Int) rs) :: (gbI z.2 ++ [(b0, Obj.cells #[.int .i64 N, .slice p rs.length cap] 24 (0, 0))])) ?_ ?_
  · skip
    refine TC.mix [true, false, true, false, false, false] _ 4 Tb.mixed rfl (by kernel_rfl) (by kernel_rfl) (by kernel_rfl) (by kernel_rfl) (List.Sublist.refl _) ?_
    refine TB.op (SOK.pure (PV.loadBox rfl Tb.agg_24 (by repeat (first | exact List.Mem.head _ | refine List.Mem.tail _ ?_ | refine List.mem_append_right _ ?_)) rfl) rfl) (by decide) ?_
    refine TB.no ?_
    refine TB.op (SOK.pure (PV.loadBox rfl Tb.agg_24 (by repeat (first | exact List.Mem.head _ | refine List.Mem.tail _ ?_ | refine List.mem_append_right _ ?_)) rfl) rfl) (by decide) ?_
    refine TB.no ?_
    refine TB.no ?_
    refine TB.no ?_
    refine TB.fin ?_
    refine TX.step [1] (by kernel_rfl) (by decide) ⟨⟨_, rfl, ?_⟩, trivial⟩
    refine TL.call rfl Tb.gofn_62 (fun a w hs => whole_ok w _ _ _ _ (hr.new hs.new) hv) rfl (by decide) (fun bR _ => ?_)
    refine TL.nil ?_
    refine TX.next (.inl (by repeat (first | exact List.Sublist.slnil | exact List.nil_sublist _ | exact List.Sublist.refl _ | refine List.Sublist.cons_cons _ ?_ | refine List.Sublist.cons _ ?_ | refine List.Sublist.trans ?_ (List.sublist_append_right _ _)))) ?_
    refine TX.step [3] (by kernel_rfl) (by decide) ⟨⟨_, rfl, ?_⟩, trivial⟩
    refine TL.call rfl Tb.gofn_64 (fun a w hs => rtree_ok w _ _ _ _ (hr.new hs.new) hv) rfl (by decide) (fun xt ht => ?_)
    refine TL.nil ?_
    refine TX.next (.inl (by repeat (first | exact List.Sublist.slnil | exact List.nil_sublist _ | exact List.Sublist.refl _ | refine List.Sublist.cons_cons _ ?_ | refine List.Sublist.cons _ ?_ | refine List.Sublist.trans ?_ (List.sublist_append_right _ _)))) ?_
    refine TX.step [4] (by kernel_rfl) (by decide) ⟨⟨_, rfl, ?_⟩, trivial⟩
    refine TL.pure (PV.assign rfl) rfl (by decide) ?_
    refine TL.nil ?_
    refine TX.next (.inl (by repeat (first | exact List.Sublist.slnil | exact List.nil_sublist _ | exact List.Sublist.refl _ | refine List.Sublist.cons_cons _ ?_ | refine List.Sublist.cons _ ?_ | refine List.Sublist.trans ?_ (List.sublist_append_right _ _)))) ?_
    refine TX.step [5] (by kernel_rfl) (by decide) ⟨⟨_, rfl, ?_⟩, trivial⟩
    refine TL.pure (PV.assign rfl) rfl (by decide) ?_
    refine TL.nil ?_
    refine TX.next (.inr (by kernel_rfl)) ?_
    refine TX.done (by kernel_rfl) ?_
    refine TQ.thenN ?_
    refine TQ.perm (G' := arrI bR (firstsL (N : Int) rs) :: (gbI xt ++ [(b0, Obj.cells #[.int .i64 N, .slice p rs.length cap] 24 (0, 0))])) (by first | exact List.Perm.refl _ | exact List.perm_middle.symm) ?_
    refine TQ.midK (_, _) (by repeat (first | exact True.intro | refine And.intro rfl ?_)) (by repeat (first | exact True.intro | refine And.intro rfl ?_)) (by repeat (first | exact List.Sublist.slnil | exact List.nil_sublist _ | exact List.Sublist.refl _ | refine List.Sublist.cons_cons _ ?_ | refine List.Sublist.cons _ ?_ | refine List.Sublist.trans ?_ (List.sublist_append_right _ _))) ht
  · skip
    intro z hz
    refine TC.seq ?_
    have hxt : z.2.2 = (takenN (N : Int) rs).map Int.ofNat := hz.eq
    have hxtl : z.2.2.length = (takenN (N : Int) rs).length := by rw [hxt, List.length_map]
    have htl := takenN_len (N : Int) rs
    refine TC.region ?_
    refine TL.pure (PV.fieldAddr rfl Tb.fo_24_0) rfl (by decide) ?_
    refine TL.pure (PV.load rfl Tb.one_3 (by repeat (first | exact List.Mem.head _ | refine List.Mem.tail _ ?_ | refine List.mem_append_right _ ?_)) rfl) rfl (by decide) ?_
    refine TL.makeI rfl rfl Tb.sl_31 Tb.zi_3 (k := N) rfl (by omega) (by omega) rfl (by decide) (fun b1 hb1 => ?_)
    refine TL.pure (PV.assign rfl) rfl (by decide) ?_
    refine TL.nil ?_
    refine TQ.thenC ?_
    refine TC.seq ?_
    refine TC.region ?_
    refine TL.pure (PV.fieldAddr rfl Tb.fo_24_0) rfl (by decide) ?_
    refine TL.pure (PV.load rfl Tb.one_3 (by repeat (first | exact List.Mem.head _ | refine List.Mem.tail _ ?_ | refine List.mem_append_right _ ?_)) rfl) rfl (by decide) ?_
    refine TL.makeB (k := N) rfl rfl Tb.sl_101 Tb.zi_4 rfl (by omega) (by omega) rfl (by decide) (fun bK hbK => ?_)
    refine TL.pure (PV.assign rfl) rfl (by decide) ?_
    refine TL.nil ?_
    refine TQ.thenC ?_
    refine TC.seq ?_
    refine TC.seq ?_
    refine TC.region ?_
    refine TL.pure (PV.assign rfl) rfl (by decide) ?_
    refine TL.nil ?_
    refine TQ.thenC ?_
    refine TC.block ?_
    refine TC.loopK [1, 2, 3, 4, 5, 6] (X := Nat × Unit) (fun x => x.1 ≤ N) (fun x => [(7, .int .i64 x.1)]) (fun x => arrB bK (knZ (firstsL (N : Int) rs) x.1) :: arrI b1 (List.replicate N 0) :: arrI z.1 (firstsL (N : Int) rs) :: (gbI z.2 ++ [(b0, Obj.cells #[.int .i64 N, .slice p rs.length cap] 24 (0, 0))])) (fun x => N - x.1) (0, ()) (Nat.zero_le _) (by repeat (first | exact True.intro | refine And.intro rfl ?_)) (by rw [← knZ_zero, hfl]; exact List.Sublist.refl _) ?_
    intro x hx
    refine TC.seq ?_
    refine TC.seq ?_
    refine TC.region ?_
    refine TL.pure (PV.move rfl) rfl (by decide) ?_
    refine TL.pure (PV.fieldAddr rfl Tb.fo_24_0) rfl (by decide) ?_
    refine TL.pure (PV.load rfl Tb.one_3 (by repeat (first | exact List.Mem.head _ | refine List.Mem.tail _ ?_ | refine List.mem_append_right _ ?_)) rfl) rfl (by decide) ?_
    refine TL.pure (PV.lss rfl rfl) rfl (by decide) ?_
    refine TL.nil ?_
    refine TQ.thenC ?_
    first | refine TC.condD rfl (fun hltA => ?_) (fun hltA => ?_) | refine TC.cond rfl (fun hltA => ?_) (fun hltA => ?_)
    · skip
      refine TC.skip ?_
      refine TQ.thenC ?_
      refine TC.seq ?_
      refine TC.block ?_
      refine TC.region ?_
      refine TL.pure (PV.move rfl) rfl (by decide) ?_
      refine TL.pure (PV.move rfl) rfl (by decide) ?_
      refine TL.pure (PV.move rfl) rfl (by decide) ?_
      refine TL.pure (PV.move rfl) rfl (by decide) ?_
      refine TL.pure (PV.index1 rfl rfl Tb.elm_31 rfl (by omega)) rfl (by decide) ?_
      refine TL.pure (PV.loadI rfl Tb.one_3 (by repeat (first | exact List.Mem.head _ | refine List.Mem.tail _ ?_ | refine List.mem_append_right _ ?_)) (by omega)) rfl (by decide) ?_
      refine TL.pure (PV.move rfl) rfl (by decide) ?_
      refine TL.pure (PV.eql rfl rfl) rfl (by decide) ?_
      refine TL.pure (PV.index1 rfl rfl Tb.elm_101 rfl (by omega)) rfl (by decide) ?_
      refine TL.storeB rfl rfl Tb.cells_4 (by repeat (first | exact Upd.head _ | apply Upd.tail | apply Upd.appR)) (by rw [knZ_len]; omega) rfl rfl ?_
      rw [show decide ((firstsL (N : Int) rs).getD x.1 0 = (x.1 : Int)) = decide ((x.1 : Int) = (firstsL (N : Int) rs).getD x.1 0) from decide_eq_decide.2 eq_comm, knZ_set (by omega)]
      refine TL.nil ?_
      refine TQ.blkN ?_
      refine TQ.thenC ?_
      refine TC.region ?_
      refine TL.pure (PV.move rfl) rfl (by decide) ?_
      refine TL.pure (PV.add rfl rfl (by omega)) rfl (by decide) ?_
      refine TL.pure (PV.assign rfl) rfl (by decide) ?_
      refine TL.nil ?_
      refine TQ.thenN ?_
      refine TQ.backK (x.1 + 1, ()) (by repeat (first | exact True.intro | refine And.intro rfl ?_)) (by repeat (first | exact True.intro | refine And.intro rfl ?_)) (List.Sublist.refl _) (by simp only; omega) (by simp only; omega)
    · skip
      refine TC.exit ?_
      refine TQ.thenE ?_
      refine TQ.thenE ?_
      refine TQ.blkS ?_
      refine TQ.thenC ?_
      refine TC.seq ?_
      refine TC.seq ?_
      rw [show knZ (firstsL (N : Int) rs) x.1 = kn0 (firstsL (N : Int) rs) from knZ_N hfl (by omega), hsL_start2 hv hG]
      refine TC.region ?_
      refine TL.pure (PV.assign rfl) rfl (by decide) ?_
      refine TL.nil ?_
      refine TQ.thenC ?_
      refine TC.block ?_
      refine TC.loopK [1, 2, 4, 5, 6] (X := Nat × List Bool) (fun x => x.1 ≤ N ∧ x.2 = kall N rs (kn0 (firstsL (N : Int) rs)) x.1) (fun x => [(8, .int .i64 x.1)]) (fun x => arrB bK x.2 :: arrI b1 (hsL G x.2) :: arrI z.1 (firstsL (N : Int) rs) :: (gbI z.2 ++ [(b0, Obj.cells #[.int .i64 N, .slice p rs.length cap] 24 (0, 0))])) (fun x => N - x.1) (0, kn0 (firstsL (N : Int) rs)) ⟨Nat.zero_le _, rfl⟩ (by repeat (first | exact True.intro | refine And.intro rfl ?_)) (List.Sublist.refl _) ?_
      intro x hx
      refine TC.seq ?_
      refine TC.seq ?_
      refine TC.region ?_
      refine TL.pure (PV.move rfl) rfl (by decide) ?_
      refine TL.pure (PV.fieldAddr rfl Tb.fo_24_0) rfl (by decide) ?_
      refine TL.pure (PV.load rfl Tb.one_3 (by repeat (first | exact List.Mem.head _ | refine List.Mem.tail _ ?_ | refine List.mem_append_right _ ?_)) rfl) rfl (by decide) ?_
      refine TL.pure (PV.lss rfl rfl) rfl (by decide) ?_
      refine TL.nil ?_
      refine TQ.thenC ?_
      first | refine TC.condD rfl (fun hltB => ?_) (fun hltB => ?_) | refine TC.cond rfl (fun hltB => ?_) (fun hltB => ?_)
      · skip
        refine TC.skip ?_
        refine TQ.thenC ?_
        refine TC.seq ?_
        refine TC.block ?_
        refine TC.seq ?_
        refine TC.region ?_
        refine TL.pure (PV.assign rfl) rfl (by decide) ?_
        refine TL.nil ?_
        refine TQ.thenC ?_
        refine TC.block ?_
        refine TC.loopK [1, 2, 4, 5, 6, 8] (X := Nat × List Bool) (fun y => y.1 ≤ (takenN (N : Int) rs).length ∧ y.2 = kround N rs x.2 y.1) (fun y => [(9, .int .i64 y.1)]) (fun y => arrB bK y.2 :: arrI b1 (hsL G y.2) :: arrI z.1 (firstsL (N : Int) rs) :: (gbI z.2 ++ [(b0, Obj.cells #[.int .i64 N, .slice p rs.length cap] 24 (0, 0))])) (fun y => (takenN (N : Int) rs).length - y.1) (0, x.2) ⟨Nat.zero_le _, rfl⟩ (by repeat (first | exact True.intro | refine And.intro rfl ?_)) (List.Sublist.refl _) ?_
        intro y hy
        refine TC.seq ?_
        refine TC.seq ?_
        refine TC.region ?_
        refine TL.pure (PV.move rfl) rfl (by decide) ?_
        refine TL.pure (PV.move rfl) rfl (by decide) ?_
        refine TL.pure (PV.lenG rfl hz.ok Tb.sl_31) rfl (by decide) ?_
        refine TL.pure (PV.lss rfl rfl) rfl (by decide) ?_
        refine TL.nil ?_
        refine TQ.thenC ?_
        first | refine TC.condD rfl (fun hltC => ?_) (fun hltC => ?_) | refine TC.cond rfl (fun hltC => ?_) (fun hltC => ?_)
        · skip
          refine TC.skip ?_
          refine TQ.thenC ?_
          refine TC.seq ?_
          refine TC.block ?_
          refine TC.seq ?_
          have hltD : (y.1 : Int) < ((takenN (N : Int) rs).length : Int) := by rw [← hxtl]; exact hltC
          have hti := takenN_at (n := (N : Int)) (rs := rs) (i := y.1) (by omega)
          obtain ⟨q, hqp, hq⟩ := hr ((takenN (N : Int) rs).getD y.1 0) hti.1
          have hvk := hv.at hti.1
          have hge := hG.edge ((takenN (N : Int) rs).getD y.1 0) hti.1 hti.2
          have hgf := hG.bd (rs.getD ((takenN (N : Int) rs).getD y.1 0) default).fr hvk.1.1 hvk.1.2
          have hgt := hG.bd (rs.getD ((takenN (N : Int) rs).getD y.1 0) default).to hvk.2.1.1 hvk.2.1.2
          have hyl : y.2.length = N := by rw [hy.2, kround_len, hx.2, kall_len, kn0_len, hfl]
          have hhl : (hsL G y.2).length = N := by rw [hsL_len, hyl]
          refine TC.mix [true, true, true, true, true, true, true, true, false, false] _ 2 Tb.mixed rfl (by kernel_rfl) (by kernel_rfl) (by kernel_rfl) (by kernel_rfl) (List.Sublist.refl _) ?_
          refine TB.op (SOK.pure (PV.fieldAddr rfl Tb.fo_24_1) rfl) (by decide) ?_
          refine TB.op (SOK.pure (PV.load rfl Tb.one_22 (by repeat (first | exact List.Mem.head _ | refine List.Mem.tail _ ?_ | refine List.mem_append_right _ ?_)) rfl) rfl) (by decide) ?_
          refine TB.op (SOK.pure (PV.move rfl) rfl) (by decide) ?_
          refine TB.op (SOK.pure (PV.move rfl) rfl) (by decide) ?_
          refine TB.op (SOK.pure (PV.indexG rfl rfl hz.ok Tb.elm_31 rfl (by omega)) rfl) (by decide) ?_
          refine TB.op (SOK.pure (PV.loadG' rfl Tb.one_3 (.tail _ (.tail _ (.tail _ (List.mem_append_left _ (mem_gblk hz.ok (by omega)))))) (ival_get hxt (by omega))) rfl) (by decide) ?_
          refine TB.op (SOK.pure (PV.indexA rfl hqp rfl Tb.elm_22 rfl (by omega)) rfl) (by decide) ?_
          refine TB.op (SOK.pure (PV.loadAggA rfl Tb.agg_61 rfl hq) rfl) (by decide) ?_
          refine TB.no ?_
          refine TB.no ?_
          refine TB.fin ?_
          refine TX.step [8] (by kernel_rfl) (by decide) ⟨⟨_, rfl, ?_⟩, trivial⟩
          refine TL.alloc Tb.zero_61 rfl (by decide) (fun b2 hb2 => ?_)
          refine TL.nil ?_
          refine TX.next (.inl (by repeat (first | exact List.Sublist.slnil | exact List.nil_sublist _ | exact List.Sublist.refl _ | refine List.Sublist.cons_cons _ ?_ | refine List.Sublist.cons _ ?_ | refine List.Sublist.trans ?_ (List.sublist_append_right _ _)))) ?_
          refine TX.step [9] (by kernel_rfl) (by decide) ⟨⟨_, rfl, ?_⟩, trivial⟩
          refine TL.storeAgg rfl rfl Tb.cells_61 (by repeat (first | exact Upd.head _ | apply Upd.tail | apply Upd.appR)) rfl rfl rfl rfl rfl ?_
          refine TL.nil ?_
          refine TX.next (.inr (by kernel_rfl)) ?_
          refine TX.done (by kernel_rfl) ?_
          refine TQ.thenC ?_
          refine TC.seqK [1, 2, 4, 5, 6, 8, 9, 10] (X := List Bool) (fun m => m = first1 y.2 (rs.getD ((takenN (N : Int) rs).getD y.1 0) default)) (fun m => []) (fun m => (b2, Obj.cells (rs.getD ((takenN (N : Int) rs).getD y.1 0) default).cells.toArray 61 (0, 0)) :: arrB bK m :: arrI b1 (hsL G m) :: arrI z.1 (firstsL (N : Int) rs) :: (gbI z.2 ++ [(b0, Obj.cells #[.int .i64 N, .slice p rs.length cap] 24 (0, 0))])) ?_ ?_
          · skip
            refine TC.seq ?_
            refine TC.region ?_
            refine TL.pure (PV.move rfl) rfl (by decide) ?_
            refine TL.pure (PV.fieldAddr rfl Tb.fo_61_0) rfl (by decide) ?_
            refine TL.pure (PV.load rfl Tb.one_3 (by repeat (first | exact List.Mem.head _ | refine List.Mem.tail _ ?_ | refine List.mem_append_right _ ?_)) rfl) rfl (by decide) ?_
            refine TL.pure (PV.index1 rfl rfl Tb.elm_101 (Int.toNat_of_nonneg (by omega)).symm (by omega)) rfl (by decide) ?_
            refine TL.pure (PV.loadB rfl Tb.one_4 (by repeat (first | exact List.Mem.head _ | refine List.Mem.tail _ ?_ | refine List.mem_append_right _ ?_)) (by omega)) rfl (by decide) ?_
            refine TL.pure (PV.move rfl) rfl (by decide) ?_
            first | refine TL.splitD 61 rfl (fun hA => ?_) (fun hA => ?_) | refine TL.split 61 rfl (fun hA => ?_) (fun hA => ?_)
            · skip
              refine TL.pure (PV.move rfl) rfl (by decide) ?_
              refine TL.pure (PV.fieldAddr rfl Tb.fo_61_1) rfl (by decide) ?_
              refine TL.pure (PV.load rfl Tb.one_3 (by repeat (first | exact List.Mem.head _ | refine List.Mem.tail _ ?_ | refine List.mem_append_right _ ?_)) rfl) rfl (by decide) ?_
              refine TL.pure (PV.index1 rfl rfl Tb.elm_101 (Int.toNat_of_nonneg (by omega)).symm (by omega)) rfl (by decide) ?_
              refine TL.pure (PV.loadB rfl Tb.one_4 (by repeat (first | exact List.Mem.head _ | refine List.Mem.tail _ ?_ | refine List.mem_append_right _ ?_)) (by omega)) rfl (by decide) ?_
              refine TL.pure ((by first | exact PV.notD rfl | exact PV.not rfl)) rfl (by decide) ?_
              refine TL.pure (PV.pickT rfl rfl) rfl (by decide) ?_
              refine TL.nil ?_
              refine TQ.thenC ?_
              first | refine TC.condD rfl (fun hC => ?_) (fun hC => ?_) | refine TC.cond rfl (fun hC => ?_) (fun hC => ?_)
              · skip
                have hgv := hs_at (G := G) hvk.1.1 (by omega) hA
                refine TC.mix [true, true, true, true, true, true, true, true, true, true, false, true, true, false, false, false, false, false] ((b2, Obj.cells (rs.getD ((takenN (N : Int) rs).getD y.1 0) default).cells.toArray 61 (0, 0)) :: arrI z.1 (firstsL (N : Int) rs) :: (gbI z.2 ++ [(b0, Obj.cells #[.int .i64 N, .slice p rs.length cap] 24 (0, 0))])) 6 Tb.mixed rfl (by kernel_rfl) (by kernel_rfl) (by kernel_rfl) (by kernel_rfl) (by repeat (first | exact List.Sublist.slnil | exact List.nil_sublist _ | exact List.Sublist.refl _ | refine List.Sublist.cons_cons _ ?_ | refine List.Sublist.cons _ ?_ | refine List.Sublist.trans ?_ (List.sublist_append_right _ _))) ?_
                refine TB.op (SOK.pure (PV.move rfl) rfl) (by decide) ?_
                refine TB.op (SOK.pure (PV.fieldAddr rfl Tb.fo_61_1) rfl) (by decide) ?_
                refine TB.op (SOK.pure (PV.load rfl Tb.one_3 (by repeat (first | exact List.Mem.head _ | refine List.Mem.tail _ ?_ | refine List.mem_append_right _ ?_)) rfl) rfl) (by decide) ?_
                refine TB.op (SOK.pure (PV.move rfl) rfl) (by decide) ?_
                refine TB.op (SOK.pure (PV.fieldAddr rfl Tb.fo_61_1) rfl) (by decide) ?_
                refine TB.op (SOK.pure (PV.load rfl Tb.one_3 (by repeat (first | exact List.Mem.head _ | refine List.Mem.tail _ ?_ | refine List.mem_append_right _ ?_)) rfl) rfl) (by decide) ?_
                refine TB.op (SOK.pure (PV.move rfl) rfl) (by decide) ?_
                refine TB.op (SOK.pure (PV.fieldAddr rfl Tb.fo_61_0) rfl) (by decide) ?_
                refine TB.op (SOK.pure (PV.load rfl Tb.one_3 (by repeat (first | exact List.Mem.head _ | refine List.Mem.tail _ ?_ | refine List.mem_append_right _ ?_)) rfl) rfl) (by decide) ?_
                refine TB.op (SOK.pure (PV.index1 rfl rfl Tb.elm_31 (Int.toNat_of_nonneg (by omega)).symm (by omega)) rfl) (by decide) ?_
                refine TB.no ?_
                refine TB.op (SOK.pure (PV.fieldAddr rfl Tb.fo_61_2) rfl) (by decide) ?_
                refine TB.op (SOK.pure (PV.load rfl Tb.one_3 (by repeat (first | exact List.Mem.head _ | refine List.Mem.tail _ ?_ | refine List.mem_append_right _ ?_)) rfl) rfl) (by decide) ?_
                refine TB.no ?_
                refine TB.no ?_
                refine TB.no ?_
                refine TB.no ?_
                refine TB.no ?_
                refine TB.fin ?_
                refine TX.step [10] (by kernel_rfl) (by decide) ⟨⟨_, rfl, ?_⟩, trivial⟩
                refine TL.pure (PV.loadI rfl Tb.one_3 (by repeat (first | exact List.Mem.head _ | refine List.Mem.tail _ ?_ | refine List.mem_append_right _ ?_)) (by omega)) rfl (by decide) ?_
                refine TL.nil ?_
                refine TX.next (.inl (by repeat (first | exact List.Sublist.slnil | exact List.nil_sublist _ | exact List.Sublist.refl _ | refine List.Sublist.cons_cons _ ?_ | refine List.Sublist.cons _ ?_ | refine List.Sublist.trans ?_ (List.sublist_append_right _ _)))) ?_
                refine TX.step [13] (by kernel_rfl) (by decide) ⟨⟨_, rfl, ?_⟩, trivial⟩
                refine TL.pure (PV.add rfl rfl (by omega)) rfl (by decide) ?_
                refine TL.nil ?_
                refine TX.next (.inl (by repeat (first | exact List.Sublist.slnil | exact List.nil_sublist _ | exact List.Sublist.refl _ | refine List.Sublist.cons_cons _ ?_ | refine List.Sublist.cons _ ?_ | refine List.Sublist.trans ?_ (List.sublist_append_right _ _)))) ?_
                refine TX.step [14] (by kernel_rfl) (by decide) ⟨⟨_, rfl, ?_⟩, trivial⟩
                refine TL.pure (PV.index1 rfl rfl Tb.elm_31 (Int.toNat_of_nonneg (by omega)).symm (by omega)) rfl (by decide) ?_
                refine TL.nil ?_
                refine TX.next (.inl (by repeat (first | exact List.Sublist.slnil | exact List.nil_sublist _ | exact List.Sublist.refl _ | refine List.Sublist.cons_cons _ ?_ | refine List.Sublist.cons _ ?_ | refine List.Sublist.trans ?_ (List.sublist_append_right _ _)))) ?_
                refine TX.step [15] (by kernel_rfl) (by decide) ⟨⟨_, rfl, ?_⟩, trivial⟩
                refine TL.storeI rfl rfl Tb.cells_3 (by repeat (first | exact Upd.head _ | apply Upd.tail | apply Upd.appR)) (by omega) rfl rfl ?_
                rw [hsL_set (by omega) (by rw [Int.toNat_of_nonneg (by omega)]; omega)]
                refine TL.nil ?_
                refine TX.next (.inl (by repeat (first | exact List.Sublist.slnil | exact List.nil_sublist _ | exact List.Sublist.refl _ | refine List.Sublist.cons_cons _ ?_ | refine List.Sublist.cons _ ?_ | refine List.Sublist.trans ?_ (List.sublist_append_right _ _)))) ?_
                refine TX.step [16] (by kernel_rfl) (by decide) ⟨⟨_, rfl, ?_⟩, trivial⟩
                refine TL.pure (PV.index1 rfl rfl Tb.elm_101 (Int.toNat_of_nonneg (by omega)).symm (by omega)) rfl (by decide) ?_
                refine TL.nil ?_
                refine TX.next (.inr (by kernel_rfl)) ?_
                refine TX.step [17] (by kernel_rfl) (by decide) ⟨⟨_, rfl, ?_⟩, trivial⟩
                refine TL.storeB rfl rfl Tb.cells_4 (by repeat (first | exact Upd.head _ | apply Upd.tail | apply Upd.appR)) (by omega) rfl rfl ?_
                refine TL.nil ?_
                refine TX.next (.inr (by kernel_rfl)) ?_
                refine TX.done (by kernel_rfl) ?_
                refine TQ.thenN ?_
                refine TQ.midK _ (by repeat (first | exact True.intro | refine And.intro rfl ?_)) (by repeat (first | exact True.intro | refine And.intro rfl ?_)) (by repeat (first | exact List.Sublist.slnil | exact List.nil_sublist _ | exact List.Sublist.refl _ | refine List.Sublist.cons_cons _ ?_ | refine List.Sublist.cons _ ?_ | refine List.Sublist.trans ?_ (List.sublist_append_right _ _))) (by first | exact (if_pos ⟨hA, by simpa using hC⟩).symm | exact (if_neg (fun hh => absurd (hA.symm.trans hh.1) (by decide))).symm | exact (if_neg (fun hh => absurd hC (by rw [hh.2]; decide))).symm)
              · skip
                refine TC.skip ?_
                refine TQ.thenN ?_
                refine TQ.midK _ (by repeat (first | exact True.intro | refine And.intro rfl ?_)) (by repeat (first | exact True.intro | refine And.intro rfl ?_)) (by repeat (first | exact List.Sublist.slnil | exact List.nil_sublist _ | exact List.Sublist.refl _ | refine List.Sublist.cons_cons _ ?_ | refine List.Sublist.cons _ ?_ | refine List.Sublist.trans ?_ (List.sublist_append_right _ _))) (by first | exact (if_pos ⟨hA, by simpa using hC⟩).symm | exact (if_neg (fun hh => absurd (hA.symm.trans hh.1) (by decide))).symm | exact (if_neg (fun hh => absurd hC (by rw [hh.2]; decide))).symm)
            · skip
              refine TL.skip rfl (fun k hk => by cases hk; decide) ?_
              refine TL.skip rfl (fun k hk => by cases hk; decide) ?_
              refine TL.skip rfl (fun k hk => by cases hk; decide) ?_
              refine TL.skip rfl (fun k hk => by cases hk; decide) ?_
              refine TL.skip rfl (fun k hk => by cases hk; decide) ?_
              refine TL.skip rfl (fun k hk => by cases hk; decide) ?_
              refine TL.pure (PV.pickF rfl rfl) rfl (by decide) ?_
              refine TL.nil ?_
              refine TQ.thenC ?_
              refine TC.condF rfl ?_
              refine TC.skip ?_
              refine TQ.thenN ?_
              refine TQ.midK _ (by repeat (first | exact True.intro | refine And.intro rfl ?_)) (by repeat (first | exact True.intro | refine And.intro rfl ?_)) (by repeat (first | exact List.Sublist.slnil | exact List.nil_sublist _ | exact List.Sublist.refl _ | refine List.Sublist.cons_cons _ ?_ | refine List.Sublist.cons _ ?_ | refine List.Sublist.trans ?_ (List.sublist_append_right _ _))) (by first | exact (if_pos ⟨hA, by simpa using hC⟩).symm | exact (if_neg (fun hh => absurd (hA.symm.trans hh.1) (by decide))).symm | exact (if_neg (fun hh => absurd hC (by rw [hh.2]; decide))).symm)
          · skip
            intro m hm
            have hml : m.length = N := by rw [hm, first1_len, hyl]
            have hhm : (hsL G m).length = N := by rw [hsL_len, hml]
            refine TC.seq ?_
            refine TC.region ?_
            refine TL.pure (PV.move rfl) rfl (by decide) ?_
            refine TL.pure (PV.fieldAddr rfl Tb.fo_61_1) rfl (by decide) ?_
            refine TL.pure (PV.load rfl Tb.one_3 (by repeat (first | exact List.Mem.head _ | refine List.Mem.tail _ ?_ | refine List.mem_append_right _ ?_)) rfl) rfl (by decide) ?_
            refine TL.pure (PV.index1 rfl rfl Tb.elm_101 (Int.toNat_of_nonneg (by omega)).symm (by omega)) rfl (by decide) ?_
            refine TL.pure (PV.loadB rfl Tb.one_4 (by repeat (first | exact List.Mem.head _ | refine List.Mem.tail _ ?_ | refine List.mem_append_right _ ?_)) (by omega)) rfl (by decide) ?_
            refine TL.pure (PV.move rfl) rfl (by decide) ?_
            first | refine TL.splitD 90 rfl (fun hE => ?_) (fun hE => ?_) | refine TL.split 90 rfl (fun hE => ?_) (fun hE => ?_)
            · skip
              refine TL.pure (PV.move rfl) rfl (by decide) ?_
              refine TL.pure (PV.fieldAddr rfl Tb.fo_61_0) rfl (by decide) ?_
              refine TL.pure (PV.load rfl Tb.one_3 (by repeat (first | exact List.Mem.head _ | refine List.Mem.tail _ ?_ | refine List.mem_append_right _ ?_)) rfl) rfl (by decide) ?_
              refine TL.pure (PV.index1 rfl rfl Tb.elm_101 (Int.toNat_of_nonneg (by omega)).symm (by omega)) rfl (by decide) ?_
              refine TL.pure (PV.loadB rfl Tb.one_4 (by repeat (first | exact List.Mem.head _ | refine List.Mem.tail _ ?_ | refine List.mem_append_right _ ?_)) (by omega)) rfl (by decide) ?_
              refine TL.pure ((by first | exact PV.notD rfl | exact PV.not rfl)) rfl (by decide) ?_
              refine TL.pure (PV.pickT rfl rfl) rfl (by decide) ?_
              refine TL.nil ?_
              refine TQ.thenC ?_
              first | refine TC.condD rfl (fun hF1 => ?_) (fun hF1 => ?_) | refine TC.cond rfl (fun hF1 => ?_) (fun hF1 => ?_)
              · skip
                have hgv := hs_at (G := G) hvk.2.1.1 (by omega) hE
                refine TC.mix [true, true, true, true, true, true, true, true, true, true, false, true, true, false, false, false, false, false] ((b2, Obj.cells (rs.getD ((takenN (N : Int) rs).getD y.1 0) default).cells.toArray 61 (0, 0)) :: arrI z.1 (firstsL (N : Int) rs) :: (gbI z.2 ++ [(b0, Obj.cells #[.int .i64 N, .slice p rs.length cap] 24 (0, 0))])) 6 Tb.mixed rfl (by kernel_rfl) (by kernel_rfl) (by kernel_rfl) (by kernel_rfl) (by repeat (first | exact List.Sublist.slnil | exact List.nil_sublist _ | exact List.Sublist.refl _ | refine List.Sublist.cons_cons _ ?_ | refine List.Sublist.cons _ ?_ | refine List.Sublist.trans ?_ (List.sublist_append_right _ _))) ?_
                refine TB.op (SOK.pure (PV.move rfl) rfl) (by decide) ?_
                refine TB.op (SOK.pure (PV.fieldAddr rfl Tb.fo_61_0) rfl) (by decide) ?_
                refine TB.op (SOK.pure (PV.load rfl Tb.one_3 (by repeat (first | exact List.Mem.head _ | refine List.Mem.tail _ ?_ | refine List.mem_append_right _ ?_)) rfl) rfl) (by decide) ?_
                refine TB.op (SOK.pure (PV.move rfl) rfl) (by decide) ?_
                refine TB.op (SOK.pure (PV.fieldAddr rfl Tb.fo_61_0) rfl) (by decide) ?_
                refine TB.op (SOK.pure (PV.load rfl Tb.one_3 (by repeat (first | exact List.Mem.head _ | refine List.Mem.tail _ ?_ | refine List.mem_append_right _ ?_)) rfl) rfl) (by decide) ?_
                refine TB.op (SOK.pure (PV.move rfl) rfl) (by decide) ?_
                refine TB.op (SOK.pure (PV.fieldAddr rfl Tb.fo_61_1) rfl) (by decide) ?_
                refine TB.op (SOK.pure (PV.load rfl Tb.one_3 (by repeat (first | exact List.Mem.head _ | refine List.Mem.tail _ ?_ | refine List.mem_append_right _ ?_)) rfl) rfl) (by decide) ?_
                refine TB.op (SOK.pure (PV.index1 rfl rfl Tb.elm_31 (Int.toNat_of_nonneg (by omega)).symm (by omega)) rfl) (by decide) ?_
                refine TB.no ?_
                refine TB.op (SOK.pure (PV.fieldAddr rfl Tb.fo_61_2) rfl) (by decide) ?_
                refine TB.op (SOK.pure (PV.load rfl Tb.one_3 (by repeat (first | exact List.Mem.head _ | refine List.Mem.tail _ ?_ | refine List.mem_append_right _ ?_)) rfl) rfl) (by decide) ?_
                refine TB.no ?_
                refine TB.no ?_
                refine TB.no ?_
                refine TB.no ?_
                refine TB.no ?_
                refine TB.fin ?_
                refine TX.step [10] (by kernel_rfl) (by decide) ⟨⟨_, rfl, ?_⟩, trivial⟩
                refine TL.pure (PV.loadI rfl Tb.one_3 (by repeat (first | exact List.Mem.head _ | refine List.Mem.tail _ ?_ | refine List.mem_append_right _ ?_)) (by omega)) rfl (by decide) ?_
                refine TL.nil ?_
                refine TX.next (.inl (by repeat (first | exact List.Sublist.slnil | exact List.nil_sublist _ | exact List.Sublist.refl _ | refine List.Sublist.cons_cons _ ?_ | refine List.Sublist.cons _ ?_ | refine List.Sublist.trans ?_ (List.sublist_append_right _ _)))) ?_
                refine TX.step [13] (by kernel_rfl) (by decide) ⟨⟨_, rfl, ?_⟩, trivial⟩
                refine TL.pure (PV.sub rfl rfl (by omega)) rfl (by decide) ?_
                refine TL.nil ?_
                refine TX.next (.inl (by repeat (first | exact List.Sublist.slnil | exact List.nil_sublist _ | exact List.Sublist.refl _ | refine List.Sublist.cons_cons _ ?_ | refine List.Sublist.cons _ ?_ | refine List.Sublist.trans ?_ (List.sublist_append_right _ _)))) ?_
                refine TX.step [14] (by kernel_rfl) (by decide) ⟨⟨_, rfl, ?_⟩, trivial⟩
                refine TL.pure (PV.index1 rfl rfl Tb.elm_31 (Int.toNat_of_nonneg (by omega)).symm (by omega)) rfl (by decide) ?_
                refine TL.nil ?_
                refine TX.next (.inl (by repeat (first | exact List.Sublist.slnil | exact List.nil_sublist _ | exact List.Sublist.refl _ | refine List.Sublist.cons_cons _ ?_ | refine List.Sublist.cons _ ?_ | refine List.Sublist.trans ?_ (List.sublist_append_right _ _)))) ?_
                refine TX.step [15] (by kernel_rfl) (by decide) ⟨⟨_, rfl, ?_⟩, trivial⟩
                refine TL.storeI rfl rfl Tb.cells_3 (by repeat (first | exact Upd.head _ | apply Upd.tail | apply Upd.appR)) (by omega) rfl rfl ?_
                rw [hsL_set (by omega) (by rw [Int.toNat_of_nonneg (by omega)]; omega)]
                refine TL.nil ?_
                refine TX.next (.inl (by repeat (first | exact List.Sublist.slnil | exact List.nil_sublist _ | exact List.Sublist.refl _ | refine List.Sublist.cons_cons _ ?_ | refine List.Sublist.cons _ ?_ | refine List.Sublist.trans ?_ (List.sublist_append_right _ _)))) ?_
                refine TX.step [16] (by kernel_rfl) (by decide) ⟨⟨_, rfl, ?_⟩, trivial⟩
                refine TL.pure (PV.index1 rfl rfl Tb.elm_101 (Int.toNat_of_nonneg (by omega)).symm (by omega)) rfl (by decide) ?_
                refine TL.nil ?_
                refine TX.next (.inr (by kernel_rfl)) ?_
                refine TX.step [17] (by kernel_rfl) (by decide) ⟨⟨_, rfl, ?_⟩, trivial⟩
                refine TL.storeB rfl rfl Tb.cells_4 (by repeat (first | exact Upd.head _ | apply Upd.tail | apply Upd.appR)) (by omega) rfl rfl ?_
                refine TL.nil ?_
                refine TX.next (.inr (by kernel_rfl)) ?_
                refine TX.done (by kernel_rfl) ?_
                refine TQ.blkN ?_
                refine TQ.thenC ?_
                refine TC.region ?_
                refine TL.pure (PV.move rfl) rfl (by decide) ?_
                refine TL.pure (PV.add rfl rfl (by omega)) rfl (by decide) ?_
                refine TL.pure (PV.assign rfl) rfl (by decide) ?_
                refine TL.nil ?_
                refine TQ.thenN ?_
                refine TQ.backK (y.1 + 1, _) (by repeat (first | exact True.intro | refine And.intro rfl ?_)) (by repeat (first | exact True.intro | refine And.intro rfl ?_)) (List.Sublist.cons _ (List.Sublist.refl _)) ⟨by simp only; omega, stepR (by omega) hy.2 hm (by omega) (by omega) (by omega) (by first | exact (if_pos ⟨hE, by simpa using hF1⟩).symm | exact (if_neg (fun hh => absurd (hE.symm.trans hh.1) (by decide))).symm | exact (if_neg (fun hh => absurd hF1 (by rw [hh.2]; decide))).symm)⟩ (by simp only; omega)
              · skip
                refine TC.skip ?_
                refine TQ.blkN ?_
                refine TQ.thenC ?_
                refine TC.region ?_
                refine TL.pure (PV.move rfl) rfl (by decide) ?_
                refine TL.pure (PV.add rfl rfl (by omega)) rfl (by decide) ?_
                refine TL.pure (PV.assign rfl) rfl (by decide) ?_
                refine TL.nil ?_
                refine TQ.thenN ?_
                refine TQ.backK (y.1 + 1, _) (by repeat (first | exact True.intro | refine And.intro rfl ?_)) (by repeat (first | exact True.intro | refine And.intro rfl ?_)) (List.Sublist.cons _ (List.Sublist.refl _)) ⟨by simp only; omega, stepR (by omega) hy.2 hm (by omega) (by omega) (by omega) (by first | exact (if_pos ⟨hE, by simpa using hF1⟩).symm | exact (if_neg (fun hh => absurd (hE.symm.trans hh.1) (by decide))).symm | exact (if_neg (fun hh => absurd hF1 (by rw [hh.2]; decide))).symm)⟩ (by simp only; omega)
            · skip
              refine TL.skip rfl (fun k hk => by cases hk; decide) ?_
              refine TL.skip rfl (fun k hk => by cases hk; decide) ?_
              refine TL.skip rfl (fun k hk => by cases hk; decide) ?_
              refine TL.skip rfl (fun k hk => by cases hk; decide) ?_
              refine TL.skip rfl (fun k hk => by cases hk; decide) ?_
              refine TL.skip rfl (fun k hk => by cases hk; decide) ?_
              refine TL.pure (PV.pickF rfl rfl) rfl (by decide) ?_
              refine TL.nil ?_
              refine TQ.thenC ?_
              refine TC.condF rfl ?_
              refine TC.skip ?_
              refine TQ.blkN ?_
              refine TQ.thenC ?_
              refine TC.region ?_
              refine TL.pure (PV.move rfl) rfl (by decide) ?_
              refine TL.pure (PV.add rfl rfl (by omega)) rfl (by decide) ?_
              refine TL.pure (PV.assign rfl) rfl (by decide) ?_
              refine TL.nil ?_
              refine TQ.thenN ?_
              refine TQ.backK (y.1 + 1, _) (by repeat (first | exact True.intro | refine And.intro rfl ?_)) (by repeat (first | exact True.intro | refine And.intro rfl ?_)) (List.Sublist.cons _ (List.Sublist.refl _)) ⟨by simp only; omega, stepR (by omega) hy.2 hm (by omega) (by omega) (by omega) (by first | exact (if_pos ⟨hE, by simpa using hF1⟩).symm | exact (if_neg (fun hh => absurd (hE.symm.trans hh.1) (by decide))).symm | exact (if_neg (fun hh => absurd hF1 (by rw [hh.2]; decide))).symm)⟩ (by simp only; omega)
        · skip
          refine TC.exit ?_
          refine TQ.thenE ?_
          refine TQ.thenE ?_
          refine TQ.blkS ?_
          refine TQ.blkN ?_
          refine TQ.thenC ?_
          refine TC.region ?_
          refine TL.pure (PV.move rfl) rfl (by decide) ?_
          refine TL.pure (PV.add rfl rfl (by omega)) rfl (by decide) ?_
          refine TL.pure (PV.assign rfl) rfl (by decide) ?_
          refine TL.nil ?_
          refine TQ.thenN ?_
          refine TQ.backK (x.1 + 1, _) (by repeat (first | exact True.intro | refine And.intro rfl ?_)) (by repeat (first | exact True.intro | refine And.intro rfl ?_)) (List.Sublist.refl _) ⟨by simp only; omega, hy.2.trans (by rw [show y.1 = (takenN (N : Int) rs).length by omega, hx.2]; rfl)⟩ (by simp only; omega)
      · skip
        refine TC.exit ?_
        refine TQ.thenE ?_
        refine TQ.thenE ?_
        refine TQ.blkS ?_
        refine TQ.thenC ?_
        refine TC.seq ?_
        refine TC.region ?_
        refine TL.pure (PV.move rfl) rfl (by decide) ?_
        refine TL.pure (PV.assign rfl) rfl (by decide) ?_
        refine TL.nil ?_
        refine TQ.thenC ?_
        refine TC.ret ?_
        refine TQ.retE1 rfl rfl ?_
        exact ⟨b1, rfl, trivial, by rw [show knEnd (N : Int) rs = x.2 by rw [hx.2, show x.1 = N by omega]; rfl]; exact List.Sublist.cons _ (List.Sublist.cons_cons _ (List.nil_sublist _))⟩

end Go.Proofs.Ytmmgcajegokkoaa
