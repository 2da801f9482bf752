/- The sums of walks by the document: contract. -/
import Derived.Test.YtenalmddoljhoaaWB
set_option linter.unusedVariables false
set_option linter.unusedSimpArgs false
namespace Go.Proofs.Ytenalmddoljhoaa
open Go.Sx Go.RowKit
theorem bval_set (xs : List Bool) (j : Nat) (v : Bool) : (bval xs).toArray.setIfInBounds j (.bool v) = (bval (xs.set j v)).toArray := by simp only [List.setIfInBounds_toArray, bval, List.map_set]
theorem fB_inT (T : Heap) : ∀ (R : List Row), List.Sublist T (fB R T)
  | [] => List.Sublist.refl _
  | r :: R => (fB_inT T R).trans (fB_drop r R T)
theorem made_I (N b : Nat) : gok (some (b, N, [])) N 1 (ival (List.replicate N 0)) := ⟨by simp, by simp, Nat.le_refl _⟩
theorem made_O (N b : Nat) (xs : List Bool) (h : xs.length = N) : gok (some (b, N, [])) N 1 (bval xs) := ⟨by simpa using h, by simp [h], Nat.le_refl _⟩
theorem made_sub {N b1 b2 : Nat} {xs : List Int} {ys : List Bool} {G : Heap} : List.Sublist (gblk (some (b2, N, [])) 4 (bval ys) ++ (gblk (some (b1, N, [])) 3 (ival xs) ++ G)) ((b2, Obj.cells (bval ys).toArray 4 (0, 0)) :: (b1, Obj.cells (intsA xs) 3 (0, 0)) :: G) := by
  simp [gblk, intsA]


set_option maxRecDepth 100000 in
set_option maxHeartbeats 8000000 in
theorem walks_ok (w0 : World) (n : Int) (p : Option Addr) (cap : Nat) (rs : List Bd) (hr : BdsAt w0 p rs) (hv : Valid n rs) (B : Nat) (hB : B ≤ 8) :
    Calls Try.prog 72 #[cv n p rs.length cap, .int .i64 B] w0 (Post (X := Nat × Nat × List Row) (fun x => .tuple #[.slice (some ⟨x.1, 0, none⟩) n.toNat n.toNat, .slice (some ⟨x.2.1, 0, none⟩) n.toNat n.toNat]) (fun x => WR n.toNat rs B n.toNat x.2.2) (fun x => fB x.2.2 [(x.1, Obj.cells (fS n.toNat x.2.2).toArray 25 (0, 0)), (x.2.1, Obj.cells (fK n.toNat x.2.2).toArray 83 (0, 0))]) w0) := by
  have hp := hv.pts
  have hl := hv.len
  obtain ⟨N, rfl⟩ : ∃ N : Nat, n = N := ⟨n.toNat, by omega⟩
  simp only [Int.toNat_natCast]
  refine calls Try.func72 rfl (n := 129) rfl (by simp) ?_
  refine TC.seq ?_
  refine TC.region ?_
  refine TL.box rfl rfl (by decide) (fun b0 hb0 => ?_)
  refine TL.pure (PV.assign rfl) rfl (by decide) ?_
  refine TL.pure (PV.assign rfl) rfl (by decide) ?_
  refine TL.nil ?_
  refine TQ.thenC ?_
  refine TC.seqK [1, 2, 4, 5] (X := Nat × Nat) (fun z => True) (fun z => [(6, .slice (some ⟨z.1, 0, none⟩) N N), (7, .slice (some ⟨z.2, 0, none⟩) N N)]) (fun z => [(z.1, Obj.cells (List.replicate N nilS).toArray 25 (0, 0)), (z.2, Obj.cells (List.replicate N nilS).toArray 83 (0, 0)), (b0, Obj.cells #[.int .i64 N, .slice p rs.length cap] 24 (0, 0))]) ?_ ?_
  · skip
    refine TC.mix [true, true, false, true, true, false, false, false] [(b0, Obj.cells #[.int .i64 N, .slice p rs.length cap] 24 (0, 0))] 4 Tb.mixed rfl (by kernel_rfl) (by kernel_rfl) (by kernel_rfl) (by kernel_rfl) (by repeat (first | exact List.Sublist.slnil | exact List.nil_sublist _ | exact List.Sublist.refl _ | refine List.Sublist.cons_cons _ ?_ | refine List.Sublist.cons _ ?_ | refine List.Sublist.trans ?_ (fB_inT _ _) | refine List.Sublist.trans ?_ (List.sublist_append_right _ _))) ?_
    refine TB.op (SOK.pure (PV.fieldAddr rfl Tb.fo_24_0) rfl) (by decide) ?_
    refine TB.op (SOK.pure (PV.load rfl Tb.one_3 (by repeat (first | exact List.Mem.head _ | refine fB_T ?_ _ | refine List.Mem.tail _ ?_ | refine List.mem_append_right _ ?_)) rfl) rfl) (by decide) ?_
    refine TB.no ?_
    refine TB.op (SOK.pure (PV.fieldAddr rfl Tb.fo_24_0) rfl) (by decide) ?_
    refine TB.op (SOK.pure (PV.load rfl Tb.one_3 (by repeat (first | exact List.Mem.head _ | refine fB_T ?_ _ | refine List.Mem.tail _ ?_ | refine List.mem_append_right _ ?_)) rfl) rfl) (by decide) ?_
    refine TB.no ?_
    refine TB.no ?_
    refine TB.no ?_
    refine TB.fin ?_
    refine TX.step [2, 5] (by kernel_rfl) (by decide) ⟨⟨_, rfl, ?_⟩, ⟨_, rfl, ?_⟩, trivial⟩
    · skip
      refine TL.make rfl rfl Tb.sl_51 Tb.zi_25 rfl (k := N) rfl (by omega) (by omega) rfl (by decide) (fun b1 hb1 => ?_)
      refine TL.nil ?_
      refine TX.next (.inl (by repeat (first | exact List.Sublist.slnil | exact List.nil_sublist _ | exact List.Sublist.refl _ | refine List.Sublist.cons_cons _ ?_ | refine List.Sublist.cons _ ?_ | refine List.Sublist.trans ?_ (fB_inT _ _) | refine List.Sublist.trans ?_ (List.sublist_append_right _ _)))) ?_
      refine TX.step [5, 6] (by kernel_rfl) (by decide) ⟨⟨_, rfl, ?_⟩, ⟨_, rfl, ?_⟩, trivial⟩
      · skip
        refine TL.make rfl rfl Tb.sl_80 Tb.zi_83 rfl (k := N) rfl (by omega) (by omega) rfl (by decide) (fun b2 hb2 => ?_)
        refine TL.nil ?_
        refine TX.next (.inl (by repeat (first | exact List.Sublist.slnil | exact List.nil_sublist _ | exact List.Sublist.refl _ | refine List.Sublist.cons_cons _ ?_ | refine List.Sublist.cons _ ?_ | refine List.Sublist.trans ?_ (fB_inT _ _) | refine List.Sublist.trans ?_ (List.sublist_append_right _ _)))) ?_
        refine TX.step [6] (by kernel_rfl) (by decide) ⟨⟨_, rfl, ?_⟩, trivial⟩
        refine TL.pure (PV.assign rfl) rfl (by decide) ?_
        refine TL.nil ?_
        refine TX.next (.inl (by repeat (first | exact List.Sublist.slnil | exact List.nil_sublist _ | exact List.Sublist.refl _ | refine List.Sublist.cons_cons _ ?_ | refine List.Sublist.cons _ ?_ | refine List.Sublist.trans ?_ (fB_inT _ _) | refine List.Sublist.trans ?_ (List.sublist_append_right _ _)))) ?_
        refine TX.step [7] (by kernel_rfl) (by decide) ⟨⟨_, rfl, ?_⟩, trivial⟩
        refine TL.pure (PV.assign rfl) rfl (by decide) ?_
        refine TL.nil ?_
        refine TX.next (.inr (by kernel_rfl)) ?_
        refine TX.done (by kernel_rfl) ?_
        refine TQ.thenN ?_
        first | (refine TQ.midK (_, _) (by repeat (first | exact True.intro | refine And.intro rfl ?_)) (by repeat (first | exact True.intro | refine And.intro rfl ?_)) ?_ trivial; (repeat (first | exact List.Sublist.slnil | exact List.nil_sublist _ | exact List.Sublist.refl _ | refine List.Sublist.cons_cons _ ?_ | refine List.Sublist.cons _ ?_ | refine List.Sublist.trans ?_ (List.sublist_append_right _ _))); done) | (refine TQ.perm (G' := _ :: _ :: _) (List.Perm.swap _ _ _) ?_; refine TQ.midK (_, _) (by repeat (first | exact True.intro | refine And.intro rfl ?_)) (by repeat (first | exact True.intro | refine And.intro rfl ?_)) ?_ trivial; (repeat (first | exact List.Sublist.slnil | exact List.nil_sublist _ | exact List.Sublist.refl _ | refine List.Sublist.cons_cons _ ?_ | refine List.Sublist.cons _ ?_ | refine List.Sublist.trans ?_ (List.sublist_append_right _ _))); done)
      · skip
        refine TL.pure (PV.assign rfl) rfl (by decide) ?_
        refine TL.nil ?_
        refine TX.next (.inl (by repeat (first | exact List.Sublist.slnil | exact List.nil_sublist _ | exact List.Sublist.refl _ | refine List.Sublist.cons_cons _ ?_ | refine List.Sublist.cons _ ?_ | refine List.Sublist.trans ?_ (fB_inT _ _) | refine List.Sublist.trans ?_ (List.sublist_append_right _ _)))) ?_
        refine TX.step [5] (by kernel_rfl) (by decide) ⟨⟨_, rfl, ?_⟩, trivial⟩
        refine TL.make rfl rfl Tb.sl_80 Tb.zi_83 rfl (k := N) rfl (by omega) (by omega) rfl (by decide) (fun b3 hb3 => ?_)
        refine TL.nil ?_
        refine TX.next (.inl (by repeat (first | exact List.Sublist.slnil | exact List.nil_sublist _ | exact List.Sublist.refl _ | refine List.Sublist.cons_cons _ ?_ | refine List.Sublist.cons _ ?_ | refine List.Sublist.trans ?_ (fB_inT _ _) | refine List.Sublist.trans ?_ (List.sublist_append_right _ _)))) ?_
        refine TX.step [7] (by kernel_rfl) (by decide) ⟨⟨_, rfl, ?_⟩, trivial⟩
        refine TL.pure (PV.assign rfl) rfl (by decide) ?_
        refine TL.nil ?_
        refine TX.next (.inr (by kernel_rfl)) ?_
        refine TX.done (by kernel_rfl) ?_
        refine TQ.thenN ?_
        first | (refine TQ.midK (_, _) (by repeat (first | exact True.intro | refine And.intro rfl ?_)) (by repeat (first | exact True.intro | refine And.intro rfl ?_)) ?_ trivial; (repeat (first | exact List.Sublist.slnil | exact List.nil_sublist _ | exact List.Sublist.refl _ | refine List.Sublist.cons_cons _ ?_ | refine List.Sublist.cons _ ?_ | refine List.Sublist.trans ?_ (List.sublist_append_right _ _))); done) | (refine TQ.perm (G' := _ :: _ :: _) (List.Perm.swap _ _ _) ?_; refine TQ.midK (_, _) (by repeat (first | exact True.intro | refine And.intro rfl ?_)) (by repeat (first | exact True.intro | refine And.intro rfl ?_)) ?_ trivial; (repeat (first | exact List.Sublist.slnil | exact List.nil_sublist _ | exact List.Sublist.refl _ | refine List.Sublist.cons_cons _ ?_ | refine List.Sublist.cons _ ?_ | refine List.Sublist.trans ?_ (List.sublist_append_right _ _))); done)
    · skip
      refine TL.make rfl rfl Tb.sl_80 Tb.zi_83 rfl (k := N) rfl (by omega) (by omega) rfl (by decide) (fun b4 hb4 => ?_)
      refine TL.nil ?_
      refine TX.next (.inl (by repeat (first | exact List.Sublist.slnil | exact List.nil_sublist _ | exact List.Sublist.refl _ | refine List.Sublist.cons_cons _ ?_ | refine List.Sublist.cons _ ?_ | refine List.Sublist.trans ?_ (fB_inT _ _) | refine List.Sublist.trans ?_ (List.sublist_append_right _ _)))) ?_
      refine TX.step [2] (by kernel_rfl) (by decide) ⟨⟨_, rfl, ?_⟩, trivial⟩
      refine TL.make rfl rfl Tb.sl_51 Tb.zi_25 rfl (k := N) rfl (by omega) (by omega) rfl (by decide) (fun b5 hb5 => ?_)
      refine TL.nil ?_
      refine TX.next (.inl (by repeat (first | exact List.Sublist.slnil | exact List.nil_sublist _ | exact List.Sublist.refl _ | refine List.Sublist.cons_cons _ ?_ | refine List.Sublist.cons _ ?_ | refine List.Sublist.trans ?_ (fB_inT _ _) | refine List.Sublist.trans ?_ (List.sublist_append_right _ _)))) ?_
      refine TX.step [6] (by kernel_rfl) (by decide) ⟨⟨_, rfl, ?_⟩, trivial⟩
      refine TL.pure (PV.assign rfl) rfl (by decide) ?_
      refine TL.nil ?_
      refine TX.next (.inl (by repeat (first | exact List.Sublist.slnil | exact List.nil_sublist _ | exact List.Sublist.refl _ | refine List.Sublist.cons_cons _ ?_ | refine List.Sublist.cons _ ?_ | refine List.Sublist.trans ?_ (fB_inT _ _) | refine List.Sublist.trans ?_ (List.sublist_append_right _ _)))) ?_
      refine TX.step [7] (by kernel_rfl) (by decide) ⟨⟨_, rfl, ?_⟩, trivial⟩
      refine TL.pure (PV.assign rfl) rfl (by decide) ?_
      refine TL.nil ?_
      refine TX.next (.inr (by kernel_rfl)) ?_
      refine TX.done (by kernel_rfl) ?_
      refine TQ.thenN ?_
      first | (refine TQ.midK (_, _) (by repeat (first | exact True.intro | refine And.intro rfl ?_)) (by repeat (first | exact True.intro | refine And.intro rfl ?_)) ?_ trivial; (repeat (first | exact List.Sublist.slnil | exact List.nil_sublist _ | exact List.Sublist.refl _ | refine List.Sublist.cons_cons _ ?_ | refine List.Sublist.cons _ ?_ | refine List.Sublist.trans ?_ (List.sublist_append_right _ _))); done) | (refine TQ.perm (G' := _ :: _ :: _) (List.Perm.swap _ _ _) ?_; refine TQ.midK (_, _) (by repeat (first | exact True.intro | refine And.intro rfl ?_)) (by repeat (first | exact True.intro | refine And.intro rfl ?_)) ?_ trivial; (repeat (first | exact List.Sublist.slnil | exact List.nil_sublist _ | exact List.Sublist.refl _ | refine List.Sublist.cons_cons _ ?_ | refine List.Sublist.cons _ ?_ | refine List.Sublist.trans ?_ (List.sublist_append_right _ _))); done)
  · skip
    intro z _
    refine TC.seq ?_
    refine TC.seq ?_
    refine TC.lit [(1, _), (2, _), (4, _), (5, _), (6, _), (7, _)] (by repeat (first | exact True.intro | refine And.intro rfl ?_)) ?_
    refine TC.region ?_
    refine TL.pure (PV.assign rfl) rfl (by decide) ?_
    refine TL.nil ?_
    refine TQ.thenC ?_
    refine TC.block ?_
    refine TC.loopK [1, 2, 4, 5, 6, 7] (X := Nat × List Row) (fun v => v.1 ≤ N ∧ WR N rs B v.1 v.2) (fun v => [(8, .int .i64 v.1)]) (fun v => fB v.2 [(z.1, Obj.cells (ouS (fS N v.2) (N - v.1)) 25 (0, 0)), (z.2, Obj.cells (ouS (fK N v.2) (N - v.1)) 83 (0, 0)), (b0, Obj.cells #[.int .i64 N, .slice p rs.length cap] 24 (0, 0))]) (fun v => N - v.1) (0, []) ⟨Nat.zero_le _, WR.zero N rs B⟩ (by repeat (first | exact True.intro | refine And.intro rfl ?_)) (List.Sublist.refl _) ?_
    intro v hv2
    have hvl := hv2.2.len
    have hSv : (fS N v.2).length = v.1 := (fS_len N v.2).trans hvl
    have hKv : (fK N v.2).length = v.1 := (fK_len N v.2).trans hvl
    refine TC.seq ?_
    refine TC.seq ?_
    refine TC.lit [(1, _), (2, _), (4, _), (5, _), (6, _), (7, _), (8, _)] (by repeat (first | exact True.intro | refine And.intro rfl ?_)) ?_
    refine TC.region ?_
    refine TL.pure (PV.move rfl) rfl (by decide) ?_
    refine TL.pure (PV.fieldAddr rfl Tb.fo_24_0) rfl (by decide) ?_
    refine TL.pure (PV.load rfl Tb.one_3 (by repeat (first | exact List.Mem.head _ | refine fB_T ?_ _ | refine List.Mem.tail _ ?_ | refine List.mem_append_right _ ?_)) rfl) rfl (by decide) ?_
    refine TL.pure (PV.lss rfl rfl) rfl (by decide) ?_
    refine TL.nil ?_
    refine TQ.thenC ?_
    first | refine TC.condD rfl (fun hltA => ?_) (fun hltA => ?_) | refine TC.cond rfl (fun hltA => ?_) (fun hltA => ?_)
    · skip
      refine TC.skip ?_
      refine TQ.thenC ?_
      refine TC.seq ?_
      refine TC.block ?_
      refine TC.seqK [1, 2, 4, 5, 6, 7, 8] (X := Nat × Nat) (fun c => True) (fun c => []) (fun c => (c.2, Obj.cells (bval (List.replicate N false)).toArray 4 (0, 0)) :: (c.1, Obj.cells (intsA (List.replicate N 0)) 3 (0, 0)) :: fB v.2 [(z.1, Obj.cells (ouT (fS N v.2) (.slice (some ⟨c.1, 0, none⟩) N N) (N - (v.1 + 1))) 25 (0, 0)), (z.2, Obj.cells (ouT (fK N v.2) (.slice (some ⟨c.2, 0, none⟩) N N) (N - (v.1 + 1))) 83 (0, 0)), (b0, Obj.cells #[.int .i64 N, .slice p rs.length cap] 24 (0, 0))]) ?_ ?_
      · skip
        refine TC.lit [(1, _), (2, _), (4, _), (5, _), (6, _), (7, _), (8, _)] (by repeat (first | exact True.intro | refine And.intro rfl ?_)) ?_
        have hvl := hv2.2.len
        have hSl := fS_len N v.2
        have hKl := fK_len N v.2
        refine TC.mix [true, true, true, true, true, true, false, true, true, false, false, false, false, false] [(b0, Obj.cells #[.int .i64 N, .slice p rs.length cap] 24 (0, 0))] 6 Tb.mixed rfl (by kernel_rfl) (by kernel_rfl) (by kernel_rfl) (by kernel_rfl) (by repeat (first | exact List.Sublist.slnil | exact List.nil_sublist _ | exact List.Sublist.refl _ | refine List.Sublist.cons_cons _ ?_ | refine List.Sublist.cons _ ?_ | refine List.Sublist.trans ?_ (fB_inT _ _) | refine List.Sublist.trans ?_ (List.sublist_append_right _ _))) ?_
        refine TB.op (SOK.pure (PV.move rfl) rfl) (by decide) ?_
        refine TB.op (SOK.pure (PV.move rfl) rfl) (by decide) ?_
        refine TB.op (SOK.pure (PV.move rfl) rfl) (by decide) ?_
        refine TB.op (SOK.pure (PV.move rfl) rfl) (by decide) ?_
        refine TB.op (SOK.pure (PV.fieldAddr rfl Tb.fo_24_0) rfl) (by decide) ?_
        refine TB.op (SOK.pure (PV.load rfl Tb.one_3 (by repeat (first | exact List.Mem.head _ | refine fB_T ?_ _ | refine List.Mem.tail _ ?_ | refine List.mem_append_right _ ?_)) rfl) rfl) (by decide) ?_
        refine TB.no ?_
        refine TB.op (SOK.pure (PV.fieldAddr rfl Tb.fo_24_0) rfl) (by decide) ?_
        refine TB.op (SOK.pure (PV.load rfl Tb.one_3 (by repeat (first | exact List.Mem.head _ | refine fB_T ?_ _ | refine List.Mem.tail _ ?_ | refine List.mem_append_right _ ?_)) rfl) rfl) (by decide) ?_
        refine TB.no ?_
        refine TB.no ?_
        refine TB.no ?_
        refine TB.no ?_
        refine TB.no ?_
        refine TB.fin ?_
        refine TX.step [6, 9] (by kernel_rfl) (by decide) ⟨⟨_, rfl, ?_⟩, ⟨_, rfl, ?_⟩, trivial⟩
        · skip
          refine TL.makeI rfl rfl Tb.sl_25 Tb.zi_3 (k := N) rfl (by omega) (by omega) rfl (by decide) (fun b6 hb6 => ?_)
          refine TL.nil ?_
          refine TX.next (.inl (by repeat (first | exact List.Sublist.slnil | exact List.nil_sublist _ | exact List.Sublist.refl _ | refine List.Sublist.cons_cons _ ?_ | refine List.Sublist.cons _ ?_ | refine List.Sublist.trans ?_ (fB_inT _ _) | refine List.Sublist.trans ?_ (List.sublist_append_right _ _)))) ?_
          refine TX.step [9, 10] (by kernel_rfl) (by decide) ⟨⟨_, rfl, ?_⟩, ⟨_, rfl, ?_⟩, trivial⟩
          · skip
            refine TL.makeO (k := N) rfl rfl Tb.sl_83 Tb.zi_4 rfl (by omega) (by omega) rfl (by decide) (fun bO hbO => ?_)
            refine TL.nil ?_
            refine TX.next (.inl (by repeat (first | exact List.Sublist.slnil | exact List.nil_sublist _ | exact List.Sublist.refl _ | refine List.Sublist.cons_cons _ ?_ | refine List.Sublist.cons _ ?_ | refine List.Sublist.trans ?_ (fB_inT _ _) | refine List.Sublist.trans ?_ (List.sublist_append_right _ _)))) ?_
            refine TX.step [10] (by kernel_rfl) (by decide) ⟨⟨_, rfl, ?_⟩, trivial⟩
            refine TL.pure (PV.index1 (j := v.1) rfl rfl Tb.elm_51 rfl (by omega)) rfl (by decide) ?_
            refine TL.nil ?_
            refine TX.next (.inl (by repeat (first | exact List.Sublist.slnil | exact List.nil_sublist _ | exact List.Sublist.refl _ | refine List.Sublist.cons_cons _ ?_ | refine List.Sublist.cons _ ?_ | refine List.Sublist.trans ?_ (fB_inT _ _) | refine List.Sublist.trans ?_ (List.sublist_append_right _ _)))) ?_
            refine TX.step [11] (by kernel_rfl) (by decide) ⟨⟨_, rfl, ?_⟩, trivial⟩
            refine TL.storeV (cs := ouS (fS N v.2) (N - v.1)) rfl rfl Tb.cells_25 rfl (ouS_first hSv (by omega)) (by repeat (first | exact Upd.head _ | exact fB_upd (by repeat (first | exact Upd.head _ | apply Upd.tail)) _ | apply Upd.tail | apply Upd.appR)) (by rw [ouS_size]; omega) rfl rfl ?_
            refine TL.nil ?_
            refine TX.next (.inl (by repeat (first | exact List.Sublist.slnil | exact List.nil_sublist _ | exact List.Sublist.refl _ | refine List.Sublist.cons_cons _ ?_ | refine List.Sublist.cons _ ?_ | refine List.Sublist.trans ?_ (fB_inT _ _) | refine List.Sublist.trans ?_ (List.sublist_append_right _ _)))) ?_
            refine TX.step [12] (by kernel_rfl) (by decide) ⟨⟨_, rfl, ?_⟩, trivial⟩
            refine TL.pure (PV.index1 (j := v.1) rfl rfl Tb.elm_80 rfl (by omega)) rfl (by decide) ?_
            refine TL.nil ?_
            refine TX.next (.inr (by kernel_rfl)) ?_
            refine TX.step [13] (by kernel_rfl) (by decide) ⟨⟨_, rfl, ?_⟩, trivial⟩
            refine TL.storeV (cs := ouS (fK N v.2) (N - v.1)) rfl rfl Tb.cells_83 rfl (ouS_first hKv (by omega)) (by repeat (first | exact Upd.head _ | exact fB_upd (by repeat (first | exact Upd.head _ | apply Upd.tail)) _ | apply Upd.tail | apply Upd.appR)) (by rw [ouS_size]; omega) rfl rfl ?_
            refine TL.nil ?_
            refine TX.next (.inr (by kernel_rfl)) ?_
            refine TX.done (by kernel_rfl) ?_
            refine TQ.thenN ?_
            first | (refine TQ.midK (_, _) (by repeat (first | exact True.intro | refine And.intro rfl ?_)) (by repeat (first | exact True.intro | refine And.intro rfl ?_)) (List.Sublist.refl _) trivial; done) | (refine TQ.perm (G' := _ :: _ :: _) (List.Perm.swap _ _ _) ?_; refine TQ.midK (_, _) (by repeat (first | exact True.intro | refine And.intro rfl ?_)) (by repeat (first | exact True.intro | refine And.intro rfl ?_)) (List.Sublist.refl _) trivial)
          · skip
            refine TL.pure (PV.index1 (j := v.1) rfl rfl Tb.elm_51 rfl (by omega)) rfl (by decide) ?_
            refine TL.nil ?_
            refine TX.next (.inl (by repeat (first | exact List.Sublist.slnil | exact List.nil_sublist _ | exact List.Sublist.refl _ | refine List.Sublist.cons_cons _ ?_ | refine List.Sublist.cons _ ?_ | refine List.Sublist.trans ?_ (fB_inT _ _) | refine List.Sublist.trans ?_ (List.sublist_append_right _ _)))) ?_
            refine TX.step [9, 11] (by kernel_rfl) (by decide) ⟨⟨_, rfl, ?_⟩, ⟨_, rfl, ?_⟩, trivial⟩
            · skip
              refine TL.makeO (k := N) rfl rfl Tb.sl_83 Tb.zi_4 rfl (by omega) (by omega) rfl (by decide) (fun bO hbO => ?_)
              refine TL.nil ?_
              refine TX.next (.inl (by repeat (first | exact List.Sublist.slnil | exact List.nil_sublist _ | exact List.Sublist.refl _ | refine List.Sublist.cons_cons _ ?_ | refine List.Sublist.cons _ ?_ | refine List.Sublist.trans ?_ (fB_inT _ _) | refine List.Sublist.trans ?_ (List.sublist_append_right _ _)))) ?_
              refine TX.step [11] (by kernel_rfl) (by decide) ⟨⟨_, rfl, ?_⟩, trivial⟩
              refine TL.storeV (cs := ouS (fS N v.2) (N - v.1)) rfl rfl Tb.cells_25 rfl (ouS_first hSv (by omega)) (by repeat (first | exact Upd.head _ | exact fB_upd (by repeat (first | exact Upd.head _ | apply Upd.tail)) _ | apply Upd.tail | apply Upd.appR)) (by rw [ouS_size]; omega) rfl rfl ?_
              refine TL.nil ?_
              refine TX.next (.inl (by repeat (first | exact List.Sublist.slnil | exact List.nil_sublist _ | exact List.Sublist.refl _ | refine List.Sublist.cons_cons _ ?_ | refine List.Sublist.cons _ ?_ | refine List.Sublist.trans ?_ (fB_inT _ _) | refine List.Sublist.trans ?_ (List.sublist_append_right _ _)))) ?_
              refine TX.step [12] (by kernel_rfl) (by decide) ⟨⟨_, rfl, ?_⟩, trivial⟩
              refine TL.pure (PV.index1 (j := v.1) rfl rfl Tb.elm_80 rfl (by omega)) rfl (by decide) ?_
              refine TL.nil ?_
              refine TX.next (.inr (by kernel_rfl)) ?_
              refine TX.step [13] (by kernel_rfl) (by decide) ⟨⟨_, rfl, ?_⟩, trivial⟩
              refine TL.storeV (cs := ouS (fK N v.2) (N - v.1)) rfl rfl Tb.cells_83 rfl (ouS_first hKv (by omega)) (by repeat (first | exact Upd.head _ | exact fB_upd (by repeat (first | exact Upd.head _ | apply Upd.tail)) _ | apply Upd.tail | apply Upd.appR)) (by rw [ouS_size]; omega) rfl rfl ?_
              refine TL.nil ?_
              refine TX.next (.inr (by kernel_rfl)) ?_
              refine TX.done (by kernel_rfl) ?_
              refine TQ.thenN ?_
              first | (refine TQ.midK (_, _) (by repeat (first | exact True.intro | refine And.intro rfl ?_)) (by repeat (first | exact True.intro | refine And.intro rfl ?_)) (List.Sublist.refl _) trivial; done) | (refine TQ.perm (G' := _ :: _ :: _) (List.Perm.swap _ _ _) ?_; refine TQ.midK (_, _) (by repeat (first | exact True.intro | refine And.intro rfl ?_)) (by repeat (first | exact True.intro | refine And.intro rfl ?_)) (List.Sublist.refl _) trivial)
            · skip
              refine TL.storeV (cs := ouS (fS N v.2) (N - v.1)) rfl rfl Tb.cells_25 rfl (ouS_first hSv (by omega)) (by repeat (first | exact Upd.head _ | exact fB_upd (by repeat (first | exact Upd.head _ | apply Upd.tail)) _ | apply Upd.tail | apply Upd.appR)) (by rw [ouS_size]; omega) rfl rfl ?_
              refine TL.nil ?_
              refine TX.next (.inl (by repeat (first | exact List.Sublist.slnil | exact List.nil_sublist _ | exact List.Sublist.refl _ | refine List.Sublist.cons_cons _ ?_ | refine List.Sublist.cons _ ?_ | refine List.Sublist.trans ?_ (fB_inT _ _) | refine List.Sublist.trans ?_ (List.sublist_append_right _ _)))) ?_
              refine TX.step [9] (by kernel_rfl) (by decide) ⟨⟨_, rfl, ?_⟩, trivial⟩
              refine TL.makeO (k := N) rfl rfl Tb.sl_83 Tb.zi_4 rfl (by omega) (by omega) rfl (by decide) (fun bO hbO => ?_)
              refine TL.nil ?_
              refine TX.next (.inl (by repeat (first | exact List.Sublist.slnil | exact List.nil_sublist _ | exact List.Sublist.refl _ | refine List.Sublist.cons_cons _ ?_ | refine List.Sublist.cons _ ?_ | refine List.Sublist.trans ?_ (fB_inT _ _) | refine List.Sublist.trans ?_ (List.sublist_append_right _ _)))) ?_
              refine TX.step [12] (by kernel_rfl) (by decide) ⟨⟨_, rfl, ?_⟩, trivial⟩
              refine TL.pure (PV.index1 (j := v.1) rfl rfl Tb.elm_80 rfl (by omega)) rfl (by decide) ?_
              refine TL.nil ?_
              refine TX.next (.inr (by kernel_rfl)) ?_
              refine TX.step [13] (by kernel_rfl) (by decide) ⟨⟨_, rfl, ?_⟩, trivial⟩
              refine TL.storeV (cs := ouS (fK N v.2) (N - v.1)) rfl rfl Tb.cells_83 rfl (ouS_first hKv (by omega)) (by repeat (first | exact Upd.head _ | exact fB_upd (by repeat (first | exact Upd.head _ | apply Upd.tail)) _ | apply Upd.tail | apply Upd.appR)) (by rw [ouS_size]; omega) rfl rfl ?_
              refine TL.nil ?_
              refine TX.next (.inr (by kernel_rfl)) ?_
              refine TX.done (by kernel_rfl) ?_
              refine TQ.thenN ?_
              first | (refine TQ.midK (_, _) (by repeat (first | exact True.intro | refine And.intro rfl ?_)) (by repeat (first | exact True.intro | refine And.intro rfl ?_)) (List.Sublist.refl _) trivial; done) | (refine TQ.perm (G' := _ :: _ :: _) (List.Perm.swap _ _ _) ?_; refine TQ.midK (_, _) (by repeat (first | exact True.intro | refine And.intro rfl ?_)) (by repeat (first | exact True.intro | refine And.intro rfl ?_)) (List.Sublist.refl _) trivial)
        · skip
          refine TL.makeO (k := N) rfl rfl Tb.sl_83 Tb.zi_4 rfl (by omega) (by omega) rfl (by decide) (fun bO hbO => ?_)
          refine TL.nil ?_
          refine TX.next (.inl (by repeat (first | exact List.Sublist.slnil | exact List.nil_sublist _ | exact List.Sublist.refl _ | refine List.Sublist.cons_cons _ ?_ | refine List.Sublist.cons _ ?_ | refine List.Sublist.trans ?_ (fB_inT _ _) | refine List.Sublist.trans ?_ (List.sublist_append_right _ _)))) ?_
          refine TX.step [6] (by kernel_rfl) (by decide) ⟨⟨_, rfl, ?_⟩, trivial⟩
          refine TL.makeI rfl rfl Tb.sl_25 Tb.zi_3 (k := N) rfl (by omega) (by omega) rfl (by decide) (fun b7 hb7 => ?_)
          refine TL.nil ?_
          refine TX.next (.inl (by repeat (first | exact List.Sublist.slnil | exact List.nil_sublist _ | exact List.Sublist.refl _ | refine List.Sublist.cons_cons _ ?_ | refine List.Sublist.cons _ ?_ | refine List.Sublist.trans ?_ (fB_inT _ _) | refine List.Sublist.trans ?_ (List.sublist_append_right _ _)))) ?_
          refine TX.step [10] (by kernel_rfl) (by decide) ⟨⟨_, rfl, ?_⟩, trivial⟩
          refine TL.pure (PV.index1 (j := v.1) rfl rfl Tb.elm_51 rfl (by omega)) rfl (by decide) ?_
          refine TL.nil ?_
          refine TX.next (.inl (by repeat (first | exact List.Sublist.slnil | exact List.nil_sublist _ | exact List.Sublist.refl _ | refine List.Sublist.cons_cons _ ?_ | refine List.Sublist.cons _ ?_ | refine List.Sublist.trans ?_ (fB_inT _ _) | refine List.Sublist.trans ?_ (List.sublist_append_right _ _)))) ?_
          refine TX.step [11] (by kernel_rfl) (by decide) ⟨⟨_, rfl, ?_⟩, trivial⟩
          refine TL.storeV (cs := ouS (fS N v.2) (N - v.1)) rfl rfl Tb.cells_25 rfl (ouS_first hSv (by omega)) (by repeat (first | exact Upd.head _ | exact fB_upd (by repeat (first | exact Upd.head _ | apply Upd.tail)) _ | apply Upd.tail | apply Upd.appR)) (by rw [ouS_size]; omega) rfl rfl ?_
          refine TL.nil ?_
          refine TX.next (.inl (by repeat (first | exact List.Sublist.slnil | exact List.nil_sublist _ | exact List.Sublist.refl _ | refine List.Sublist.cons_cons _ ?_ | refine List.Sublist.cons _ ?_ | refine List.Sublist.trans ?_ (fB_inT _ _) | refine List.Sublist.trans ?_ (List.sublist_append_right _ _)))) ?_
          refine TX.step [12] (by kernel_rfl) (by decide) ⟨⟨_, rfl, ?_⟩, trivial⟩
          refine TL.pure (PV.index1 (j := v.1) rfl rfl Tb.elm_80 rfl (by omega)) rfl (by decide) ?_
          refine TL.nil ?_
          refine TX.next (.inr (by kernel_rfl)) ?_
          refine TX.step [13] (by kernel_rfl) (by decide) ⟨⟨_, rfl, ?_⟩, trivial⟩
          refine TL.storeV (cs := ouS (fK N v.2) (N - v.1)) rfl rfl Tb.cells_83 rfl (ouS_first hKv (by omega)) (by repeat (first | exact Upd.head _ | exact fB_upd (by repeat (first | exact Upd.head _ | apply Upd.tail)) _ | apply Upd.tail | apply Upd.appR)) (by rw [ouS_size]; omega) rfl rfl ?_
          refine TL.nil ?_
          refine TX.next (.inr (by kernel_rfl)) ?_
          refine TX.done (by kernel_rfl) ?_
          refine TQ.thenN ?_
          first | (refine TQ.midK (_, _) (by repeat (first | exact True.intro | refine And.intro rfl ?_)) (by repeat (first | exact True.intro | refine And.intro rfl ?_)) (List.Sublist.refl _) trivial; done) | (refine TQ.perm (G' := _ :: _ :: _) (List.Perm.swap _ _ _) ?_; refine TQ.midK (_, _) (by repeat (first | exact True.intro | refine And.intro rfl ?_)) (by repeat (first | exact True.intro | refine And.intro rfl ?_)) (List.Sublist.refl _) trivial)
      · skip
        intro c _
        refine TC.seq ?_
        refine TC.lit [(1, _), (2, _), (4, _), (5, _), (6, _), (7, _), (8, _)] (by repeat (first | exact True.intro | refine And.intro rfl ?_)) ?_
        refine TC.region ?_
        refine TL.pure (PV.move rfl) rfl (by decide) ?_
        refine TL.pure (PV.move rfl) rfl (by decide) ?_
        refine TL.pure (PV.index1 (j := v.1) rfl rfl Tb.elm_80 rfl (by omega)) rfl (by decide) ?_
        refine TL.pure (PV.loadG' rfl Tb.one_83 (by repeat (first | exact List.Mem.head _ | refine List.Mem.tail _ ?_ | refine fB_T ?_ _ | refine List.mem_append_right _ ?_)) (ouT_get hKv)) rfl (by decide) ?_
        refine TL.pure (PV.move rfl) rfl (by decide) ?_
        refine TL.pure (PV.index1 (j := v.1) rfl rfl Tb.elm_83 rfl (by omega)) rfl (by decide) ?_
        refine TL.storeV (cs := (bval (List.replicate N false)).toArray) (cs' := (bval ((List.replicate N false).set v.1 true)).toArray) rfl rfl Tb.cells_4 rfl (bval_set _ _ _) (by repeat (first | exact Upd.head _ | exact fB_upd (by repeat (first | exact Upd.head _ | apply Upd.tail)) _ | apply Upd.tail | apply Upd.appR)) (by simp; omega) rfl rfl ?_
        refine TL.nil ?_
        refine TQ.thenC ?_
        refine TC.seq ?_
        refine TC.region ?_
        refine TL.pure (PV.assign rfl) rfl (by decide) ?_
        refine TL.nil ?_
        refine TQ.thenC ?_
        refine TC.block ?_
        refine TC.lit [(1, _), (2, _), (4, _), (5, _), (6, _), (7, _), (8, _), (9, _)] (by repeat (first | exact True.intro | refine And.intro rfl ?_)) ?_
        refine TC.loopK [1, 2, 4, 5, 6, 7, 8] (X := Nat × HD × HD) (fun u => u.1 ≤ B ∧ gok u.2.1 N 1 (ival (walkN N rs v.1 u.1).sm) ∧ gok u.2.2 N 1 (bval (walkN N rs v.1 u.1).kn)) (fun u => [(9, .int .i64 u.1)]) (fun u => fB (((u.2.1, (walkN N rs v.1 u.1).sm), (u.2.2, (walkN N rs v.1 u.1).kn)) :: v.2) [(z.1, Obj.cells (ouT (fS N v.2) (gval u.2.1 N) (N - (v.1 + 1))) 25 (0, 0)), (z.2, Obj.cells (ouT (fK N v.2) (gval u.2.2 N) (N - (v.1 + 1))) 83 (0, 0)), (b0, Obj.cells #[.int .i64 N, .slice p rs.length cap] 24 (0, 0))]) (fun u => B - u.1) (0, some (c.1, N, []), some (c.2, N, [])) ⟨Nat.zero_le _, made_I N c.1, made_O N c.2 _ (WOk.walk N rs v.1 0).kl⟩ (by repeat (first | exact True.intro | refine And.intro rfl ?_)) made_sub ?_
        intro u hu
        have okW := WOk.walk N rs v.1 u.1
        have hwb := WBd.walk hv N v.1 u.1
        refine TC.seq ?_
        refine TC.seq ?_
        refine TC.lit [(1, _), (2, _), (4, _), (5, _), (6, _), (7, _), (8, _), (9, _)] (by repeat (first | exact True.intro | refine And.intro rfl ?_)) ?_
        refine TC.region ?_
        refine TL.pure (PV.move rfl) rfl (by decide) ?_
        refine TL.pure (PV.move rfl) rfl (by decide) ?_
        refine TL.pure (PV.lss rfl rfl) rfl (by decide) ?_
        refine TL.nil ?_
        refine TQ.thenC ?_
        first | refine TC.condD rfl (fun hltB => ?_) (fun hltB => ?_) | refine TC.cond rfl (fun hltB => ?_) (fun hltB => ?_)
        · skip
          refine TC.skip ?_
          refine TQ.thenC ?_
          refine TC.seq ?_
          refine TC.block ?_
          refine TC.seqK [1, 2, 4, 5, 6, 7, 8, 9] (X := HD × HD) (fun y => gok y.1 N 1 (ival (walkN N rs v.1 u.1).sm) ∧ gok y.2 N 1 (bval (walkN N rs v.1 u.1).kn)) (fun y => [(10, gval y.1 N), (11, gval y.2 N)]) (fun y => gbO (y.2, (walkN N rs v.1 u.1).kn) ++ (gbI (y.1, (walkN N rs v.1 u.1).sm) ++ fB (((u.2.1, (walkN N rs v.1 u.1).sm), (u.2.2, (walkN N rs v.1 u.1).kn)) :: v.2) [(z.1, Obj.cells (ouT (fS N v.2) (gval u.2.1 N) (N - (v.1 + 1))) 25 (0, 0)), (z.2, Obj.cells (ouT (fK N v.2) (gval u.2.2 N) (N - (v.1 + 1))) 83 (0, 0)), (b0, Obj.cells #[.int .i64 N, .slice p rs.length cap] 24 (0, 0))])) ?_ ?_
          · skip
            refine TC.lit [(1, _), (2, _), (4, _), (5, _), (6, _), (7, _), (8, _), (9, _)] (by repeat (first | exact True.intro | refine And.intro rfl ?_)) ?_
            refine TC.mix [false, true, true, true, true, false, false, true, true, true, true, false, false, false] (fB (((u.2.1, (walkN N rs v.1 u.1).sm), (u.2.2, (walkN N rs v.1 u.1).kn)) :: v.2) [(z.1, Obj.cells (ouT (fS N v.2) (gval u.2.1 N) (N - (v.1 + 1))) 25 (0, 0)), (z.2, Obj.cells (ouT (fK N v.2) (gval u.2.2 N) (N - (v.1 + 1))) 83 (0, 0)), (b0, Obj.cells #[.int .i64 N, .slice p rs.length cap] 24 (0, 0))]) 6 Tb.mixed rfl (by kernel_rfl) (by kernel_rfl) (by kernel_rfl) (by kernel_rfl) (by repeat (first | exact List.Sublist.slnil | exact List.nil_sublist _ | exact List.Sublist.refl _ | refine List.Sublist.cons_cons _ ?_ | refine List.Sublist.cons _ ?_ | refine List.Sublist.trans ?_ (fB_inT _ _) | refine List.Sublist.trans ?_ (List.sublist_append_right _ _))) ?_
            refine TB.no ?_
            refine TB.op (SOK.pure (PV.move rfl) rfl) (by decide) ?_
            refine TB.op (SOK.pure (PV.move rfl) rfl) (by decide) ?_
            refine TB.op (SOK.pure (PV.index1 (j := v.1) rfl rfl Tb.elm_51 rfl (by omega)) rfl) (by decide) ?_
            refine TB.op (SOK.pure (PV.loadG' rfl Tb.one_25 (by repeat (first | exact List.Mem.head _ | refine List.Mem.tail _ ?_ | refine fB_T ?_ _ | refine List.mem_append_right _ ?_)) (ouT_get hSv)) rfl) (by decide) ?_
            refine TB.no ?_
            refine TB.no ?_
            refine TB.op (SOK.pure (PV.move rfl) rfl) (by decide) ?_
            refine TB.op (SOK.pure (PV.move rfl) rfl) (by decide) ?_
            refine TB.op (SOK.pure (PV.index1 (j := v.1) rfl rfl Tb.elm_80 rfl (by omega)) rfl) (by decide) ?_
            refine TB.op (SOK.pure (PV.loadG' rfl Tb.one_83 (by repeat (first | exact List.Mem.head _ | refine List.Mem.tail _ ?_ | refine fB_T ?_ _ | refine List.mem_append_right _ ?_)) (ouT_get hKv)) rfl) (by decide) ?_
            refine TB.no ?_
            refine TB.no ?_
            refine TB.no ?_
            refine TB.fin ?_
            refine TX.step [0, 6] (by kernel_rfl) (by decide) ⟨⟨_, rfl, ?_⟩, ⟨_, rfl, ?_⟩, trivial⟩
            · skip
              refine TL.buildSlice0 Tb.sl_25 Tb.zi_3 rfl (by decide) (fun bA hbA => ?_)
              refine TL.nil ?_
              refine TX.next (.inl (by repeat (first | exact List.Sublist.slnil | exact List.nil_sublist _ | exact List.Sublist.refl _ | refine List.Sublist.cons_cons _ ?_ | refine List.Sublist.cons _ ?_ | refine List.Sublist.trans ?_ (fB_inT _ _) | refine List.Sublist.trans ?_ (List.sublist_append_right _ _)))) ?_
              refine TX.step [5, 6] (by kernel_rfl) (by decide) ⟨⟨_, rfl, ?_⟩, ⟨_, rfl, ?_⟩, trivial⟩
              · skip
                refine TL.append0 (m := N) (news := ival (walkN N rs v.1 u.1).sm) rfl rfl Tb.sl_25 Tb.zi_3 rfl (by repeat (first | exact Take.head _ | apply Take.tail | apply Take.appR)) (fun w9 hN9 => src_g (e := 3) Tb.sl_25 hu.2.1 (fun yy hyy => by have h8 := fB_S (List.Mem.head _) yy hyy (T := [(z.1, Obj.cells (ouT (fS N v.2) (gval u.2.1 N) (N - (v.1 + 1))) 25 (0, 0)), (z.2, Obj.cells (ouT (fK N v.2) (gval u.2.2 N) (N - (v.1 + 1))) 83 (0, 0)), (b0, Obj.cells #[.int .i64 N, .slice p rs.length cap] 24 (0, 0))]) (R := ((u.2.1, (walkN N rs v.1 u.1).sm), (u.2.2, (walkN N rs v.1 u.1).kn)) :: v.2) (r := ((u.2.1, (walkN N rs v.1 u.1).sm), (u.2.2, (walkN N rs v.1 u.1).kn))); repeat (first | exact h8 | refine List.Mem.tail _ ?_ | refine List.mem_append_right _ ?_)) (ival_one _) hN9) (by omega) (by omega) rfl (by decide) (fun h1 ho1 => ?_)
                refine TL.nil ?_
                refine TX.next (.inl (by repeat (first | exact List.Sublist.slnil | exact List.nil_sublist _ | exact List.Sublist.refl _ | refine List.Sublist.cons_cons _ ?_ | refine List.Sublist.cons _ ?_ | refine List.Sublist.trans ?_ (fB_inT _ _) | refine List.Sublist.trans ?_ (List.sublist_append_right _ _)))) ?_
                refine TX.step [6] (by kernel_rfl) (by decide) ⟨⟨_, rfl, ?_⟩, trivial⟩
                refine TL.buildSlice0 Tb.sl_83 Tb.zi_4 rfl (by decide) (fun bB hbB => ?_)
                refine TL.nil ?_
                refine TX.next (.inl (by repeat (first | exact List.Sublist.slnil | exact List.nil_sublist _ | exact List.Sublist.refl _ | refine List.Sublist.cons_cons _ ?_ | refine List.Sublist.cons _ ?_ | refine List.Sublist.trans ?_ (fB_inT _ _) | refine List.Sublist.trans ?_ (List.sublist_append_right _ _)))) ?_
                refine TX.step [11] (by kernel_rfl) (by decide) ⟨⟨_, rfl, ?_⟩, trivial⟩
                refine TL.append0 (m := N) (news := bval (walkN N rs v.1 u.1).kn) rfl rfl Tb.sl_83 Tb.zi_4 rfl (by repeat (first | exact Take.head _ | apply Take.tail | apply Take.appR)) (fun w9 hN9 => src_g (e := 4) Tb.sl_83 hu.2.2 (fun yy hyy => by have h8 := fB_K (List.Mem.head _) yy hyy (T := [(z.1, Obj.cells (ouT (fS N v.2) (gval u.2.1 N) (N - (v.1 + 1))) 25 (0, 0)), (z.2, Obj.cells (ouT (fK N v.2) (gval u.2.2 N) (N - (v.1 + 1))) 83 (0, 0)), (b0, Obj.cells #[.int .i64 N, .slice p rs.length cap] 24 (0, 0))]) (R := ((u.2.1, (walkN N rs v.1 u.1).sm), (u.2.2, (walkN N rs v.1 u.1).kn)) :: v.2) (r := ((u.2.1, (walkN N rs v.1 u.1).sm), (u.2.2, (walkN N rs v.1 u.1).kn))); repeat (first | exact h8 | refine List.Mem.tail _ ?_ | refine List.mem_append_right _ ?_)) (bval_one _) hN9) (by omega) (by omega) rfl (by decide) (fun h2 ho2 => ?_)
                refine TL.nil ?_
                refine TX.next (.inl (by repeat (first | exact List.Sublist.slnil | exact List.nil_sublist _ | exact List.Sublist.refl _ | refine List.Sublist.cons_cons _ ?_ | refine List.Sublist.cons _ ?_ | refine List.Sublist.trans ?_ (fB_inT _ _) | refine List.Sublist.trans ?_ (List.sublist_append_right _ _)))) ?_
                refine TX.step [12] (by kernel_rfl) (by decide) ⟨⟨_, rfl, ?_⟩, trivial⟩
                refine TL.pure (PV.assign rfl) rfl (by decide) ?_
                refine TL.nil ?_
                refine TX.next (.inl (by repeat (first | exact List.Sublist.slnil | exact List.nil_sublist _ | exact List.Sublist.refl _ | refine List.Sublist.cons_cons _ ?_ | refine List.Sublist.cons _ ?_ | refine List.Sublist.trans ?_ (fB_inT _ _) | refine List.Sublist.trans ?_ (List.sublist_append_right _ _)))) ?_
                refine TX.step [13] (by kernel_rfl) (by decide) ⟨⟨_, rfl, ?_⟩, trivial⟩
                refine TL.pure (PV.assign rfl) rfl (by decide) ?_
                refine TL.nil ?_
                refine TX.next (.inr (by kernel_rfl)) ?_
                refine TX.done (by kernel_rfl) ?_
                refine TQ.thenN ?_
                refine TQ.midK (_, _) (by repeat (first | exact True.intro | refine And.intro rfl ?_)) (by repeat (first | exact True.intro | refine And.intro rfl ?_)) (List.Sublist.refl _) ⟨ho1, ho2⟩
              · skip
                refine TL.buildSlice0 Tb.sl_83 Tb.zi_4 rfl (by decide) (fun bB hbB => ?_)
                refine TL.nil ?_
                refine TX.next (.inl (by repeat (first | exact List.Sublist.slnil | exact List.nil_sublist _ | exact List.Sublist.refl _ | refine List.Sublist.cons_cons _ ?_ | refine List.Sublist.cons _ ?_ | refine List.Sublist.trans ?_ (fB_inT _ _) | refine List.Sublist.trans ?_ (List.sublist_append_right _ _)))) ?_
                refine TX.step [5] (by kernel_rfl) (by decide) ⟨⟨_, rfl, ?_⟩, trivial⟩
                refine TL.append0 (m := N) (news := ival (walkN N rs v.1 u.1).sm) rfl rfl Tb.sl_25 Tb.zi_3 rfl (by repeat (first | exact Take.head _ | apply Take.tail | apply Take.appR)) (fun w9 hN9 => src_g (e := 3) Tb.sl_25 hu.2.1 (fun yy hyy => by have h8 := fB_S (List.Mem.head _) yy hyy (T := [(z.1, Obj.cells (ouT (fS N v.2) (gval u.2.1 N) (N - (v.1 + 1))) 25 (0, 0)), (z.2, Obj.cells (ouT (fK N v.2) (gval u.2.2 N) (N - (v.1 + 1))) 83 (0, 0)), (b0, Obj.cells #[.int .i64 N, .slice p rs.length cap] 24 (0, 0))]) (R := ((u.2.1, (walkN N rs v.1 u.1).sm), (u.2.2, (walkN N rs v.1 u.1).kn)) :: v.2) (r := ((u.2.1, (walkN N rs v.1 u.1).sm), (u.2.2, (walkN N rs v.1 u.1).kn))); repeat (first | exact h8 | refine List.Mem.tail _ ?_ | refine List.mem_append_right _ ?_)) (ival_one _) hN9) (by omega) (by omega) rfl (by decide) (fun h1 ho1 => ?_)
                refine TL.nil ?_
                refine TX.next (.inl (by repeat (first | exact List.Sublist.slnil | exact List.nil_sublist _ | exact List.Sublist.refl _ | refine List.Sublist.cons_cons _ ?_ | refine List.Sublist.cons _ ?_ | refine List.Sublist.trans ?_ (fB_inT _ _) | refine List.Sublist.trans ?_ (List.sublist_append_right _ _)))) ?_
                refine TX.step [11] (by kernel_rfl) (by decide) ⟨⟨_, rfl, ?_⟩, trivial⟩
                refine TL.append0 (m := N) (news := bval (walkN N rs v.1 u.1).kn) rfl rfl Tb.sl_83 Tb.zi_4 rfl (by repeat (first | exact Take.head _ | apply Take.tail | apply Take.appR)) (fun w9 hN9 => src_g (e := 4) Tb.sl_83 hu.2.2 (fun yy hyy => by have h8 := fB_K (List.Mem.head _) yy hyy (T := [(z.1, Obj.cells (ouT (fS N v.2) (gval u.2.1 N) (N - (v.1 + 1))) 25 (0, 0)), (z.2, Obj.cells (ouT (fK N v.2) (gval u.2.2 N) (N - (v.1 + 1))) 83 (0, 0)), (b0, Obj.cells #[.int .i64 N, .slice p rs.length cap] 24 (0, 0))]) (R := ((u.2.1, (walkN N rs v.1 u.1).sm), (u.2.2, (walkN N rs v.1 u.1).kn)) :: v.2) (r := ((u.2.1, (walkN N rs v.1 u.1).sm), (u.2.2, (walkN N rs v.1 u.1).kn))); repeat (first | exact h8 | refine List.Mem.tail _ ?_ | refine List.mem_append_right _ ?_)) (bval_one _) hN9) (by omega) (by omega) rfl (by decide) (fun h2 ho2 => ?_)
                refine TL.nil ?_
                refine TX.next (.inl (by repeat (first | exact List.Sublist.slnil | exact List.nil_sublist _ | exact List.Sublist.refl _ | refine List.Sublist.cons_cons _ ?_ | refine List.Sublist.cons _ ?_ | refine List.Sublist.trans ?_ (fB_inT _ _) | refine List.Sublist.trans ?_ (List.sublist_append_right _ _)))) ?_
                refine TX.step [12] (by kernel_rfl) (by decide) ⟨⟨_, rfl, ?_⟩, trivial⟩
                refine TL.pure (PV.assign rfl) rfl (by decide) ?_
                refine TL.nil ?_
                refine TX.next (.inl (by repeat (first | exact List.Sublist.slnil | exact List.nil_sublist _ | exact List.Sublist.refl _ | refine List.Sublist.cons_cons _ ?_ | refine List.Sublist.cons _ ?_ | refine List.Sublist.trans ?_ (fB_inT _ _) | refine List.Sublist.trans ?_ (List.sublist_append_right _ _)))) ?_
                refine TX.step [13] (by kernel_rfl) (by decide) ⟨⟨_, rfl, ?_⟩, trivial⟩
                refine TL.pure (PV.assign rfl) rfl (by decide) ?_
                refine TL.nil ?_
                refine TX.next (.inr (by kernel_rfl)) ?_
                refine TX.done (by kernel_rfl) ?_
                refine TQ.thenN ?_
                refine TQ.midK (_, _) (by repeat (first | exact True.intro | refine And.intro rfl ?_)) (by repeat (first | exact True.intro | refine And.intro rfl ?_)) (List.Sublist.refl _) ⟨ho1, ho2⟩
            · skip
              refine TL.buildSlice0 Tb.sl_83 Tb.zi_4 rfl (by decide) (fun bB hbB => ?_)
              refine TL.nil ?_
              refine TX.next (.inl (by repeat (first | exact List.Sublist.slnil | exact List.nil_sublist _ | exact List.Sublist.refl _ | refine List.Sublist.cons_cons _ ?_ | refine List.Sublist.cons _ ?_ | refine List.Sublist.trans ?_ (fB_inT _ _) | refine List.Sublist.trans ?_ (List.sublist_append_right _ _)))) ?_
              refine TX.step [0] (by kernel_rfl) (by decide) ⟨⟨_, rfl, ?_⟩, trivial⟩
              refine TL.buildSlice0 Tb.sl_25 Tb.zi_3 rfl (by decide) (fun bA hbA => ?_)
              refine TL.nil ?_
              refine TX.next (.inl (by repeat (first | exact List.Sublist.slnil | exact List.nil_sublist _ | exact List.Sublist.refl _ | refine List.Sublist.cons_cons _ ?_ | refine List.Sublist.cons _ ?_ | refine List.Sublist.trans ?_ (fB_inT _ _) | refine List.Sublist.trans ?_ (List.sublist_append_right _ _)))) ?_
              refine TX.step [5] (by kernel_rfl) (by decide) ⟨⟨_, rfl, ?_⟩, trivial⟩
              refine TL.append0 (m := N) (news := ival (walkN N rs v.1 u.1).sm) rfl rfl Tb.sl_25 Tb.zi_3 rfl (by repeat (first | exact Take.head _ | apply Take.tail | apply Take.appR)) (fun w9 hN9 => src_g (e := 3) Tb.sl_25 hu.2.1 (fun yy hyy => by have h8 := fB_S (List.Mem.head _) yy hyy (T := [(z.1, Obj.cells (ouT (fS N v.2) (gval u.2.1 N) (N - (v.1 + 1))) 25 (0, 0)), (z.2, Obj.cells (ouT (fK N v.2) (gval u.2.2 N) (N - (v.1 + 1))) 83 (0, 0)), (b0, Obj.cells #[.int .i64 N, .slice p rs.length cap] 24 (0, 0))]) (R := ((u.2.1, (walkN N rs v.1 u.1).sm), (u.2.2, (walkN N rs v.1 u.1).kn)) :: v.2) (r := ((u.2.1, (walkN N rs v.1 u.1).sm), (u.2.2, (walkN N rs v.1 u.1).kn))); repeat (first | exact h8 | refine List.Mem.tail _ ?_ | refine List.mem_append_right _ ?_)) (ival_one _) hN9) (by omega) (by omega) rfl (by decide) (fun h1 ho1 => ?_)
              refine TL.nil ?_
              refine TX.next (.inl (by repeat (first | exact List.Sublist.slnil | exact List.nil_sublist _ | exact List.Sublist.refl _ | refine List.Sublist.cons_cons _ ?_ | refine List.Sublist.cons _ ?_ | refine List.Sublist.trans ?_ (fB_inT _ _) | refine List.Sublist.trans ?_ (List.sublist_append_right _ _)))) ?_
              refine TX.step [11] (by kernel_rfl) (by decide) ⟨⟨_, rfl, ?_⟩, trivial⟩
              refine TL.append0 (m := N) (news := bval (walkN N rs v.1 u.1).kn) rfl rfl Tb.sl_83 Tb.zi_4 rfl (by repeat (first | exact Take.head _ | apply Take.tail | apply Take.appR)) (fun w9 hN9 => src_g (e := 4) Tb.sl_83 hu.2.2 (fun yy hyy => by have h8 := fB_K (List.Mem.head _) yy hyy (T := [(z.1, Obj.cells (ouT (fS N v.2) (gval u.2.1 N) (N - (v.1 + 1))) 25 (0, 0)), (z.2, Obj.cells (ouT (fK N v.2) (gval u.2.2 N) (N - (v.1 + 1))) 83 (0, 0)), (b0, Obj.cells #[.int .i64 N, .slice p rs.length cap] 24 (0, 0))]) (R := ((u.2.1, (walkN N rs v.1 u.1).sm), (u.2.2, (walkN N rs v.1 u.1).kn)) :: v.2) (r := ((u.2.1, (walkN N rs v.1 u.1).sm), (u.2.2, (walkN N rs v.1 u.1).kn))); repeat (first | exact h8 | refine List.Mem.tail _ ?_ | refine List.mem_append_right _ ?_)) (bval_one _) hN9) (by omega) (by omega) rfl (by decide) (fun h2 ho2 => ?_)
              refine TL.nil ?_
              refine TX.next (.inl (by repeat (first | exact List.Sublist.slnil | exact List.nil_sublist _ | exact List.Sublist.refl _ | refine List.Sublist.cons_cons _ ?_ | refine List.Sublist.cons _ ?_ | refine List.Sublist.trans ?_ (fB_inT _ _) | refine List.Sublist.trans ?_ (List.sublist_append_right _ _)))) ?_
              refine TX.step [12] (by kernel_rfl) (by decide) ⟨⟨_, rfl, ?_⟩, trivial⟩
              refine TL.pure (PV.assign rfl) rfl (by decide) ?_
              refine TL.nil ?_
              refine TX.next (.inl (by repeat (first | exact List.Sublist.slnil | exact List.nil_sublist _ | exact List.Sublist.refl _ | refine List.Sublist.cons_cons _ ?_ | refine List.Sublist.cons _ ?_ | refine List.Sublist.trans ?_ (fB_inT _ _) | refine List.Sublist.trans ?_ (List.sublist_append_right _ _)))) ?_
              refine TX.step [13] (by kernel_rfl) (by decide) ⟨⟨_, rfl, ?_⟩, trivial⟩
              refine TL.pure (PV.assign rfl) rfl (by decide) ?_
              refine TL.nil ?_
              refine TX.next (.inr (by kernel_rfl)) ?_
              refine TX.done (by kernel_rfl) ?_
              refine TQ.thenN ?_
              refine TQ.midK (_, _) (by repeat (first | exact True.intro | refine And.intro rfl ?_)) (by repeat (first | exact True.intro | refine And.intro rfl ?_)) (List.Sublist.refl _) ⟨ho1, ho2⟩
          · skip
            intro y hy
            refine TC.seq ?_
            refine TC.seq ?_
            refine TC.lit [(1, _), (2, _), (4, _), (5, _), (6, _), (7, _), (8, _), (9, _), (10, _), (11, _)] (by repeat (first | exact True.intro | refine And.intro rfl ?_)) ?_
            refine TC.region ?_
            refine TL.pure (PV.assign rfl) rfl (by decide) ?_
            refine TL.nil ?_
            refine TQ.thenC ?_
            refine TC.block ?_
            refine TC.lit [(1, _), (2, _), (4, _), (5, _), (6, _), (7, _), (8, _), (9, _), (10, _), (11, _), (12, _)] (by repeat (first | exact True.intro | refine And.intro rfl ?_)) ?_
            refine TC.loopK [1, 2, 4, 5, 6, 7, 8, 9, 10, 11] (X := Nat) (fun i => i ≤ rs.length) (fun i => [(12, .int .i64 i)]) (fun i => gbO (y.2, (wpass rs (walkN N rs v.1 u.1) i).kn) ++ (gbI (y.1, (wpass rs (walkN N rs v.1 u.1) i).sm) ++ fB (((u.2.1, (walkN N rs v.1 u.1).sm), (u.2.2, (walkN N rs v.1 u.1).kn)) :: v.2) [(z.1, Obj.cells (ouT (fS N v.2) (gval u.2.1 N) (N - (v.1 + 1))) 25 (0, 0)), (z.2, Obj.cells (ouT (fK N v.2) (gval u.2.2 N) (N - (v.1 + 1))) 83 (0, 0)), (b0, Obj.cells #[.int .i64 N, .slice p rs.length cap] 24 (0, 0))])) (fun i => rs.length - i) 0 (Nat.zero_le _) (by repeat (first | exact True.intro | refine And.intro rfl ?_)) (List.Sublist.refl _) ?_
            intro i hi
            refine TC.seq ?_
            refine TC.seq ?_
            refine TC.lit [(1, _), (2, _), (4, _), (5, _), (6, _), (7, _), (8, _), (9, _), (10, _), (11, _), (12, _)] (by repeat (first | exact True.intro | refine And.intro rfl ?_)) ?_
            refine TC.region ?_
            refine TL.pure (PV.move rfl) rfl (by decide) ?_
            refine TL.pure (PV.fieldAddr rfl Tb.fo_24_1) rfl (by decide) ?_
            refine TL.pure (PV.load rfl Tb.one_22 (by repeat (first | exact List.Mem.head _ | refine fB_T ?_ _ | refine List.Mem.tail _ ?_ | refine List.mem_append_right _ ?_)) rfl) rfl (by decide) ?_
            refine TL.pure (PV.len rfl Tb.sl_22) rfl (by decide) ?_
            refine TL.pure (PV.lss rfl rfl) rfl (by decide) ?_
            refine TL.nil ?_
            refine TQ.thenC ?_
            first | refine TC.condD rfl (fun hltC => ?_) (fun hltC => ?_) | refine TC.cond rfl (fun hltC => ?_) (fun hltC => ?_)
            · skip
              refine TC.skip ?_
              refine TQ.thenC ?_
              refine TC.seq ?_
              refine TC.block ?_
              refine TC.seq ?_
              obtain ⟨q, hqp, hqa⟩ := hr i (by omega)
              have hat := hv.at (k := i) (by omega)
              have okP := okW.pass (rs := rs) i
              have hsP := okP.sl
              have hkP := okP.kl
              have hsW := okW.sl
              have hkW := okW.kl
              have hgI := gokI hy.1 hsP
              have hgO := gokO hy.2 hkP
              have hb1 := hwb (eA rs i)
              have hu1 : u.1 ≤ 8 := by omega
              refine TC.region ?_
              refine TL.pure (PV.fieldAddr rfl Tb.fo_24_1) rfl (by decide) ?_
              refine TL.pure (PV.load rfl Tb.one_22 (by repeat (first | exact List.Mem.head _ | refine fB_T ?_ _ | refine List.Mem.tail _ ?_ | refine List.mem_append_right _ ?_)) rfl) rfl (by decide) ?_
              refine TL.pure (PV.move rfl) rfl (by decide) ?_
              refine TL.pure (PV.indexA rfl hqp rfl Tb.elm_22 rfl (by omega)) rfl (by decide) ?_
              refine TL.pure (PV.loadAggA rfl Tb.agg_42 rfl hqa) rfl (by decide) ?_
              refine TL.alloc Tb.zero_42 rfl (by decide) (fun b8 hb8 => ?_)
              refine TL.storeAgg rfl rfl Tb.cells_42 (by repeat (first | exact Upd.head _ | apply Upd.tail | apply Upd.appR)) rfl rfl rfl rfl rfl ?_
              refine TL.nil ?_
              refine TQ.thenC ?_
              refine TC.seq ?_
              refine TC.lit [(1, _), (2, _), (4, _), (5, _), (6, _), (7, _), (8, _), (9, _), (10, _), (11, _), (12, _), (13, _)] (by repeat (first | exact True.intro | refine And.intro rfl ?_)) ?_
              refine TC.any Tb.mixed rfl rfl ?_
              refine TA.op (OpOK.pure (PV.move rfl) rfl (by decide)) (by decide) ?_
              refine TA.op (OpOK.pure (PV.move rfl) rfl (by decide)) (by decide) ?_
              refine TA.op (OpOK.pure (PV.index1 (j := v.1) rfl rfl Tb.elm_51 rfl (by omega)) rfl (by decide)) (by decide) ?_
              refine TA.op (OpOK.pure (PV.loadG' rfl Tb.one_25 (by repeat (first | exact List.Mem.head _ | refine List.Mem.tail _ ?_ | refine fB_T ?_ _ | refine List.mem_append_right _ ?_)) (ouT_get hSv)) rfl (by decide)) (by decide) ?_
              refine TA.op (OpOK.pure (PV.fieldAddr rfl Tb.fo_42_0) rfl (by decide)) (by decide) ?_
              refine TA.op (OpOK.pure (PV.load rfl Tb.one_3 (by repeat (first | exact List.Mem.head _ | refine fB_T ?_ _ | refine List.Mem.tail _ ?_ | refine List.mem_append_right _ ?_)) rfl) rfl (by decide)) (by decide) ?_
              refine TA.op (OpOK.pure (PV.indexG (j := eA rs i) rfl rfl hu.2.1 Tb.elm_25 (Int.toNat_of_nonneg (by omega)).symm (by show (rs.getD i default).a.toNat < N; omega)) rfl (by decide)) (by decide) ?_
              refine TA.op (OpOK.pure (PV.loadG' rfl Tb.one_3 (by have h8 := fB_S (List.Mem.head _) _ (mem_gblk hu.2.1 (by omega)) (T := [(z.1, Obj.cells (ouT (fS N v.2) (gval u.2.1 N) (N - (v.1 + 1))) 25 (0, 0)), (z.2, Obj.cells (ouT (fK N v.2) (gval u.2.2 N) (N - (v.1 + 1))) 83 (0, 0)), (b0, Obj.cells #[.int .i64 N, .slice p rs.length cap] 24 (0, 0))]) (R := ((u.2.1, (walkN N rs v.1 u.1).sm), (u.2.2, (walkN N rs v.1 u.1).kn)) :: v.2) (r := ((u.2.1, (walkN N rs v.1 u.1).sm), (u.2.2, (walkN N rs v.1 u.1).kn))); repeat (first | exact h8 | refine List.Mem.tail _ ?_ | refine List.mem_append_right _ ?_)) (ival_at (xs := (walkN N rs v.1 u.1).sm) rfl (by show (rs.getD i default).a.toNat < (walkN N rs v.1 u.1).sm.length; omega))) rfl (by decide)) (by decide) ?_
              refine TA.op (OpOK.pure (PV.fieldAddr rfl Tb.fo_42_2) rfl (by decide)) (by decide) ?_
              refine TA.op (OpOK.pure (PV.load rfl Tb.one_3 (by repeat (first | exact List.Mem.head _ | refine fB_T ?_ _ | refine List.Mem.tail _ ?_ | refine List.mem_append_right _ ?_)) rfl) rfl (by decide)) (by decide) ?_
              refine TA.op (OpOK.pure (PV.add rfl rfl (by omega)) rfl (by decide)) (by decide) ?_
              refine TA.op (OpOK.pure (PV.assign rfl) rfl (by decide)) (by decide) ?_
              show TQ _ _ _ _ _
              refine TQ.thenC ?_
              refine TC.seq ?_
              refine TC.any Tb.mixed rfl rfl ?_
              refine TA.op (OpOK.pure (PV.move rfl) rfl (by decide)) (by decide) ?_
              refine TA.op (OpOK.pure (PV.move rfl) rfl (by decide)) (by decide) ?_
              refine TA.op (OpOK.pure (PV.index1 (j := v.1) rfl rfl Tb.elm_80 rfl (by omega)) rfl (by decide)) (by decide) ?_
              refine TA.op (OpOK.pure (PV.loadG' rfl Tb.one_83 (by repeat (first | exact List.Mem.head _ | refine List.Mem.tail _ ?_ | refine fB_T ?_ _ | refine List.mem_append_right _ ?_)) (ouT_get hKv)) rfl (by decide)) (by decide) ?_
              refine TA.op (OpOK.pure (PV.fieldAddr rfl Tb.fo_42_0) rfl (by decide)) (by decide) ?_
              refine TA.op (OpOK.pure (PV.load rfl Tb.one_3 (by repeat (first | exact List.Mem.head _ | refine fB_T ?_ _ | refine List.Mem.tail _ ?_ | refine List.mem_append_right _ ?_)) rfl) rfl (by decide)) (by decide) ?_
              refine TA.op (OpOK.pure (PV.indexG (j := eA rs i) rfl rfl hu.2.2 Tb.elm_83 (Int.toNat_of_nonneg (by omega)).symm (by show (rs.getD i default).a.toNat < N; omega)) rfl (by decide)) (by decide) ?_
              refine TA.op (OpOK.pure (PV.loadG' rfl Tb.one_4 (by have h8 := fB_K (List.Mem.head _) _ (mem_gblk hu.2.2 (by omega)) (T := [(z.1, Obj.cells (ouT (fS N v.2) (gval u.2.1 N) (N - (v.1 + 1))) 25 (0, 0)), (z.2, Obj.cells (ouT (fK N v.2) (gval u.2.2 N) (N - (v.1 + 1))) 83 (0, 0)), (b0, Obj.cells #[.int .i64 N, .slice p rs.length cap] 24 (0, 0))]) (R := ((u.2.1, (walkN N rs v.1 u.1).sm), (u.2.2, (walkN N rs v.1 u.1).kn)) :: v.2) (r := ((u.2.1, (walkN N rs v.1 u.1).sm), (u.2.2, (walkN N rs v.1 u.1).kn))); repeat (first | exact h8 | refine List.Mem.tail _ ?_ | refine List.mem_append_right _ ?_)) (bval_at (xs := (walkN N rs v.1 u.1).kn) rfl (by show (rs.getD i default).a.toNat < (walkN N rs v.1 u.1).kn.length; omega))) rfl (by decide)) (by decide) ?_
              refine TA.op (OpOK.pure (PV.move rfl) rfl (by decide)) (by decide) ?_
              first | refine TA.splitD 93 rfl (fun hA => ?_) (fun hA => ?_) | refine TA.split 93 rfl (fun hA => ?_) (fun hA => ?_)
              · skip
                refine TA.op (OpOK.pure (PV.move rfl) rfl (by decide)) (by decide) ?_
                refine TA.op (OpOK.pure (PV.fieldAddr rfl Tb.fo_42_1) rfl (by decide)) (by decide) ?_
                refine TA.op (OpOK.pure (PV.load rfl Tb.one_3 (by repeat (first | exact List.Mem.head _ | refine fB_T ?_ _ | refine List.Mem.tail _ ?_ | refine List.mem_append_right _ ?_)) rfl) rfl (by decide)) (by decide) ?_
                refine TA.op (OpOK.pure (PV.indexG (j := eB rs i) rfl rfl hgO Tb.elm_83 (Int.toNat_of_nonneg (by omega)).symm (by show (rs.getD i default).b.toNat < N; omega)) rfl (by decide)) (by decide) ?_
                refine TA.op (OpOK.pure (PV.loadG' rfl Tb.one_4 (by have h8 := mem_gblk (e := 4) hgO (by omega); repeat (first | exact List.mem_append_left _ h8 | refine List.Mem.tail _ ?_ | refine List.mem_append_right _ ?_)) (bval_at (xs := (wpass rs (walkN N rs v.1 u.1) i).kn) rfl (by show (rs.getD i default).b.toNat < (wpass rs (walkN N rs v.1 u.1) i).kn.length; omega))) rfl (by decide)) (by decide) ?_
                refine TA.op (OpOK.pure ((by first | exact PV.notD rfl | exact PV.not rfl)) rfl (by decide)) (by decide) ?_
                refine TA.op (OpOK.pure (PV.move rfl) rfl (by decide)) (by decide) ?_
                first | refine TA.splitD 100 rfl (fun hC => ?_) (fun hC => ?_) | refine TA.split 100 rfl (fun hC => ?_) (fun hC => ?_)
                · skip
                  refine TA.op (OpOK.skip rfl) (by decide) ?_
                  refine TA.op (OpOK.skip rfl) (by decide) ?_
                  refine TA.op (OpOK.skip rfl) (by decide) ?_
                  refine TA.op (OpOK.skip rfl) (by decide) ?_
                  refine TA.op (OpOK.skip rfl) (by decide) ?_
                  refine TA.op (OpOK.skip rfl) (by decide) ?_
                  refine TA.op (OpOK.skip rfl) (by decide) ?_
                  refine TA.op (OpOK.pure (PV.pickT rfl rfl) rfl (by decide)) (by decide) ?_
                  refine TA.op (OpOK.pure (PV.pickT rfl rfl) rfl (by decide)) (by decide) ?_
                  show TQ _ _ _ _ _
                  refine TQ.thenC ?_
                  refine TC.condT rfl ?_
                  refine TC.lit [(1, _), (2, _), (4, _), (5, _), (6, _), (7, _), (8, _), (9, _), (10, _), (11, _), (12, _), (13, _), (14, _)] (by repeat (first | exact True.intro | refine And.intro rfl ?_)) ?_
                  refine TC.mix [true, true, true, true, true, true, true, true, false, false, false] [(_, Obj.cells (rs.getD i default).cells.toArray 42 (0, 0))] 3 Tb.mixed rfl (by kernel_rfl) (by kernel_rfl) (by kernel_rfl) (by kernel_rfl) (by repeat (first | exact List.Sublist.slnil | exact List.nil_sublist _ | exact List.Sublist.refl _ | refine List.Sublist.cons_cons _ ?_ | refine List.Sublist.cons _ ?_ | refine List.Sublist.trans ?_ (fB_inT _ _) | refine List.Sublist.trans ?_ (List.sublist_append_right _ _))) ?_
                  refine TB.op (SOK.pure (PV.move rfl) rfl) (by decide) ?_
                  refine TB.op (SOK.pure (PV.fieldAddr rfl Tb.fo_42_1) rfl) (by decide) ?_
                  refine TB.op (SOK.pure (PV.load rfl Tb.one_3 (by repeat (first | exact List.Mem.head _ | refine fB_T ?_ _ | refine List.Mem.tail _ ?_ | refine List.mem_append_right _ ?_)) rfl) rfl) (by decide) ?_
                  refine TB.op (SOK.pure (PV.move rfl) rfl) (by decide) ?_
                  refine TB.op (SOK.pure (PV.fieldAddr rfl Tb.fo_42_1) rfl) (by decide) ?_
                  refine TB.op (SOK.pure (PV.load rfl Tb.one_3 (by repeat (first | exact List.Mem.head _ | refine fB_T ?_ _ | refine List.Mem.tail _ ?_ | refine List.mem_append_right _ ?_)) rfl) rfl) (by decide) ?_
                  refine TB.op (SOK.pure (PV.move rfl) rfl) (by decide) ?_
                  refine TB.op (SOK.pure (PV.indexG (j := eB rs i) rfl rfl hgI Tb.elm_25 (Int.toNat_of_nonneg (by omega)).symm (by show (rs.getD i default).b.toNat < N; omega)) rfl) (by decide) ?_
                  refine TB.no ?_
                  refine TB.no ?_
                  refine TB.no ?_
                  refine TB.fin ?_
                  refine TX.step [8] (by kernel_rfl) (by decide) ⟨⟨_, rfl, ?_⟩, trivial⟩
                  refine TL.put1 (len := N) (ys' := ival ((wpass rs (walkN N rs v.1 u.1) i).sm.set (eB rs i) ((walkN N rs v.1 u.1).sm.getD (eA rs i) 0 + eM rs i))) rfl rfl Tb.cells_3 rfl hgI (by exact List.map_set) (by repeat (first | exact PutH.here _ _ _ _ | apply PutH.tail | apply PutH.app)) (by show (rs.getD i default).b.toNat < N; omega) rfl rfl ?_
                  refine TL.nil ?_
                  refine TX.next (.inl (by repeat (first | exact List.Sublist.slnil | exact List.nil_sublist _ | exact List.Sublist.refl _ | refine List.Sublist.cons_cons _ ?_ | refine List.Sublist.cons _ ?_ | refine List.Sublist.trans ?_ (fB_inT _ _) | refine List.Sublist.trans ?_ (List.sublist_append_right _ _)))) ?_
                  refine TX.step [9] (by kernel_rfl) (by decide) ⟨⟨_, rfl, ?_⟩, trivial⟩
                  refine TL.pure (PV.indexG (j := eB rs i) rfl rfl hgO Tb.elm_83 (Int.toNat_of_nonneg (by omega)).symm (by show (rs.getD i default).b.toNat < N; omega)) rfl (by decide) ?_
                  refine TL.nil ?_
                  refine TX.next (.inr (by kernel_rfl)) ?_
                  refine TX.step [10] (by kernel_rfl) (by decide) ⟨⟨_, rfl, ?_⟩, trivial⟩
                  refine TL.put1 (len := N) (ys' := bval ((wpass rs (walkN N rs v.1 u.1) i).kn.set (eB rs i) true)) rfl rfl Tb.cells_4 rfl hgO (by exact List.map_set) (by repeat (first | exact PutH.here _ _ _ _ | apply PutH.tail | apply PutH.app)) (by show (rs.getD i default).b.toNat < N; omega) rfl rfl ?_
                  refine TL.nil ?_
                  refine TX.next (.inr (by kernel_rfl)) ?_
                  refine TX.done (by kernel_rfl) ?_
                  refine TQ.blkN ?_
                  refine TQ.thenC ?_
                  refine TC.region ?_
                  refine TL.pure (PV.move rfl) rfl (by decide) ?_
                  refine TL.pure (PV.add rfl rfl (by omega)) rfl (by decide) ?_
                  refine TL.pure (PV.assign rfl) rfl (by decide) ?_
                  refine TL.nil ?_
                  refine TQ.thenN ?_
                  refine TQ.backK (i + 1) (by repeat (first | exact True.intro | refine And.intro rfl ?_)) (by repeat (first | exact True.intro | refine And.intro rfl ?_)) (by first | (rw [show wpass rs (walkN N rs v.1 u.1) (i + 1) = wstep rs (walkN N rs v.1 u.1) (wpass rs (walkN N rs v.1 u.1) i) i from rfl, wstep_yes hA (by first | exact .inl (by simpa using hC) | exact .inr hD)]; exact List.Sublist.cons _ (List.Sublist.refl _)) | (rw [show wpass rs (walkN N rs v.1 u.1) (i + 1) = wstep rs (walkN N rs v.1 u.1) (wpass rs (walkN N rs v.1 u.1) i) i from rfl, wstep_no (fun h9 => by first | (rw [hA] at h9; exact absurd h9.1 (by decide)) | exact h9.2.elim (fun h8 => absurd h8 (by simpa using hC)) hD)]; exact List.Sublist.cons _ (List.Sublist.refl _))) (by omega) (by omega)
                · skip
                  refine TA.op (OpOK.pure (PV.move rfl) rfl (by decide)) (by decide) ?_
                  refine TA.op (OpOK.pure (PV.move rfl) rfl (by decide)) (by decide) ?_
                  refine TA.op (OpOK.pure (PV.fieldAddr rfl Tb.fo_42_1) rfl (by decide)) (by decide) ?_
                  refine TA.op (OpOK.pure (PV.load rfl Tb.one_3 (by repeat (first | exact List.Mem.head _ | refine fB_T ?_ _ | refine List.Mem.tail _ ?_ | refine List.mem_append_right _ ?_)) rfl) rfl (by decide)) (by decide) ?_
                  refine TA.op (OpOK.pure (PV.indexG (j := eB rs i) rfl rfl hgI Tb.elm_25 (Int.toNat_of_nonneg (by omega)).symm (by show (rs.getD i default).b.toNat < N; omega)) rfl (by decide)) (by decide) ?_
                  refine TA.op (OpOK.pure (PV.loadG' rfl Tb.one_3 (by have h8 := mem_gblk (e := 3) hgI (by omega); repeat (first | exact List.mem_append_left _ h8 | refine List.Mem.tail _ ?_ | refine List.mem_append_right _ ?_)) (ival_at (xs := (wpass rs (walkN N rs v.1 u.1) i).sm) rfl (by show (rs.getD i default).b.toNat < (wpass rs (walkN N rs v.1 u.1) i).sm.length; omega))) rfl (by decide)) (by decide) ?_
                  refine TA.op (OpOK.pure (PV.lss rfl rfl) rfl (by decide)) (by decide) ?_
                  refine TA.op (OpOK.pure (PV.pickF rfl rfl) rfl (by decide)) (by decide) ?_
                  refine TA.op (OpOK.pure (PV.pickT rfl rfl) rfl (by decide)) (by decide) ?_
                  show TQ _ _ _ _ _
                  refine TQ.thenC ?_
                  first | refine TC.condD rfl (fun hD => ?_) (fun hD => ?_) | refine TC.cond rfl (fun hD => ?_) (fun hD => ?_)
                  · skip
                    refine TC.lit [(1, _), (2, _), (4, _), (5, _), (6, _), (7, _), (8, _), (9, _), (10, _), (11, _), (12, _), (13, _), (14, _)] (by repeat (first | exact True.intro | refine And.intro rfl ?_)) ?_
                    refine TC.mix [true, true, true, true, true, true, true, true, false, false, false] [(_, Obj.cells (rs.getD i default).cells.toArray 42 (0, 0))] 3 Tb.mixed rfl (by kernel_rfl) (by kernel_rfl) (by kernel_rfl) (by kernel_rfl) (by repeat (first | exact List.Sublist.slnil | exact List.nil_sublist _ | exact List.Sublist.refl _ | refine List.Sublist.cons_cons _ ?_ | refine List.Sublist.cons _ ?_ | refine List.Sublist.trans ?_ (fB_inT _ _) | refine List.Sublist.trans ?_ (List.sublist_append_right _ _))) ?_
                    refine TB.op (SOK.pure (PV.move rfl) rfl) (by decide) ?_
                    refine TB.op (SOK.pure (PV.fieldAddr rfl Tb.fo_42_1) rfl) (by decide) ?_
                    refine TB.op (SOK.pure (PV.load rfl Tb.one_3 (by repeat (first | exact List.Mem.head _ | refine fB_T ?_ _ | refine List.Mem.tail _ ?_ | refine List.mem_append_right _ ?_)) rfl) rfl) (by decide) ?_
                    refine TB.op (SOK.pure (PV.move rfl) rfl) (by decide) ?_
                    refine TB.op (SOK.pure (PV.fieldAddr rfl Tb.fo_42_1) rfl) (by decide) ?_
                    refine TB.op (SOK.pure (PV.load rfl Tb.one_3 (by repeat (first | exact List.Mem.head _ | refine fB_T ?_ _ | refine List.Mem.tail _ ?_ | refine List.mem_append_right _ ?_)) rfl) rfl) (by decide) ?_
                    refine TB.op (SOK.pure (PV.move rfl) rfl) (by decide) ?_
                    refine TB.op (SOK.pure (PV.indexG (j := eB rs i) rfl rfl hgI Tb.elm_25 (Int.toNat_of_nonneg (by omega)).symm (by show (rs.getD i default).b.toNat < N; omega)) rfl) (by decide) ?_
                    refine TB.no ?_
                    refine TB.no ?_
                    refine TB.no ?_
                    refine TB.fin ?_
                    refine TX.step [8] (by kernel_rfl) (by decide) ⟨⟨_, rfl, ?_⟩, trivial⟩
                    refine TL.put1 (len := N) (ys' := ival ((wpass rs (walkN N rs v.1 u.1) i).sm.set (eB rs i) ((walkN N rs v.1 u.1).sm.getD (eA rs i) 0 + eM rs i))) rfl rfl Tb.cells_3 rfl hgI (by exact List.map_set) (by repeat (first | exact PutH.here _ _ _ _ | apply PutH.tail | apply PutH.app)) (by show (rs.getD i default).b.toNat < N; omega) rfl rfl ?_
                    refine TL.nil ?_
                    refine TX.next (.inl (by repeat (first | exact List.Sublist.slnil | exact List.nil_sublist _ | exact List.Sublist.refl _ | refine List.Sublist.cons_cons _ ?_ | refine List.Sublist.cons _ ?_ | refine List.Sublist.trans ?_ (fB_inT _ _) | refine List.Sublist.trans ?_ (List.sublist_append_right _ _)))) ?_
                    refine TX.step [9] (by kernel_rfl) (by decide) ⟨⟨_, rfl, ?_⟩, trivial⟩
                    refine TL.pure (PV.indexG (j := eB rs i) rfl rfl hgO Tb.elm_83 (Int.toNat_of_nonneg (by omega)).symm (by show (rs.getD i default).b.toNat < N; omega)) rfl (by decide) ?_
                    refine TL.nil ?_
                    refine TX.next (.inr (by kernel_rfl)) ?_
                    refine TX.step [10] (by kernel_rfl) (by decide) ⟨⟨_, rfl, ?_⟩, trivial⟩
                    refine TL.put1 (len := N) (ys' := bval ((wpass rs (walkN N rs v.1 u.1) i).kn.set (eB rs i) true)) rfl rfl Tb.cells_4 rfl hgO (by exact List.map_set) (by repeat (first | exact PutH.here _ _ _ _ | apply PutH.tail | apply PutH.app)) (by show (rs.getD i default).b.toNat < N; omega) rfl rfl ?_
                    refine TL.nil ?_
                    refine TX.next (.inr (by kernel_rfl)) ?_
                    refine TX.done (by kernel_rfl) ?_
                    refine TQ.blkN ?_
                    refine TQ.thenC ?_
                    refine TC.region ?_
                    refine TL.pure (PV.move rfl) rfl (by decide) ?_
                    refine TL.pure (PV.add rfl rfl (by omega)) rfl (by decide) ?_
                    refine TL.pure (PV.assign rfl) rfl (by decide) ?_
                    refine TL.nil ?_
                    refine TQ.thenN ?_
                    refine TQ.backK (i + 1) (by repeat (first | exact True.intro | refine And.intro rfl ?_)) (by repeat (first | exact True.intro | refine And.intro rfl ?_)) (by first | (rw [show wpass rs (walkN N rs v.1 u.1) (i + 1) = wstep rs (walkN N rs v.1 u.1) (wpass rs (walkN N rs v.1 u.1) i) i from rfl, wstep_yes hA (by first | exact .inl (by simpa using hC) | exact .inr hD)]; exact List.Sublist.cons _ (List.Sublist.refl _)) | (rw [show wpass rs (walkN N rs v.1 u.1) (i + 1) = wstep rs (walkN N rs v.1 u.1) (wpass rs (walkN N rs v.1 u.1) i) i from rfl, wstep_no (fun h9 => by first | (rw [hA] at h9; exact absurd h9.1 (by decide)) | exact h9.2.elim (fun h8 => absurd h8 (by simpa using hC)) hD)]; exact List.Sublist.cons _ (List.Sublist.refl _))) (by omega) (by omega)
                  · skip
                    refine TC.skip ?_
                    refine TQ.blkN ?_
                    refine TQ.thenC ?_
                    refine TC.region ?_
                    refine TL.pure (PV.move rfl) rfl (by decide) ?_
                    refine TL.pure (PV.add rfl rfl (by omega)) rfl (by decide) ?_
                    refine TL.pure (PV.assign rfl) rfl (by decide) ?_
                    refine TL.nil ?_
                    refine TQ.thenN ?_
                    refine TQ.backK (i + 1) (by repeat (first | exact True.intro | refine And.intro rfl ?_)) (by repeat (first | exact True.intro | refine And.intro rfl ?_)) (by first | (rw [show wpass rs (walkN N rs v.1 u.1) (i + 1) = wstep rs (walkN N rs v.1 u.1) (wpass rs (walkN N rs v.1 u.1) i) i from rfl, wstep_yes hA (by first | exact .inl (by simpa using hC) | exact .inr hD)]; exact List.Sublist.cons _ (List.Sublist.refl _)) | (rw [show wpass rs (walkN N rs v.1 u.1) (i + 1) = wstep rs (walkN N rs v.1 u.1) (wpass rs (walkN N rs v.1 u.1) i) i from rfl, wstep_no (fun h9 => by first | (rw [hA] at h9; exact absurd h9.1 (by decide)) | exact h9.2.elim (fun h8 => absurd h8 (by simpa using hC)) hD)]; exact List.Sublist.cons _ (List.Sublist.refl _))) (by omega) (by omega)
              · skip
                refine TA.op (OpOK.skip rfl) (by decide) ?_
                refine TA.op (OpOK.skip rfl) (by decide) ?_
                refine TA.op (OpOK.skip rfl) (by decide) ?_
                refine TA.op (OpOK.skip rfl) (by decide) ?_
                refine TA.op (OpOK.skip rfl) (by decide) ?_
                refine TA.op (OpOK.skip rfl) (by decide) ?_
                refine TA.op (OpOK.skip rfl) (by decide) ?_
                refine TA.op (OpOK.skipU rfl) (by decide) ?_
                refine TA.op (OpOK.skipU rfl) (by decide) ?_
                refine TA.op (OpOK.skipU rfl) (by decide) ?_
                refine TA.op (OpOK.skipU rfl) (by decide) ?_
                refine TA.op (OpOK.skipU rfl) (by decide) ?_
                refine TA.op (OpOK.skipU rfl) (by decide) ?_
                refine TA.op (OpOK.skipU rfl) (by decide) ?_
                refine TA.op (OpOK.skip rfl) (by decide) ?_
                refine TA.op (OpOK.pure (PV.pickF rfl rfl) rfl (by decide)) (by decide) ?_
                show TQ _ _ _ _ _
                refine TQ.thenC ?_
                refine TC.condF rfl ?_
                refine TC.skip ?_
                refine TQ.blkN ?_
                refine TQ.thenC ?_
                refine TC.region ?_
                refine TL.pure (PV.move rfl) rfl (by decide) ?_
                refine TL.pure (PV.add rfl rfl (by omega)) rfl (by decide) ?_
                refine TL.pure (PV.assign rfl) rfl (by decide) ?_
                refine TL.nil ?_
                refine TQ.thenN ?_
                refine TQ.backK (i + 1) (by repeat (first | exact True.intro | refine And.intro rfl ?_)) (by repeat (first | exact True.intro | refine And.intro rfl ?_)) (by first | (rw [show wpass rs (walkN N rs v.1 u.1) (i + 1) = wstep rs (walkN N rs v.1 u.1) (wpass rs (walkN N rs v.1 u.1) i) i from rfl, wstep_yes hA (by first | exact .inl (by simpa using hC) | exact .inr hD)]; exact List.Sublist.cons _ (List.Sublist.refl _)) | (rw [show wpass rs (walkN N rs v.1 u.1) (i + 1) = wstep rs (walkN N rs v.1 u.1) (wpass rs (walkN N rs v.1 u.1) i) i from rfl, wstep_no (fun h9 => by first | (rw [hA] at h9; exact absurd h9.1 (by decide)) | exact h9.2.elim (fun h8 => absurd h8 (by simpa using hC)) hD)]; exact List.Sublist.cons _ (List.Sublist.refl _))) (by omega) (by omega)
            · skip
              refine TC.exit ?_
              refine TQ.thenE ?_
              refine TQ.thenE ?_
              refine TQ.blkS ?_
              refine TQ.thenC ?_
              refine TC.lit [(1, _), (2, _), (4, _), (5, _), (6, _), (7, _), (8, _), (9, _), (10, _), (11, _)] (by repeat (first | exact True.intro | refine And.intro rfl ?_)) ?_
              have e8 : i = rs.length := by omega
              subst e8
              have okP := okW.pass (rs := rs) rs.length
              have hq : gok y.1 N 1 (ival (walkN N rs v.1 (u.1 + 1)).sm) ∧ gok y.2 N 1 (bval (walkN N rs v.1 (u.1 + 1)).kn) := ⟨gokI hy.1 okP.sl, gokO hy.2 okP.kl⟩
              refine TC.region ?_
              refine TL.pure (PV.move rfl) rfl (by decide) ?_
              refine TL.pure (PV.move rfl) rfl (by decide) ?_
              refine TL.pure (PV.move rfl) rfl (by decide) ?_
              refine TL.pure (PV.move rfl) rfl (by decide) ?_
              refine TL.pure (PV.move rfl) rfl (by decide) ?_
              refine TL.pure (PV.move rfl) rfl (by decide) ?_
              refine TL.pure (PV.index1 (j := v.1) rfl rfl Tb.elm_51 rfl (by omega)) rfl (by decide) ?_
              refine TL.storeV (cs := ouT (fS N v.2) (gval u.2.1 N) (N - (v.1 + 1))) rfl rfl Tb.cells_25 (gval_one _ _) (ouT_set hSv) (by repeat (first | exact Upd.head _ | exact fB_upd (by repeat (first | exact Upd.head _ | apply Upd.tail)) _ | apply Upd.tail | apply Upd.appR)) (by rw [ouT_size]; omega) rfl rfl ?_
              refine TL.pure (PV.index1 (j := v.1) rfl rfl Tb.elm_80 rfl (by omega)) rfl (by decide) ?_
              refine TL.storeV (cs := ouT (fK N v.2) (gval u.2.2 N) (N - (v.1 + 1))) rfl rfl Tb.cells_83 (gval_one _ _) (ouT_set hKv) (by repeat (first | exact Upd.head _ | exact fB_upd (by repeat (first | exact Upd.head _ | apply Upd.tail)) _ | apply Upd.tail | apply Upd.appR)) (by rw [ouT_size]; omega) rfl rfl ?_
              refine TL.nil ?_
              refine TQ.blkN ?_
              refine TQ.thenC ?_
              refine TC.region ?_
              refine TL.pure (PV.move rfl) rfl (by decide) ?_
              refine TL.pure (PV.add rfl rfl (by omega)) rfl (by decide) ?_
              refine TL.pure (PV.assign rfl) rfl (by decide) ?_
              refine TL.nil ?_
              refine TQ.thenN ?_
              refine TQ.backK (u.1 + 1, y.1, y.2) (by repeat (first | exact True.intro | refine And.intro rfl ?_)) (by repeat (first | exact True.intro | refine And.intro rfl ?_)) ((List.append_sublist_append_left _).2 ((List.append_sublist_append_left _).2 (fB_drop _ _ _))) ⟨by omega, hq.1, hq.2⟩ (by simp only; omega)
        · skip
          refine TC.exit ?_
          refine TQ.thenE ?_
          refine TQ.thenE ?_
          refine TQ.blkS ?_
          refine TQ.blkN ?_
          refine TQ.thenC ?_
          have e9 : u.1 = B := by omega
          refine TC.region ?_
          refine TL.pure (PV.move rfl) rfl (by decide) ?_
          refine TL.pure (PV.add rfl rfl (by omega)) rfl (by decide) ?_
          refine TL.pure (PV.assign rfl) rfl (by decide) ?_
          refine TL.nil ?_
          refine TQ.thenN ?_
          refine TQ.backK (v.1 + 1, ((u.2.1, (walkN N rs v.1 u.1).sm), (u.2.2, (walkN N rs v.1 u.1).kn)) :: v.2) (by repeat (first | exact True.intro | refine And.intro rfl ?_)) (by repeat (first | exact True.intro | refine And.intro rfl ?_)) (by rw [fS_cons, fK_cons, ← ouT_snoc, ← ouT_snoc]; exact List.Sublist.refl _) ⟨by omega, e9 ▸ hv2.2.step hu.2.1 hu.2.2 (by rw [e9]) (by rw [e9])⟩ (by simp only; omega)
    · skip
      refine TC.exit ?_
      refine TQ.thenE ?_
      refine TQ.thenE ?_
      refine TQ.blkS ?_
      refine TQ.thenC ?_
      refine TC.seq ?_
      refine TC.region ?_
      refine TL.pure (PV.move rfl) rfl (by decide) ?_
      refine TL.pure (PV.move rfl) rfl (by decide) ?_
      refine TL.pure (PV.assign rfl) rfl (by decide) ?_
      refine TL.pure (PV.assign rfl) rfl (by decide) ?_
      refine TL.nil ?_
      refine TQ.thenC ?_
      refine TC.ret ?_
      refine TQ.retE2 rfl rfl rfl ?_
      have e7 : v.1 = N := by omega
      refine ⟨(z.1, z.2, v.2), rfl, e7 ▸ hv2.2, ?_⟩
      rw [e7, Nat.sub_self, ouS_all, ouS_all]
      exact fB_sub (List.Sublist.cons_cons _ (List.Sublist.cons_cons _ (List.nil_sublist _))) _

end Go.Proofs.Ytenalmddoljhoaa
