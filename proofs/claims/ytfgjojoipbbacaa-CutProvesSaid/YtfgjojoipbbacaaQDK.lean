/- Copies of bogs: contracts. -/
import Derived.Test.YtfgjojoipbbacaaQDJ
set_option linter.unusedVariables false
set_option linter.unusedSimpArgs false
namespace Go.Proofs.Ytfgjojoipbbacaa
open Go.Sx Go.RowKit

theorem take_one {ls : List (List Int)} {k : Nat} (h : k < ls.length) : ls.take (k + 1) = ls.take k ++ [ls.getD k []] := by
  rw [List.take_add_one]
  simp [List.getD, h]
theorem gvP_one (x : HD × List (HD × List Int)) : (gvP x).oneCell' = true := by
  obtain ⟨h, l⟩ := x
  cases h <;> rfl
theorem gvP_all (x : HD × List (HD × List Int)) : [gvP x].all Value.oneCell' = true := by simp [gvP_one]
set_option maxRecDepth 100000 in
set_option maxHeartbeats 1000000 in
theorem Copy_ok (w0 : World) (p : Option Addr) (cap : Nat) (ls : List (List Int)) (hr : LsAt w0 p ls) (hl1 : ls.length ≤ 100000) (hl2 : ∀ j, (ls.getD j []).length ≤ 100000) :
    Calls Try.prog 42 #[bv p ls.length cap] w0 (Post (X := HD × List (HD × List Int)) (fun z => .agg #[gvP z]) (fun z => GrP ls z) (fun z => gbP z ++ bl z.2) w0) := by
  refine calls Try.func42 rfl (n := 25) rfl (by simp) ?_
  refine TC.seq ?_
  refine TC.region ?_
  refine TL.box rfl rfl (by decide) (fun b0 hb0 => ?_)
  refine TL.alloc Tb.zero_24 rfl (by decide) (fun b1 hb1 => ?_)
  refine TL.nil ?_
  refine TQ.thenC ?_
  refine TC.seq ?_
  refine TC.region ?_
  refine TL.alloc Tb.zero_24 rfl (by decide) (fun b2 hb2 => ?_)
  refine TL.nil ?_
  refine TQ.thenC ?_
  refine TC.seq ?_
  refine TC.seq ?_
  refine TC.region ?_
  refine TL.pure (PV.assign rfl) rfl (by decide) ?_
  refine TL.nil ?_
  refine TQ.thenC ?_
  refine TC.block ?_
  refine TC.lit [(1, _), (2, _), (3, _), (4, _)] (by repeat (first | exact True.intro | refine And.intro rfl ?_)) ?_
  refine TC.loopK [1, 2, 3] (X := Nat × HD × List (HD × List Int)) (fun y => y.1 ≤ ls.length ∧ GrP (ls.take y.1) y.2) (fun y => [(4, .int .i64 y.1)]) (fun y => gbP y.2 ++ (bl y.2.2 ++ [(b2, Obj.cells #[gvP y.2] 24 (0, 0)), (b1, Obj.cells #[.slice none 0 0] 24 (0, 0)), (b0, Obj.cells #[.slice p ls.length cap] 24 (0, 0))])) (fun y => ls.length - y.1) (0, none, []) ⟨Nat.zero_le _, GrP.nil⟩ (by repeat (first | exact True.intro | refine And.intro rfl ?_)) (List.Sublist.refl _) ?_
  intro y hy
  refine TC.lit [(1, _), (2, _), (3, _), (4, _)] (by repeat (first | exact True.intro | refine And.intro rfl ?_)) ?_
  refine TC.seq ?_
  refine TC.seq ?_
  refine TC.region ?_
  refine TL.pure (PV.move rfl) rfl (by decide) ?_
  refine TL.pure (PV.fieldAddr rfl Tb.fo_24_0) rfl (by decide) ?_
  refine TL.pure (PV.load rfl Tb.one_22 (by repeat (first | exact List.Mem.head _ | refine List.Mem.tail _ ?_ | refine List.mem_append_right _ ?_)) rfl) rfl (by decide) ?_
  refine TL.pure (PV.len rfl Tb.sl_22) rfl (by decide) ?_
  refine TL.pure (PV.lss rfl rfl) rfl (by decide) ?_
  refine TL.nil ?_
  refine TQ.thenC ?_
  first | refine TC.condD rfl (fun hlt => ?_) (fun hlt => ?_) | refine TC.cond rfl (fun hlt => ?_) (fun hlt => ?_)
  · skip
    refine TC.skip ?_
    refine TQ.thenC ?_
    refine TC.seq ?_
    refine TC.block ?_
    obtain ⟨q2, hq2p, pj, cj, hq2, hjx⟩ := hr y.1 (by omega)
    have hrl := hl2 y.1
    refine TC.mix [true, true, false, true, true, true, true, true, false, false, false, false, false] [(b2, Obj.cells #[gvP y.2] 24 (0, 0)), (b1, Obj.cells #[.slice none 0 0] 24 (0, 0)), (b0, Obj.cells #[.slice p ls.length cap] 24 (0, 0))] 6 Tb.mixed rfl (by kernel_rfl) (by kernel_rfl) (by kernel_rfl) (by kernel_rfl) (by repeat (first | exact List.Sublist.slnil | exact List.nil_sublist _ | exact List.Sublist.refl _ | refine List.Sublist.cons_cons _ ?_ | refine List.Sublist.cons _ ?_ | refine List.Sublist.trans ?_ (List.sublist_append_right _ _))) ?_
    refine TB.op (SOK.pure (PV.fieldAddr rfl Tb.fo_24_0) rfl) (by decide) ?_
    refine TB.op (SOK.pure (PV.load rfl Tb.one_22 (by repeat (first | exact List.Mem.head _ | refine List.Mem.tail _ ?_ | refine List.mem_append_right _ ?_)) rfl) rfl) (by decide) ?_
    refine TB.no ?_
    refine TB.op (SOK.pure (PV.fieldAddr rfl Tb.fo_24_0) rfl) (by decide) ?_
    refine TB.op (SOK.pure (PV.load rfl Tb.one_22 (by repeat (first | exact List.Mem.head _ | refine List.Mem.tail _ ?_ | refine List.mem_append_right _ ?_)) rfl) rfl) (by decide) ?_
    refine TB.op (SOK.pure (PV.move rfl) rfl) (by decide) ?_
    refine TB.op (SOK.pure (PV.indexA rfl hq2p rfl Tb.elm_22 rfl (by omega)) rfl) (by decide) ?_
    refine TB.op (SOK.pure (PV.loadOld rfl Tb.one_25 hq2) rfl) (by decide) ?_
    refine TB.no ?_
    refine TB.no ?_
    refine TB.no ?_
    refine TB.no ?_
    refine TB.no ?_
    refine TB.fin ?_
    refine TX.step [2] (by kernel_rfl) (by decide) ⟨⟨_, rfl, ?_⟩, trivial⟩
    refine TL.buildSlice0 Tb.sl_25 Tb.zi_3 rfl (by decide) (fun bA hbA => ?_)
    refine TL.nil ?_
    refine TX.next (.inl (by repeat (first | exact List.Sublist.slnil | exact List.nil_sublist _ | exact List.Sublist.refl _ | refine List.Sublist.cons_cons _ ?_ | refine List.Sublist.cons _ ?_ | refine List.Sublist.trans ?_ (List.sublist_append_right _ _)))) ?_
    refine TX.step [8] (by kernel_rfl) (by decide) ⟨⟨_, rfl, ?_⟩, trivial⟩
    refine TL.append0 (m := (ls.getD y.1 []).length) (news := ival (ls.getD y.1 [])) (bA := bA) rfl rfl Tb.sl_25 Tb.zi_3 rfl (by repeat (first | exact Take.head _ | apply Take.tail | apply Take.appR)) (fun w' hN2 => ints_src Tb.sl_25 rfl (hjx.new hN2)) (by omega) (by omega) rfl (by decide) (fun h9 ho9 => ?_)
    refine TL.nil ?_
    refine TX.next (.inl (by repeat (first | exact List.Sublist.slnil | exact List.nil_sublist _ | exact List.Sublist.refl _ | refine List.Sublist.cons_cons _ ?_ | refine List.Sublist.cons _ ?_ | refine List.Sublist.trans ?_ (List.sublist_append_right _ _)))) ?_
    refine TX.step [9] (by kernel_rfl) (by decide) ⟨⟨_, rfl, ?_⟩, trivial⟩
    refine TL.buildSlice (cs := #[gvI (h9, ls.getD y.1 [])]) rfl Tb.sl_22 Tb.zi_25 (by decide) (fill_g _ _) (by decide) rfl (by decide) (fun bO hbO => ?_)
    refine TL.nil ?_
    refine TX.next (.inl (by repeat (first | exact List.Sublist.slnil | exact List.nil_sublist _ | exact List.Sublist.refl _ | refine List.Sublist.cons_cons _ ?_ | refine List.Sublist.cons _ ?_ | refine List.Sublist.trans ?_ (List.sublist_append_right _ _)))) ?_
    refine TX.step [10] (by kernel_rfl) (by decide) ⟨⟨_, rfl, ?_⟩, trivial⟩
    refine TL.appendP (x0 := y.2) (y := (h9, ls.getD y.1 [])) rfl rfl (by repeat (first | exact List.Mem.head _ | refine List.Mem.tail _ ?_ | refine List.mem_append_right _ ?_)) hy.2.ok (by repeat (first | exact TakeH.here _ _ _ _ | apply TakeH.tail | apply TakeH.app)) (by rw [hy.2.len, List.length_take]; omega) rfl (by decide) (fun hP_ hP => ?_)
    refine TL.nil ?_
    refine TX.next (.inl (by repeat (first | exact List.Sublist.slnil | exact List.nil_sublist _ | exact List.Sublist.refl _ | refine List.Sublist.cons_cons _ ?_ | refine List.Sublist.cons _ ?_ | refine List.Sublist.trans ?_ (List.sublist_append_right _ _)))) ?_
    refine TX.step [11] (by kernel_rfl) (by decide) ⟨⟨_, rfl, ?_⟩, trivial⟩
    refine TL.pure (PV.fieldAddr rfl Tb.fo_24_0) rfl (by decide) ?_
    refine TL.nil ?_
    refine TX.next (.inr (by kernel_rfl)) ?_
    refine TX.step [12] (by kernel_rfl) (by decide) ⟨⟨_, rfl, ?_⟩, trivial⟩
    refine TL.store rfl rfl Tb.cells_22 (gvP_one _) (by repeat (first | exact Upd.head _ | apply Upd.tail | apply Upd.appR)) (by show 0 < 1; decide) rfl rfl ?_
    refine TL.nil ?_
    refine TX.next (.inr (by kernel_rfl)) ?_
    refine TX.done (by kernel_rfl) ?_
    refine TQ.blkN ?_
    refine TQ.thenC ?_
    refine TC.region ?_
    refine TL.pure (PV.move rfl) rfl (by decide) ?_
    refine TL.pure (PV.add rfl rfl (by omega)) rfl (by decide) ?_
    refine TL.pure (PV.assign rfl) rfl (by decide) ?_
    refine TL.nil ?_
    refine TQ.thenN ?_
    refine TQ.backK (y.1 + 1, hP_, y.2.2 ++ [(h9, ls.getD y.1 [])]) (by repeat (first | exact True.intro | refine And.intro rfl ?_)) (by repeat (first | exact True.intro | refine And.intro rfl ?_)) (by rw [bl_snoc]; simp only [List.append_assoc]; exact List.Sublist.append_left (List.Sublist.cons _ (List.Sublist.refl _)) _) ⟨by simp only; omega, by have h7 : GrP (ls.take y.1 ++ [ls.getD y.1 []]) (hP_, y.2.2 ++ [(h9, ls.getD y.1 [])]) := hy.2.snoc (h2 := h9) ho9 hP; rw [← take_one (show y.1 < ls.length by omega)] at h7; exact h7⟩ (by simp only; omega)
  · skip
    refine TC.exit ?_
    refine TQ.thenE ?_
    refine TQ.thenE ?_
    refine TQ.blkS ?_
    refine TQ.thenC ?_
    refine TC.seq ?_
    refine TC.region ?_
    refine TL.pure (PV.loadBox rfl Tb.agg_24 (by repeat (first | exact List.Mem.head _ | refine List.Mem.tail _ ?_ | refine List.mem_append_right _ ?_)) rfl) rfl (by decide) ?_
    refine TL.storeAgg rfl rfl Tb.cells_24 (by repeat (first | exact Upd.head _ | apply Upd.tail | apply Upd.appR)) rfl rfl (gvP_all _) rfl rfl ?_
    refine TL.nil ?_
    refine TQ.thenC ?_
    refine TC.ret ?_
    refine TQ.retR rfl (Res.agg rfl Tb.agg_24 (by repeat (first | exact List.Mem.head _ | refine List.Mem.tail _ ?_ | refine List.mem_append_right _ ?_)) rfl Res.nil) ?_
    simp only [tup]
    exact ⟨y.2, rfl, by have h7 := hy.2; rw [show y.1 = ls.length by omega, List.take_length] at h7; exact h7, by rw [← List.append_assoc]; exact List.sublist_append_left _ _⟩

end Go.Proofs.Ytfgjojoipbbacaa
