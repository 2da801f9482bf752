/- A core without the bounds that follow from others: the document's own way. -/
import Derived.Test.YtenalmddoljhoaaQC
import Derived.Test.YtenalmddoljhoaaWD
set_option linter.unusedVariables false
set_option linter.unusedSimpArgs false
namespace Go.Proofs.Ytenalmddoljhoaa
open Go.Sx Go.RowKit

theorem red_valid {n : Int} {rs : List Bd} (hv : Valid n rs) {j : Nat} (hj : j < rs.length) : Valid n (delB (redK n.toNat rs j) (rs.length - 1 - j)) := by
  have h := redK_ok hv j (by omega)
  have := h.lo
  exact valid_sub h.vd (by rw [delB_len (by omega)]; omega) del_mem
theorem red_step {n : Int} {rs : List Bd} (hd : dOk n rs = true) {j : Nat} (hj : j < rs.length) :
    (redK n.toNat rs j).getD (rs.length - 1 - j) default = rs.getD (rs.length - 1 - j) default ∧
    flwR n (delB (redK n.toNat rs j) (rs.length - 1 - j)) (rs.getD (rs.length - 1 - j) default) = flwB (plainB n.toNat (delB (redK n.toNat rs j) (rs.length - 1 - j))) (rs.getD (rs.length - 1 - j) default) := by
  have hv : Valid n rs := (of_decide_eq_true hd).1
  have h := redK_ok hv j (by omega)
  have hlo := h.lo
  refine ⟨h.pre _ (by omega), (flwR_plain (dok_sub (h.dok hd) (by rw [delB_len (by omega)]; omega) del_mem) ?_).1⟩
  exact List.all_eq_true.1 hv.all _ (idx_mem (by omega))
theorem front_at {w0 w : World} {G : Heap} {b cap : Nat} {sp : List Value} {l : List Bd} (hn : New w0 w G) (hg : goB (some (b, cap, sp)) l) (hm : ∀ y ∈ gbB 42 (some (b, cap, sp)) l, y ∈ G) (i : Nat) : BdsAt w (some ⟨b, 0, none⟩) (l.take i) := by
  have h := BdsAt.s hn hm hg
  intro j hj
  have hj2 : j < l.length ∧ j < i := by simp at hj; omega
  obtain ⟨q, hq, hc⟩ := h j hj2.1
  refine ⟨q, hq, fun u v hv => hc u v ?_⟩
  rw [← hv]
  simp only [List.getD]
  rw [List.getElem?_take_of_lt hj2.2]
theorem goB_def {b cap : Nat} {sp : List Value} {l : List Bd} (h : goB (some (b, cap, sp)) l) : l.length ≤ cap := h.2.2


set_option maxRecDepth 100000 in
set_option maxHeartbeats 2000000 in
theorem rReduce_ok (w0 : World) (n : Int) (p : Option Addr) (cap : Nat) (rs : List Bd) (hr : BdsAt w0 p rs) :
    Calls Try.prog 50 #[cv n p rs.length cap] w0 (Post (X := Int × HD × List Bd) (fun x => .tuple #[.agg #[.int .i64 x.1, gval x.2.1 x.2.2.length], .int .i64 (pofI n rs [])]) (CF (pofI n rs []) n (redK n.toNat rs rs.length)) (fun x => gbB 42 x.2.1 x.2.2) w0) := by
  refine calls Try.func50 rfl (n := 57) rfl (by simp) ?_
  refine TC.seq ?_
  refine TC.region ?_
  refine TL.box rfl rfl (by decide) (fun b0 hb0 => ?_)
  refine TL.alloc Tb.zero_24 rfl (by decide) (fun b1 hb1 => ?_)
  refine TL.pure (PV.assign rfl) rfl (by decide) ?_
  refine TL.nil ?_
  refine TQ.thenC ?_
  refine TC.seq ?_
  refine TC.seq ?_
  refine TC.region ?_
  refine TL.pure (PV.loadBox rfl Tb.agg_24 (by repeat (first | exact List.Mem.head _ | refine List.Mem.tail _ ?_ | refine List.mem_append_right _ ?_)) rfl) rfl (by decide) ?_
  refine TL.call rfl Tb.gofn_22 (fun a w hs => rvalidate_ok w _ _ _ _ (hr.new hs.new)) rfl (by decide) (fun _ _ => ?_)
  refine TL.pure (PV.assign rfl) rfl (by decide) ?_
  refine TL.nil ?_
  refine TQ.thenC ?_
  refine TC.seq ?_
  refine TC.region ?_
  refine TL.pure (PV.move rfl) rfl (by decide) ?_
  refine TL.pure (PV.neq rfl rfl) rfl (by decide) ?_
  refine TL.nil ?_
  refine TQ.thenC ?_
  first | refine TC.condD rfl (fun hbad => ?_) (fun hbad => ?_) | refine TC.cond rfl (fun hbad => ?_) (fun hbad => ?_)
  · skip
    refine TC.seq ?_
    refine TC.region ?_
    refine TL.pure (PV.build rfl Tb.zero_24 Tb.pl_24 rfl) rfl (by decide) ?_
    refine TL.pure (PV.move rfl) rfl (by decide) ?_
    refine TL.storeAgg rfl rfl Tb.cells_24 (by repeat (first | exact Upd.head _ | apply Upd.tail | apply Upd.appR)) rfl rfl (by first | rfl | exact sv_one _ _ _) rfl rfl ?_
    refine TL.pure (PV.assign rfl) rfl (by decide) ?_
    refine TL.nil ?_
    refine TQ.thenC ?_
    refine TC.ret ?_
    refine TQ.thenR ?_
    refine TQ.retR rfl (Res.agg rfl Tb.agg_24 (by repeat (first | exact List.Mem.head _ | refine List.Mem.tail _ ?_ | refine List.mem_append_right _ ?_)) rfl (Res.tmp rfl Res.nil)) ?_
    simp only [tup]
    exact ⟨(0, none, []), by rw [pof_inv hbad]; rfl, CF.bad (by rw [pof_inv hbad]; exact hbad), List.nil_sublist _⟩
  · skip
    refine TC.skip ?_
    refine TQ.thenC ?_
    refine TC.seq ?_
    refine TC.seq ?_
    have hv : Valid n rs := vof hbad
    have hl9 := hv.len
    have hcd := clashW_dOk hv
    have hpz := pof_nil hv
    refine TC.region ?_
    refine TL.pure (PV.loadBox rfl Tb.agg_24 (by repeat (first | exact List.Mem.head _ | refine List.Mem.tail _ ?_ | refine List.mem_append_right _ ?_)) rfl) rfl (by decide) ?_
    refine TL.call rfl Tb.gofn_58 (fun a w hs => clashes_ok w _ _ _ _ (hr.new hs.new) hv) rfl (by decide) (fun _ _ => ?_)
    refine TL.nil ?_
    refine TQ.thenC ?_
    first | refine TC.condD rfl (fun hcl => ?_) (fun hcl => ?_) | refine TC.cond rfl (fun hcl => ?_) (fun hcl => ?_)
    · skip
      refine TC.seq ?_
      refine TC.region ?_
      refine TL.pure (PV.build rfl Tb.zero_24 Tb.pl_24 rfl) rfl (by decide) ?_
      refine TL.storeAgg rfl rfl Tb.cells_24 (by repeat (first | exact Upd.head _ | apply Upd.tail | apply Upd.appR)) rfl rfl (by first | rfl | exact sv_one _ _ _) rfl rfl ?_
      refine TL.pure (PV.assign rfl) rfl (by decide) ?_
      refine TL.nil ?_
      refine TQ.thenC ?_
      refine TC.ret ?_
      refine TQ.thenR ?_
      refine TQ.retR rfl (Res.agg rfl Tb.agg_24 (by repeat (first | exact List.Mem.head _ | refine List.Mem.tail _ ?_ | refine List.mem_append_right _ ?_)) rfl (Res.tmp rfl Res.nil)) ?_
      simp only [tup]
      have hd : ¬ dOk n rs = true := by rw [hcd] at hcl; simpa using hcl
      rw [if_neg hd] at hpz
      exact ⟨(0, none, []), by rw [hpz]; rfl, CF.bad (by rw [hpz]; decide), List.nil_sublist _⟩
    · skip
      refine TC.skip ?_
      refine TQ.thenC ?_
      refine TC.seq ?_
      have hd : dOk n rs = true := by rw [hcd] at hcl; simpa using hcl
      have hz0 : pofI n rs [] = 0 := by rw [hpz, if_pos hd]
      refine TC.region ?_
      refine TL.pure (PV.loadBox rfl Tb.agg_24 (by repeat (first | exact List.Mem.head _ | refine List.Mem.tail _ ?_ | refine List.mem_append_right _ ?_)) rfl) rfl (by decide) ?_
      refine TL.call rfl Tb.gofn_48 (fun a w hs => Copy_ok w n p cap rs.length rs rfl (hr.new hs.new) (by omega)) rfl (by decide) (fun h1 hh1 => ?_)
      refine TL.alloc Tb.zero_24 rfl (by decide) (fun b2 hb2 => ?_)
      refine TL.storeAgg rfl rfl Tb.cells_24 (by repeat (first | exact Upd.head _ | apply Upd.tail | apply Upd.appR)) rfl rfl (by first | rfl | exact sv_one _ _ _) rfl rfl ?_
      refine TL.nil ?_
      refine TQ.thenC ?_
      refine TC.seq ?_
      refine TC.seq ?_
      refine TC.region ?_
      refine TL.pure (PV.fieldAddr rfl Tb.fo_24_1) rfl (by decide) ?_
      refine TL.pure (PV.load rfl Tb.one_22 (by repeat (first | exact List.Mem.head _ | refine List.Mem.tail _ ?_ | refine List.mem_append_right _ ?_)) rfl) rfl (by decide) ?_
      refine TL.pure (PV.lenG rfl hh1 Tb.sl_22) rfl (by decide) ?_
      refine TL.pure (PV.sub rfl rfl (by omega)) rfl (by decide) ?_
      refine TL.pure (PV.assign rfl) rfl (by decide) ?_
      refine TL.nil ?_
      refine TQ.thenC ?_
      refine TC.block ?_
      refine TC.loopK [1, 2, 3, 5] (X := Nat × Int × HD) (fun y => (y.1 ≤ rs.length ∧ y.2.1 = (rs.length : Int) - 1 - y.1) ∧ goB y.2.2 (redK n.toNat rs y.1)) (fun y => [(6, .int .i64 y.2.1)]) (fun y => (b2, Obj.cells #[.int .i64 n, gval y.2.2 ((redK n.toNat rs y.1)).length] 24 (0, 0)) :: (gbB 42 y.2.2 (redK n.toNat rs y.1) ++ [(b1, Obj.cells #[.int .i64 0, .slice none 0 0] 24 (0, 0)), (b0, Obj.cells #[.int .i64 n, .slice p rs.length cap] 24 (0, 0))])) (fun y => rs.length - y.1) (0, (rs.length : Int) - 1, h1) ⟨⟨Nat.zero_le _, by simp⟩, hh1⟩ (by repeat (first | exact True.intro | refine And.intro rfl ?_)) (by repeat (first | exact List.Sublist.slnil | exact List.nil_sublist _ | exact List.Sublist.refl _ | refine List.Sublist.cons_cons _ ?_ | refine List.Sublist.cons _ ?_ | refine List.Sublist.trans ?_ (List.sublist_append_right _ _))) ?_
      intro y hy
      refine TC.seq ?_
      refine TC.seq ?_
      refine TC.region ?_
      refine TL.pure (PV.move rfl) rfl (by decide) ?_
      refine TL.pure (PV.geq rfl rfl) rfl (by decide) ?_
      refine TL.nil ?_
      refine TQ.thenC ?_
      first | refine TC.condD rfl (fun hge => ?_) (fun hge => ?_) | refine TC.cond rfl (fun hge => ?_) (fun hge => ?_)
      · skip
        refine TC.skip ?_
        refine TQ.thenC ?_
        refine TC.seq ?_
        refine TC.block ?_
        refine TC.seq ?_
        obtain ⟨y1, m9, y2⟩ := y
        obtain ⟨⟨hyl, hym⟩, hyg⟩ := hy
        dsimp only at *
        have hk9 := redK_ok hv y1 (by omega)
        have hlo := hk9.lo
        have hhi := hk9.hi
        have hil : (rs.length - 1 - y1) < (redK n.toNat rs y1).length := by omega
        obtain ⟨hx9, hf9⟩ := red_step hd (j := y1) (by omega)
        obtain _ | ⟨b9, c9, s9⟩ := y2
        · exact absurd hyg.2 (by simp only; omega)
        have hcap := goB_def hyg
        refine TC.mix [true, true, false, true, true, true, true, false, true, true, true, true, true, false, false, false, false] [(b2, Obj.cells #[.int .i64 n, gval (some (b9, c9, s9)) ((redK n.toNat rs y1)).length] 24 (0, 0)), (b9, Obj.cells (bdc (redK n.toNat rs y1) ++ s9).toArray 42 (0, 0)), (b0, Obj.cells #[.int .i64 n, .slice p rs.length cap] 24 (0, 0))] 6 Tb.mixed rfl (by kernel_rfl) (by kernel_rfl) (by kernel_rfl) (by kernel_rfl) (by repeat (first | exact List.Sublist.slnil | exact List.nil_sublist _ | exact List.Sublist.refl _ | refine List.Sublist.cons_cons _ ?_ | refine List.Sublist.cons _ ?_ | refine List.Sublist.trans ?_ (List.sublist_append_right _ _))) ?_
        refine TB.op (SOK.pure (PV.fieldAddr rfl Tb.fo_24_0) rfl) (by decide) ?_
        refine TB.op (SOK.pure (PV.load rfl Tb.one_3 (by repeat (first | exact List.Mem.head _ | refine List.Mem.tail _ ?_ | refine List.mem_append_right _ ?_)) rfl) rfl) (by decide) ?_
        refine TB.no ?_
        refine TB.op (SOK.pure (PV.fieldAddr rfl Tb.fo_24_1) rfl) (by decide) ?_
        refine TB.op (SOK.pure (PV.load rfl Tb.one_22 (by repeat (first | exact List.Mem.head _ | refine List.Mem.tail _ ?_ | refine List.mem_append_right _ ?_)) rfl) rfl) (by decide) ?_
        refine TB.op (SOK.pure (PV.move rfl) rfl) (by decide) ?_
        refine TB.op (SOK.pure (PV.sliceHb (h := (rs.length - 1 - y1)) rfl rfl Tb.elm_22 (by omega) (by omega)) rfl) (by decide) ?_
        refine TB.no ?_
        refine TB.op (SOK.pure (PV.fieldAddr rfl Tb.fo_24_1) rfl) (by decide) ?_
        refine TB.op (SOK.pure (PV.load rfl Tb.one_22 (by repeat (first | exact List.Mem.head _ | refine List.Mem.tail _ ?_ | refine List.mem_append_right _ ?_)) rfl) rfl) (by decide) ?_
        refine TB.op (SOK.pure (PV.move rfl) rfl) (by decide) ?_
        refine TB.op (SOK.pure (PV.add rfl rfl (by omega)) rfl) (by decide) ?_
        refine TB.op (SOK.pure (PV.sliceL (l := (rs.length - 1 - y1) + 1) rfl rfl Tb.elm_22 (by omega) (by omega)) rfl) (by decide) ?_
        refine TB.no ?_
        refine TB.no ?_
        refine TB.no ?_
        refine TB.no ?_
        refine TB.fin ?_
        refine TX.step [2, 15] (by kernel_rfl) (by decide) ⟨⟨_, rfl, ?_⟩, ⟨_, rfl, ?_⟩, trivial⟩
        · skip
          refine TL.buildSlice0 Tb.sl_22 Tb.zi_42 rfl (by decide) (fun bE hbE => ?_)
          refine TL.nil ?_
          refine TX.next (.inl (by repeat (first | exact List.Sublist.slnil | exact List.nil_sublist _ | exact List.Sublist.refl _ | refine List.Sublist.cons_cons _ ?_ | refine List.Sublist.cons _ ?_ | refine List.Sublist.trans ?_ (List.sublist_append_right _ _)))) ?_
          refine TX.step [7, 15] (by kernel_rfl) (by decide) ⟨⟨_, rfl, ?_⟩, ⟨_, rfl, ?_⟩, trivial⟩
          · skip
            refine TL.appendBS Tb.sl_22 Tb.zi_42 rfl rfl (h0 := some (bE, 0, [])) (ys := []) (xs := (redK n.toNat rs y1).take (rs.length - 1 - y1)) (K0 := 0) (K := (rs.length - 1 - y1)) rfl rfl rfl (by rw [List.length_take]; omega) (fun w' hN => front_at hN hyg (fun yy hyy => by rw [List.mem_singleton.1 (show yy ∈ [(b9, Obj.cells (bdc (redK n.toNat rs y1) ++ s9).toArray 42 (0, 0))] from hyy)];  repeat (first | exact List.Mem.head _ | refine List.Mem.tail _ ?_ | refine List.mem_append_right _ ?_)) _) ⟨rfl, rfl, Nat.le_refl _⟩ (by repeat (first | exact TakeH.here _ _ _ _ | apply TakeH.tail | apply TakeH.app)) (by omega) rfl (by decide) (fun h1' hh1' _ => ?_)
            refine TL.nil ?_
            refine TX.next (.inl (by repeat (first | exact List.Sublist.slnil | exact List.nil_sublist _ | exact List.Sublist.refl _ | refine List.Sublist.cons_cons _ ?_ | refine List.Sublist.cons _ ?_ | refine List.Sublist.trans ?_ (List.sublist_append_right _ _)))) ?_
            refine TX.step [13, 15] (by kernel_rfl) (by decide) ⟨⟨_, rfl, ?_⟩, ⟨_, rfl, ?_⟩, trivial⟩
            · skip
              refine TL.appendBS Tb.sl_22 Tb.zi_42 rfl rfl (h0 := h1') (ys := [] ++ (redK n.toNat rs y1).take (rs.length - 1 - y1)) (xs := (redK n.toNat rs y1).drop ((rs.length - 1 - y1) + 1)) (K0 := 0 + (rs.length - 1 - y1)) (K := (redK n.toNat rs y1).length - ((rs.length - 1 - y1) + 1)) rfl rfl (by rw [List.nil_append, List.length_take]; omega) (by rw [List.length_drop]) (fun w' hN => tail_at hN (by repeat (first | exact List.Mem.head _ | refine List.Mem.tail _ ?_ | refine List.mem_append_right _ ?_)) (by omega)) hh1' (by repeat (first | exact TakeH.here _ _ _ _ | apply TakeH.tail | apply TakeH.app)) (by omega) rfl (by decide) (fun h2 hh2 _ => ?_)
              rw [List.nil_append, show (redK n.toNat rs y1).take (rs.length - 1 - y1) ++ (redK n.toNat rs y1).drop ((rs.length - 1 - y1) + 1) = delB (redK n.toNat rs y1) (rs.length - 1 - y1) from rfl] at hh2 ⊢
              rw [show 0 + (rs.length - 1 - y1) + ((redK n.toNat rs y1).length - ((rs.length - 1 - y1) + 1)) = (delB (redK n.toNat rs y1) (rs.length - 1 - y1)).length by rw [delB_len hil]; omega]
              refine TL.nil ?_
              refine TX.next (.inl (by repeat (first | exact List.Sublist.slnil | exact List.nil_sublist _ | exact List.Sublist.refl _ | refine List.Sublist.cons_cons _ ?_ | refine List.Sublist.cons _ ?_ | refine List.Sublist.trans ?_ (List.sublist_append_right _ _)))) ?_
              refine TX.step [14, 15] (by kernel_rfl) (by decide) ⟨⟨_, rfl, ?_⟩, ⟨_, rfl, ?_⟩, trivial⟩
              · skip
                refine TL.pure (PV.build rfl Tb.zero_24 Tb.pl_24 (fill_sv _ _ _)) rfl (by decide) ?_
                refine TL.nil ?_
                refine TX.next (.inl (by repeat (first | exact List.Sublist.slnil | exact List.nil_sublist _ | exact List.Sublist.refl _ | refine List.Sublist.cons_cons _ ?_ | refine List.Sublist.cons _ ?_ | refine List.Sublist.trans ?_ (List.sublist_append_right _ _)))) ?_
                refine TX.step [15] (by kernel_rfl) (by decide) ⟨⟨_, rfl, ?_⟩, trivial⟩
                refine TL.alloc Tb.zero_24 rfl (by decide) (fun bL hbL => ?_)
                refine TL.nil ?_
                refine TX.next (.inl (by repeat (first | exact List.Sublist.slnil | exact List.nil_sublist _ | exact List.Sublist.refl _ | refine List.Sublist.cons_cons _ ?_ | refine List.Sublist.cons _ ?_ | refine List.Sublist.trans ?_ (List.sublist_append_right _ _)))) ?_
                refine TX.step [16] (by kernel_rfl) (by decide) ⟨⟨_, rfl, ?_⟩, trivial⟩
                refine TL.storeAgg rfl rfl Tb.cells_24 (by repeat (first | exact Upd.head _ | apply Upd.tail | apply Upd.appR)) rfl rfl (by first | rfl | exact sv_one _ _ _) rfl rfl ?_
                refine TL.nil ?_
                refine TX.next (.inr (by kernel_rfl)) ?_
                refine TX.done (by kernel_rfl) ?_
                refine TQ.thenC ?_
                refine TC.seq ?_
                refine TC.mix [true, true, true, true, true, true, false, false, false, false, false, false] [(bL, Obj.cells #[.int .i64 n, gval h2 ((delB (redK n.toNat rs y1) (rs.length - 1 - y1))).length] 24 (0, 0)), (b2, Obj.cells #[.int .i64 n, gval (some (b9, c9, s9)) ((redK n.toNat rs y1)).length] 24 (0, 0)), (b9, Obj.cells (bdc (redK n.toNat rs y1) ++ s9).toArray 42 (0, 0))] 6 Tb.mixed rfl (by kernel_rfl) (by kernel_rfl) (by kernel_rfl) (by kernel_rfl) (by repeat (first | exact List.Sublist.slnil | exact List.nil_sublist _ | exact List.Sublist.refl _ | refine List.Sublist.cons_cons _ ?_ | refine List.Sublist.cons _ ?_ | refine List.Sublist.trans ?_ (List.sublist_append_right _ _))) ?_
                refine TB.op (SOK.pure (PV.loadBox rfl Tb.agg_24 (by repeat (first | exact List.Mem.head _ | refine List.Mem.tail _ ?_ | refine List.mem_append_right _ ?_)) rfl) rfl) (by decide) ?_
                refine TB.op (SOK.pure (PV.fieldAddr rfl Tb.fo_24_1) rfl) (by decide) ?_
                refine TB.op (SOK.pure (PV.load rfl Tb.one_22 (by repeat (first | exact List.Mem.head _ | refine List.Mem.tail _ ?_ | refine List.mem_append_right _ ?_)) rfl) rfl) (by decide) ?_
                refine TB.op (SOK.pure (PV.move rfl) rfl) (by decide) ?_
                refine TB.op (SOK.pure (PV.indexG (j := (rs.length - 1 - y1)) rfl rfl hyg Tb.elm_22 (by omega) (by omega)) rfl) (by decide) ?_
                refine TB.op (SOK.pure (PV.loadE (e := 42) (h := (some (b9, c9, s9))) (l := (redK n.toNat rs y1)) (j := (rs.length - 1 - y1)) (r := rs.getD (rs.length - 1 - y1) default) rfl Tb.agg_42 (fun yy hyy => by rw [List.mem_singleton.1 (show yy ∈ [(b9, Obj.cells (bdc (redK n.toNat rs y1) ++ s9).toArray 42 (0, 0))] from hyy)];  repeat (first | exact List.Mem.head _ | refine List.Mem.tail _ ?_ | refine List.mem_append_right _ ?_)) hyg (by omega) hx9) rfl) (by decide) ?_
                refine TB.no ?_
                refine TB.no ?_
                refine TB.no ?_
                refine TB.no ?_
                refine TB.no ?_
                refine TB.no ?_
                refine TB.fin ?_
                refine TX.step [6] (by kernel_rfl) (by decide) ⟨⟨_, rfl, ?_⟩, trivial⟩
                refine TL.call rfl Tb.gofn_34 (fun a w hs => (by rw [gvB_eq hh2 rfl]; exact rFollows_ok w n (gp h2) (gc h2) _ (BdsAt.s (e := 42) hs.new (fun yy hyy => by simp only [List.mem_append, List.mem_cons]; simp [hyy]) hh2) _)) rfl (by decide) (fun _ _ => ?_)
                refine TL.nil ?_
                refine TX.next (.inl (by repeat (first | exact List.Sublist.slnil | exact List.nil_sublist _ | exact List.Sublist.refl _ | refine List.Sublist.cons_cons _ ?_ | refine List.Sublist.cons _ ?_ | refine List.Sublist.trans ?_ (List.sublist_append_right _ _)))) ?_
                refine TX.step [7] (by kernel_rfl) (by decide) ⟨⟨_, rfl, ?_⟩, trivial⟩
                refine TL.pure (PV.move rfl) rfl (by decide) ?_
                refine TL.nil ?_
                refine TX.next (.inl (by repeat (first | exact List.Sublist.slnil | exact List.nil_sublist _ | exact List.Sublist.refl _ | refine List.Sublist.cons_cons _ ?_ | refine List.Sublist.cons _ ?_ | refine List.Sublist.trans ?_ (List.sublist_append_right _ _)))) ?_
                refine TX.step [8, 9] (by kernel_rfl) (by decide) ⟨⟨_, rfl, ?_⟩, ⟨_, rfl, ?_⟩, trivial⟩
                · skip
                  refine TL.pure (PV.extract rfl rfl) rfl (by decide) ?_
                  refine TL.nil ?_
                  refine TX.next (.inl (by repeat (first | exact List.Sublist.slnil | exact List.nil_sublist _ | exact List.Sublist.refl _ | refine List.Sublist.cons_cons _ ?_ | refine List.Sublist.cons _ ?_ | refine List.Sublist.trans ?_ (List.sublist_append_right _ _)))) ?_
                  refine TX.step [9, 10] (by kernel_rfl) (by decide) ⟨⟨_, rfl, ?_⟩, ⟨_, rfl, ?_⟩, trivial⟩
                  · skip
                    refine TL.pure (PV.extract rfl rfl) rfl (by decide) ?_
                    refine TL.nil ?_
                    refine TX.next (.inl (by repeat (first | exact List.Sublist.slnil | exact List.nil_sublist _ | exact List.Sublist.refl _ | refine List.Sublist.cons_cons _ ?_ | refine List.Sublist.cons _ ?_ | refine List.Sublist.trans ?_ (List.sublist_append_right _ _)))) ?_
                    refine TX.step [10] (by kernel_rfl) (by decide) ⟨⟨_, rfl, ?_⟩, trivial⟩
                    refine TL.pure (PV.assign rfl) rfl (by decide) ?_
                    refine TL.nil ?_
                    refine TX.next (.inr (by kernel_rfl)) ?_
                    refine TX.step [11] (by kernel_rfl) (by decide) ⟨⟨_, rfl, ?_⟩, trivial⟩
                    refine TL.pure (PV.assign rfl) rfl (by decide) ?_
                    refine TL.nil ?_
                    refine TX.next (.inr (by kernel_rfl)) ?_
                    refine TX.done (by kernel_rfl) ?_
                    refine TQ.thenC ?_
                    refine TC.seq ?_
                    refine TC.region ?_
                    refine TL.pure (PV.move rfl) rfl (by decide) ?_
                    refine TL.nil ?_
                    refine TQ.thenC ?_
                    first | refine TC.condD rfl (fun hfl => ?_) (fun hfl => ?_) | refine TC.cond rfl (fun hfl => ?_) (fun hfl => ?_)
                    · skip
                      refine TC.region ?_
                      refine TL.pure (PV.loadBox rfl Tb.agg_24 (by repeat (first | exact List.Mem.head _ | refine List.Mem.tail _ ?_ | refine List.mem_append_right _ ?_)) rfl) rfl (by decide) ?_
                      refine TL.storeAgg rfl rfl Tb.cells_24 (by repeat (first | exact Upd.head _ | apply Upd.tail | apply Upd.appR)) rfl rfl (by first | rfl | exact sv_one _ _ _) rfl rfl ?_
                      refine TL.nil ?_
                      refine TQ.blkN ?_
                      refine TQ.thenC ?_
                      refine TC.region ?_
                      refine TL.pure (PV.move rfl) rfl (by decide) ?_
                      refine TL.pure (PV.sub rfl rfl (by omega)) rfl (by decide) ?_
                      refine TL.pure (PV.assign rfl) rfl (by decide) ?_
                      refine TL.nil ?_
                      refine TQ.thenN ?_
                      first | (refine TQ.perm (G' := (b2, Obj.cells #[.int .i64 n, gval h2 ((delB (redK n.toNat rs y1) (rs.length - 1 - y1))).length] 24 (0, 0)) :: (bL, Obj.cells #[.int .i64 n, gval h2 ((delB (redK n.toNat rs y1) (rs.length - 1 - y1))).length] 24 (0, 0)) :: (gbB 42 h2 (delB (redK n.toNat rs y1) (rs.length - 1 - y1)) ++ (gbB 42 (some (b9, c9, s9)) (redK n.toNat rs y1) ++ [(b1, Obj.cells #[.int .i64 0, .slice none 0 0] 24 (0, 0)), (b0, Obj.cells #[.int .i64 n, .slice p rs.length cap] 24 (0, 0))]))) (by repeat (first | exact List.Perm.refl _ | refine permTake (by repeat (first | exact Take.head _ | apply Take.tail | apply Take.appR)) ?_ | refine permMid ?_)) ?_; exact TQ.backK (y1 + 1, m9 - 1, h2) (by repeat (first | exact True.intro | refine And.intro rfl ?_)) (by repeat (first | exact True.intro | refine And.intro rfl ?_)) (by simp only; rw [redK_yes (by rw [← hf9]; exact hfl)]; exact List.Sublist.cons_cons _ (List.Sublist.cons _ (List.Sublist.append_left (List.sublist_append_right _ _) _))) ⟨⟨by simp only; omega, by simp only; omega⟩, by simp only; rw [redK_yes (by rw [← hf9]; exact hfl)]; exact hh2⟩ (by simp only; omega)) | exact TQ.backK (y1 + 1, m9 - 1, (some (b9, c9, s9))) (by repeat (first | exact True.intro | refine And.intro rfl ?_)) (by repeat (first | exact True.intro | refine And.intro rfl ?_)) (by simp only; rw [redK_no (by rw [← hf9]; first | exact hfl | simpa using hfl)]; (try simp only [List.nil_append]); first | exact List.Sublist.cons _ (List.sublist_append_right _ _) | exact List.Sublist.trans (List.Sublist.cons _ (List.Sublist.refl _)) (List.sublist_append_right _ _)) ⟨⟨by simp only; omega, by simp only; omega⟩, by simp only; rw [redK_no (by rw [← hf9]; first | exact hfl | simpa using hfl)]; exact hyg⟩ (by simp only; omega)
                    · skip
                      refine TC.skip ?_
                      refine TQ.blkN ?_
                      refine TQ.thenC ?_
                      refine TC.region ?_
                      refine TL.pure (PV.move rfl) rfl (by decide) ?_
                      refine TL.pure (PV.sub rfl rfl (by omega)) rfl (by decide) ?_
                      refine TL.pure (PV.assign rfl) rfl (by decide) ?_
                      refine TL.nil ?_
                      refine TQ.thenN ?_
                      first | (refine TQ.perm (G' := (b2, Obj.cells #[.int .i64 n, gval h2 ((delB (redK n.toNat rs y1) (rs.length - 1 - y1))).length] 24 (0, 0)) :: (bL, Obj.cells #[.int .i64 n, gval h2 ((delB (redK n.toNat rs y1) (rs.length - 1 - y1))).length] 24 (0, 0)) :: (gbB 42 h2 (delB (redK n.toNat rs y1) (rs.length - 1 - y1)) ++ (gbB 42 (some (b9, c9, s9)) (redK n.toNat rs y1) ++ [(b1, Obj.cells #[.int .i64 0, .slice none 0 0] 24 (0, 0)), (b0, Obj.cells #[.int .i64 n, .slice p rs.length cap] 24 (0, 0))]))) (by repeat (first | exact List.Perm.refl _ | refine permTake (by repeat (first | exact Take.head _ | apply Take.tail | apply Take.appR)) ?_ | refine permMid ?_)) ?_; exact TQ.backK (y1 + 1, m9 - 1, h2) (by repeat (first | exact True.intro | refine And.intro rfl ?_)) (by repeat (first | exact True.intro | refine And.intro rfl ?_)) (by simp only; rw [redK_yes (by rw [← hf9]; exact hfl)]; exact List.Sublist.cons_cons _ (List.Sublist.cons _ (List.Sublist.append_left (List.sublist_append_right _ _) _))) ⟨⟨by simp only; omega, by simp only; omega⟩, by simp only; rw [redK_yes (by rw [← hf9]; exact hfl)]; exact hh2⟩ (by simp only; omega)) | exact TQ.backK (y1 + 1, m9 - 1, (some (b9, c9, s9))) (by repeat (first | exact True.intro | refine And.intro rfl ?_)) (by repeat (first | exact True.intro | refine And.intro rfl ?_)) (by simp only; rw [redK_no (by rw [← hf9]; first | exact hfl | simpa using hfl)]; (try simp only [List.nil_append]); first | exact List.Sublist.cons _ (List.sublist_append_right _ _) | exact List.Sublist.trans (List.Sublist.cons _ (List.Sublist.refl _)) (List.sublist_append_right _ _)) ⟨⟨by simp only; omega, by simp only; omega⟩, by simp only; rw [redK_no (by rw [← hf9]; first | exact hfl | simpa using hfl)]; exact hyg⟩ (by simp only; omega)
                  · skip
                    refine TL.pure (PV.assign rfl) rfl (by decide) ?_
                    refine TL.nil ?_
                    refine TX.next (.inr (by kernel_rfl)) ?_
                    refine TX.step [9] (by kernel_rfl) (by decide) ⟨⟨_, rfl, ?_⟩, trivial⟩
                    refine TL.pure (PV.extract rfl rfl) rfl (by decide) ?_
                    refine TL.nil ?_
                    refine TX.next (.inl (by repeat (first | exact List.Sublist.slnil | exact List.nil_sublist _ | exact List.Sublist.refl _ | refine List.Sublist.cons_cons _ ?_ | refine List.Sublist.cons _ ?_ | refine List.Sublist.trans ?_ (List.sublist_append_right _ _)))) ?_
                    refine TX.step [11] (by kernel_rfl) (by decide) ⟨⟨_, rfl, ?_⟩, trivial⟩
                    refine TL.pure (PV.assign rfl) rfl (by decide) ?_
                    refine TL.nil ?_
                    refine TX.next (.inr (by kernel_rfl)) ?_
                    refine TX.done (by kernel_rfl) ?_
                    refine TQ.thenC ?_
                    refine TC.seq ?_
                    refine TC.region ?_
                    refine TL.pure (PV.move rfl) rfl (by decide) ?_
                    refine TL.nil ?_
                    refine TQ.thenC ?_
                    first | refine TC.condD rfl (fun hfl => ?_) (fun hfl => ?_) | refine TC.cond rfl (fun hfl => ?_) (fun hfl => ?_)
                    · skip
                      refine TC.region ?_
                      refine TL.pure (PV.loadBox rfl Tb.agg_24 (by repeat (first | exact List.Mem.head _ | refine List.Mem.tail _ ?_ | refine List.mem_append_right _ ?_)) rfl) rfl (by decide) ?_
                      refine TL.storeAgg rfl rfl Tb.cells_24 (by repeat (first | exact Upd.head _ | apply Upd.tail | apply Upd.appR)) rfl rfl (by first | rfl | exact sv_one _ _ _) rfl rfl ?_
                      refine TL.nil ?_
                      refine TQ.blkN ?_
                      refine TQ.thenC ?_
                      refine TC.region ?_
                      refine TL.pure (PV.move rfl) rfl (by decide) ?_
                      refine TL.pure (PV.sub rfl rfl (by omega)) rfl (by decide) ?_
                      refine TL.pure (PV.assign rfl) rfl (by decide) ?_
                      refine TL.nil ?_
                      refine TQ.thenN ?_
                      first | (refine TQ.perm (G' := (b2, Obj.cells #[.int .i64 n, gval h2 ((delB (redK n.toNat rs y1) (rs.length - 1 - y1))).length] 24 (0, 0)) :: (bL, Obj.cells #[.int .i64 n, gval h2 ((delB (redK n.toNat rs y1) (rs.length - 1 - y1))).length] 24 (0, 0)) :: (gbB 42 h2 (delB (redK n.toNat rs y1) (rs.length - 1 - y1)) ++ (gbB 42 (some (b9, c9, s9)) (redK n.toNat rs y1) ++ [(b1, Obj.cells #[.int .i64 0, .slice none 0 0] 24 (0, 0)), (b0, Obj.cells #[.int .i64 n, .slice p rs.length cap] 24 (0, 0))]))) (by repeat (first | exact List.Perm.refl _ | refine permTake (by repeat (first | exact Take.head _ | apply Take.tail | apply Take.appR)) ?_ | refine permMid ?_)) ?_; exact TQ.backK (y1 + 1, m9 - 1, h2) (by repeat (first | exact True.intro | refine And.intro rfl ?_)) (by repeat (first | exact True.intro | refine And.intro rfl ?_)) (by simp only; rw [redK_yes (by rw [← hf9]; exact hfl)]; exact List.Sublist.cons_cons _ (List.Sublist.cons _ (List.Sublist.append_left (List.sublist_append_right _ _) _))) ⟨⟨by simp only; omega, by simp only; omega⟩, by simp only; rw [redK_yes (by rw [← hf9]; exact hfl)]; exact hh2⟩ (by simp only; omega)) | exact TQ.backK (y1 + 1, m9 - 1, (some (b9, c9, s9))) (by repeat (first | exact True.intro | refine And.intro rfl ?_)) (by repeat (first | exact True.intro | refine And.intro rfl ?_)) (by simp only; rw [redK_no (by rw [← hf9]; first | exact hfl | simpa using hfl)]; (try simp only [List.nil_append]); first | exact List.Sublist.cons _ (List.sublist_append_right _ _) | exact List.Sublist.trans (List.Sublist.cons _ (List.Sublist.refl _)) (List.sublist_append_right _ _)) ⟨⟨by simp only; omega, by simp only; omega⟩, by simp only; rw [redK_no (by rw [← hf9]; first | exact hfl | simpa using hfl)]; exact hyg⟩ (by simp only; omega)
                    · skip
                      refine TC.skip ?_
                      refine TQ.blkN ?_
                      refine TQ.thenC ?_
                      refine TC.region ?_
                      refine TL.pure (PV.move rfl) rfl (by decide) ?_
                      refine TL.pure (PV.sub rfl rfl (by omega)) rfl (by decide) ?_
                      refine TL.pure (PV.assign rfl) rfl (by decide) ?_
                      refine TL.nil ?_
                      refine TQ.thenN ?_
                      first | (refine TQ.perm (G' := (b2, Obj.cells #[.int .i64 n, gval h2 ((delB (redK n.toNat rs y1) (rs.length - 1 - y1))).length] 24 (0, 0)) :: (bL, Obj.cells #[.int .i64 n, gval h2 ((delB (redK n.toNat rs y1) (rs.length - 1 - y1))).length] 24 (0, 0)) :: (gbB 42 h2 (delB (redK n.toNat rs y1) (rs.length - 1 - y1)) ++ (gbB 42 (some (b9, c9, s9)) (redK n.toNat rs y1) ++ [(b1, Obj.cells #[.int .i64 0, .slice none 0 0] 24 (0, 0)), (b0, Obj.cells #[.int .i64 n, .slice p rs.length cap] 24 (0, 0))]))) (by repeat (first | exact List.Perm.refl _ | refine permTake (by repeat (first | exact Take.head _ | apply Take.tail | apply Take.appR)) ?_ | refine permMid ?_)) ?_; exact TQ.backK (y1 + 1, m9 - 1, h2) (by repeat (first | exact True.intro | refine And.intro rfl ?_)) (by repeat (first | exact True.intro | refine And.intro rfl ?_)) (by simp only; rw [redK_yes (by rw [← hf9]; exact hfl)]; exact List.Sublist.cons_cons _ (List.Sublist.cons _ (List.Sublist.append_left (List.sublist_append_right _ _) _))) ⟨⟨by simp only; omega, by simp only; omega⟩, by simp only; rw [redK_yes (by rw [← hf9]; exact hfl)]; exact hh2⟩ (by simp only; omega)) | exact TQ.backK (y1 + 1, m9 - 1, (some (b9, c9, s9))) (by repeat (first | exact True.intro | refine And.intro rfl ?_)) (by repeat (first | exact True.intro | refine And.intro rfl ?_)) (by simp only; rw [redK_no (by rw [← hf9]; first | exact hfl | simpa using hfl)]; (try simp only [List.nil_append]); first | exact List.Sublist.cons _ (List.sublist_append_right _ _) | exact List.Sublist.trans (List.Sublist.cons _ (List.Sublist.refl _)) (List.sublist_append_right _ _)) ⟨⟨by simp only; omega, by simp only; omega⟩, by simp only; rw [redK_no (by rw [← hf9]; first | exact hfl | simpa using hfl)]; exact hyg⟩ (by simp only; omega)
                · skip
                  refine TL.pure (PV.extract rfl rfl) rfl (by decide) ?_
                  refine TL.nil ?_
                  refine TX.next (.inl (by repeat (first | exact List.Sublist.slnil | exact List.nil_sublist _ | exact List.Sublist.refl _ | refine List.Sublist.cons_cons _ ?_ | refine List.Sublist.cons _ ?_ | refine List.Sublist.trans ?_ (List.sublist_append_right _ _)))) ?_
                  refine TX.step [8] (by kernel_rfl) (by decide) ⟨⟨_, rfl, ?_⟩, trivial⟩
                  refine TL.pure (PV.extract rfl rfl) rfl (by decide) ?_
                  refine TL.nil ?_
                  refine TX.next (.inl (by repeat (first | exact List.Sublist.slnil | exact List.nil_sublist _ | exact List.Sublist.refl _ | refine List.Sublist.cons_cons _ ?_ | refine List.Sublist.cons _ ?_ | refine List.Sublist.trans ?_ (List.sublist_append_right _ _)))) ?_
                  refine TX.step [10] (by kernel_rfl) (by decide) ⟨⟨_, rfl, ?_⟩, trivial⟩
                  refine TL.pure (PV.assign rfl) rfl (by decide) ?_
                  refine TL.nil ?_
                  refine TX.next (.inr (by kernel_rfl)) ?_
                  refine TX.step [11] (by kernel_rfl) (by decide) ⟨⟨_, rfl, ?_⟩, trivial⟩
                  refine TL.pure (PV.assign rfl) rfl (by decide) ?_
                  refine TL.nil ?_
                  refine TX.next (.inr (by kernel_rfl)) ?_
                  refine TX.done (by kernel_rfl) ?_
                  refine TQ.thenC ?_
                  refine TC.seq ?_
                  refine TC.region ?_
                  refine TL.pure (PV.move rfl) rfl (by decide) ?_
                  refine TL.nil ?_
                  refine TQ.thenC ?_
                  first | refine TC.condD rfl (fun hfl => ?_) (fun hfl => ?_) | refine TC.cond rfl (fun hfl => ?_) (fun hfl => ?_)
                  · skip
                    refine TC.region ?_
                    refine TL.pure (PV.loadBox rfl Tb.agg_24 (by repeat (first | exact List.Mem.head _ | refine List.Mem.tail _ ?_ | refine List.mem_append_right _ ?_)) rfl) rfl (by decide) ?_
                    refine TL.storeAgg rfl rfl Tb.cells_24 (by repeat (first | exact Upd.head _ | apply Upd.tail | apply Upd.appR)) rfl rfl (by first | rfl | exact sv_one _ _ _) rfl rfl ?_
                    refine TL.nil ?_
                    refine TQ.blkN ?_
                    refine TQ.thenC ?_
                    refine TC.region ?_
                    refine TL.pure (PV.move rfl) rfl (by decide) ?_
                    refine TL.pure (PV.sub rfl rfl (by omega)) rfl (by decide) ?_
                    refine TL.pure (PV.assign rfl) rfl (by decide) ?_
                    refine TL.nil ?_
                    refine TQ.thenN ?_
                    first | (refine TQ.perm (G' := (b2, Obj.cells #[.int .i64 n, gval h2 ((delB (redK n.toNat rs y1) (rs.length - 1 - y1))).length] 24 (0, 0)) :: (bL, Obj.cells #[.int .i64 n, gval h2 ((delB (redK n.toNat rs y1) (rs.length - 1 - y1))).length] 24 (0, 0)) :: (gbB 42 h2 (delB (redK n.toNat rs y1) (rs.length - 1 - y1)) ++ (gbB 42 (some (b9, c9, s9)) (redK n.toNat rs y1) ++ [(b1, Obj.cells #[.int .i64 0, .slice none 0 0] 24 (0, 0)), (b0, Obj.cells #[.int .i64 n, .slice p rs.length cap] 24 (0, 0))]))) (by repeat (first | exact List.Perm.refl _ | refine permTake (by repeat (first | exact Take.head _ | apply Take.tail | apply Take.appR)) ?_ | refine permMid ?_)) ?_; exact TQ.backK (y1 + 1, m9 - 1, h2) (by repeat (first | exact True.intro | refine And.intro rfl ?_)) (by repeat (first | exact True.intro | refine And.intro rfl ?_)) (by simp only; rw [redK_yes (by rw [← hf9]; exact hfl)]; exact List.Sublist.cons_cons _ (List.Sublist.cons _ (List.Sublist.append_left (List.sublist_append_right _ _) _))) ⟨⟨by simp only; omega, by simp only; omega⟩, by simp only; rw [redK_yes (by rw [← hf9]; exact hfl)]; exact hh2⟩ (by simp only; omega)) | exact TQ.backK (y1 + 1, m9 - 1, (some (b9, c9, s9))) (by repeat (first | exact True.intro | refine And.intro rfl ?_)) (by repeat (first | exact True.intro | refine And.intro rfl ?_)) (by simp only; rw [redK_no (by rw [← hf9]; first | exact hfl | simpa using hfl)]; (try simp only [List.nil_append]); first | exact List.Sublist.cons _ (List.sublist_append_right _ _) | exact List.Sublist.trans (List.Sublist.cons _ (List.Sublist.refl _)) (List.sublist_append_right _ _)) ⟨⟨by simp only; omega, by simp only; omega⟩, by simp only; rw [redK_no (by rw [← hf9]; first | exact hfl | simpa using hfl)]; exact hyg⟩ (by simp only; omega)
                  · skip
                    refine TC.skip ?_
                    refine TQ.blkN ?_
                    refine TQ.thenC ?_
                    refine TC.region ?_
                    refine TL.pure (PV.move rfl) rfl (by decide) ?_
                    refine TL.pure (PV.sub rfl rfl (by omega)) rfl (by decide) ?_
                    refine TL.pure (PV.assign rfl) rfl (by decide) ?_
                    refine TL.nil ?_
                    refine TQ.thenN ?_
                    first | (refine TQ.perm (G' := (b2, Obj.cells #[.int .i64 n, gval h2 ((delB (redK n.toNat rs y1) (rs.length - 1 - y1))).length] 24 (0, 0)) :: (bL, Obj.cells #[.int .i64 n, gval h2 ((delB (redK n.toNat rs y1) (rs.length - 1 - y1))).length] 24 (0, 0)) :: (gbB 42 h2 (delB (redK n.toNat rs y1) (rs.length - 1 - y1)) ++ (gbB 42 (some (b9, c9, s9)) (redK n.toNat rs y1) ++ [(b1, Obj.cells #[.int .i64 0, .slice none 0 0] 24 (0, 0)), (b0, Obj.cells #[.int .i64 n, .slice p rs.length cap] 24 (0, 0))]))) (by repeat (first | exact List.Perm.refl _ | refine permTake (by repeat (first | exact Take.head _ | apply Take.tail | apply Take.appR)) ?_ | refine permMid ?_)) ?_; exact TQ.backK (y1 + 1, m9 - 1, h2) (by repeat (first | exact True.intro | refine And.intro rfl ?_)) (by repeat (first | exact True.intro | refine And.intro rfl ?_)) (by simp only; rw [redK_yes (by rw [← hf9]; exact hfl)]; exact List.Sublist.cons_cons _ (List.Sublist.cons _ (List.Sublist.append_left (List.sublist_append_right _ _) _))) ⟨⟨by simp only; omega, by simp only; omega⟩, by simp only; rw [redK_yes (by rw [← hf9]; exact hfl)]; exact hh2⟩ (by simp only; omega)) | exact TQ.backK (y1 + 1, m9 - 1, (some (b9, c9, s9))) (by repeat (first | exact True.intro | refine And.intro rfl ?_)) (by repeat (first | exact True.intro | refine And.intro rfl ?_)) (by simp only; rw [redK_no (by rw [← hf9]; first | exact hfl | simpa using hfl)]; (try simp only [List.nil_append]); first | exact List.Sublist.cons _ (List.sublist_append_right _ _) | exact List.Sublist.trans (List.Sublist.cons _ (List.Sublist.refl _)) (List.sublist_append_right _ _)) ⟨⟨by simp only; omega, by simp only; omega⟩, by simp only; rw [redK_no (by rw [← hf9]; first | exact hfl | simpa using hfl)]; exact hyg⟩ (by simp only; omega)
              · skip
                refine TL.alloc Tb.zero_24 rfl (by decide) (fun bL hbL => ?_)
                refine TL.nil ?_
                refine TX.next (.inl (by repeat (first | exact List.Sublist.slnil | exact List.nil_sublist _ | exact List.Sublist.refl _ | refine List.Sublist.cons_cons _ ?_ | refine List.Sublist.cons _ ?_ | refine List.Sublist.trans ?_ (List.sublist_append_right _ _)))) ?_
                refine TX.step [14] (by kernel_rfl) (by decide) ⟨⟨_, rfl, ?_⟩, trivial⟩
                refine TL.pure (PV.build rfl Tb.zero_24 Tb.pl_24 (fill_sv _ _ _)) rfl (by decide) ?_
                refine TL.nil ?_
                refine TX.next (.inl (by repeat (first | exact List.Sublist.slnil | exact List.nil_sublist _ | exact List.Sublist.refl _ | refine List.Sublist.cons_cons _ ?_ | refine List.Sublist.cons _ ?_ | refine List.Sublist.trans ?_ (List.sublist_append_right _ _)))) ?_
                refine TX.step [16] (by kernel_rfl) (by decide) ⟨⟨_, rfl, ?_⟩, trivial⟩
                refine TL.storeAgg rfl rfl Tb.cells_24 (by repeat (first | exact Upd.head _ | apply Upd.tail | apply Upd.appR)) rfl rfl (by first | rfl | exact sv_one _ _ _) rfl rfl ?_
                refine TL.nil ?_
                refine TX.next (.inr (by kernel_rfl)) ?_
                refine TX.done (by kernel_rfl) ?_
                refine TQ.thenC ?_
                refine TC.seq ?_
                refine TC.mix [true, true, true, true, true, true, false, false, false, false, false, false] [(bL, Obj.cells #[.int .i64 n, gval h2 ((delB (redK n.toNat rs y1) (rs.length - 1 - y1))).length] 24 (0, 0)), (b2, Obj.cells #[.int .i64 n, gval (some (b9, c9, s9)) ((redK n.toNat rs y1)).length] 24 (0, 0)), (b9, Obj.cells (bdc (redK n.toNat rs y1) ++ s9).toArray 42 (0, 0))] 6 Tb.mixed rfl (by kernel_rfl) (by kernel_rfl) (by kernel_rfl) (by kernel_rfl) (by repeat (first | exact List.Sublist.slnil | exact List.nil_sublist _ | exact List.Sublist.refl _ | refine List.Sublist.cons_cons _ ?_ | refine List.Sublist.cons _ ?_ | refine List.Sublist.trans ?_ (List.sublist_append_right _ _))) ?_
                refine TB.op (SOK.pure (PV.loadBox rfl Tb.agg_24 (by repeat (first | exact List.Mem.head _ | refine List.Mem.tail _ ?_ | refine List.mem_append_right _ ?_)) rfl) rfl) (by decide) ?_
                refine TB.op (SOK.pure (PV.fieldAddr rfl Tb.fo_24_1) rfl) (by decide) ?_
                refine TB.op (SOK.pure (PV.load rfl Tb.one_22 (by repeat (first | exact List.Mem.head _ | refine List.Mem.tail _ ?_ | refine List.mem_append_right _ ?_)) rfl) rfl) (by decide) ?_
                refine TB.op (SOK.pure (PV.move rfl) rfl) (by decide) ?_
                refine TB.op (SOK.pure (PV.indexG (j := (rs.length - 1 - y1)) rfl rfl hyg Tb.elm_22 (by omega) (by omega)) rfl) (by decide) ?_
                refine TB.op (SOK.pure (PV.loadE (e := 42) (h := (some (b9, c9, s9))) (l := (redK n.toNat rs y1)) (j := (rs.length - 1 - y1)) (r := rs.getD (rs.length - 1 - y1) default) rfl Tb.agg_42 (fun yy hyy => by rw [List.mem_singleton.1 (show yy ∈ [(b9, Obj.cells (bdc (redK n.toNat rs y1) ++ s9).toArray 42 (0, 0))] from hyy)];  repeat (first | exact List.Mem.head _ | refine List.Mem.tail _ ?_ | refine List.mem_append_right _ ?_)) hyg (by omega) hx9) rfl) (by decide) ?_
                refine TB.no ?_
                refine TB.no ?_
                refine TB.no ?_
                refine TB.no ?_
                refine TB.no ?_
                refine TB.no ?_
                refine TB.fin ?_
                refine TX.step [6] (by kernel_rfl) (by decide) ⟨⟨_, rfl, ?_⟩, trivial⟩
                refine TL.call rfl Tb.gofn_34 (fun a w hs => (by rw [gvB_eq hh2 rfl]; exact rFollows_ok w n (gp h2) (gc h2) _ (BdsAt.s (e := 42) hs.new (fun yy hyy => by simp only [List.mem_append, List.mem_cons]; simp [hyy]) hh2) _)) rfl (by decide) (fun _ _ => ?_)
                refine TL.nil ?_
                refine TX.next (.inl (by repeat (first | exact List.Sublist.slnil | exact List.nil_sublist _ | exact List.Sublist.refl _ | refine List.Sublist.cons_cons _ ?_ | refine List.Sublist.cons _ ?_ | refine List.Sublist.trans ?_ (List.sublist_append_right _ _)))) ?_
                refine TX.step [7] (by kernel_rfl) (by decide) ⟨⟨_, rfl, ?_⟩, trivial⟩
                refine TL.pure (PV.move rfl) rfl (by decide) ?_
                refine TL.nil ?_
                refine TX.next (.inl (by repeat (first | exact List.Sublist.slnil | exact List.nil_sublist _ | exact List.Sublist.refl _ | refine List.Sublist.cons_cons _ ?_ | refine List.Sublist.cons _ ?_ | refine List.Sublist.trans ?_ (List.sublist_append_right _ _)))) ?_
                refine TX.step [8, 9] (by kernel_rfl) (by decide) ⟨⟨_, rfl, ?_⟩, ⟨_, rfl, ?_⟩, trivial⟩
                · skip
                  refine TL.pure (PV.extract rfl rfl) rfl (by decide) ?_
                  refine TL.nil ?_
                  refine TX.next (.inl (by repeat (first | exact List.Sublist.slnil | exact List.nil_sublist _ | exact List.Sublist.refl _ | refine List.Sublist.cons_cons _ ?_ | refine List.Sublist.cons _ ?_ | refine List.Sublist.trans ?_ (List.sublist_append_right _ _)))) ?_
                  refine TX.step [9, 10] (by kernel_rfl) (by decide) ⟨⟨_, rfl, ?_⟩, ⟨_, rfl, ?_⟩, trivial⟩
                  · skip
                    refine TL.pure (PV.extract rfl rfl) rfl (by decide) ?_
                    refine TL.nil ?_
                    refine TX.next (.inl (by repeat (first | exact List.Sublist.slnil | exact List.nil_sublist _ | exact List.Sublist.refl _ | refine List.Sublist.cons_cons _ ?_ | refine List.Sublist.cons _ ?_ | refine List.Sublist.trans ?_ (List.sublist_append_right _ _)))) ?_
                    refine TX.step [10] (by kernel_rfl) (by decide) ⟨⟨_, rfl, ?_⟩, trivial⟩
                    refine TL.pure (PV.assign rfl) rfl (by decide) ?_
                    refine TL.nil ?_
                    refine TX.next (.inr (by kernel_rfl)) ?_
                    refine TX.step [11] (by kernel_rfl) (by decide) ⟨⟨_, rfl, ?_⟩, trivial⟩
                    refine TL.pure (PV.assign rfl) rfl (by decide) ?_
                    refine TL.nil ?_
                    refine TX.next (.inr (by kernel_rfl)) ?_
                    refine TX.done (by kernel_rfl) ?_
                    refine TQ.thenC ?_
                    refine TC.seq ?_
                    refine TC.region ?_
                    refine TL.pure (PV.move rfl) rfl (by decide) ?_
                    refine TL.nil ?_
                    refine TQ.thenC ?_
                    first | refine TC.condD rfl (fun hfl => ?_) (fun hfl => ?_) | refine TC.cond rfl (fun hfl => ?_) (fun hfl => ?_)
                    · skip
                      refine TC.region ?_
                      refine TL.pure (PV.loadBox rfl Tb.agg_24 (by repeat (first | exact List.Mem.head _ | refine List.Mem.tail _ ?_ | refine List.mem_append_right _ ?_)) rfl) rfl (by decide) ?_
                      refine TL.storeAgg rfl rfl Tb.cells_24 (by repeat (first | exact Upd.head _ | apply Upd.tail | apply Upd.appR)) rfl rfl (by first | rfl | exact sv_one _ _ _) rfl rfl ?_
                      refine TL.nil ?_
                      refine TQ.blkN ?_
                      refine TQ.thenC ?_
                      refine TC.region ?_
                      refine TL.pure (PV.move rfl) rfl (by decide) ?_
                      refine TL.pure (PV.sub rfl rfl (by omega)) rfl (by decide) ?_
                      refine TL.pure (PV.assign rfl) rfl (by decide) ?_
                      refine TL.nil ?_
                      refine TQ.thenN ?_
                      first | (refine TQ.perm (G' := (b2, Obj.cells #[.int .i64 n, gval h2 ((delB (redK n.toNat rs y1) (rs.length - 1 - y1))).length] 24 (0, 0)) :: (bL, Obj.cells #[.int .i64 n, gval h2 ((delB (redK n.toNat rs y1) (rs.length - 1 - y1))).length] 24 (0, 0)) :: (gbB 42 h2 (delB (redK n.toNat rs y1) (rs.length - 1 - y1)) ++ (gbB 42 (some (b9, c9, s9)) (redK n.toNat rs y1) ++ [(b1, Obj.cells #[.int .i64 0, .slice none 0 0] 24 (0, 0)), (b0, Obj.cells #[.int .i64 n, .slice p rs.length cap] 24 (0, 0))]))) (by repeat (first | exact List.Perm.refl _ | refine permTake (by repeat (first | exact Take.head _ | apply Take.tail | apply Take.appR)) ?_ | refine permMid ?_)) ?_; exact TQ.backK (y1 + 1, m9 - 1, h2) (by repeat (first | exact True.intro | refine And.intro rfl ?_)) (by repeat (first | exact True.intro | refine And.intro rfl ?_)) (by simp only; rw [redK_yes (by rw [← hf9]; exact hfl)]; exact List.Sublist.cons_cons _ (List.Sublist.cons _ (List.Sublist.append_left (List.sublist_append_right _ _) _))) ⟨⟨by simp only; omega, by simp only; omega⟩, by simp only; rw [redK_yes (by rw [← hf9]; exact hfl)]; exact hh2⟩ (by simp only; omega)) | exact TQ.backK (y1 + 1, m9 - 1, (some (b9, c9, s9))) (by repeat (first | exact True.intro | refine And.intro rfl ?_)) (by repeat (first | exact True.intro | refine And.intro rfl ?_)) (by simp only; rw [redK_no (by rw [← hf9]; first | exact hfl | simpa using hfl)]; (try simp only [List.nil_append]); first | exact List.Sublist.cons _ (List.sublist_append_right _ _) | exact List.Sublist.trans (List.Sublist.cons _ (List.Sublist.refl _)) (List.sublist_append_right _ _)) ⟨⟨by simp only; omega, by simp only; omega⟩, by simp only; rw [redK_no (by rw [← hf9]; first | exact hfl | simpa using hfl)]; exact hyg⟩ (by simp only; omega)
                    · skip
                      refine TC.skip ?_
                      refine TQ.blkN ?_
                      refine TQ.thenC ?_
                      refine TC.region ?_
                      refine TL.pure (PV.move rfl) rfl (by decide) ?_
                      refine TL.pure (PV.sub rfl rfl (by omega)) rfl (by decide) ?_
                      refine TL.pure (PV.assign rfl) rfl (by decide) ?_
                      refine TL.nil ?_
                      refine TQ.thenN ?_
                      first | (refine TQ.perm (G' := (b2, Obj.cells #[.int .i64 n, gval h2 ((delB (redK n.toNat rs y1) (rs.length - 1 - y1))).length] 24 (0, 0)) :: (bL, Obj.cells #[.int .i64 n, gval h2 ((delB (redK n.toNat rs y1) (rs.length - 1 - y1))).length] 24 (0, 0)) :: (gbB 42 h2 (delB (redK n.toNat rs y1) (rs.length - 1 - y1)) ++ (gbB 42 (some (b9, c9, s9)) (redK n.toNat rs y1) ++ [(b1, Obj.cells #[.int .i64 0, .slice none 0 0] 24 (0, 0)), (b0, Obj.cells #[.int .i64 n, .slice p rs.length cap] 24 (0, 0))]))) (by repeat (first | exact List.Perm.refl _ | refine permTake (by repeat (first | exact Take.head _ | apply Take.tail | apply Take.appR)) ?_ | refine permMid ?_)) ?_; exact TQ.backK (y1 + 1, m9 - 1, h2) (by repeat (first | exact True.intro | refine And.intro rfl ?_)) (by repeat (first | exact True.intro | refine And.intro rfl ?_)) (by simp only; rw [redK_yes (by rw [← hf9]; exact hfl)]; exact List.Sublist.cons_cons _ (List.Sublist.cons _ (List.Sublist.append_left (List.sublist_append_right _ _) _))) ⟨⟨by simp only; omega, by simp only; omega⟩, by simp only; rw [redK_yes (by rw [← hf9]; exact hfl)]; exact hh2⟩ (by simp only; omega)) | exact TQ.backK (y1 + 1, m9 - 1, (some (b9, c9, s9))) (by repeat (first | exact True.intro | refine And.intro rfl ?_)) (by repeat (first | exact True.intro | refine And.intro rfl ?_)) (by simp only; rw [redK_no (by rw [← hf9]; first | exact hfl | simpa using hfl)]; (try simp only [List.nil_append]); first | exact List.Sublist.cons _ (List.sublist_append_right _ _) | exact List.Sublist.trans (List.Sublist.cons _ (List.Sublist.refl _)) (List.sublist_append_right _ _)) ⟨⟨by simp only; omega, by simp only; omega⟩, by simp only; rw [redK_no (by rw [← hf9]; first | exact hfl | simpa using hfl)]; exact hyg⟩ (by simp only; omega)
                  · skip
                    refine TL.pure (PV.assign rfl) rfl (by decide) ?_
                    refine TL.nil ?_
                    refine TX.next (.inr (by kernel_rfl)) ?_
                    refine TX.step [9] (by kernel_rfl) (by decide) ⟨⟨_, rfl, ?_⟩, trivial⟩
                    refine TL.pure (PV.extract rfl rfl) rfl (by decide) ?_
                    refine TL.nil ?_
                    refine TX.next (.inl (by repeat (first | exact List.Sublist.slnil | exact List.nil_sublist _ | exact List.Sublist.refl _ | refine List.Sublist.cons_cons _ ?_ | refine List.Sublist.cons _ ?_ | refine List.Sublist.trans ?_ (List.sublist_append_right _ _)))) ?_
                    refine TX.step [11] (by kernel_rfl) (by decide) ⟨⟨_, rfl, ?_⟩, trivial⟩
                    refine TL.pure (PV.assign rfl) rfl (by decide) ?_
                    refine TL.nil ?_
                    refine TX.next (.inr (by kernel_rfl)) ?_
                    refine TX.done (by kernel_rfl) ?_
                    refine TQ.thenC ?_
                    refine TC.seq ?_
                    refine TC.region ?_
                    refine TL.pure (PV.move rfl) rfl (by decide) ?_
                    refine TL.nil ?_
                    refine TQ.thenC ?_
                    first | refine TC.condD rfl (fun hfl => ?_) (fun hfl => ?_) | refine TC.cond rfl (fun hfl => ?_) (fun hfl => ?_)
                    · skip
                      refine TC.region ?_
                      refine TL.pure (PV.loadBox rfl Tb.agg_24 (by repeat (first | exact List.Mem.head _ | refine List.Mem.tail _ ?_ | refine List.mem_append_right _ ?_)) rfl) rfl (by decide) ?_
                      refine TL.storeAgg rfl rfl Tb.cells_24 (by repeat (first | exact Upd.head _ | apply Upd.tail | apply Upd.appR)) rfl rfl (by first | rfl | exact sv_one _ _ _) rfl rfl ?_
                      refine TL.nil ?_
                      refine TQ.blkN ?_
                      refine TQ.thenC ?_
                      refine TC.region ?_
                      refine TL.pure (PV.move rfl) rfl (by decide) ?_
                      refine TL.pure (PV.sub rfl rfl (by omega)) rfl (by decide) ?_
                      refine TL.pure (PV.assign rfl) rfl (by decide) ?_
                      refine TL.nil ?_
                      refine TQ.thenN ?_
                      first | (refine TQ.perm (G' := (b2, Obj.cells #[.int .i64 n, gval h2 ((delB (redK n.toNat rs y1) (rs.length - 1 - y1))).length] 24 (0, 0)) :: (bL, Obj.cells #[.int .i64 n, gval h2 ((delB (redK n.toNat rs y1) (rs.length - 1 - y1))).length] 24 (0, 0)) :: (gbB 42 h2 (delB (redK n.toNat rs y1) (rs.length - 1 - y1)) ++ (gbB 42 (some (b9, c9, s9)) (redK n.toNat rs y1) ++ [(b1, Obj.cells #[.int .i64 0, .slice none 0 0] 24 (0, 0)), (b0, Obj.cells #[.int .i64 n, .slice p rs.length cap] 24 (0, 0))]))) (by repeat (first | exact List.Perm.refl _ | refine permTake (by repeat (first | exact Take.head _ | apply Take.tail | apply Take.appR)) ?_ | refine permMid ?_)) ?_; exact TQ.backK (y1 + 1, m9 - 1, h2) (by repeat (first | exact True.intro | refine And.intro rfl ?_)) (by repeat (first | exact True.intro | refine And.intro rfl ?_)) (by simp only; rw [redK_yes (by rw [← hf9]; exact hfl)]; exact List.Sublist.cons_cons _ (List.Sublist.cons _ (List.Sublist.append_left (List.sublist_append_right _ _) _))) ⟨⟨by simp only; omega, by simp only; omega⟩, by simp only; rw [redK_yes (by rw [← hf9]; exact hfl)]; exact hh2⟩ (by simp only; omega)) | exact TQ.backK (y1 + 1, m9 - 1, (some (b9, c9, s9))) (by repeat (first | exact True.intro | refine And.intro rfl ?_)) (by repeat (first | exact True.intro | refine And.intro rfl ?_)) (by simp only; rw [redK_no (by rw [← hf9]; first | exact hfl | simpa using hfl)]; (try simp only [List.nil_append]); first | exact List.Sublist.cons _ (List.sublist_append_right _ _) | exact List.Sublist.trans (List.Sublist.cons _ (List.Sublist.refl _)) (List.sublist_append_right _ _)) ⟨⟨by simp only; omega, by simp only; omega⟩, by simp only; rw [redK_no (by rw [← hf9]; first | exact hfl | simpa using hfl)]; exact hyg⟩ (by simp only; omega)
                    · skip
                      refine TC.skip ?_
                      refine TQ.blkN ?_
                      refine TQ.thenC ?_
                      refine TC.region ?_
                      refine TL.pure (PV.move rfl) rfl (by decide) ?_
                      refine TL.pure (PV.sub rfl rfl (by omega)) rfl (by decide) ?_
                      refine TL.pure (PV.assign rfl) rfl (by decide) ?_
                      refine TL.nil ?_
                      refine TQ.thenN ?_
                      first | (refine TQ.perm (G' := (b2, Obj.cells #[.int .i64 n, gval h2 ((delB (redK n.toNat rs y1) (rs.length - 1 - y1))).length] 24 (0, 0)) :: (bL, Obj.cells #[.int .i64 n, gval h2 ((delB (redK n.toNat rs y1) (rs.length - 1 - y1))).length] 24 (0, 0)) :: (gbB 42 h2 (delB (redK n.toNat rs y1) (rs.length - 1 - y1)) ++ (gbB 42 (some (b9, c9, s9)) (redK n.toNat rs y1) ++ [(b1, Obj.cells #[.int .i64 0, .slice none 0 0] 24 (0, 0)), (b0, Obj.cells #[.int .i64 n, .slice p rs.length cap] 24 (0, 0))]))) (by repeat (first | exact List.Perm.refl _ | refine permTake (by repeat (first | exact Take.head _ | apply Take.tail | apply Take.appR)) ?_ | refine permMid ?_)) ?_; exact TQ.backK (y1 + 1, m9 - 1, h2) (by repeat (first | exact True.intro | refine And.intro rfl ?_)) (by repeat (first | exact True.intro | refine And.intro rfl ?_)) (by simp only; rw [redK_yes (by rw [← hf9]; exact hfl)]; exact List.Sublist.cons_cons _ (List.Sublist.cons _ (List.Sublist.append_left (List.sublist_append_right _ _) _))) ⟨⟨by simp only; omega, by simp only; omega⟩, by simp only; rw [redK_yes (by rw [← hf9]; exact hfl)]; exact hh2⟩ (by simp only; omega)) | exact TQ.backK (y1 + 1, m9 - 1, (some (b9, c9, s9))) (by repeat (first | exact True.intro | refine And.intro rfl ?_)) (by repeat (first | exact True.intro | refine And.intro rfl ?_)) (by simp only; rw [redK_no (by rw [← hf9]; first | exact hfl | simpa using hfl)]; (try simp only [List.nil_append]); first | exact List.Sublist.cons _ (List.sublist_append_right _ _) | exact List.Sublist.trans (List.Sublist.cons _ (List.Sublist.refl _)) (List.sublist_append_right _ _)) ⟨⟨by simp only; omega, by simp only; omega⟩, by simp only; rw [redK_no (by rw [← hf9]; first | exact hfl | simpa using hfl)]; exact hyg⟩ (by simp only; omega)
                · skip
                  refine TL.pure (PV.extract rfl rfl) rfl (by decide) ?_
                  refine TL.nil ?_
                  refine TX.next (.inl (by repeat (first | exact List.Sublist.slnil | exact List.nil_sublist _ | exact List.Sublist.refl _ | refine List.Sublist.cons_cons _ ?_ | refine List.Sublist.cons _ ?_ | refine List.Sublist.trans ?_ (List.sublist_append_right _ _)))) ?_
                  refine TX.step [8] (by kernel_rfl) (by decide) ⟨⟨_, rfl, ?_⟩, trivial⟩
                  refine TL.pure (PV.extract rfl rfl) rfl (by decide) ?_
                  refine TL.nil ?_
                  refine TX.next (.inl (by repeat (first | exact List.Sublist.slnil | exact List.nil_sublist _ | exact List.Sublist.refl _ | refine List.Sublist.cons_cons _ ?_ | refine List.Sublist.cons _ ?_ | refine List.Sublist.trans ?_ (List.sublist_append_right _ _)))) ?_
                  refine TX.step [10] (by kernel_rfl) (by decide) ⟨⟨_, rfl, ?_⟩, trivial⟩
                  refine TL.pure (PV.assign rfl) rfl (by decide) ?_
                  refine TL.nil ?_
                  refine TX.next (.inr (by kernel_rfl)) ?_
                  refine TX.step [11] (by kernel_rfl) (by decide) ⟨⟨_, rfl, ?_⟩, trivial⟩
                  refine TL.pure (PV.assign rfl) rfl (by decide) ?_
                  refine TL.nil ?_
                  refine TX.next (.inr (by kernel_rfl)) ?_
                  refine TX.done (by kernel_rfl) ?_
                  refine TQ.thenC ?_
                  refine TC.seq ?_
                  refine TC.region ?_
                  refine TL.pure (PV.move rfl) rfl (by decide) ?_
                  refine TL.nil ?_
                  refine TQ.thenC ?_
                  first | refine TC.condD rfl (fun hfl => ?_) (fun hfl => ?_) | refine TC.cond rfl (fun hfl => ?_) (fun hfl => ?_)
                  · skip
                    refine TC.region ?_
                    refine TL.pure (PV.loadBox rfl Tb.agg_24 (by repeat (first | exact List.Mem.head _ | refine List.Mem.tail _ ?_ | refine List.mem_append_right _ ?_)) rfl) rfl (by decide) ?_
                    refine TL.storeAgg rfl rfl Tb.cells_24 (by repeat (first | exact Upd.head _ | apply Upd.tail | apply Upd.appR)) rfl rfl (by first | rfl | exact sv_one _ _ _) rfl rfl ?_
                    refine TL.nil ?_
                    refine TQ.blkN ?_
                    refine TQ.thenC ?_
                    refine TC.region ?_
                    refine TL.pure (PV.move rfl) rfl (by decide) ?_
                    refine TL.pure (PV.sub rfl rfl (by omega)) rfl (by decide) ?_
                    refine TL.pure (PV.assign rfl) rfl (by decide) ?_
                    refine TL.nil ?_
                    refine TQ.thenN ?_
                    first | (refine TQ.perm (G' := (b2, Obj.cells #[.int .i64 n, gval h2 ((delB (redK n.toNat rs y1) (rs.length - 1 - y1))).length] 24 (0, 0)) :: (bL, Obj.cells #[.int .i64 n, gval h2 ((delB (redK n.toNat rs y1) (rs.length - 1 - y1))).length] 24 (0, 0)) :: (gbB 42 h2 (delB (redK n.toNat rs y1) (rs.length - 1 - y1)) ++ (gbB 42 (some (b9, c9, s9)) (redK n.toNat rs y1) ++ [(b1, Obj.cells #[.int .i64 0, .slice none 0 0] 24 (0, 0)), (b0, Obj.cells #[.int .i64 n, .slice p rs.length cap] 24 (0, 0))]))) (by repeat (first | exact List.Perm.refl _ | refine permTake (by repeat (first | exact Take.head _ | apply Take.tail | apply Take.appR)) ?_ | refine permMid ?_)) ?_; exact TQ.backK (y1 + 1, m9 - 1, h2) (by repeat (first | exact True.intro | refine And.intro rfl ?_)) (by repeat (first | exact True.intro | refine And.intro rfl ?_)) (by simp only; rw [redK_yes (by rw [← hf9]; exact hfl)]; exact List.Sublist.cons_cons _ (List.Sublist.cons _ (List.Sublist.append_left (List.sublist_append_right _ _) _))) ⟨⟨by simp only; omega, by simp only; omega⟩, by simp only; rw [redK_yes (by rw [← hf9]; exact hfl)]; exact hh2⟩ (by simp only; omega)) | exact TQ.backK (y1 + 1, m9 - 1, (some (b9, c9, s9))) (by repeat (first | exact True.intro | refine And.intro rfl ?_)) (by repeat (first | exact True.intro | refine And.intro rfl ?_)) (by simp only; rw [redK_no (by rw [← hf9]; first | exact hfl | simpa using hfl)]; (try simp only [List.nil_append]); first | exact List.Sublist.cons _ (List.sublist_append_right _ _) | exact List.Sublist.trans (List.Sublist.cons _ (List.Sublist.refl _)) (List.sublist_append_right _ _)) ⟨⟨by simp only; omega, by simp only; omega⟩, by simp only; rw [redK_no (by rw [← hf9]; first | exact hfl | simpa using hfl)]; exact hyg⟩ (by simp only; omega)
                  · skip
                    refine TC.skip ?_
                    refine TQ.blkN ?_
                    refine TQ.thenC ?_
                    refine TC.region ?_
                    refine TL.pure (PV.move rfl) rfl (by decide) ?_
                    refine TL.pure (PV.sub rfl rfl (by omega)) rfl (by decide) ?_
                    refine TL.pure (PV.assign rfl) rfl (by decide) ?_
                    refine TL.nil ?_
                    refine TQ.thenN ?_
                    first | (refine TQ.perm (G' := (b2, Obj.cells #[.int .i64 n, gval h2 ((delB (redK n.toNat rs y1) (rs.length - 1 - y1))).length] 24 (0, 0)) :: (bL, Obj.cells #[.int .i64 n, gval h2 ((delB (redK n.toNat rs y1) (rs.length - 1 - y1))).length] 24 (0, 0)) :: (gbB 42 h2 (delB (redK n.toNat rs y1) (rs.length - 1 - y1)) ++ (gbB 42 (some (b9, c9, s9)) (redK n.toNat rs y1) ++ [(b1, Obj.cells #[.int .i64 0, .slice none 0 0] 24 (0, 0)), (b0, Obj.cells #[.int .i64 n, .slice p rs.length cap] 24 (0, 0))]))) (by repeat (first | exact List.Perm.refl _ | refine permTake (by repeat (first | exact Take.head _ | apply Take.tail | apply Take.appR)) ?_ | refine permMid ?_)) ?_; exact TQ.backK (y1 + 1, m9 - 1, h2) (by repeat (first | exact True.intro | refine And.intro rfl ?_)) (by repeat (first | exact True.intro | refine And.intro rfl ?_)) (by simp only; rw [redK_yes (by rw [← hf9]; exact hfl)]; exact List.Sublist.cons_cons _ (List.Sublist.cons _ (List.Sublist.append_left (List.sublist_append_right _ _) _))) ⟨⟨by simp only; omega, by simp only; omega⟩, by simp only; rw [redK_yes (by rw [← hf9]; exact hfl)]; exact hh2⟩ (by simp only; omega)) | exact TQ.backK (y1 + 1, m9 - 1, (some (b9, c9, s9))) (by repeat (first | exact True.intro | refine And.intro rfl ?_)) (by repeat (first | exact True.intro | refine And.intro rfl ?_)) (by simp only; rw [redK_no (by rw [← hf9]; first | exact hfl | simpa using hfl)]; (try simp only [List.nil_append]); first | exact List.Sublist.cons _ (List.sublist_append_right _ _) | exact List.Sublist.trans (List.Sublist.cons _ (List.Sublist.refl _)) (List.sublist_append_right _ _)) ⟨⟨by simp only; omega, by simp only; omega⟩, by simp only; rw [redK_no (by rw [← hf9]; first | exact hfl | simpa using hfl)]; exact hyg⟩ (by simp only; omega)
            · skip
              refine TL.alloc Tb.zero_24 rfl (by decide) (fun bL hbL => ?_)
              refine TL.nil ?_
              refine TX.next (.inl (by repeat (first | exact List.Sublist.slnil | exact List.nil_sublist _ | exact List.Sublist.refl _ | refine List.Sublist.cons_cons _ ?_ | refine List.Sublist.cons _ ?_ | refine List.Sublist.trans ?_ (List.sublist_append_right _ _)))) ?_
              refine TX.step [13] (by kernel_rfl) (by decide) ⟨⟨_, rfl, ?_⟩, trivial⟩
              refine TL.appendBS Tb.sl_22 Tb.zi_42 rfl rfl (h0 := h1') (ys := [] ++ (redK n.toNat rs y1).take (rs.length - 1 - y1)) (xs := (redK n.toNat rs y1).drop ((rs.length - 1 - y1) + 1)) (K0 := 0 + (rs.length - 1 - y1)) (K := (redK n.toNat rs y1).length - ((rs.length - 1 - y1) + 1)) rfl rfl (by rw [List.nil_append, List.length_take]; omega) (by rw [List.length_drop]) (fun w' hN => tail_at hN (by repeat (first | exact List.Mem.head _ | refine List.Mem.tail _ ?_ | refine List.mem_append_right _ ?_)) (by omega)) hh1' (by repeat (first | exact TakeH.here _ _ _ _ | apply TakeH.tail | apply TakeH.app)) (by omega) rfl (by decide) (fun h2 hh2 _ => ?_)
              rw [List.nil_append, show (redK n.toNat rs y1).take (rs.length - 1 - y1) ++ (redK n.toNat rs y1).drop ((rs.length - 1 - y1) + 1) = delB (redK n.toNat rs y1) (rs.length - 1 - y1) from rfl] at hh2 ⊢
              rw [show 0 + (rs.length - 1 - y1) + ((redK n.toNat rs y1).length - ((rs.length - 1 - y1) + 1)) = (delB (redK n.toNat rs y1) (rs.length - 1 - y1)).length by rw [delB_len hil]; omega]
              refine TL.nil ?_
              refine TX.next (.inl (by repeat (first | exact List.Sublist.slnil | exact List.nil_sublist _ | exact List.Sublist.refl _ | refine List.Sublist.cons_cons _ ?_ | refine List.Sublist.cons _ ?_ | refine List.Sublist.trans ?_ (List.sublist_append_right _ _)))) ?_
              refine TX.step [14] (by kernel_rfl) (by decide) ⟨⟨_, rfl, ?_⟩, trivial⟩
              refine TL.pure (PV.build rfl Tb.zero_24 Tb.pl_24 (fill_sv _ _ _)) rfl (by decide) ?_
              refine TL.nil ?_
              refine TX.next (.inl (by repeat (first | exact List.Sublist.slnil | exact List.nil_sublist _ | exact List.Sublist.refl _ | refine List.Sublist.cons_cons _ ?_ | refine List.Sublist.cons _ ?_ | refine List.Sublist.trans ?_ (List.sublist_append_right _ _)))) ?_
              refine TX.step [16] (by kernel_rfl) (by decide) ⟨⟨_, rfl, ?_⟩, trivial⟩
              refine TL.storeAgg rfl rfl Tb.cells_24 (by repeat (first | exact Upd.head _ | apply Upd.tail | apply Upd.appR)) rfl rfl (by first | rfl | exact sv_one _ _ _) rfl rfl ?_
              refine TL.nil ?_
              refine TX.next (.inr (by kernel_rfl)) ?_
              refine TX.done (by kernel_rfl) ?_
              refine TQ.thenC ?_
              refine TC.seq ?_
              refine TC.mix [true, true, true, true, true, true, false, false, false, false, false, false] [(bL, Obj.cells #[.int .i64 n, gval h2 ((delB (redK n.toNat rs y1) (rs.length - 1 - y1))).length] 24 (0, 0)), (b2, Obj.cells #[.int .i64 n, gval (some (b9, c9, s9)) ((redK n.toNat rs y1)).length] 24 (0, 0)), (b9, Obj.cells (bdc (redK n.toNat rs y1) ++ s9).toArray 42 (0, 0))] 6 Tb.mixed rfl (by kernel_rfl) (by kernel_rfl) (by kernel_rfl) (by kernel_rfl) (by repeat (first | exact List.Sublist.slnil | exact List.nil_sublist _ | exact List.Sublist.refl _ | refine List.Sublist.cons_cons _ ?_ | refine List.Sublist.cons _ ?_ | refine List.Sublist.trans ?_ (List.sublist_append_right _ _))) ?_
              refine TB.op (SOK.pure (PV.loadBox rfl Tb.agg_24 (by repeat (first | exact List.Mem.head _ | refine List.Mem.tail _ ?_ | refine List.mem_append_right _ ?_)) rfl) rfl) (by decide) ?_
              refine TB.op (SOK.pure (PV.fieldAddr rfl Tb.fo_24_1) rfl) (by decide) ?_
              refine TB.op (SOK.pure (PV.load rfl Tb.one_22 (by repeat (first | exact List.Mem.head _ | refine List.Mem.tail _ ?_ | refine List.mem_append_right _ ?_)) rfl) rfl) (by decide) ?_
              refine TB.op (SOK.pure (PV.move rfl) rfl) (by decide) ?_
              refine TB.op (SOK.pure (PV.indexG (j := (rs.length - 1 - y1)) rfl rfl hyg Tb.elm_22 (by omega) (by omega)) rfl) (by decide) ?_
              refine TB.op (SOK.pure (PV.loadE (e := 42) (h := (some (b9, c9, s9))) (l := (redK n.toNat rs y1)) (j := (rs.length - 1 - y1)) (r := rs.getD (rs.length - 1 - y1) default) rfl Tb.agg_42 (fun yy hyy => by rw [List.mem_singleton.1 (show yy ∈ [(b9, Obj.cells (bdc (redK n.toNat rs y1) ++ s9).toArray 42 (0, 0))] from hyy)];  repeat (first | exact List.Mem.head _ | refine List.Mem.tail _ ?_ | refine List.mem_append_right _ ?_)) hyg (by omega) hx9) rfl) (by decide) ?_
              refine TB.no ?_
              refine TB.no ?_
              refine TB.no ?_
              refine TB.no ?_
              refine TB.no ?_
              refine TB.no ?_
              refine TB.fin ?_
              refine TX.step [6] (by kernel_rfl) (by decide) ⟨⟨_, rfl, ?_⟩, trivial⟩
              refine TL.call rfl Tb.gofn_34 (fun a w hs => (by rw [gvB_eq hh2 rfl]; exact rFollows_ok w n (gp h2) (gc h2) _ (BdsAt.s (e := 42) hs.new (fun yy hyy => by simp only [List.mem_append, List.mem_cons]; simp [hyy]) hh2) _)) rfl (by decide) (fun _ _ => ?_)
              refine TL.nil ?_
              refine TX.next (.inl (by repeat (first | exact List.Sublist.slnil | exact List.nil_sublist _ | exact List.Sublist.refl _ | refine List.Sublist.cons_cons _ ?_ | refine List.Sublist.cons _ ?_ | refine List.Sublist.trans ?_ (List.sublist_append_right _ _)))) ?_
              refine TX.step [7] (by kernel_rfl) (by decide) ⟨⟨_, rfl, ?_⟩, trivial⟩
              refine TL.pure (PV.move rfl) rfl (by decide) ?_
              refine TL.nil ?_
              refine TX.next (.inl (by repeat (first | exact List.Sublist.slnil | exact List.nil_sublist _ | exact List.Sublist.refl _ | refine List.Sublist.cons_cons _ ?_ | refine List.Sublist.cons _ ?_ | refine List.Sublist.trans ?_ (List.sublist_append_right _ _)))) ?_
              refine TX.step [8, 9] (by kernel_rfl) (by decide) ⟨⟨_, rfl, ?_⟩, ⟨_, rfl, ?_⟩, trivial⟩
              · skip
                refine TL.pure (PV.extract rfl rfl) rfl (by decide) ?_
                refine TL.nil ?_
                refine TX.next (.inl (by repeat (first | exact List.Sublist.slnil | exact List.nil_sublist _ | exact List.Sublist.refl _ | refine List.Sublist.cons_cons _ ?_ | refine List.Sublist.cons _ ?_ | refine List.Sublist.trans ?_ (List.sublist_append_right _ _)))) ?_
                refine TX.step [9, 10] (by kernel_rfl) (by decide) ⟨⟨_, rfl, ?_⟩, ⟨_, rfl, ?_⟩, trivial⟩
                · skip
                  refine TL.pure (PV.extract rfl rfl) rfl (by decide) ?_
                  refine TL.nil ?_
                  refine TX.next (.inl (by repeat (first | exact List.Sublist.slnil | exact List.nil_sublist _ | exact List.Sublist.refl _ | refine List.Sublist.cons_cons _ ?_ | refine List.Sublist.cons _ ?_ | refine List.Sublist.trans ?_ (List.sublist_append_right _ _)))) ?_
                  refine TX.step [10] (by kernel_rfl) (by decide) ⟨⟨_, rfl, ?_⟩, trivial⟩
                  refine TL.pure (PV.assign rfl) rfl (by decide) ?_
                  refine TL.nil ?_
                  refine TX.next (.inr (by kernel_rfl)) ?_
                  refine TX.step [11] (by kernel_rfl) (by decide) ⟨⟨_, rfl, ?_⟩, trivial⟩
                  refine TL.pure (PV.assign rfl) rfl (by decide) ?_
                  refine TL.nil ?_
                  refine TX.next (.inr (by kernel_rfl)) ?_
                  refine TX.done (by kernel_rfl) ?_
                  refine TQ.thenC ?_
                  refine TC.seq ?_
                  refine TC.region ?_
                  refine TL.pure (PV.move rfl) rfl (by decide) ?_
                  refine TL.nil ?_
                  refine TQ.thenC ?_
                  first | refine TC.condD rfl (fun hfl => ?_) (fun hfl => ?_) | refine TC.cond rfl (fun hfl => ?_) (fun hfl => ?_)
                  · skip
                    refine TC.region ?_
                    refine TL.pure (PV.loadBox rfl Tb.agg_24 (by repeat (first | exact List.Mem.head _ | refine List.Mem.tail _ ?_ | refine List.mem_append_right _ ?_)) rfl) rfl (by decide) ?_
                    refine TL.storeAgg rfl rfl Tb.cells_24 (by repeat (first | exact Upd.head _ | apply Upd.tail | apply Upd.appR)) rfl rfl (by first | rfl | exact sv_one _ _ _) rfl rfl ?_
                    refine TL.nil ?_
                    refine TQ.blkN ?_
                    refine TQ.thenC ?_
                    refine TC.region ?_
                    refine TL.pure (PV.move rfl) rfl (by decide) ?_
                    refine TL.pure (PV.sub rfl rfl (by omega)) rfl (by decide) ?_
                    refine TL.pure (PV.assign rfl) rfl (by decide) ?_
                    refine TL.nil ?_
                    refine TQ.thenN ?_
                    first | (refine TQ.perm (G' := (b2, Obj.cells #[.int .i64 n, gval h2 ((delB (redK n.toNat rs y1) (rs.length - 1 - y1))).length] 24 (0, 0)) :: (bL, Obj.cells #[.int .i64 n, gval h2 ((delB (redK n.toNat rs y1) (rs.length - 1 - y1))).length] 24 (0, 0)) :: (gbB 42 h2 (delB (redK n.toNat rs y1) (rs.length - 1 - y1)) ++ (gbB 42 (some (b9, c9, s9)) (redK n.toNat rs y1) ++ [(b1, Obj.cells #[.int .i64 0, .slice none 0 0] 24 (0, 0)), (b0, Obj.cells #[.int .i64 n, .slice p rs.length cap] 24 (0, 0))]))) (by repeat (first | exact List.Perm.refl _ | refine permTake (by repeat (first | exact Take.head _ | apply Take.tail | apply Take.appR)) ?_ | refine permMid ?_)) ?_; exact TQ.backK (y1 + 1, m9 - 1, h2) (by repeat (first | exact True.intro | refine And.intro rfl ?_)) (by repeat (first | exact True.intro | refine And.intro rfl ?_)) (by simp only; rw [redK_yes (by rw [← hf9]; exact hfl)]; exact List.Sublist.cons_cons _ (List.Sublist.cons _ (List.Sublist.append_left (List.sublist_append_right _ _) _))) ⟨⟨by simp only; omega, by simp only; omega⟩, by simp only; rw [redK_yes (by rw [← hf9]; exact hfl)]; exact hh2⟩ (by simp only; omega)) | exact TQ.backK (y1 + 1, m9 - 1, (some (b9, c9, s9))) (by repeat (first | exact True.intro | refine And.intro rfl ?_)) (by repeat (first | exact True.intro | refine And.intro rfl ?_)) (by simp only; rw [redK_no (by rw [← hf9]; first | exact hfl | simpa using hfl)]; (try simp only [List.nil_append]); first | exact List.Sublist.cons _ (List.sublist_append_right _ _) | exact List.Sublist.trans (List.Sublist.cons _ (List.Sublist.refl _)) (List.sublist_append_right _ _)) ⟨⟨by simp only; omega, by simp only; omega⟩, by simp only; rw [redK_no (by rw [← hf9]; first | exact hfl | simpa using hfl)]; exact hyg⟩ (by simp only; omega)
                  · skip
                    refine TC.skip ?_
                    refine TQ.blkN ?_
                    refine TQ.thenC ?_
                    refine TC.region ?_
                    refine TL.pure (PV.move rfl) rfl (by decide) ?_
                    refine TL.pure (PV.sub rfl rfl (by omega)) rfl (by decide) ?_
                    refine TL.pure (PV.assign rfl) rfl (by decide) ?_
                    refine TL.nil ?_
                    refine TQ.thenN ?_
                    first | (refine TQ.perm (G' := (b2, Obj.cells #[.int .i64 n, gval h2 ((delB (redK n.toNat rs y1) (rs.length - 1 - y1))).length] 24 (0, 0)) :: (bL, Obj.cells #[.int .i64 n, gval h2 ((delB (redK n.toNat rs y1) (rs.length - 1 - y1))).length] 24 (0, 0)) :: (gbB 42 h2 (delB (redK n.toNat rs y1) (rs.length - 1 - y1)) ++ (gbB 42 (some (b9, c9, s9)) (redK n.toNat rs y1) ++ [(b1, Obj.cells #[.int .i64 0, .slice none 0 0] 24 (0, 0)), (b0, Obj.cells #[.int .i64 n, .slice p rs.length cap] 24 (0, 0))]))) (by repeat (first | exact List.Perm.refl _ | refine permTake (by repeat (first | exact Take.head _ | apply Take.tail | apply Take.appR)) ?_ | refine permMid ?_)) ?_; exact TQ.backK (y1 + 1, m9 - 1, h2) (by repeat (first | exact True.intro | refine And.intro rfl ?_)) (by repeat (first | exact True.intro | refine And.intro rfl ?_)) (by simp only; rw [redK_yes (by rw [← hf9]; exact hfl)]; exact List.Sublist.cons_cons _ (List.Sublist.cons _ (List.Sublist.append_left (List.sublist_append_right _ _) _))) ⟨⟨by simp only; omega, by simp only; omega⟩, by simp only; rw [redK_yes (by rw [← hf9]; exact hfl)]; exact hh2⟩ (by simp only; omega)) | exact TQ.backK (y1 + 1, m9 - 1, (some (b9, c9, s9))) (by repeat (first | exact True.intro | refine And.intro rfl ?_)) (by repeat (first | exact True.intro | refine And.intro rfl ?_)) (by simp only; rw [redK_no (by rw [← hf9]; first | exact hfl | simpa using hfl)]; (try simp only [List.nil_append]); first | exact List.Sublist.cons _ (List.sublist_append_right _ _) | exact List.Sublist.trans (List.Sublist.cons _ (List.Sublist.refl _)) (List.sublist_append_right _ _)) ⟨⟨by simp only; omega, by simp only; omega⟩, by simp only; rw [redK_no (by rw [← hf9]; first | exact hfl | simpa using hfl)]; exact hyg⟩ (by simp only; omega)
                · skip
                  refine TL.pure (PV.assign rfl) rfl (by decide) ?_
                  refine TL.nil ?_
                  refine TX.next (.inr (by kernel_rfl)) ?_
                  refine TX.step [9] (by kernel_rfl) (by decide) ⟨⟨_, rfl, ?_⟩, trivial⟩
                  refine TL.pure (PV.extract rfl rfl) rfl (by decide) ?_
                  refine TL.nil ?_
                  refine TX.next (.inl (by repeat (first | exact List.Sublist.slnil | exact List.nil_sublist _ | exact List.Sublist.refl _ | refine List.Sublist.cons_cons _ ?_ | refine List.Sublist.cons _ ?_ | refine List.Sublist.trans ?_ (List.sublist_append_right _ _)))) ?_
                  refine TX.step [11] (by kernel_rfl) (by decide) ⟨⟨_, rfl, ?_⟩, trivial⟩
                  refine TL.pure (PV.assign rfl) rfl (by decide) ?_
                  refine TL.nil ?_
                  refine TX.next (.inr (by kernel_rfl)) ?_
                  refine TX.done (by kernel_rfl) ?_
                  refine TQ.thenC ?_
                  refine TC.seq ?_
                  refine TC.region ?_
                  refine TL.pure (PV.move rfl) rfl (by decide) ?_
                  refine TL.nil ?_
                  refine TQ.thenC ?_
                  first | refine TC.condD rfl (fun hfl => ?_) (fun hfl => ?_) | refine TC.cond rfl (fun hfl => ?_) (fun hfl => ?_)
                  · skip
                    refine TC.region ?_
                    refine TL.pure (PV.loadBox rfl Tb.agg_24 (by repeat (first | exact List.Mem.head _ | refine List.Mem.tail _ ?_ | refine List.mem_append_right _ ?_)) rfl) rfl (by decide) ?_
                    refine TL.storeAgg rfl rfl Tb.cells_24 (by repeat (first | exact Upd.head _ | apply Upd.tail | apply Upd.appR)) rfl rfl (by first | rfl | exact sv_one _ _ _) rfl rfl ?_
                    refine TL.nil ?_
                    refine TQ.blkN ?_
                    refine TQ.thenC ?_
                    refine TC.region ?_
                    refine TL.pure (PV.move rfl) rfl (by decide) ?_
                    refine TL.pure (PV.sub rfl rfl (by omega)) rfl (by decide) ?_
                    refine TL.pure (PV.assign rfl) rfl (by decide) ?_
                    refine TL.nil ?_
                    refine TQ.thenN ?_
                    first | (refine TQ.perm (G' := (b2, Obj.cells #[.int .i64 n, gval h2 ((delB (redK n.toNat rs y1) (rs.length - 1 - y1))).length] 24 (0, 0)) :: (bL, Obj.cells #[.int .i64 n, gval h2 ((delB (redK n.toNat rs y1) (rs.length - 1 - y1))).length] 24 (0, 0)) :: (gbB 42 h2 (delB (redK n.toNat rs y1) (rs.length - 1 - y1)) ++ (gbB 42 (some (b9, c9, s9)) (redK n.toNat rs y1) ++ [(b1, Obj.cells #[.int .i64 0, .slice none 0 0] 24 (0, 0)), (b0, Obj.cells #[.int .i64 n, .slice p rs.length cap] 24 (0, 0))]))) (by repeat (first | exact List.Perm.refl _ | refine permTake (by repeat (first | exact Take.head _ | apply Take.tail | apply Take.appR)) ?_ | refine permMid ?_)) ?_; exact TQ.backK (y1 + 1, m9 - 1, h2) (by repeat (first | exact True.intro | refine And.intro rfl ?_)) (by repeat (first | exact True.intro | refine And.intro rfl ?_)) (by simp only; rw [redK_yes (by rw [← hf9]; exact hfl)]; exact List.Sublist.cons_cons _ (List.Sublist.cons _ (List.Sublist.append_left (List.sublist_append_right _ _) _))) ⟨⟨by simp only; omega, by simp only; omega⟩, by simp only; rw [redK_yes (by rw [← hf9]; exact hfl)]; exact hh2⟩ (by simp only; omega)) | exact TQ.backK (y1 + 1, m9 - 1, (some (b9, c9, s9))) (by repeat (first | exact True.intro | refine And.intro rfl ?_)) (by repeat (first | exact True.intro | refine And.intro rfl ?_)) (by simp only; rw [redK_no (by rw [← hf9]; first | exact hfl | simpa using hfl)]; (try simp only [List.nil_append]); first | exact List.Sublist.cons _ (List.sublist_append_right _ _) | exact List.Sublist.trans (List.Sublist.cons _ (List.Sublist.refl _)) (List.sublist_append_right _ _)) ⟨⟨by simp only; omega, by simp only; omega⟩, by simp only; rw [redK_no (by rw [← hf9]; first | exact hfl | simpa using hfl)]; exact hyg⟩ (by simp only; omega)
                  · skip
                    refine TC.skip ?_
                    refine TQ.blkN ?_
                    refine TQ.thenC ?_
                    refine TC.region ?_
                    refine TL.pure (PV.move rfl) rfl (by decide) ?_
                    refine TL.pure (PV.sub rfl rfl (by omega)) rfl (by decide) ?_
                    refine TL.pure (PV.assign rfl) rfl (by decide) ?_
                    refine TL.nil ?_
                    refine TQ.thenN ?_
                    first | (refine TQ.perm (G' := (b2, Obj.cells #[.int .i64 n, gval h2 ((delB (redK n.toNat rs y1) (rs.length - 1 - y1))).length] 24 (0, 0)) :: (bL, Obj.cells #[.int .i64 n, gval h2 ((delB (redK n.toNat rs y1) (rs.length - 1 - y1))).length] 24 (0, 0)) :: (gbB 42 h2 (delB (redK n.toNat rs y1) (rs.length - 1 - y1)) ++ (gbB 42 (some (b9, c9, s9)) (redK n.toNat rs y1) ++ [(b1, Obj.cells #[.int .i64 0, .slice none 0 0] 24 (0, 0)), (b0, Obj.cells #[.int .i64 n, .slice p rs.length cap] 24 (0, 0))]))) (by repeat (first | exact List.Perm.refl _ | refine permTake (by repeat (first | exact Take.head _ | apply Take.tail | apply Take.appR)) ?_ | refine permMid ?_)) ?_; exact TQ.backK (y1 + 1, m9 - 1, h2) (by repeat (first | exact True.intro | refine And.intro rfl ?_)) (by repeat (first | exact True.intro | refine And.intro rfl ?_)) (by simp only; rw [redK_yes (by rw [← hf9]; exact hfl)]; exact List.Sublist.cons_cons _ (List.Sublist.cons _ (List.Sublist.append_left (List.sublist_append_right _ _) _))) ⟨⟨by simp only; omega, by simp only; omega⟩, by simp only; rw [redK_yes (by rw [← hf9]; exact hfl)]; exact hh2⟩ (by simp only; omega)) | exact TQ.backK (y1 + 1, m9 - 1, (some (b9, c9, s9))) (by repeat (first | exact True.intro | refine And.intro rfl ?_)) (by repeat (first | exact True.intro | refine And.intro rfl ?_)) (by simp only; rw [redK_no (by rw [← hf9]; first | exact hfl | simpa using hfl)]; (try simp only [List.nil_append]); first | exact List.Sublist.cons _ (List.sublist_append_right _ _) | exact List.Sublist.trans (List.Sublist.cons _ (List.Sublist.refl _)) (List.sublist_append_right _ _)) ⟨⟨by simp only; omega, by simp only; omega⟩, by simp only; rw [redK_no (by rw [← hf9]; first | exact hfl | simpa using hfl)]; exact hyg⟩ (by simp only; omega)
              · skip
                refine TL.pure (PV.extract rfl rfl) rfl (by decide) ?_
                refine TL.nil ?_
                refine TX.next (.inl (by repeat (first | exact List.Sublist.slnil | exact List.nil_sublist _ | exact List.Sublist.refl _ | refine List.Sublist.cons_cons _ ?_ | refine List.Sublist.cons _ ?_ | refine List.Sublist.trans ?_ (List.sublist_append_right _ _)))) ?_
                refine TX.step [8] (by kernel_rfl) (by decide) ⟨⟨_, rfl, ?_⟩, trivial⟩
                refine TL.pure (PV.extract rfl rfl) rfl (by decide) ?_
                refine TL.nil ?_
                refine TX.next (.inl (by repeat (first | exact List.Sublist.slnil | exact List.nil_sublist _ | exact List.Sublist.refl _ | refine List.Sublist.cons_cons _ ?_ | refine List.Sublist.cons _ ?_ | refine List.Sublist.trans ?_ (List.sublist_append_right _ _)))) ?_
                refine TX.step [10] (by kernel_rfl) (by decide) ⟨⟨_, rfl, ?_⟩, trivial⟩
                refine TL.pure (PV.assign rfl) rfl (by decide) ?_
                refine TL.nil ?_
                refine TX.next (.inr (by kernel_rfl)) ?_
                refine TX.step [11] (by kernel_rfl) (by decide) ⟨⟨_, rfl, ?_⟩, trivial⟩
                refine TL.pure (PV.assign rfl) rfl (by decide) ?_
                refine TL.nil ?_
                refine TX.next (.inr (by kernel_rfl)) ?_
                refine TX.done (by kernel_rfl) ?_
                refine TQ.thenC ?_
                refine TC.seq ?_
                refine TC.region ?_
                refine TL.pure (PV.move rfl) rfl (by decide) ?_
                refine TL.nil ?_
                refine TQ.thenC ?_
                first | refine TC.condD rfl (fun hfl => ?_) (fun hfl => ?_) | refine TC.cond rfl (fun hfl => ?_) (fun hfl => ?_)
                · skip
                  refine TC.region ?_
                  refine TL.pure (PV.loadBox rfl Tb.agg_24 (by repeat (first | exact List.Mem.head _ | refine List.Mem.tail _ ?_ | refine List.mem_append_right _ ?_)) rfl) rfl (by decide) ?_
                  refine TL.storeAgg rfl rfl Tb.cells_24 (by repeat (first | exact Upd.head _ | apply Upd.tail | apply Upd.appR)) rfl rfl (by first | rfl | exact sv_one _ _ _) rfl rfl ?_
                  refine TL.nil ?_
                  refine TQ.blkN ?_
                  refine TQ.thenC ?_
                  refine TC.region ?_
                  refine TL.pure (PV.move rfl) rfl (by decide) ?_
                  refine TL.pure (PV.sub rfl rfl (by omega)) rfl (by decide) ?_
                  refine TL.pure (PV.assign rfl) rfl (by decide) ?_
                  refine TL.nil ?_
                  refine TQ.thenN ?_
                  first | (refine TQ.perm (G' := (b2, Obj.cells #[.int .i64 n, gval h2 ((delB (redK n.toNat rs y1) (rs.length - 1 - y1))).length] 24 (0, 0)) :: (bL, Obj.cells #[.int .i64 n, gval h2 ((delB (redK n.toNat rs y1) (rs.length - 1 - y1))).length] 24 (0, 0)) :: (gbB 42 h2 (delB (redK n.toNat rs y1) (rs.length - 1 - y1)) ++ (gbB 42 (some (b9, c9, s9)) (redK n.toNat rs y1) ++ [(b1, Obj.cells #[.int .i64 0, .slice none 0 0] 24 (0, 0)), (b0, Obj.cells #[.int .i64 n, .slice p rs.length cap] 24 (0, 0))]))) (by repeat (first | exact List.Perm.refl _ | refine permTake (by repeat (first | exact Take.head _ | apply Take.tail | apply Take.appR)) ?_ | refine permMid ?_)) ?_; exact TQ.backK (y1 + 1, m9 - 1, h2) (by repeat (first | exact True.intro | refine And.intro rfl ?_)) (by repeat (first | exact True.intro | refine And.intro rfl ?_)) (by simp only; rw [redK_yes (by rw [← hf9]; exact hfl)]; exact List.Sublist.cons_cons _ (List.Sublist.cons _ (List.Sublist.append_left (List.sublist_append_right _ _) _))) ⟨⟨by simp only; omega, by simp only; omega⟩, by simp only; rw [redK_yes (by rw [← hf9]; exact hfl)]; exact hh2⟩ (by simp only; omega)) | exact TQ.backK (y1 + 1, m9 - 1, (some (b9, c9, s9))) (by repeat (first | exact True.intro | refine And.intro rfl ?_)) (by repeat (first | exact True.intro | refine And.intro rfl ?_)) (by simp only; rw [redK_no (by rw [← hf9]; first | exact hfl | simpa using hfl)]; (try simp only [List.nil_append]); first | exact List.Sublist.cons _ (List.sublist_append_right _ _) | exact List.Sublist.trans (List.Sublist.cons _ (List.Sublist.refl _)) (List.sublist_append_right _ _)) ⟨⟨by simp only; omega, by simp only; omega⟩, by simp only; rw [redK_no (by rw [← hf9]; first | exact hfl | simpa using hfl)]; exact hyg⟩ (by simp only; omega)
                · skip
                  refine TC.skip ?_
                  refine TQ.blkN ?_
                  refine TQ.thenC ?_
                  refine TC.region ?_
                  refine TL.pure (PV.move rfl) rfl (by decide) ?_
                  refine TL.pure (PV.sub rfl rfl (by omega)) rfl (by decide) ?_
                  refine TL.pure (PV.assign rfl) rfl (by decide) ?_
                  refine TL.nil ?_
                  refine TQ.thenN ?_
                  first | (refine TQ.perm (G' := (b2, Obj.cells #[.int .i64 n, gval h2 ((delB (redK n.toNat rs y1) (rs.length - 1 - y1))).length] 24 (0, 0)) :: (bL, Obj.cells #[.int .i64 n, gval h2 ((delB (redK n.toNat rs y1) (rs.length - 1 - y1))).length] 24 (0, 0)) :: (gbB 42 h2 (delB (redK n.toNat rs y1) (rs.length - 1 - y1)) ++ (gbB 42 (some (b9, c9, s9)) (redK n.toNat rs y1) ++ [(b1, Obj.cells #[.int .i64 0, .slice none 0 0] 24 (0, 0)), (b0, Obj.cells #[.int .i64 n, .slice p rs.length cap] 24 (0, 0))]))) (by repeat (first | exact List.Perm.refl _ | refine permTake (by repeat (first | exact Take.head _ | apply Take.tail | apply Take.appR)) ?_ | refine permMid ?_)) ?_; exact TQ.backK (y1 + 1, m9 - 1, h2) (by repeat (first | exact True.intro | refine And.intro rfl ?_)) (by repeat (first | exact True.intro | refine And.intro rfl ?_)) (by simp only; rw [redK_yes (by rw [← hf9]; exact hfl)]; exact List.Sublist.cons_cons _ (List.Sublist.cons _ (List.Sublist.append_left (List.sublist_append_right _ _) _))) ⟨⟨by simp only; omega, by simp only; omega⟩, by simp only; rw [redK_yes (by rw [← hf9]; exact hfl)]; exact hh2⟩ (by simp only; omega)) | exact TQ.backK (y1 + 1, m9 - 1, (some (b9, c9, s9))) (by repeat (first | exact True.intro | refine And.intro rfl ?_)) (by repeat (first | exact True.intro | refine And.intro rfl ?_)) (by simp only; rw [redK_no (by rw [← hf9]; first | exact hfl | simpa using hfl)]; (try simp only [List.nil_append]); first | exact List.Sublist.cons _ (List.sublist_append_right _ _) | exact List.Sublist.trans (List.Sublist.cons _ (List.Sublist.refl _)) (List.sublist_append_right _ _)) ⟨⟨by simp only; omega, by simp only; omega⟩, by simp only; rw [redK_no (by rw [← hf9]; first | exact hfl | simpa using hfl)]; exact hyg⟩ (by simp only; omega)
          · skip
            refine TL.alloc Tb.zero_24 rfl (by decide) (fun bL hbL => ?_)
            refine TL.nil ?_
            refine TX.next (.inl (by repeat (first | exact List.Sublist.slnil | exact List.nil_sublist _ | exact List.Sublist.refl _ | refine List.Sublist.cons_cons _ ?_ | refine List.Sublist.cons _ ?_ | refine List.Sublist.trans ?_ (List.sublist_append_right _ _)))) ?_
            refine TX.step [7] (by kernel_rfl) (by decide) ⟨⟨_, rfl, ?_⟩, trivial⟩
            refine TL.appendBS Tb.sl_22 Tb.zi_42 rfl rfl (h0 := some (bE, 0, [])) (ys := []) (xs := (redK n.toNat rs y1).take (rs.length - 1 - y1)) (K0 := 0) (K := (rs.length - 1 - y1)) rfl rfl rfl (by rw [List.length_take]; omega) (fun w' hN => front_at hN hyg (fun yy hyy => by rw [List.mem_singleton.1 (show yy ∈ [(b9, Obj.cells (bdc (redK n.toNat rs y1) ++ s9).toArray 42 (0, 0))] from hyy)];  repeat (first | exact List.Mem.head _ | refine List.Mem.tail _ ?_ | refine List.mem_append_right _ ?_)) _) ⟨rfl, rfl, Nat.le_refl _⟩ (by repeat (first | exact TakeH.here _ _ _ _ | apply TakeH.tail | apply TakeH.app)) (by omega) rfl (by decide) (fun h1' hh1' _ => ?_)
            refine TL.nil ?_
            refine TX.next (.inl (by repeat (first | exact List.Sublist.slnil | exact List.nil_sublist _ | exact List.Sublist.refl _ | refine List.Sublist.cons_cons _ ?_ | refine List.Sublist.cons _ ?_ | refine List.Sublist.trans ?_ (List.sublist_append_right _ _)))) ?_
            refine TX.step [13] (by kernel_rfl) (by decide) ⟨⟨_, rfl, ?_⟩, trivial⟩
            refine TL.appendBS Tb.sl_22 Tb.zi_42 rfl rfl (h0 := h1') (ys := [] ++ (redK n.toNat rs y1).take (rs.length - 1 - y1)) (xs := (redK n.toNat rs y1).drop ((rs.length - 1 - y1) + 1)) (K0 := 0 + (rs.length - 1 - y1)) (K := (redK n.toNat rs y1).length - ((rs.length - 1 - y1) + 1)) rfl rfl (by rw [List.nil_append, List.length_take]; omega) (by rw [List.length_drop]) (fun w' hN => tail_at hN (by repeat (first | exact List.Mem.head _ | refine List.Mem.tail _ ?_ | refine List.mem_append_right _ ?_)) (by omega)) hh1' (by repeat (first | exact TakeH.here _ _ _ _ | apply TakeH.tail | apply TakeH.app)) (by omega) rfl (by decide) (fun h2 hh2 _ => ?_)
            rw [List.nil_append, show (redK n.toNat rs y1).take (rs.length - 1 - y1) ++ (redK n.toNat rs y1).drop ((rs.length - 1 - y1) + 1) = delB (redK n.toNat rs y1) (rs.length - 1 - y1) from rfl] at hh2 ⊢
            rw [show 0 + (rs.length - 1 - y1) + ((redK n.toNat rs y1).length - ((rs.length - 1 - y1) + 1)) = (delB (redK n.toNat rs y1) (rs.length - 1 - y1)).length by rw [delB_len hil]; omega]
            refine TL.nil ?_
            refine TX.next (.inl (by repeat (first | exact List.Sublist.slnil | exact List.nil_sublist _ | exact List.Sublist.refl _ | refine List.Sublist.cons_cons _ ?_ | refine List.Sublist.cons _ ?_ | refine List.Sublist.trans ?_ (List.sublist_append_right _ _)))) ?_
            refine TX.step [14] (by kernel_rfl) (by decide) ⟨⟨_, rfl, ?_⟩, trivial⟩
            refine TL.pure (PV.build rfl Tb.zero_24 Tb.pl_24 (fill_sv _ _ _)) rfl (by decide) ?_
            refine TL.nil ?_
            refine TX.next (.inl (by repeat (first | exact List.Sublist.slnil | exact List.nil_sublist _ | exact List.Sublist.refl _ | refine List.Sublist.cons_cons _ ?_ | refine List.Sublist.cons _ ?_ | refine List.Sublist.trans ?_ (List.sublist_append_right _ _)))) ?_
            refine TX.step [16] (by kernel_rfl) (by decide) ⟨⟨_, rfl, ?_⟩, trivial⟩
            refine TL.storeAgg rfl rfl Tb.cells_24 (by repeat (first | exact Upd.head _ | apply Upd.tail | apply Upd.appR)) rfl rfl (by first | rfl | exact sv_one _ _ _) rfl rfl ?_
            refine TL.nil ?_
            refine TX.next (.inr (by kernel_rfl)) ?_
            refine TX.done (by kernel_rfl) ?_
            refine TQ.thenC ?_
            refine TC.seq ?_
            refine TC.mix [true, true, true, true, true, true, false, false, false, false, false, false] [(bL, Obj.cells #[.int .i64 n, gval h2 ((delB (redK n.toNat rs y1) (rs.length - 1 - y1))).length] 24 (0, 0)), (b2, Obj.cells #[.int .i64 n, gval (some (b9, c9, s9)) ((redK n.toNat rs y1)).length] 24 (0, 0)), (b9, Obj.cells (bdc (redK n.toNat rs y1) ++ s9).toArray 42 (0, 0))] 6 Tb.mixed rfl (by kernel_rfl) (by kernel_rfl) (by kernel_rfl) (by kernel_rfl) (by repeat (first | exact List.Sublist.slnil | exact List.nil_sublist _ | exact List.Sublist.refl _ | refine List.Sublist.cons_cons _ ?_ | refine List.Sublist.cons _ ?_ | refine List.Sublist.trans ?_ (List.sublist_append_right _ _))) ?_
            refine TB.op (SOK.pure (PV.loadBox rfl Tb.agg_24 (by repeat (first | exact List.Mem.head _ | refine List.Mem.tail _ ?_ | refine List.mem_append_right _ ?_)) rfl) rfl) (by decide) ?_
            refine TB.op (SOK.pure (PV.fieldAddr rfl Tb.fo_24_1) rfl) (by decide) ?_
            refine TB.op (SOK.pure (PV.load rfl Tb.one_22 (by repeat (first | exact List.Mem.head _ | refine List.Mem.tail _ ?_ | refine List.mem_append_right _ ?_)) rfl) rfl) (by decide) ?_
            refine TB.op (SOK.pure (PV.move rfl) rfl) (by decide) ?_
            refine TB.op (SOK.pure (PV.indexG (j := (rs.length - 1 - y1)) rfl rfl hyg Tb.elm_22 (by omega) (by omega)) rfl) (by decide) ?_
            refine TB.op (SOK.pure (PV.loadE (e := 42) (h := (some (b9, c9, s9))) (l := (redK n.toNat rs y1)) (j := (rs.length - 1 - y1)) (r := rs.getD (rs.length - 1 - y1) default) rfl Tb.agg_42 (fun yy hyy => by rw [List.mem_singleton.1 (show yy ∈ [(b9, Obj.cells (bdc (redK n.toNat rs y1) ++ s9).toArray 42 (0, 0))] from hyy)];  repeat (first | exact List.Mem.head _ | refine List.Mem.tail _ ?_ | refine List.mem_append_right _ ?_)) hyg (by omega) hx9) rfl) (by decide) ?_
            refine TB.no ?_
            refine TB.no ?_
            refine TB.no ?_
            refine TB.no ?_
            refine TB.no ?_
            refine TB.no ?_
            refine TB.fin ?_
            refine TX.step [6] (by kernel_rfl) (by decide) ⟨⟨_, rfl, ?_⟩, trivial⟩
            refine TL.call rfl Tb.gofn_34 (fun a w hs => (by rw [gvB_eq hh2 rfl]; exact rFollows_ok w n (gp h2) (gc h2) _ (BdsAt.s (e := 42) hs.new (fun yy hyy => by simp only [List.mem_append, List.mem_cons]; simp [hyy]) hh2) _)) rfl (by decide) (fun _ _ => ?_)
            refine TL.nil ?_
            refine TX.next (.inl (by repeat (first | exact List.Sublist.slnil | exact List.nil_sublist _ | exact List.Sublist.refl _ | refine List.Sublist.cons_cons _ ?_ | refine List.Sublist.cons _ ?_ | refine List.Sublist.trans ?_ (List.sublist_append_right _ _)))) ?_
            refine TX.step [7] (by kernel_rfl) (by decide) ⟨⟨_, rfl, ?_⟩, trivial⟩
            refine TL.pure (PV.move rfl) rfl (by decide) ?_
            refine TL.nil ?_
            refine TX.next (.inl (by repeat (first | exact List.Sublist.slnil | exact List.nil_sublist _ | exact List.Sublist.refl _ | refine List.Sublist.cons_cons _ ?_ | refine List.Sublist.cons _ ?_ | refine List.Sublist.trans ?_ (List.sublist_append_right _ _)))) ?_
            refine TX.step [8, 9] (by kernel_rfl) (by decide) ⟨⟨_, rfl, ?_⟩, ⟨_, rfl, ?_⟩, trivial⟩
            · skip
              refine TL.pure (PV.extract rfl rfl) rfl (by decide) ?_
              refine TL.nil ?_
              refine TX.next (.inl (by repeat (first | exact List.Sublist.slnil | exact List.nil_sublist _ | exact List.Sublist.refl _ | refine List.Sublist.cons_cons _ ?_ | refine List.Sublist.cons _ ?_ | refine List.Sublist.trans ?_ (List.sublist_append_right _ _)))) ?_
              refine TX.step [9, 10] (by kernel_rfl) (by decide) ⟨⟨_, rfl, ?_⟩, ⟨_, rfl, ?_⟩, trivial⟩
              · skip
                refine TL.pure (PV.extract rfl rfl) rfl (by decide) ?_
                refine TL.nil ?_
                refine TX.next (.inl (by repeat (first | exact List.Sublist.slnil | exact List.nil_sublist _ | exact List.Sublist.refl _ | refine List.Sublist.cons_cons _ ?_ | refine List.Sublist.cons _ ?_ | refine List.Sublist.trans ?_ (List.sublist_append_right _ _)))) ?_
                refine TX.step [10] (by kernel_rfl) (by decide) ⟨⟨_, rfl, ?_⟩, trivial⟩
                refine TL.pure (PV.assign rfl) rfl (by decide) ?_
                refine TL.nil ?_
                refine TX.next (.inr (by kernel_rfl)) ?_
                refine TX.step [11] (by kernel_rfl) (by decide) ⟨⟨_, rfl, ?_⟩, trivial⟩
                refine TL.pure (PV.assign rfl) rfl (by decide) ?_
                refine TL.nil ?_
                refine TX.next (.inr (by kernel_rfl)) ?_
                refine TX.done (by kernel_rfl) ?_
                refine TQ.thenC ?_
                refine TC.seq ?_
                refine TC.region ?_
                refine TL.pure (PV.move rfl) rfl (by decide) ?_
                refine TL.nil ?_
                refine TQ.thenC ?_
                first | refine TC.condD rfl (fun hfl => ?_) (fun hfl => ?_) | refine TC.cond rfl (fun hfl => ?_) (fun hfl => ?_)
                · skip
                  refine TC.region ?_
                  refine TL.pure (PV.loadBox rfl Tb.agg_24 (by repeat (first | exact List.Mem.head _ | refine List.Mem.tail _ ?_ | refine List.mem_append_right _ ?_)) rfl) rfl (by decide) ?_
                  refine TL.storeAgg rfl rfl Tb.cells_24 (by repeat (first | exact Upd.head _ | apply Upd.tail | apply Upd.appR)) rfl rfl (by first | rfl | exact sv_one _ _ _) rfl rfl ?_
                  refine TL.nil ?_
                  refine TQ.blkN ?_
                  refine TQ.thenC ?_
                  refine TC.region ?_
                  refine TL.pure (PV.move rfl) rfl (by decide) ?_
                  refine TL.pure (PV.sub rfl rfl (by omega)) rfl (by decide) ?_
                  refine TL.pure (PV.assign rfl) rfl (by decide) ?_
                  refine TL.nil ?_
                  refine TQ.thenN ?_
                  first | (refine TQ.perm (G' := (b2, Obj.cells #[.int .i64 n, gval h2 ((delB (redK n.toNat rs y1) (rs.length - 1 - y1))).length] 24 (0, 0)) :: (bL, Obj.cells #[.int .i64 n, gval h2 ((delB (redK n.toNat rs y1) (rs.length - 1 - y1))).length] 24 (0, 0)) :: (gbB 42 h2 (delB (redK n.toNat rs y1) (rs.length - 1 - y1)) ++ (gbB 42 (some (b9, c9, s9)) (redK n.toNat rs y1) ++ [(b1, Obj.cells #[.int .i64 0, .slice none 0 0] 24 (0, 0)), (b0, Obj.cells #[.int .i64 n, .slice p rs.length cap] 24 (0, 0))]))) (by repeat (first | exact List.Perm.refl _ | refine permTake (by repeat (first | exact Take.head _ | apply Take.tail | apply Take.appR)) ?_ | refine permMid ?_)) ?_; exact TQ.backK (y1 + 1, m9 - 1, h2) (by repeat (first | exact True.intro | refine And.intro rfl ?_)) (by repeat (first | exact True.intro | refine And.intro rfl ?_)) (by simp only; rw [redK_yes (by rw [← hf9]; exact hfl)]; exact List.Sublist.cons_cons _ (List.Sublist.cons _ (List.Sublist.append_left (List.sublist_append_right _ _) _))) ⟨⟨by simp only; omega, by simp only; omega⟩, by simp only; rw [redK_yes (by rw [← hf9]; exact hfl)]; exact hh2⟩ (by simp only; omega)) | exact TQ.backK (y1 + 1, m9 - 1, (some (b9, c9, s9))) (by repeat (first | exact True.intro | refine And.intro rfl ?_)) (by repeat (first | exact True.intro | refine And.intro rfl ?_)) (by simp only; rw [redK_no (by rw [← hf9]; first | exact hfl | simpa using hfl)]; (try simp only [List.nil_append]); first | exact List.Sublist.cons _ (List.sublist_append_right _ _) | exact List.Sublist.trans (List.Sublist.cons _ (List.Sublist.refl _)) (List.sublist_append_right _ _)) ⟨⟨by simp only; omega, by simp only; omega⟩, by simp only; rw [redK_no (by rw [← hf9]; first | exact hfl | simpa using hfl)]; exact hyg⟩ (by simp only; omega)
                · skip
                  refine TC.skip ?_
                  refine TQ.blkN ?_
                  refine TQ.thenC ?_
                  refine TC.region ?_
                  refine TL.pure (PV.move rfl) rfl (by decide) ?_
                  refine TL.pure (PV.sub rfl rfl (by omega)) rfl (by decide) ?_
                  refine TL.pure (PV.assign rfl) rfl (by decide) ?_
                  refine TL.nil ?_
                  refine TQ.thenN ?_
                  first | (refine TQ.perm (G' := (b2, Obj.cells #[.int .i64 n, gval h2 ((delB (redK n.toNat rs y1) (rs.length - 1 - y1))).length] 24 (0, 0)) :: (bL, Obj.cells #[.int .i64 n, gval h2 ((delB (redK n.toNat rs y1) (rs.length - 1 - y1))).length] 24 (0, 0)) :: (gbB 42 h2 (delB (redK n.toNat rs y1) (rs.length - 1 - y1)) ++ (gbB 42 (some (b9, c9, s9)) (redK n.toNat rs y1) ++ [(b1, Obj.cells #[.int .i64 0, .slice none 0 0] 24 (0, 0)), (b0, Obj.cells #[.int .i64 n, .slice p rs.length cap] 24 (0, 0))]))) (by repeat (first | exact List.Perm.refl _ | refine permTake (by repeat (first | exact Take.head _ | apply Take.tail | apply Take.appR)) ?_ | refine permMid ?_)) ?_; exact TQ.backK (y1 + 1, m9 - 1, h2) (by repeat (first | exact True.intro | refine And.intro rfl ?_)) (by repeat (first | exact True.intro | refine And.intro rfl ?_)) (by simp only; rw [redK_yes (by rw [← hf9]; exact hfl)]; exact List.Sublist.cons_cons _ (List.Sublist.cons _ (List.Sublist.append_left (List.sublist_append_right _ _) _))) ⟨⟨by simp only; omega, by simp only; omega⟩, by simp only; rw [redK_yes (by rw [← hf9]; exact hfl)]; exact hh2⟩ (by simp only; omega)) | exact TQ.backK (y1 + 1, m9 - 1, (some (b9, c9, s9))) (by repeat (first | exact True.intro | refine And.intro rfl ?_)) (by repeat (first | exact True.intro | refine And.intro rfl ?_)) (by simp only; rw [redK_no (by rw [← hf9]; first | exact hfl | simpa using hfl)]; (try simp only [List.nil_append]); first | exact List.Sublist.cons _ (List.sublist_append_right _ _) | exact List.Sublist.trans (List.Sublist.cons _ (List.Sublist.refl _)) (List.sublist_append_right _ _)) ⟨⟨by simp only; omega, by simp only; omega⟩, by simp only; rw [redK_no (by rw [← hf9]; first | exact hfl | simpa using hfl)]; exact hyg⟩ (by simp only; omega)
              · skip
                refine TL.pure (PV.assign rfl) rfl (by decide) ?_
                refine TL.nil ?_
                refine TX.next (.inr (by kernel_rfl)) ?_
                refine TX.step [9] (by kernel_rfl) (by decide) ⟨⟨_, rfl, ?_⟩, trivial⟩
                refine TL.pure (PV.extract rfl rfl) rfl (by decide) ?_
                refine TL.nil ?_
                refine TX.next (.inl (by repeat (first | exact List.Sublist.slnil | exact List.nil_sublist _ | exact List.Sublist.refl _ | refine List.Sublist.cons_cons _ ?_ | refine List.Sublist.cons _ ?_ | refine List.Sublist.trans ?_ (List.sublist_append_right _ _)))) ?_
                refine TX.step [11] (by kernel_rfl) (by decide) ⟨⟨_, rfl, ?_⟩, trivial⟩
                refine TL.pure (PV.assign rfl) rfl (by decide) ?_
                refine TL.nil ?_
                refine TX.next (.inr (by kernel_rfl)) ?_
                refine TX.done (by kernel_rfl) ?_
                refine TQ.thenC ?_
                refine TC.seq ?_
                refine TC.region ?_
                refine TL.pure (PV.move rfl) rfl (by decide) ?_
                refine TL.nil ?_
                refine TQ.thenC ?_
                first | refine TC.condD rfl (fun hfl => ?_) (fun hfl => ?_) | refine TC.cond rfl (fun hfl => ?_) (fun hfl => ?_)
                · skip
                  refine TC.region ?_
                  refine TL.pure (PV.loadBox rfl Tb.agg_24 (by repeat (first | exact List.Mem.head _ | refine List.Mem.tail _ ?_ | refine List.mem_append_right _ ?_)) rfl) rfl (by decide) ?_
                  refine TL.storeAgg rfl rfl Tb.cells_24 (by repeat (first | exact Upd.head _ | apply Upd.tail | apply Upd.appR)) rfl rfl (by first | rfl | exact sv_one _ _ _) rfl rfl ?_
                  refine TL.nil ?_
                  refine TQ.blkN ?_
                  refine TQ.thenC ?_
                  refine TC.region ?_
                  refine TL.pure (PV.move rfl) rfl (by decide) ?_
                  refine TL.pure (PV.sub rfl rfl (by omega)) rfl (by decide) ?_
                  refine TL.pure (PV.assign rfl) rfl (by decide) ?_
                  refine TL.nil ?_
                  refine TQ.thenN ?_
                  first | (refine TQ.perm (G' := (b2, Obj.cells #[.int .i64 n, gval h2 ((delB (redK n.toNat rs y1) (rs.length - 1 - y1))).length] 24 (0, 0)) :: (bL, Obj.cells #[.int .i64 n, gval h2 ((delB (redK n.toNat rs y1) (rs.length - 1 - y1))).length] 24 (0, 0)) :: (gbB 42 h2 (delB (redK n.toNat rs y1) (rs.length - 1 - y1)) ++ (gbB 42 (some (b9, c9, s9)) (redK n.toNat rs y1) ++ [(b1, Obj.cells #[.int .i64 0, .slice none 0 0] 24 (0, 0)), (b0, Obj.cells #[.int .i64 n, .slice p rs.length cap] 24 (0, 0))]))) (by repeat (first | exact List.Perm.refl _ | refine permTake (by repeat (first | exact Take.head _ | apply Take.tail | apply Take.appR)) ?_ | refine permMid ?_)) ?_; exact TQ.backK (y1 + 1, m9 - 1, h2) (by repeat (first | exact True.intro | refine And.intro rfl ?_)) (by repeat (first | exact True.intro | refine And.intro rfl ?_)) (by simp only; rw [redK_yes (by rw [← hf9]; exact hfl)]; exact List.Sublist.cons_cons _ (List.Sublist.cons _ (List.Sublist.append_left (List.sublist_append_right _ _) _))) ⟨⟨by simp only; omega, by simp only; omega⟩, by simp only; rw [redK_yes (by rw [← hf9]; exact hfl)]; exact hh2⟩ (by simp only; omega)) | exact TQ.backK (y1 + 1, m9 - 1, (some (b9, c9, s9))) (by repeat (first | exact True.intro | refine And.intro rfl ?_)) (by repeat (first | exact True.intro | refine And.intro rfl ?_)) (by simp only; rw [redK_no (by rw [← hf9]; first | exact hfl | simpa using hfl)]; (try simp only [List.nil_append]); first | exact List.Sublist.cons _ (List.sublist_append_right _ _) | exact List.Sublist.trans (List.Sublist.cons _ (List.Sublist.refl _)) (List.sublist_append_right _ _)) ⟨⟨by simp only; omega, by simp only; omega⟩, by simp only; rw [redK_no (by rw [← hf9]; first | exact hfl | simpa using hfl)]; exact hyg⟩ (by simp only; omega)
                · skip
                  refine TC.skip ?_
                  refine TQ.blkN ?_
                  refine TQ.thenC ?_
                  refine TC.region ?_
                  refine TL.pure (PV.move rfl) rfl (by decide) ?_
                  refine TL.pure (PV.sub rfl rfl (by omega)) rfl (by decide) ?_
                  refine TL.pure (PV.assign rfl) rfl (by decide) ?_
                  refine TL.nil ?_
                  refine TQ.thenN ?_
                  first | (refine TQ.perm (G' := (b2, Obj.cells #[.int .i64 n, gval h2 ((delB (redK n.toNat rs y1) (rs.length - 1 - y1))).length] 24 (0, 0)) :: (bL, Obj.cells #[.int .i64 n, gval h2 ((delB (redK n.toNat rs y1) (rs.length - 1 - y1))).length] 24 (0, 0)) :: (gbB 42 h2 (delB (redK n.toNat rs y1) (rs.length - 1 - y1)) ++ (gbB 42 (some (b9, c9, s9)) (redK n.toNat rs y1) ++ [(b1, Obj.cells #[.int .i64 0, .slice none 0 0] 24 (0, 0)), (b0, Obj.cells #[.int .i64 n, .slice p rs.length cap] 24 (0, 0))]))) (by repeat (first | exact List.Perm.refl _ | refine permTake (by repeat (first | exact Take.head _ | apply Take.tail | apply Take.appR)) ?_ | refine permMid ?_)) ?_; exact TQ.backK (y1 + 1, m9 - 1, h2) (by repeat (first | exact True.intro | refine And.intro rfl ?_)) (by repeat (first | exact True.intro | refine And.intro rfl ?_)) (by simp only; rw [redK_yes (by rw [← hf9]; exact hfl)]; exact List.Sublist.cons_cons _ (List.Sublist.cons _ (List.Sublist.append_left (List.sublist_append_right _ _) _))) ⟨⟨by simp only; omega, by simp only; omega⟩, by simp only; rw [redK_yes (by rw [← hf9]; exact hfl)]; exact hh2⟩ (by simp only; omega)) | exact TQ.backK (y1 + 1, m9 - 1, (some (b9, c9, s9))) (by repeat (first | exact True.intro | refine And.intro rfl ?_)) (by repeat (first | exact True.intro | refine And.intro rfl ?_)) (by simp only; rw [redK_no (by rw [← hf9]; first | exact hfl | simpa using hfl)]; (try simp only [List.nil_append]); first | exact List.Sublist.cons _ (List.sublist_append_right _ _) | exact List.Sublist.trans (List.Sublist.cons _ (List.Sublist.refl _)) (List.sublist_append_right _ _)) ⟨⟨by simp only; omega, by simp only; omega⟩, by simp only; rw [redK_no (by rw [← hf9]; first | exact hfl | simpa using hfl)]; exact hyg⟩ (by simp only; omega)
            · skip
              refine TL.pure (PV.extract rfl rfl) rfl (by decide) ?_
              refine TL.nil ?_
              refine TX.next (.inl (by repeat (first | exact List.Sublist.slnil | exact List.nil_sublist _ | exact List.Sublist.refl _ | refine List.Sublist.cons_cons _ ?_ | refine List.Sublist.cons _ ?_ | refine List.Sublist.trans ?_ (List.sublist_append_right _ _)))) ?_
              refine TX.step [8] (by kernel_rfl) (by decide) ⟨⟨_, rfl, ?_⟩, trivial⟩
              refine TL.pure (PV.extract rfl rfl) rfl (by decide) ?_
              refine TL.nil ?_
              refine TX.next (.inl (by repeat (first | exact List.Sublist.slnil | exact List.nil_sublist _ | exact List.Sublist.refl _ | refine List.Sublist.cons_cons _ ?_ | refine List.Sublist.cons _ ?_ | refine List.Sublist.trans ?_ (List.sublist_append_right _ _)))) ?_
              refine TX.step [10] (by kernel_rfl) (by decide) ⟨⟨_, rfl, ?_⟩, trivial⟩
              refine TL.pure (PV.assign rfl) rfl (by decide) ?_
              refine TL.nil ?_
              refine TX.next (.inr (by kernel_rfl)) ?_
              refine TX.step [11] (by kernel_rfl) (by decide) ⟨⟨_, rfl, ?_⟩, trivial⟩
              refine TL.pure (PV.assign rfl) rfl (by decide) ?_
              refine TL.nil ?_
              refine TX.next (.inr (by kernel_rfl)) ?_
              refine TX.done (by kernel_rfl) ?_
              refine TQ.thenC ?_
              refine TC.seq ?_
              refine TC.region ?_
              refine TL.pure (PV.move rfl) rfl (by decide) ?_
              refine TL.nil ?_
              refine TQ.thenC ?_
              first | refine TC.condD rfl (fun hfl => ?_) (fun hfl => ?_) | refine TC.cond rfl (fun hfl => ?_) (fun hfl => ?_)
              · skip
                refine TC.region ?_
                refine TL.pure (PV.loadBox rfl Tb.agg_24 (by repeat (first | exact List.Mem.head _ | refine List.Mem.tail _ ?_ | refine List.mem_append_right _ ?_)) rfl) rfl (by decide) ?_
                refine TL.storeAgg rfl rfl Tb.cells_24 (by repeat (first | exact Upd.head _ | apply Upd.tail | apply Upd.appR)) rfl rfl (by first | rfl | exact sv_one _ _ _) rfl rfl ?_
                refine TL.nil ?_
                refine TQ.blkN ?_
                refine TQ.thenC ?_
                refine TC.region ?_
                refine TL.pure (PV.move rfl) rfl (by decide) ?_
                refine TL.pure (PV.sub rfl rfl (by omega)) rfl (by decide) ?_
                refine TL.pure (PV.assign rfl) rfl (by decide) ?_
                refine TL.nil ?_
                refine TQ.thenN ?_
                first | (refine TQ.perm (G' := (b2, Obj.cells #[.int .i64 n, gval h2 ((delB (redK n.toNat rs y1) (rs.length - 1 - y1))).length] 24 (0, 0)) :: (bL, Obj.cells #[.int .i64 n, gval h2 ((delB (redK n.toNat rs y1) (rs.length - 1 - y1))).length] 24 (0, 0)) :: (gbB 42 h2 (delB (redK n.toNat rs y1) (rs.length - 1 - y1)) ++ (gbB 42 (some (b9, c9, s9)) (redK n.toNat rs y1) ++ [(b1, Obj.cells #[.int .i64 0, .slice none 0 0] 24 (0, 0)), (b0, Obj.cells #[.int .i64 n, .slice p rs.length cap] 24 (0, 0))]))) (by repeat (first | exact List.Perm.refl _ | refine permTake (by repeat (first | exact Take.head _ | apply Take.tail | apply Take.appR)) ?_ | refine permMid ?_)) ?_; exact TQ.backK (y1 + 1, m9 - 1, h2) (by repeat (first | exact True.intro | refine And.intro rfl ?_)) (by repeat (first | exact True.intro | refine And.intro rfl ?_)) (by simp only; rw [redK_yes (by rw [← hf9]; exact hfl)]; exact List.Sublist.cons_cons _ (List.Sublist.cons _ (List.Sublist.append_left (List.sublist_append_right _ _) _))) ⟨⟨by simp only; omega, by simp only; omega⟩, by simp only; rw [redK_yes (by rw [← hf9]; exact hfl)]; exact hh2⟩ (by simp only; omega)) | exact TQ.backK (y1 + 1, m9 - 1, (some (b9, c9, s9))) (by repeat (first | exact True.intro | refine And.intro rfl ?_)) (by repeat (first | exact True.intro | refine And.intro rfl ?_)) (by simp only; rw [redK_no (by rw [← hf9]; first | exact hfl | simpa using hfl)]; (try simp only [List.nil_append]); first | exact List.Sublist.cons _ (List.sublist_append_right _ _) | exact List.Sublist.trans (List.Sublist.cons _ (List.Sublist.refl _)) (List.sublist_append_right _ _)) ⟨⟨by simp only; omega, by simp only; omega⟩, by simp only; rw [redK_no (by rw [← hf9]; first | exact hfl | simpa using hfl)]; exact hyg⟩ (by simp only; omega)
              · skip
                refine TC.skip ?_
                refine TQ.blkN ?_
                refine TQ.thenC ?_
                refine TC.region ?_
                refine TL.pure (PV.move rfl) rfl (by decide) ?_
                refine TL.pure (PV.sub rfl rfl (by omega)) rfl (by decide) ?_
                refine TL.pure (PV.assign rfl) rfl (by decide) ?_
                refine TL.nil ?_
                refine TQ.thenN ?_
                first | (refine TQ.perm (G' := (b2, Obj.cells #[.int .i64 n, gval h2 ((delB (redK n.toNat rs y1) (rs.length - 1 - y1))).length] 24 (0, 0)) :: (bL, Obj.cells #[.int .i64 n, gval h2 ((delB (redK n.toNat rs y1) (rs.length - 1 - y1))).length] 24 (0, 0)) :: (gbB 42 h2 (delB (redK n.toNat rs y1) (rs.length - 1 - y1)) ++ (gbB 42 (some (b9, c9, s9)) (redK n.toNat rs y1) ++ [(b1, Obj.cells #[.int .i64 0, .slice none 0 0] 24 (0, 0)), (b0, Obj.cells #[.int .i64 n, .slice p rs.length cap] 24 (0, 0))]))) (by repeat (first | exact List.Perm.refl _ | refine permTake (by repeat (first | exact Take.head _ | apply Take.tail | apply Take.appR)) ?_ | refine permMid ?_)) ?_; exact TQ.backK (y1 + 1, m9 - 1, h2) (by repeat (first | exact True.intro | refine And.intro rfl ?_)) (by repeat (first | exact True.intro | refine And.intro rfl ?_)) (by simp only; rw [redK_yes (by rw [← hf9]; exact hfl)]; exact List.Sublist.cons_cons _ (List.Sublist.cons _ (List.Sublist.append_left (List.sublist_append_right _ _) _))) ⟨⟨by simp only; omega, by simp only; omega⟩, by simp only; rw [redK_yes (by rw [← hf9]; exact hfl)]; exact hh2⟩ (by simp only; omega)) | exact TQ.backK (y1 + 1, m9 - 1, (some (b9, c9, s9))) (by repeat (first | exact True.intro | refine And.intro rfl ?_)) (by repeat (first | exact True.intro | refine And.intro rfl ?_)) (by simp only; rw [redK_no (by rw [← hf9]; first | exact hfl | simpa using hfl)]; (try simp only [List.nil_append]); first | exact List.Sublist.cons _ (List.sublist_append_right _ _) | exact List.Sublist.trans (List.Sublist.cons _ (List.Sublist.refl _)) (List.sublist_append_right _ _)) ⟨⟨by simp only; omega, by simp only; omega⟩, by simp only; rw [redK_no (by rw [← hf9]; first | exact hfl | simpa using hfl)]; exact hyg⟩ (by simp only; omega)
        · skip
          refine TL.alloc Tb.zero_24 rfl (by decide) (fun bL hbL => ?_)
          refine TL.nil ?_
          refine TX.next (.inl (by repeat (first | exact List.Sublist.slnil | exact List.nil_sublist _ | exact List.Sublist.refl _ | refine List.Sublist.cons_cons _ ?_ | refine List.Sublist.cons _ ?_ | refine List.Sublist.trans ?_ (List.sublist_append_right _ _)))) ?_
          refine TX.step [2] (by kernel_rfl) (by decide) ⟨⟨_, rfl, ?_⟩, trivial⟩
          refine TL.buildSlice0 Tb.sl_22 Tb.zi_42 rfl (by decide) (fun bE hbE => ?_)
          refine TL.nil ?_
          refine TX.next (.inl (by repeat (first | exact List.Sublist.slnil | exact List.nil_sublist _ | exact List.Sublist.refl _ | refine List.Sublist.cons_cons _ ?_ | refine List.Sublist.cons _ ?_ | refine List.Sublist.trans ?_ (List.sublist_append_right _ _)))) ?_
          refine TX.step [7] (by kernel_rfl) (by decide) ⟨⟨_, rfl, ?_⟩, trivial⟩
          refine TL.appendBS Tb.sl_22 Tb.zi_42 rfl rfl (h0 := some (bE, 0, [])) (ys := []) (xs := (redK n.toNat rs y1).take (rs.length - 1 - y1)) (K0 := 0) (K := (rs.length - 1 - y1)) rfl rfl rfl (by rw [List.length_take]; omega) (fun w' hN => front_at hN hyg (fun yy hyy => by rw [List.mem_singleton.1 (show yy ∈ [(b9, Obj.cells (bdc (redK n.toNat rs y1) ++ s9).toArray 42 (0, 0))] from hyy)];  repeat (first | exact List.Mem.head _ | refine List.Mem.tail _ ?_ | refine List.mem_append_right _ ?_)) _) ⟨rfl, rfl, Nat.le_refl _⟩ (by repeat (first | exact TakeH.here _ _ _ _ | apply TakeH.tail | apply TakeH.app)) (by omega) rfl (by decide) (fun h1' hh1' _ => ?_)
          refine TL.nil ?_
          refine TX.next (.inl (by repeat (first | exact List.Sublist.slnil | exact List.nil_sublist _ | exact List.Sublist.refl _ | refine List.Sublist.cons_cons _ ?_ | refine List.Sublist.cons _ ?_ | refine List.Sublist.trans ?_ (List.sublist_append_right _ _)))) ?_
          refine TX.step [13] (by kernel_rfl) (by decide) ⟨⟨_, rfl, ?_⟩, trivial⟩
          refine TL.appendBS Tb.sl_22 Tb.zi_42 rfl rfl (h0 := h1') (ys := [] ++ (redK n.toNat rs y1).take (rs.length - 1 - y1)) (xs := (redK n.toNat rs y1).drop ((rs.length - 1 - y1) + 1)) (K0 := 0 + (rs.length - 1 - y1)) (K := (redK n.toNat rs y1).length - ((rs.length - 1 - y1) + 1)) rfl rfl (by rw [List.nil_append, List.length_take]; omega) (by rw [List.length_drop]) (fun w' hN => tail_at hN (by repeat (first | exact List.Mem.head _ | refine List.Mem.tail _ ?_ | refine List.mem_append_right _ ?_)) (by omega)) hh1' (by repeat (first | exact TakeH.here _ _ _ _ | apply TakeH.tail | apply TakeH.app)) (by omega) rfl (by decide) (fun h2 hh2 _ => ?_)
          rw [List.nil_append, show (redK n.toNat rs y1).take (rs.length - 1 - y1) ++ (redK n.toNat rs y1).drop ((rs.length - 1 - y1) + 1) = delB (redK n.toNat rs y1) (rs.length - 1 - y1) from rfl] at hh2 ⊢
          rw [show 0 + (rs.length - 1 - y1) + ((redK n.toNat rs y1).length - ((rs.length - 1 - y1) + 1)) = (delB (redK n.toNat rs y1) (rs.length - 1 - y1)).length by rw [delB_len hil]; omega]
          refine TL.nil ?_
          refine TX.next (.inl (by repeat (first | exact List.Sublist.slnil | exact List.nil_sublist _ | exact List.Sublist.refl _ | refine List.Sublist.cons_cons _ ?_ | refine List.Sublist.cons _ ?_ | refine List.Sublist.trans ?_ (List.sublist_append_right _ _)))) ?_
          refine TX.step [14] (by kernel_rfl) (by decide) ⟨⟨_, rfl, ?_⟩, trivial⟩
          refine TL.pure (PV.build rfl Tb.zero_24 Tb.pl_24 (fill_sv _ _ _)) rfl (by decide) ?_
          refine TL.nil ?_
          refine TX.next (.inl (by repeat (first | exact List.Sublist.slnil | exact List.nil_sublist _ | exact List.Sublist.refl _ | refine List.Sublist.cons_cons _ ?_ | refine List.Sublist.cons _ ?_ | refine List.Sublist.trans ?_ (List.sublist_append_right _ _)))) ?_
          refine TX.step [16] (by kernel_rfl) (by decide) ⟨⟨_, rfl, ?_⟩, trivial⟩
          refine TL.storeAgg rfl rfl Tb.cells_24 (by repeat (first | exact Upd.head _ | apply Upd.tail | apply Upd.appR)) rfl rfl (by first | rfl | exact sv_one _ _ _) rfl rfl ?_
          refine TL.nil ?_
          refine TX.next (.inr (by kernel_rfl)) ?_
          refine TX.done (by kernel_rfl) ?_
          refine TQ.thenC ?_
          refine TC.seq ?_
          refine TC.mix [true, true, true, true, true, true, false, false, false, false, false, false] [(bL, Obj.cells #[.int .i64 n, gval h2 ((delB (redK n.toNat rs y1) (rs.length - 1 - y1))).length] 24 (0, 0)), (b2, Obj.cells #[.int .i64 n, gval (some (b9, c9, s9)) ((redK n.toNat rs y1)).length] 24 (0, 0)), (b9, Obj.cells (bdc (redK n.toNat rs y1) ++ s9).toArray 42 (0, 0))] 6 Tb.mixed rfl (by kernel_rfl) (by kernel_rfl) (by kernel_rfl) (by kernel_rfl) (by repeat (first | exact List.Sublist.slnil | exact List.nil_sublist _ | exact List.Sublist.refl _ | refine List.Sublist.cons_cons _ ?_ | refine List.Sublist.cons _ ?_ | refine List.Sublist.trans ?_ (List.sublist_append_right _ _))) ?_
          refine TB.op (SOK.pure (PV.loadBox rfl Tb.agg_24 (by repeat (first | exact List.Mem.head _ | refine List.Mem.tail _ ?_ | refine List.mem_append_right _ ?_)) rfl) rfl) (by decide) ?_
          refine TB.op (SOK.pure (PV.fieldAddr rfl Tb.fo_24_1) rfl) (by decide) ?_
          refine TB.op (SOK.pure (PV.load rfl Tb.one_22 (by repeat (first | exact List.Mem.head _ | refine List.Mem.tail _ ?_ | refine List.mem_append_right _ ?_)) rfl) rfl) (by decide) ?_
          refine TB.op (SOK.pure (PV.move rfl) rfl) (by decide) ?_
          refine TB.op (SOK.pure (PV.indexG (j := (rs.length - 1 - y1)) rfl rfl hyg Tb.elm_22 (by omega) (by omega)) rfl) (by decide) ?_
          refine TB.op (SOK.pure (PV.loadE (e := 42) (h := (some (b9, c9, s9))) (l := (redK n.toNat rs y1)) (j := (rs.length - 1 - y1)) (r := rs.getD (rs.length - 1 - y1) default) rfl Tb.agg_42 (fun yy hyy => by rw [List.mem_singleton.1 (show yy ∈ [(b9, Obj.cells (bdc (redK n.toNat rs y1) ++ s9).toArray 42 (0, 0))] from hyy)];  repeat (first | exact List.Mem.head _ | refine List.Mem.tail _ ?_ | refine List.mem_append_right _ ?_)) hyg (by omega) hx9) rfl) (by decide) ?_
          refine TB.no ?_
          refine TB.no ?_
          refine TB.no ?_
          refine TB.no ?_
          refine TB.no ?_
          refine TB.no ?_
          refine TB.fin ?_
          refine TX.step [6] (by kernel_rfl) (by decide) ⟨⟨_, rfl, ?_⟩, trivial⟩
          refine TL.call rfl Tb.gofn_34 (fun a w hs => (by rw [gvB_eq hh2 rfl]; exact rFollows_ok w n (gp h2) (gc h2) _ (BdsAt.s (e := 42) hs.new (fun yy hyy => by simp only [List.mem_append, List.mem_cons]; simp [hyy]) hh2) _)) rfl (by decide) (fun _ _ => ?_)
          refine TL.nil ?_
          refine TX.next (.inl (by repeat (first | exact List.Sublist.slnil | exact List.nil_sublist _ | exact List.Sublist.refl _ | refine List.Sublist.cons_cons _ ?_ | refine List.Sublist.cons _ ?_ | refine List.Sublist.trans ?_ (List.sublist_append_right _ _)))) ?_
          refine TX.step [7] (by kernel_rfl) (by decide) ⟨⟨_, rfl, ?_⟩, trivial⟩
          refine TL.pure (PV.move rfl) rfl (by decide) ?_
          refine TL.nil ?_
          refine TX.next (.inl (by repeat (first | exact List.Sublist.slnil | exact List.nil_sublist _ | exact List.Sublist.refl _ | refine List.Sublist.cons_cons _ ?_ | refine List.Sublist.cons _ ?_ | refine List.Sublist.trans ?_ (List.sublist_append_right _ _)))) ?_
          refine TX.step [8, 9] (by kernel_rfl) (by decide) ⟨⟨_, rfl, ?_⟩, ⟨_, rfl, ?_⟩, trivial⟩
          · skip
            refine TL.pure (PV.extract rfl rfl) rfl (by decide) ?_
            refine TL.nil ?_
            refine TX.next (.inl (by repeat (first | exact List.Sublist.slnil | exact List.nil_sublist _ | exact List.Sublist.refl _ | refine List.Sublist.cons_cons _ ?_ | refine List.Sublist.cons _ ?_ | refine List.Sublist.trans ?_ (List.sublist_append_right _ _)))) ?_
            refine TX.step [9, 10] (by kernel_rfl) (by decide) ⟨⟨_, rfl, ?_⟩, ⟨_, rfl, ?_⟩, trivial⟩
            · skip
              refine TL.pure (PV.extract rfl rfl) rfl (by decide) ?_
              refine TL.nil ?_
              refine TX.next (.inl (by repeat (first | exact List.Sublist.slnil | exact List.nil_sublist _ | exact List.Sublist.refl _ | refine List.Sublist.cons_cons _ ?_ | refine List.Sublist.cons _ ?_ | refine List.Sublist.trans ?_ (List.sublist_append_right _ _)))) ?_
              refine TX.step [10] (by kernel_rfl) (by decide) ⟨⟨_, rfl, ?_⟩, trivial⟩
              refine TL.pure (PV.assign rfl) rfl (by decide) ?_
              refine TL.nil ?_
              refine TX.next (.inr (by kernel_rfl)) ?_
              refine TX.step [11] (by kernel_rfl) (by decide) ⟨⟨_, rfl, ?_⟩, trivial⟩
              refine TL.pure (PV.assign rfl) rfl (by decide) ?_
              refine TL.nil ?_
              refine TX.next (.inr (by kernel_rfl)) ?_
              refine TX.done (by kernel_rfl) ?_
              refine TQ.thenC ?_
              refine TC.seq ?_
              refine TC.region ?_
              refine TL.pure (PV.move rfl) rfl (by decide) ?_
              refine TL.nil ?_
              refine TQ.thenC ?_
              first | refine TC.condD rfl (fun hfl => ?_) (fun hfl => ?_) | refine TC.cond rfl (fun hfl => ?_) (fun hfl => ?_)
              · skip
                refine TC.region ?_
                refine TL.pure (PV.loadBox rfl Tb.agg_24 (by repeat (first | exact List.Mem.head _ | refine List.Mem.tail _ ?_ | refine List.mem_append_right _ ?_)) rfl) rfl (by decide) ?_
                refine TL.storeAgg rfl rfl Tb.cells_24 (by repeat (first | exact Upd.head _ | apply Upd.tail | apply Upd.appR)) rfl rfl (by first | rfl | exact sv_one _ _ _) rfl rfl ?_
                refine TL.nil ?_
                refine TQ.blkN ?_
                refine TQ.thenC ?_
                refine TC.region ?_
                refine TL.pure (PV.move rfl) rfl (by decide) ?_
                refine TL.pure (PV.sub rfl rfl (by omega)) rfl (by decide) ?_
                refine TL.pure (PV.assign rfl) rfl (by decide) ?_
                refine TL.nil ?_
                refine TQ.thenN ?_
                first | (refine TQ.perm (G' := (b2, Obj.cells #[.int .i64 n, gval h2 ((delB (redK n.toNat rs y1) (rs.length - 1 - y1))).length] 24 (0, 0)) :: (bL, Obj.cells #[.int .i64 n, gval h2 ((delB (redK n.toNat rs y1) (rs.length - 1 - y1))).length] 24 (0, 0)) :: (gbB 42 h2 (delB (redK n.toNat rs y1) (rs.length - 1 - y1)) ++ (gbB 42 (some (b9, c9, s9)) (redK n.toNat rs y1) ++ [(b1, Obj.cells #[.int .i64 0, .slice none 0 0] 24 (0, 0)), (b0, Obj.cells #[.int .i64 n, .slice p rs.length cap] 24 (0, 0))]))) (by repeat (first | exact List.Perm.refl _ | refine permTake (by repeat (first | exact Take.head _ | apply Take.tail | apply Take.appR)) ?_ | refine permMid ?_)) ?_; exact TQ.backK (y1 + 1, m9 - 1, h2) (by repeat (first | exact True.intro | refine And.intro rfl ?_)) (by repeat (first | exact True.intro | refine And.intro rfl ?_)) (by simp only; rw [redK_yes (by rw [← hf9]; exact hfl)]; exact List.Sublist.cons_cons _ (List.Sublist.cons _ (List.Sublist.append_left (List.sublist_append_right _ _) _))) ⟨⟨by simp only; omega, by simp only; omega⟩, by simp only; rw [redK_yes (by rw [← hf9]; exact hfl)]; exact hh2⟩ (by simp only; omega)) | exact TQ.backK (y1 + 1, m9 - 1, (some (b9, c9, s9))) (by repeat (first | exact True.intro | refine And.intro rfl ?_)) (by repeat (first | exact True.intro | refine And.intro rfl ?_)) (by simp only; rw [redK_no (by rw [← hf9]; first | exact hfl | simpa using hfl)]; (try simp only [List.nil_append]); first | exact List.Sublist.cons _ (List.sublist_append_right _ _) | exact List.Sublist.trans (List.Sublist.cons _ (List.Sublist.refl _)) (List.sublist_append_right _ _)) ⟨⟨by simp only; omega, by simp only; omega⟩, by simp only; rw [redK_no (by rw [← hf9]; first | exact hfl | simpa using hfl)]; exact hyg⟩ (by simp only; omega)
              · skip
                refine TC.skip ?_
                refine TQ.blkN ?_
                refine TQ.thenC ?_
                refine TC.region ?_
                refine TL.pure (PV.move rfl) rfl (by decide) ?_
                refine TL.pure (PV.sub rfl rfl (by omega)) rfl (by decide) ?_
                refine TL.pure (PV.assign rfl) rfl (by decide) ?_
                refine TL.nil ?_
                refine TQ.thenN ?_
                first | (refine TQ.perm (G' := (b2, Obj.cells #[.int .i64 n, gval h2 ((delB (redK n.toNat rs y1) (rs.length - 1 - y1))).length] 24 (0, 0)) :: (bL, Obj.cells #[.int .i64 n, gval h2 ((delB (redK n.toNat rs y1) (rs.length - 1 - y1))).length] 24 (0, 0)) :: (gbB 42 h2 (delB (redK n.toNat rs y1) (rs.length - 1 - y1)) ++ (gbB 42 (some (b9, c9, s9)) (redK n.toNat rs y1) ++ [(b1, Obj.cells #[.int .i64 0, .slice none 0 0] 24 (0, 0)), (b0, Obj.cells #[.int .i64 n, .slice p rs.length cap] 24 (0, 0))]))) (by repeat (first | exact List.Perm.refl _ | refine permTake (by repeat (first | exact Take.head _ | apply Take.tail | apply Take.appR)) ?_ | refine permMid ?_)) ?_; exact TQ.backK (y1 + 1, m9 - 1, h2) (by repeat (first | exact True.intro | refine And.intro rfl ?_)) (by repeat (first | exact True.intro | refine And.intro rfl ?_)) (by simp only; rw [redK_yes (by rw [← hf9]; exact hfl)]; exact List.Sublist.cons_cons _ (List.Sublist.cons _ (List.Sublist.append_left (List.sublist_append_right _ _) _))) ⟨⟨by simp only; omega, by simp only; omega⟩, by simp only; rw [redK_yes (by rw [← hf9]; exact hfl)]; exact hh2⟩ (by simp only; omega)) | exact TQ.backK (y1 + 1, m9 - 1, (some (b9, c9, s9))) (by repeat (first | exact True.intro | refine And.intro rfl ?_)) (by repeat (first | exact True.intro | refine And.intro rfl ?_)) (by simp only; rw [redK_no (by rw [← hf9]; first | exact hfl | simpa using hfl)]; (try simp only [List.nil_append]); first | exact List.Sublist.cons _ (List.sublist_append_right _ _) | exact List.Sublist.trans (List.Sublist.cons _ (List.Sublist.refl _)) (List.sublist_append_right _ _)) ⟨⟨by simp only; omega, by simp only; omega⟩, by simp only; rw [redK_no (by rw [← hf9]; first | exact hfl | simpa using hfl)]; exact hyg⟩ (by simp only; omega)
            · skip
              refine TL.pure (PV.assign rfl) rfl (by decide) ?_
              refine TL.nil ?_
              refine TX.next (.inr (by kernel_rfl)) ?_
              refine TX.step [9] (by kernel_rfl) (by decide) ⟨⟨_, rfl, ?_⟩, trivial⟩
              refine TL.pure (PV.extract rfl rfl) rfl (by decide) ?_
              refine TL.nil ?_
              refine TX.next (.inl (by repeat (first | exact List.Sublist.slnil | exact List.nil_sublist _ | exact List.Sublist.refl _ | refine List.Sublist.cons_cons _ ?_ | refine List.Sublist.cons _ ?_ | refine List.Sublist.trans ?_ (List.sublist_append_right _ _)))) ?_
              refine TX.step [11] (by kernel_rfl) (by decide) ⟨⟨_, rfl, ?_⟩, trivial⟩
              refine TL.pure (PV.assign rfl) rfl (by decide) ?_
              refine TL.nil ?_
              refine TX.next (.inr (by kernel_rfl)) ?_
              refine TX.done (by kernel_rfl) ?_
              refine TQ.thenC ?_
              refine TC.seq ?_
              refine TC.region ?_
              refine TL.pure (PV.move rfl) rfl (by decide) ?_
              refine TL.nil ?_
              refine TQ.thenC ?_
              first | refine TC.condD rfl (fun hfl => ?_) (fun hfl => ?_) | refine TC.cond rfl (fun hfl => ?_) (fun hfl => ?_)
              · skip
                refine TC.region ?_
                refine TL.pure (PV.loadBox rfl Tb.agg_24 (by repeat (first | exact List.Mem.head _ | refine List.Mem.tail _ ?_ | refine List.mem_append_right _ ?_)) rfl) rfl (by decide) ?_
                refine TL.storeAgg rfl rfl Tb.cells_24 (by repeat (first | exact Upd.head _ | apply Upd.tail | apply Upd.appR)) rfl rfl (by first | rfl | exact sv_one _ _ _) rfl rfl ?_
                refine TL.nil ?_
                refine TQ.blkN ?_
                refine TQ.thenC ?_
                refine TC.region ?_
                refine TL.pure (PV.move rfl) rfl (by decide) ?_
                refine TL.pure (PV.sub rfl rfl (by omega)) rfl (by decide) ?_
                refine TL.pure (PV.assign rfl) rfl (by decide) ?_
                refine TL.nil ?_
                refine TQ.thenN ?_
                first | (refine TQ.perm (G' := (b2, Obj.cells #[.int .i64 n, gval h2 ((delB (redK n.toNat rs y1) (rs.length - 1 - y1))).length] 24 (0, 0)) :: (bL, Obj.cells #[.int .i64 n, gval h2 ((delB (redK n.toNat rs y1) (rs.length - 1 - y1))).length] 24 (0, 0)) :: (gbB 42 h2 (delB (redK n.toNat rs y1) (rs.length - 1 - y1)) ++ (gbB 42 (some (b9, c9, s9)) (redK n.toNat rs y1) ++ [(b1, Obj.cells #[.int .i64 0, .slice none 0 0] 24 (0, 0)), (b0, Obj.cells #[.int .i64 n, .slice p rs.length cap] 24 (0, 0))]))) (by repeat (first | exact List.Perm.refl _ | refine permTake (by repeat (first | exact Take.head _ | apply Take.tail | apply Take.appR)) ?_ | refine permMid ?_)) ?_; exact TQ.backK (y1 + 1, m9 - 1, h2) (by repeat (first | exact True.intro | refine And.intro rfl ?_)) (by repeat (first | exact True.intro | refine And.intro rfl ?_)) (by simp only; rw [redK_yes (by rw [← hf9]; exact hfl)]; exact List.Sublist.cons_cons _ (List.Sublist.cons _ (List.Sublist.append_left (List.sublist_append_right _ _) _))) ⟨⟨by simp only; omega, by simp only; omega⟩, by simp only; rw [redK_yes (by rw [← hf9]; exact hfl)]; exact hh2⟩ (by simp only; omega)) | exact TQ.backK (y1 + 1, m9 - 1, (some (b9, c9, s9))) (by repeat (first | exact True.intro | refine And.intro rfl ?_)) (by repeat (first | exact True.intro | refine And.intro rfl ?_)) (by simp only; rw [redK_no (by rw [← hf9]; first | exact hfl | simpa using hfl)]; (try simp only [List.nil_append]); first | exact List.Sublist.cons _ (List.sublist_append_right _ _) | exact List.Sublist.trans (List.Sublist.cons _ (List.Sublist.refl _)) (List.sublist_append_right _ _)) ⟨⟨by simp only; omega, by simp only; omega⟩, by simp only; rw [redK_no (by rw [← hf9]; first | exact hfl | simpa using hfl)]; exact hyg⟩ (by simp only; omega)
              · skip
                refine TC.skip ?_
                refine TQ.blkN ?_
                refine TQ.thenC ?_
                refine TC.region ?_
                refine TL.pure (PV.move rfl) rfl (by decide) ?_
                refine TL.pure (PV.sub rfl rfl (by omega)) rfl (by decide) ?_
                refine TL.pure (PV.assign rfl) rfl (by decide) ?_
                refine TL.nil ?_
                refine TQ.thenN ?_
                first | (refine TQ.perm (G' := (b2, Obj.cells #[.int .i64 n, gval h2 ((delB (redK n.toNat rs y1) (rs.length - 1 - y1))).length] 24 (0, 0)) :: (bL, Obj.cells #[.int .i64 n, gval h2 ((delB (redK n.toNat rs y1) (rs.length - 1 - y1))).length] 24 (0, 0)) :: (gbB 42 h2 (delB (redK n.toNat rs y1) (rs.length - 1 - y1)) ++ (gbB 42 (some (b9, c9, s9)) (redK n.toNat rs y1) ++ [(b1, Obj.cells #[.int .i64 0, .slice none 0 0] 24 (0, 0)), (b0, Obj.cells #[.int .i64 n, .slice p rs.length cap] 24 (0, 0))]))) (by repeat (first | exact List.Perm.refl _ | refine permTake (by repeat (first | exact Take.head _ | apply Take.tail | apply Take.appR)) ?_ | refine permMid ?_)) ?_; exact TQ.backK (y1 + 1, m9 - 1, h2) (by repeat (first | exact True.intro | refine And.intro rfl ?_)) (by repeat (first | exact True.intro | refine And.intro rfl ?_)) (by simp only; rw [redK_yes (by rw [← hf9]; exact hfl)]; exact List.Sublist.cons_cons _ (List.Sublist.cons _ (List.Sublist.append_left (List.sublist_append_right _ _) _))) ⟨⟨by simp only; omega, by simp only; omega⟩, by simp only; rw [redK_yes (by rw [← hf9]; exact hfl)]; exact hh2⟩ (by simp only; omega)) | exact TQ.backK (y1 + 1, m9 - 1, (some (b9, c9, s9))) (by repeat (first | exact True.intro | refine And.intro rfl ?_)) (by repeat (first | exact True.intro | refine And.intro rfl ?_)) (by simp only; rw [redK_no (by rw [← hf9]; first | exact hfl | simpa using hfl)]; (try simp only [List.nil_append]); first | exact List.Sublist.cons _ (List.sublist_append_right _ _) | exact List.Sublist.trans (List.Sublist.cons _ (List.Sublist.refl _)) (List.sublist_append_right _ _)) ⟨⟨by simp only; omega, by simp only; omega⟩, by simp only; rw [redK_no (by rw [← hf9]; first | exact hfl | simpa using hfl)]; exact hyg⟩ (by simp only; omega)
          · skip
            refine TL.pure (PV.extract rfl rfl) rfl (by decide) ?_
            refine TL.nil ?_
            refine TX.next (.inl (by repeat (first | exact List.Sublist.slnil | exact List.nil_sublist _ | exact List.Sublist.refl _ | refine List.Sublist.cons_cons _ ?_ | refine List.Sublist.cons _ ?_ | refine List.Sublist.trans ?_ (List.sublist_append_right _ _)))) ?_
            refine TX.step [8] (by kernel_rfl) (by decide) ⟨⟨_, rfl, ?_⟩, trivial⟩
            refine TL.pure (PV.extract rfl rfl) rfl (by decide) ?_
            refine TL.nil ?_
            refine TX.next (.inl (by repeat (first | exact List.Sublist.slnil | exact List.nil_sublist _ | exact List.Sublist.refl _ | refine List.Sublist.cons_cons _ ?_ | refine List.Sublist.cons _ ?_ | refine List.Sublist.trans ?_ (List.sublist_append_right _ _)))) ?_
            refine TX.step [10] (by kernel_rfl) (by decide) ⟨⟨_, rfl, ?_⟩, trivial⟩
            refine TL.pure (PV.assign rfl) rfl (by decide) ?_
            refine TL.nil ?_
            refine TX.next (.inr (by kernel_rfl)) ?_
            refine TX.step [11] (by kernel_rfl) (by decide) ⟨⟨_, rfl, ?_⟩, trivial⟩
            refine TL.pure (PV.assign rfl) rfl (by decide) ?_
            refine TL.nil ?_
            refine TX.next (.inr (by kernel_rfl)) ?_
            refine TX.done (by kernel_rfl) ?_
            refine TQ.thenC ?_
            refine TC.seq ?_
            refine TC.region ?_
            refine TL.pure (PV.move rfl) rfl (by decide) ?_
            refine TL.nil ?_
            refine TQ.thenC ?_
            first | refine TC.condD rfl (fun hfl => ?_) (fun hfl => ?_) | refine TC.cond rfl (fun hfl => ?_) (fun hfl => ?_)
            · skip
              refine TC.region ?_
              refine TL.pure (PV.loadBox rfl Tb.agg_24 (by repeat (first | exact List.Mem.head _ | refine List.Mem.tail _ ?_ | refine List.mem_append_right _ ?_)) rfl) rfl (by decide) ?_
              refine TL.storeAgg rfl rfl Tb.cells_24 (by repeat (first | exact Upd.head _ | apply Upd.tail | apply Upd.appR)) rfl rfl (by first | rfl | exact sv_one _ _ _) rfl rfl ?_
              refine TL.nil ?_
              refine TQ.blkN ?_
              refine TQ.thenC ?_
              refine TC.region ?_
              refine TL.pure (PV.move rfl) rfl (by decide) ?_
              refine TL.pure (PV.sub rfl rfl (by omega)) rfl (by decide) ?_
              refine TL.pure (PV.assign rfl) rfl (by decide) ?_
              refine TL.nil ?_
              refine TQ.thenN ?_
              first | (refine TQ.perm (G' := (b2, Obj.cells #[.int .i64 n, gval h2 ((delB (redK n.toNat rs y1) (rs.length - 1 - y1))).length] 24 (0, 0)) :: (bL, Obj.cells #[.int .i64 n, gval h2 ((delB (redK n.toNat rs y1) (rs.length - 1 - y1))).length] 24 (0, 0)) :: (gbB 42 h2 (delB (redK n.toNat rs y1) (rs.length - 1 - y1)) ++ (gbB 42 (some (b9, c9, s9)) (redK n.toNat rs y1) ++ [(b1, Obj.cells #[.int .i64 0, .slice none 0 0] 24 (0, 0)), (b0, Obj.cells #[.int .i64 n, .slice p rs.length cap] 24 (0, 0))]))) (by repeat (first | exact List.Perm.refl _ | refine permTake (by repeat (first | exact Take.head _ | apply Take.tail | apply Take.appR)) ?_ | refine permMid ?_)) ?_; exact TQ.backK (y1 + 1, m9 - 1, h2) (by repeat (first | exact True.intro | refine And.intro rfl ?_)) (by repeat (first | exact True.intro | refine And.intro rfl ?_)) (by simp only; rw [redK_yes (by rw [← hf9]; exact hfl)]; exact List.Sublist.cons_cons _ (List.Sublist.cons _ (List.Sublist.append_left (List.sublist_append_right _ _) _))) ⟨⟨by simp only; omega, by simp only; omega⟩, by simp only; rw [redK_yes (by rw [← hf9]; exact hfl)]; exact hh2⟩ (by simp only; omega)) | exact TQ.backK (y1 + 1, m9 - 1, (some (b9, c9, s9))) (by repeat (first | exact True.intro | refine And.intro rfl ?_)) (by repeat (first | exact True.intro | refine And.intro rfl ?_)) (by simp only; rw [redK_no (by rw [← hf9]; first | exact hfl | simpa using hfl)]; (try simp only [List.nil_append]); first | exact List.Sublist.cons _ (List.sublist_append_right _ _) | exact List.Sublist.trans (List.Sublist.cons _ (List.Sublist.refl _)) (List.sublist_append_right _ _)) ⟨⟨by simp only; omega, by simp only; omega⟩, by simp only; rw [redK_no (by rw [← hf9]; first | exact hfl | simpa using hfl)]; exact hyg⟩ (by simp only; omega)
            · skip
              refine TC.skip ?_
              refine TQ.blkN ?_
              refine TQ.thenC ?_
              refine TC.region ?_
              refine TL.pure (PV.move rfl) rfl (by decide) ?_
              refine TL.pure (PV.sub rfl rfl (by omega)) rfl (by decide) ?_
              refine TL.pure (PV.assign rfl) rfl (by decide) ?_
              refine TL.nil ?_
              refine TQ.thenN ?_
              first | (refine TQ.perm (G' := (b2, Obj.cells #[.int .i64 n, gval h2 ((delB (redK n.toNat rs y1) (rs.length - 1 - y1))).length] 24 (0, 0)) :: (bL, Obj.cells #[.int .i64 n, gval h2 ((delB (redK n.toNat rs y1) (rs.length - 1 - y1))).length] 24 (0, 0)) :: (gbB 42 h2 (delB (redK n.toNat rs y1) (rs.length - 1 - y1)) ++ (gbB 42 (some (b9, c9, s9)) (redK n.toNat rs y1) ++ [(b1, Obj.cells #[.int .i64 0, .slice none 0 0] 24 (0, 0)), (b0, Obj.cells #[.int .i64 n, .slice p rs.length cap] 24 (0, 0))]))) (by repeat (first | exact List.Perm.refl _ | refine permTake (by repeat (first | exact Take.head _ | apply Take.tail | apply Take.appR)) ?_ | refine permMid ?_)) ?_; exact TQ.backK (y1 + 1, m9 - 1, h2) (by repeat (first | exact True.intro | refine And.intro rfl ?_)) (by repeat (first | exact True.intro | refine And.intro rfl ?_)) (by simp only; rw [redK_yes (by rw [← hf9]; exact hfl)]; exact List.Sublist.cons_cons _ (List.Sublist.cons _ (List.Sublist.append_left (List.sublist_append_right _ _) _))) ⟨⟨by simp only; omega, by simp only; omega⟩, by simp only; rw [redK_yes (by rw [← hf9]; exact hfl)]; exact hh2⟩ (by simp only; omega)) | exact TQ.backK (y1 + 1, m9 - 1, (some (b9, c9, s9))) (by repeat (first | exact True.intro | refine And.intro rfl ?_)) (by repeat (first | exact True.intro | refine And.intro rfl ?_)) (by simp only; rw [redK_no (by rw [← hf9]; first | exact hfl | simpa using hfl)]; (try simp only [List.nil_append]); first | exact List.Sublist.cons _ (List.sublist_append_right _ _) | exact List.Sublist.trans (List.Sublist.cons _ (List.Sublist.refl _)) (List.sublist_append_right _ _)) ⟨⟨by simp only; omega, by simp only; omega⟩, by simp only; rw [redK_no (by rw [← hf9]; first | exact hfl | simpa using hfl)]; exact hyg⟩ (by simp only; omega)
      · skip
        refine TC.exit ?_
        refine TQ.thenE ?_
        refine TQ.thenE ?_
        refine TQ.blkS ?_
        refine TQ.thenC ?_
        refine TC.seq ?_
        refine TC.region ?_
        refine TL.pure (PV.loadBox rfl Tb.agg_24 (by repeat (first | exact List.Mem.head _ | refine List.Mem.tail _ ?_ | refine List.mem_append_right _ ?_)) rfl) rfl (by decide) ?_
        refine TL.storeAgg rfl rfl Tb.cells_24 (by repeat (first | exact Upd.head _ | apply Upd.tail | apply Upd.appR)) rfl rfl (by first | rfl | exact sv_one _ _ _) rfl rfl ?_
        refine TL.pure (PV.assign rfl) rfl (by decide) ?_
        refine TL.nil ?_
        refine TQ.thenC ?_
        refine TC.ret ?_
        refine TQ.retR rfl (Res.agg rfl Tb.agg_24 (by repeat (first | exact List.Mem.head _ | refine List.Mem.tail _ ?_ | refine List.mem_append_right _ ?_)) rfl (Res.tmp rfl Res.nil)) ?_
        simp only [tup]
        obtain ⟨y1, m9, y2⟩ := y
        obtain rfl : y1 = rs.length := by have := hy.1; dsimp only at *; omega
        exact ⟨(n, y2, redK n.toNat rs rs.length), by rw [hz0], CF.good hz0 hy.2, List.Sublist.cons _ (List.sublist_append_left _ _)⟩

end Go.Proofs.Ytenalmddoljhoaa
