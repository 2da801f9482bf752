/- What a block can pass on: contract. -/
import Derived.Test.YtfgjojoipbbacaaQPE
set_option linter.unusedVariables false
set_option linter.unusedSimpArgs false
namespace Go.Proofs.Ytfgjojoipbbacaa
open Go.Sx Go.RowKit


theorem sendOk_all : ∀ mm, SOk mm
  | 0 => fun w0 w bP bM bS hp ls N ps m es c0 j0 most T hpre hun _ _ =>
    absurd (unB_lt (T := putX (seenX es) c0 j0) hpre.c hpre.j (fun c j h => putX_iff.2 (.inl h)) hpre.un (putX_iff.2 (.inr ⟨rfl, rfl⟩))) (by omega)
  | mm + 1 => send_step mm (sendOk_all mm)
theorem seen_nil : seenX [] = fun _ _ => false := by funext c j; simp [seenX]
abbrev GP (bP bM : Nat) (hp : HD) (ls : List (List Int)) (N : Nat) (T : Heap) (ps : List Ps) (m : List (List Int)) : Heap :=
  (bP, Obj.cells #[gval hp N, .map (some bM)] 99 (0, 0)) :: (bM, mobj (entK (dep ls) m (ls.length * dep ls))) :: (gbR rP 90 hp ps ++ T)


set_option maxRecDepth 100000 in
set_option maxHeartbeats 2000000 in
theorem passFrom_ok (w0 w : World) (bP bM : Nat) (hp : HD) (ls : List (List Int)) (N : Nat) (ps : List Ps) (m : List (List Int)) (c0 j0 : Nat) (T : Heap) (hvb : VB ls) (hpl : ps.length = N) (h60 : N ≤ 60) (hi : PInv ls ps m) (hc0 : c0 < ls.length) (hj0 : j0 < dep ls) (hok : goR rP hp ps) (hN : New w0 w (GP bP bM hp ls N T ps m)) :
    Calls Try.prog 98 #[.pointer (some ⟨bP, 0, none⟩), .agg (intsA [(c0 : Int), (j0 : Int)])] w (Post (X := List Ps × List (List Int)) (fun _ => .tuple #[]) (fun x => PKeep ls ps m x.1 x.2 ∧ DoneB ls x.1 x.2 c0 j0) (fun x => GP bP bM hp ls N T x.1 x.2) w0) := by
  have hn9 := hvb.n
  have hd9 := hvb.d
  have hlk : ∀ m9 : List (List Int), lookE [(c0 : Int), (j0 : Int)] (entK (dep ls) (m9) (ls.length * dep ls)) 0 = some (c0 * dep ls + j0, Wt m9 c0 j0) := fun m9 => by have h9 := cell_look (D := dep ls) (n := ls.length) (m := m9) (a := (c0 : Int)) (b := (j0 : Int)) (by omega) (by omega); rw [Int.toNat_natCast, Int.toNat_natCast] at h9; exact h9
  refine callsM hN Try.func98 rfl (n := 34) rfl (by simp) ?_
  refine TC.seq ?_
  refine TC.region ?_
  refine TL.box rfl rfl (by decide) (fun b0 hb0 => ?_)
  refine TL.nil ?_
  refine TQ.thenC ?_
  refine TC.block ?_
  refine TC.loopK [0, 3] (X := List Ps × List (List Int)) (fun x => PKeep ls ps m x.1 x.2) (fun x => []) (fun x => (b0, Obj.cells (intsA [(c0 : Int), (j0 : Int)]) 95 (0, 0)) :: GP bP bM hp ls N (T) (x.1) (x.2)) (fun x => (Wt x.2 c0 j0).toNat) (ps, m) (PKeep.refl hi) (by repeat (first | exact True.intro | refine And.intro rfl ?_)) (List.Sublist.refl _) ?_
  intro x hx
  have hwb := hx.inv.wb hvb c0 j0
  have hxl : x.1.length = N := hx.len.trans hpl
  refine TC.seq ?_
  refine TC.seq ?_
  refine TC.mixV [true, true, true, true, true, true, true] _ 7 Tb.mixed rfl (by kernel_rfl) (by kernel_rfl) (by kernel_rfl) (by kernel_rfl) (List.Sublist.refl _) ?_
  refine TV.virt 0 rfl rfl (by decide) rfl (by kernel_rfl) (SOK.pure (PV.move rfl) rfl) ?_
  refine TV.virt 1 rfl rfl (by decide) rfl (by kernel_rfl) (SOK.pure (PV.nilCheck rfl) rfl) ?_
  refine TV.virt 2 rfl rfl (by decide) rfl (by kernel_rfl) (SOK.pure (PV.fieldAddr rfl Tb.fo_99_1) rfl) ?_
  refine TV.virt 3 rfl rfl (by decide) rfl (by kernel_rfl) (SOK.pure (PV.load rfl Tb.one_92 (by repeat (first | exact List.Mem.head _ | refine List.Mem.tail _ ?_ | refine List.mem_append_right _ ?_)) rfl) rfl) ?_
  refine TV.virt 4 rfl rfl (by decide) rfl (by kernel_rfl) (SOK.pure (PV.loadBox rfl Tb.agg_95 (by repeat (first | exact List.Mem.head _ | refine List.Mem.tail _ ?_ | refine List.mem_append_right _ ?_)) rfl) rfl) ?_
  refine TV.virt 5 rfl rfl (by decide) rfl (by kernel_rfl) (SOK.pure (PV.lookupV (i := c0 * dep ls + j0) (v := Wt x.2 c0 j0) (hlk _) key_95 mt_92 zo_3 rfl rfl rfl entK_two (by repeat (first | exact List.Mem.head _ | refine List.Mem.tail _ ?_ | refine List.mem_append_right _ ?_))) rfl) ?_
  refine TV.virt 6 rfl rfl (by decide) rfl (by kernel_rfl) (SOK.pure (PV.gtr rfl rfl) rfl) ?_
  refine TV.done (by kernel_rfl) ?_
  refine TQ.thenC ?_
  first | refine TC.condD rfl (fun hgt => ?_) (fun hgt => ?_) | refine TC.cond rfl (fun hgt => ?_) (fun hgt => ?_)
  · skip
    refine TC.skip ?_
    refine TQ.thenC ?_
    refine TC.block ?_
    refine TC.seq ?_
    have hokx : goR rP hp x.1 := goR_len hok hx.len
    refine TC.mixV [true, true, true, true, true, false, true, false, false, false, true] [(b0, Obj.cells (intsA [(c0 : Int), (j0 : Int)]) 95 (0, 0))] 11 Tb.mixed rfl (by kernel_rfl) (by kernel_rfl) (by kernel_rfl) (by kernel_rfl) (by repeat (first | exact List.Sublist.slnil | exact List.nil_sublist _ | exact List.Sublist.refl _ | refine List.Sublist.cons_cons _ ?_ | refine List.Sublist.cons _ ?_ | refine List.Sublist.trans ?_ (List.sublist_append_right _ _))) ?_
    refine TV.virt 0 rfl rfl (by decide) rfl (by kernel_rfl) (SOK.pure (PV.move rfl) rfl) ?_
    refine TV.virt 1 rfl rfl (by decide) rfl (by kernel_rfl) (SOK.pure (PV.loadBox rfl Tb.agg_95 (by repeat (first | exact List.Mem.head _ | refine List.Mem.tail _ ?_ | refine List.mem_append_right _ ?_)) rfl) rfl) ?_
    refine TV.virt 2 rfl rfl (by decide) rfl (by kernel_rfl) (SOK.pure (PV.move rfl) rfl) ?_
    refine TV.virt 3 rfl rfl (by decide) rfl (by kernel_rfl) (SOK.pure (PV.nilCheck rfl) rfl) ?_
    refine TV.virt 4 rfl rfl (by decide) rfl (by kernel_rfl) (SOK.pure (PV.fieldAddr rfl Tb.fo_99_1) rfl) ?_
    refine TV.virt 6 rfl rfl (by decide) rfl (by kernel_rfl) (SOK.pure (PV.loadBox rfl Tb.agg_95 (by repeat (first | exact List.Mem.head _ | refine List.Mem.tail _ ?_ | refine List.mem_append_right _ ?_)) rfl) rfl) ?_
    refine TV.step [5, 8] (by kernel_rfl) (by decide) rfl ⟨⟨_, rfl, ?_⟩, ⟨_, rfl, ?_⟩, trivial⟩
    · skip
      refine TL.pure (PV.load rfl Tb.one_92 (by repeat (first | exact List.Mem.head _ | refine List.Mem.tail _ ?_ | refine List.mem_append_right _ ?_)) rfl) rfl (by decide) ?_
      refine TL.nil ?_
      refine TV.next (.inl (by repeat (first | exact List.Sublist.slnil | exact List.nil_sublist _ | exact List.Sublist.refl _ | refine List.Sublist.cons_cons _ ?_ | refine List.Sublist.cons _ ?_ | refine List.Sublist.trans ?_ (List.sublist_append_right _ _)))) ?_
      refine TV.step [7, 8] (by kernel_rfl) (by decide) rfl ⟨⟨_, rfl, ?_⟩, ⟨_, rfl, ?_⟩, trivial⟩
      · skip
        refine TL.pure (PV.lookupV (i := c0 * dep ls + j0) (v := Wt x.2 c0 j0) (hlk _) key_95 mt_92 zo_3 rfl rfl rfl entK_two (by repeat (first | exact List.Mem.head _ | refine List.Mem.tail _ ?_ | refine List.mem_append_right _ ?_))) rfl (by decide) ?_
        refine TL.nil ?_
        refine TV.next (.inl (by repeat (first | exact List.Sublist.slnil | exact List.nil_sublist _ | exact List.Sublist.refl _ | refine List.Sublist.cons_cons _ ?_ | refine List.Sublist.cons _ ?_ | refine List.Sublist.trans ?_ (List.sublist_append_right _ _)))) ?_
        refine TV.step [8] (by kernel_rfl) (by decide) rfl ⟨⟨_, rfl, ?_⟩, trivial⟩
        refine TL.makeMapB rfl (by decide) (fun bS hbS => ?_)
        refine TL.nil ?_
        refine TV.next (.inl (by repeat (first | exact List.Sublist.slnil | exact List.nil_sublist _ | exact List.Sublist.refl _ | refine List.Sublist.cons_cons _ ?_ | refine List.Sublist.cons _ ?_ | refine List.Sublist.trans ?_ (List.sublist_append_right _ _)))) ?_
        refine TV.step [9] (by kernel_rfl) (by decide) rfl ⟨⟨_, rfl, ?_⟩, trivial⟩
        refine TL.callW (X := SX) (fun z => .int .i64 z.s) (SRes ls c0 j0 (Wt x.2 c0 j0) [] x.1 x.2) (fun z => GS bP bM bS hp ls N ((b0, Obj.cells (intsA [(c0 : Int), (j0 : Int)]) 95 (0, 0)) :: T) z.ps z.m z.es) rfl Tb.gofn_106 (fun a w hs => sendOk_all _ w0 w bP bM bS hp ls N x.1 x.2 [] c0 j0 (Wt x.2 c0 j0) ((b0, Obj.cells (intsA [(c0 : Int), (j0 : Int)]) 95 (0, 0)) :: T) ⟨hvb, hxl, h60, fun k hk => hx.inv.at hvb (by omega), hx.inv.sh hvb, fun e he => absurd he List.not_mem_nil, hc0, hj0, by rw [seen_nil], ⟨hgt, hwb.2⟩⟩ (Nat.le_refl _) hokx (hs.new.perm (perm_of fun c9 => by simp only [gbR, List.map_append, List.sum_append, List.map_cons, List.sum_cons, List.map_nil, List.sum_nil]; omega))) rfl (by decide) (fun y hy => ?_)
        refine TL.nil ?_
        refine TV.next (.inl (by repeat (first | exact List.Sublist.slnil | exact List.nil_sublist _ | exact List.Sublist.refl _ | refine List.Sublist.cons_cons _ ?_ | refine List.Sublist.cons _ ?_ | refine List.Sublist.trans ?_ (List.sublist_append_right _ _)))) ?_
        refine TV.virt 10 rfl rfl (by decide) rfl (by kernel_rfl) (SOK.pure (PV.assign rfl) rfl) ?_
        refine TV.done (by kernel_rfl) ?_
        refine TQ.thenC ?_
        refine TC.seq ?_
        refine TC.seq ?_
        refine TC.region ?_
        refine TL.pure (PV.move rfl) rfl (by decide) ?_
        refine TL.pure (PV.eql rfl rfl) rfl (by decide) ?_
        refine TL.nil ?_
        refine TQ.thenC ?_
        first | refine TC.condD rfl (fun hz => ?_) (fun hz => ?_) | refine TC.cond rfl (fun hz => ?_) (fun hz => ?_)
        · skip
          refine TC.ret ?_
          refine TQ.thenR ?_
          refine TQ.blkR ?_
          refine TQ.thenR ?_
          refine TQ.blkR ?_
          refine TQ.retR rfl (Res.nil) ?_
          have hz9 := hy.zero hz
          have hz8 := hz9.2.2
          rw [seen_nil] at hz8
          exact ⟨x, rfl, ⟨hx, .inr ⟨seenX y.es, SZero.start hz8⟩⟩, by rw [hz9.1, hz9.2.1]; exact .cons_cons _ (.cons_cons _ (.cons _ (List.Sublist.append_left (List.sublist_cons_self _ _) _)))⟩
        · skip
          refine TC.skip ?_
          refine TQ.thenC ?_
          have hys := hy.s0
          have hpos : 0 < y.s := by omega
          have hps := hy.pos hpos
          have hcs := cell_set (hps.sh (hx.inv.sh hvb) hpos) (a := (c0 : Int)) (b := (j0 : Int)) (v := -y.s) (by omega) (by omega)
          rw [Int.toNat_natCast, Int.toNat_natCast] at hcs
          have hwy : -1200 ≤ Wt y.m c0 j0 ∧ Wt y.m c0 j0 ≤ 1200 := (hps.sh (hx.inv.sh hvb) hpos).bd c0 j0
          have hsn := hx.inv.sent hc0 hj0 hps hpos hys.2
          have hw2 := hsn.2 c0 j0
          rw [if_pos ⟨rfl, rfl⟩] at hw2
          refine TC.mixV [true, true, true, true, true, true, true, true, false, true, false] _ 11 Tb.mixed rfl (by kernel_rfl) (by kernel_rfl) (by kernel_rfl) (by kernel_rfl) (List.Sublist.refl _) ?_
          refine TV.virt 0 rfl rfl (by decide) rfl (by kernel_rfl) (SOK.pure (PV.move rfl) rfl) ?_
          refine TV.virt 1 rfl rfl (by decide) rfl (by kernel_rfl) (SOK.pure (PV.nilCheck rfl) rfl) ?_
          refine TV.virt 2 rfl rfl (by decide) rfl (by kernel_rfl) (SOK.pure (PV.fieldAddr rfl Tb.fo_99_1) rfl) ?_
          refine TV.virt 3 rfl rfl (by decide) rfl (by kernel_rfl) (SOK.pure (PV.load rfl Tb.one_92 (by repeat (first | exact List.Mem.head _ | refine List.Mem.tail _ ?_ | refine List.mem_append_right _ ?_)) rfl) rfl) ?_
          refine TV.virt 4 rfl rfl (by decide) rfl (by kernel_rfl) (SOK.pure (PV.loadBox rfl Tb.agg_95 (by repeat (first | exact List.Mem.head _ | refine List.Mem.tail _ ?_ | refine List.mem_append_right _ ?_)) rfl) rfl) ?_
          refine TV.virt 5 rfl rfl (by decide) rfl (by kernel_rfl) (SOK.pure (PV.lookupV (i := c0 * dep ls + j0) (v := Wt y.m c0 j0) (hlk _) key_95 mt_92 zo_3 rfl rfl rfl entK_two (by repeat (first | exact List.Mem.head _ | refine List.Mem.tail _ ?_ | refine List.mem_append_right _ ?_))) rfl) ?_
          refine TV.virt 6 rfl rfl (by decide) rfl (by kernel_rfl) (SOK.pure (PV.move rfl) rfl) ?_
          refine TV.virt 7 rfl rfl (by decide) rfl (by kernel_rfl) (SOK.pure (PV.sub rfl rfl (by omega)) rfl) ?_
          refine TV.step [8] (by kernel_rfl) (by decide) rfl ⟨⟨_, rfl, ?_⟩, trivial⟩
          refine TL.entryS key_95 mt_92 rfl rfl rfl entK_two (hlk y.m) (by repeat (first | exact Upd.head _ | apply Upd.tail | apply Upd.appR)) rfl (by decide) ?_
          refine TL.nil ?_
          refine TV.next (.inl (by repeat (first | exact List.Sublist.slnil | exact List.nil_sublist _ | exact List.Sublist.refl _ | refine List.Sublist.cons_cons _ ?_ | refine List.Sublist.cons _ ?_ | refine List.Sublist.trans ?_ (List.sublist_append_right _ _)))) ?_
          refine TV.virt 9 rfl rfl (by decide) rfl (by kernel_rfl) (SOK.pure (PV.extract rfl rfl) rfl) ?_
          refine TV.step [10] (by kernel_rfl) (by decide) rfl ⟨⟨_, rfl, ?_⟩, trivial⟩
          refine TL.entryStoreS rfl rfl rfl (by have := (lookE_some (hlk y.m)).2.2; rwa [Nat.sub_zero] at this) (by repeat (first | exact Upd.head _ | apply Upd.tail | apply Upd.appR)) rfl rfl ?_
          rw [Int.sub_eq_add_neg, hcs]
          refine TL.nil ?_
          refine TV.next (.inr (by kernel_rfl)) ?_
          refine TV.done (by kernel_rfl) ?_
          refine TQ.blkN ?_
          refine TQ.thenN ?_
          refine TQ.perm (G' := (bS, bobj y.es) :: (b0, Obj.cells (intsA [(c0 : Int), (j0 : Int)]) 95 (0, 0)) :: GP bP bM hp ls N (T) (y.ps) ((addAt y.m c0 j0 (-y.s)))) (perm_of fun c9 => by simp only [gbR, List.map_append, List.sum_append, List.map_cons, List.sum_cons, List.map_nil, List.sum_nil]; omega) ?_
          refine TQ.backK (y.ps, (addAt y.m c0 j0 (-y.s))) (by repeat (first | exact True.intro | refine And.intro rfl ?_)) (by repeat (first | exact True.intro | refine And.intro rfl ?_)) (List.Sublist.cons _ (List.Sublist.refl _)) (hx.trans (PKeep.sent hx.inv hc0 hj0 hps hpos hys.2)) (by simp only; omega)
      · skip
        refine TL.makeMapB rfl (by decide) (fun bS hbS => ?_)
        refine TL.nil ?_
        refine TV.next (.inl (by repeat (first | exact List.Sublist.slnil | exact List.nil_sublist _ | exact List.Sublist.refl _ | refine List.Sublist.cons_cons _ ?_ | refine List.Sublist.cons _ ?_ | refine List.Sublist.trans ?_ (List.sublist_append_right _ _)))) ?_
        refine TV.step [7] (by kernel_rfl) (by decide) rfl ⟨⟨_, rfl, ?_⟩, trivial⟩
        refine TL.pure (PV.lookupV (i := c0 * dep ls + j0) (v := Wt x.2 c0 j0) (hlk _) key_95 mt_92 zo_3 rfl rfl rfl entK_two (by repeat (first | exact List.Mem.head _ | refine List.Mem.tail _ ?_ | refine List.mem_append_right _ ?_))) rfl (by decide) ?_
        refine TL.nil ?_
        refine TV.next (.inl (by repeat (first | exact List.Sublist.slnil | exact List.nil_sublist _ | exact List.Sublist.refl _ | refine List.Sublist.cons_cons _ ?_ | refine List.Sublist.cons _ ?_ | refine List.Sublist.trans ?_ (List.sublist_append_right _ _)))) ?_
        refine TV.step [9] (by kernel_rfl) (by decide) rfl ⟨⟨_, rfl, ?_⟩, trivial⟩
        refine TL.callW (X := SX) (fun z => .int .i64 z.s) (SRes ls c0 j0 (Wt x.2 c0 j0) [] x.1 x.2) (fun z => GS bP bM bS hp ls N ((b0, Obj.cells (intsA [(c0 : Int), (j0 : Int)]) 95 (0, 0)) :: T) z.ps z.m z.es) rfl Tb.gofn_106 (fun a w hs => sendOk_all _ w0 w bP bM bS hp ls N x.1 x.2 [] c0 j0 (Wt x.2 c0 j0) ((b0, Obj.cells (intsA [(c0 : Int), (j0 : Int)]) 95 (0, 0)) :: T) ⟨hvb, hxl, h60, fun k hk => hx.inv.at hvb (by omega), hx.inv.sh hvb, fun e he => absurd he List.not_mem_nil, hc0, hj0, by rw [seen_nil], ⟨hgt, hwb.2⟩⟩ (Nat.le_refl _) hokx (hs.new.perm (perm_of fun c9 => by simp only [gbR, List.map_append, List.sum_append, List.map_cons, List.sum_cons, List.map_nil, List.sum_nil]; omega))) rfl (by decide) (fun y hy => ?_)
        refine TL.nil ?_
        refine TV.next (.inl (by repeat (first | exact List.Sublist.slnil | exact List.nil_sublist _ | exact List.Sublist.refl _ | refine List.Sublist.cons_cons _ ?_ | refine List.Sublist.cons _ ?_ | refine List.Sublist.trans ?_ (List.sublist_append_right _ _)))) ?_
        refine TV.virt 10 rfl rfl (by decide) rfl (by kernel_rfl) (SOK.pure (PV.assign rfl) rfl) ?_
        refine TV.done (by kernel_rfl) ?_
        refine TQ.thenC ?_
        refine TC.seq ?_
        refine TC.seq ?_
        refine TC.region ?_
        refine TL.pure (PV.move rfl) rfl (by decide) ?_
        refine TL.pure (PV.eql rfl rfl) rfl (by decide) ?_
        refine TL.nil ?_
        refine TQ.thenC ?_
        first | refine TC.condD rfl (fun hz => ?_) (fun hz => ?_) | refine TC.cond rfl (fun hz => ?_) (fun hz => ?_)
        · skip
          refine TC.ret ?_
          refine TQ.thenR ?_
          refine TQ.blkR ?_
          refine TQ.thenR ?_
          refine TQ.blkR ?_
          refine TQ.retR rfl (Res.nil) ?_
          have hz9 := hy.zero hz
          have hz8 := hz9.2.2
          rw [seen_nil] at hz8
          exact ⟨x, rfl, ⟨hx, .inr ⟨seenX y.es, SZero.start hz8⟩⟩, by rw [hz9.1, hz9.2.1]; exact .cons_cons _ (.cons_cons _ (.cons _ (List.Sublist.append_left (List.sublist_cons_self _ _) _)))⟩
        · skip
          refine TC.skip ?_
          refine TQ.thenC ?_
          have hys := hy.s0
          have hpos : 0 < y.s := by omega
          have hps := hy.pos hpos
          have hcs := cell_set (hps.sh (hx.inv.sh hvb) hpos) (a := (c0 : Int)) (b := (j0 : Int)) (v := -y.s) (by omega) (by omega)
          rw [Int.toNat_natCast, Int.toNat_natCast] at hcs
          have hwy : -1200 ≤ Wt y.m c0 j0 ∧ Wt y.m c0 j0 ≤ 1200 := (hps.sh (hx.inv.sh hvb) hpos).bd c0 j0
          have hsn := hx.inv.sent hc0 hj0 hps hpos hys.2
          have hw2 := hsn.2 c0 j0
          rw [if_pos ⟨rfl, rfl⟩] at hw2
          refine TC.mixV [true, true, true, true, true, true, true, true, false, true, false] _ 11 Tb.mixed rfl (by kernel_rfl) (by kernel_rfl) (by kernel_rfl) (by kernel_rfl) (List.Sublist.refl _) ?_
          refine TV.virt 0 rfl rfl (by decide) rfl (by kernel_rfl) (SOK.pure (PV.move rfl) rfl) ?_
          refine TV.virt 1 rfl rfl (by decide) rfl (by kernel_rfl) (SOK.pure (PV.nilCheck rfl) rfl) ?_
          refine TV.virt 2 rfl rfl (by decide) rfl (by kernel_rfl) (SOK.pure (PV.fieldAddr rfl Tb.fo_99_1) rfl) ?_
          refine TV.virt 3 rfl rfl (by decide) rfl (by kernel_rfl) (SOK.pure (PV.load rfl Tb.one_92 (by repeat (first | exact List.Mem.head _ | refine List.Mem.tail _ ?_ | refine List.mem_append_right _ ?_)) rfl) rfl) ?_
          refine TV.virt 4 rfl rfl (by decide) rfl (by kernel_rfl) (SOK.pure (PV.loadBox rfl Tb.agg_95 (by repeat (first | exact List.Mem.head _ | refine List.Mem.tail _ ?_ | refine List.mem_append_right _ ?_)) rfl) rfl) ?_
          refine TV.virt 5 rfl rfl (by decide) rfl (by kernel_rfl) (SOK.pure (PV.lookupV (i := c0 * dep ls + j0) (v := Wt y.m c0 j0) (hlk _) key_95 mt_92 zo_3 rfl rfl rfl entK_two (by repeat (first | exact List.Mem.head _ | refine List.Mem.tail _ ?_ | refine List.mem_append_right _ ?_))) rfl) ?_
          refine TV.virt 6 rfl rfl (by decide) rfl (by kernel_rfl) (SOK.pure (PV.move rfl) rfl) ?_
          refine TV.virt 7 rfl rfl (by decide) rfl (by kernel_rfl) (SOK.pure (PV.sub rfl rfl (by omega)) rfl) ?_
          refine TV.step [8] (by kernel_rfl) (by decide) rfl ⟨⟨_, rfl, ?_⟩, trivial⟩
          refine TL.entryS key_95 mt_92 rfl rfl rfl entK_two (hlk y.m) (by repeat (first | exact Upd.head _ | apply Upd.tail | apply Upd.appR)) rfl (by decide) ?_
          refine TL.nil ?_
          refine TV.next (.inl (by repeat (first | exact List.Sublist.slnil | exact List.nil_sublist _ | exact List.Sublist.refl _ | refine List.Sublist.cons_cons _ ?_ | refine List.Sublist.cons _ ?_ | refine List.Sublist.trans ?_ (List.sublist_append_right _ _)))) ?_
          refine TV.virt 9 rfl rfl (by decide) rfl (by kernel_rfl) (SOK.pure (PV.extract rfl rfl) rfl) ?_
          refine TV.step [10] (by kernel_rfl) (by decide) rfl ⟨⟨_, rfl, ?_⟩, trivial⟩
          refine TL.entryStoreS rfl rfl rfl (by have := (lookE_some (hlk y.m)).2.2; rwa [Nat.sub_zero] at this) (by repeat (first | exact Upd.head _ | apply Upd.tail | apply Upd.appR)) rfl rfl ?_
          rw [Int.sub_eq_add_neg, hcs]
          refine TL.nil ?_
          refine TV.next (.inr (by kernel_rfl)) ?_
          refine TV.done (by kernel_rfl) ?_
          refine TQ.blkN ?_
          refine TQ.thenN ?_
          refine TQ.perm (G' := (bS, bobj y.es) :: (b0, Obj.cells (intsA [(c0 : Int), (j0 : Int)]) 95 (0, 0)) :: GP bP bM hp ls N (T) (y.ps) ((addAt y.m c0 j0 (-y.s)))) (perm_of fun c9 => by simp only [gbR, List.map_append, List.sum_append, List.map_cons, List.sum_cons, List.map_nil, List.sum_nil]; omega) ?_
          refine TQ.backK (y.ps, (addAt y.m c0 j0 (-y.s))) (by repeat (first | exact True.intro | refine And.intro rfl ?_)) (by repeat (first | exact True.intro | refine And.intro rfl ?_)) (List.Sublist.cons _ (List.Sublist.refl _)) (hx.trans (PKeep.sent hx.inv hc0 hj0 hps hpos hys.2)) (by simp only; omega)
    · skip
      refine TL.makeMapB rfl (by decide) (fun bS hbS => ?_)
      refine TL.nil ?_
      refine TV.next (.inl (by repeat (first | exact List.Sublist.slnil | exact List.nil_sublist _ | exact List.Sublist.refl _ | refine List.Sublist.cons_cons _ ?_ | refine List.Sublist.cons _ ?_ | refine List.Sublist.trans ?_ (List.sublist_append_right _ _)))) ?_
      refine TV.step [5] (by kernel_rfl) (by decide) rfl ⟨⟨_, rfl, ?_⟩, trivial⟩
      refine TL.pure (PV.load rfl Tb.one_92 (by repeat (first | exact List.Mem.head _ | refine List.Mem.tail _ ?_ | refine List.mem_append_right _ ?_)) rfl) rfl (by decide) ?_
      refine TL.nil ?_
      refine TV.next (.inl (by repeat (first | exact List.Sublist.slnil | exact List.nil_sublist _ | exact List.Sublist.refl _ | refine List.Sublist.cons_cons _ ?_ | refine List.Sublist.cons _ ?_ | refine List.Sublist.trans ?_ (List.sublist_append_right _ _)))) ?_
      refine TV.step [7] (by kernel_rfl) (by decide) rfl ⟨⟨_, rfl, ?_⟩, trivial⟩
      refine TL.pure (PV.lookupV (i := c0 * dep ls + j0) (v := Wt x.2 c0 j0) (hlk _) key_95 mt_92 zo_3 rfl rfl rfl entK_two (by repeat (first | exact List.Mem.head _ | refine List.Mem.tail _ ?_ | refine List.mem_append_right _ ?_))) rfl (by decide) ?_
      refine TL.nil ?_
      refine TV.next (.inl (by repeat (first | exact List.Sublist.slnil | exact List.nil_sublist _ | exact List.Sublist.refl _ | refine List.Sublist.cons_cons _ ?_ | refine List.Sublist.cons _ ?_ | refine List.Sublist.trans ?_ (List.sublist_append_right _ _)))) ?_
      refine TV.step [9] (by kernel_rfl) (by decide) rfl ⟨⟨_, rfl, ?_⟩, trivial⟩
      refine TL.callW (X := SX) (fun z => .int .i64 z.s) (SRes ls c0 j0 (Wt x.2 c0 j0) [] x.1 x.2) (fun z => GS bP bM bS hp ls N ((b0, Obj.cells (intsA [(c0 : Int), (j0 : Int)]) 95 (0, 0)) :: T) z.ps z.m z.es) rfl Tb.gofn_106 (fun a w hs => sendOk_all _ w0 w bP bM bS hp ls N x.1 x.2 [] c0 j0 (Wt x.2 c0 j0) ((b0, Obj.cells (intsA [(c0 : Int), (j0 : Int)]) 95 (0, 0)) :: T) ⟨hvb, hxl, h60, fun k hk => hx.inv.at hvb (by omega), hx.inv.sh hvb, fun e he => absurd he List.not_mem_nil, hc0, hj0, by rw [seen_nil], ⟨hgt, hwb.2⟩⟩ (Nat.le_refl _) hokx (hs.new.perm (perm_of fun c9 => by simp only [gbR, List.map_append, List.sum_append, List.map_cons, List.sum_cons, List.map_nil, List.sum_nil]; omega))) rfl (by decide) (fun y hy => ?_)
      refine TL.nil ?_
      refine TV.next (.inl (by repeat (first | exact List.Sublist.slnil | exact List.nil_sublist _ | exact List.Sublist.refl _ | refine List.Sublist.cons_cons _ ?_ | refine List.Sublist.cons _ ?_ | refine List.Sublist.trans ?_ (List.sublist_append_right _ _)))) ?_
      refine TV.virt 10 rfl rfl (by decide) rfl (by kernel_rfl) (SOK.pure (PV.assign rfl) rfl) ?_
      refine TV.done (by kernel_rfl) ?_
      refine TQ.thenC ?_
      refine TC.seq ?_
      refine TC.seq ?_
      refine TC.region ?_
      refine TL.pure (PV.move rfl) rfl (by decide) ?_
      refine TL.pure (PV.eql rfl rfl) rfl (by decide) ?_
      refine TL.nil ?_
      refine TQ.thenC ?_
      first | refine TC.condD rfl (fun hz => ?_) (fun hz => ?_) | refine TC.cond rfl (fun hz => ?_) (fun hz => ?_)
      · skip
        refine TC.ret ?_
        refine TQ.thenR ?_
        refine TQ.blkR ?_
        refine TQ.thenR ?_
        refine TQ.blkR ?_
        refine TQ.retR rfl (Res.nil) ?_
        have hz9 := hy.zero hz
        have hz8 := hz9.2.2
        rw [seen_nil] at hz8
        exact ⟨x, rfl, ⟨hx, .inr ⟨seenX y.es, SZero.start hz8⟩⟩, by rw [hz9.1, hz9.2.1]; exact .cons_cons _ (.cons_cons _ (.cons _ (List.Sublist.append_left (List.sublist_cons_self _ _) _)))⟩
      · skip
        refine TC.skip ?_
        refine TQ.thenC ?_
        have hys := hy.s0
        have hpos : 0 < y.s := by omega
        have hps := hy.pos hpos
        have hcs := cell_set (hps.sh (hx.inv.sh hvb) hpos) (a := (c0 : Int)) (b := (j0 : Int)) (v := -y.s) (by omega) (by omega)
        rw [Int.toNat_natCast, Int.toNat_natCast] at hcs
        have hwy : -1200 ≤ Wt y.m c0 j0 ∧ Wt y.m c0 j0 ≤ 1200 := (hps.sh (hx.inv.sh hvb) hpos).bd c0 j0
        have hsn := hx.inv.sent hc0 hj0 hps hpos hys.2
        have hw2 := hsn.2 c0 j0
        rw [if_pos ⟨rfl, rfl⟩] at hw2
        refine TC.mixV [true, true, true, true, true, true, true, true, false, true, false] _ 11 Tb.mixed rfl (by kernel_rfl) (by kernel_rfl) (by kernel_rfl) (by kernel_rfl) (List.Sublist.refl _) ?_
        refine TV.virt 0 rfl rfl (by decide) rfl (by kernel_rfl) (SOK.pure (PV.move rfl) rfl) ?_
        refine TV.virt 1 rfl rfl (by decide) rfl (by kernel_rfl) (SOK.pure (PV.nilCheck rfl) rfl) ?_
        refine TV.virt 2 rfl rfl (by decide) rfl (by kernel_rfl) (SOK.pure (PV.fieldAddr rfl Tb.fo_99_1) rfl) ?_
        refine TV.virt 3 rfl rfl (by decide) rfl (by kernel_rfl) (SOK.pure (PV.load rfl Tb.one_92 (by repeat (first | exact List.Mem.head _ | refine List.Mem.tail _ ?_ | refine List.mem_append_right _ ?_)) rfl) rfl) ?_
        refine TV.virt 4 rfl rfl (by decide) rfl (by kernel_rfl) (SOK.pure (PV.loadBox rfl Tb.agg_95 (by repeat (first | exact List.Mem.head _ | refine List.Mem.tail _ ?_ | refine List.mem_append_right _ ?_)) rfl) rfl) ?_
        refine TV.virt 5 rfl rfl (by decide) rfl (by kernel_rfl) (SOK.pure (PV.lookupV (i := c0 * dep ls + j0) (v := Wt y.m c0 j0) (hlk _) key_95 mt_92 zo_3 rfl rfl rfl entK_two (by repeat (first | exact List.Mem.head _ | refine List.Mem.tail _ ?_ | refine List.mem_append_right _ ?_))) rfl) ?_
        refine TV.virt 6 rfl rfl (by decide) rfl (by kernel_rfl) (SOK.pure (PV.move rfl) rfl) ?_
        refine TV.virt 7 rfl rfl (by decide) rfl (by kernel_rfl) (SOK.pure (PV.sub rfl rfl (by omega)) rfl) ?_
        refine TV.step [8] (by kernel_rfl) (by decide) rfl ⟨⟨_, rfl, ?_⟩, trivial⟩
        refine TL.entryS key_95 mt_92 rfl rfl rfl entK_two (hlk y.m) (by repeat (first | exact Upd.head _ | apply Upd.tail | apply Upd.appR)) rfl (by decide) ?_
        refine TL.nil ?_
        refine TV.next (.inl (by repeat (first | exact List.Sublist.slnil | exact List.nil_sublist _ | exact List.Sublist.refl _ | refine List.Sublist.cons_cons _ ?_ | refine List.Sublist.cons _ ?_ | refine List.Sublist.trans ?_ (List.sublist_append_right _ _)))) ?_
        refine TV.virt 9 rfl rfl (by decide) rfl (by kernel_rfl) (SOK.pure (PV.extract rfl rfl) rfl) ?_
        refine TV.step [10] (by kernel_rfl) (by decide) rfl ⟨⟨_, rfl, ?_⟩, trivial⟩
        refine TL.entryStoreS rfl rfl rfl (by have := (lookE_some (hlk y.m)).2.2; rwa [Nat.sub_zero] at this) (by repeat (first | exact Upd.head _ | apply Upd.tail | apply Upd.appR)) rfl rfl ?_
        rw [Int.sub_eq_add_neg, hcs]
        refine TL.nil ?_
        refine TV.next (.inr (by kernel_rfl)) ?_
        refine TV.done (by kernel_rfl) ?_
        refine TQ.blkN ?_
        refine TQ.thenN ?_
        refine TQ.perm (G' := (bS, bobj y.es) :: (b0, Obj.cells (intsA [(c0 : Int), (j0 : Int)]) 95 (0, 0)) :: GP bP bM hp ls N (T) (y.ps) ((addAt y.m c0 j0 (-y.s)))) (perm_of fun c9 => by simp only [gbR, List.map_append, List.sum_append, List.map_cons, List.sum_cons, List.map_nil, List.sum_nil]; omega) ?_
        refine TQ.backK (y.ps, (addAt y.m c0 j0 (-y.s))) (by repeat (first | exact True.intro | refine And.intro rfl ?_)) (by repeat (first | exact True.intro | refine And.intro rfl ?_)) (List.Sublist.cons _ (List.Sublist.refl _)) (hx.trans (PKeep.sent hx.inv hc0 hj0 hps hpos hys.2)) (by simp only; omega)
  · skip
    refine TC.exit ?_
    refine TQ.thenE ?_
    refine TQ.thenE ?_
    refine TQ.blkS ?_
    refine TQ.retN rfl (Res.nil) ?_
    exact ⟨x, rfl, ⟨hx, .inl (by omega)⟩, List.Sublist.cons _ (List.Sublist.refl _)⟩

end Go.Proofs.Ytfgjojoipbbacaa
