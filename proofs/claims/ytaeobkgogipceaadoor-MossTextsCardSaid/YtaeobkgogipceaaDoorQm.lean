/- Turning: contracts. -/
import Derived.Test.YtaeobkgogipceaaDoorQl
set_option linter.unusedVariables false
set_option linter.unusedSimpArgs false
namespace Go.Proofs.YtaeobkgogipceaaDoor
open Go.Sx Go.RowKit

theorem zM_ok {m : Mo.Md} (ho : Mo.Ok m) {S : Nat} (hS : S < 2 ^ m.N) : zM m.R m.C m.K S = .agg #[.int .i64 m.C, .int .i64 m.R, .int .i64 m.K] := by
  have h := zI_ok ho hS
  simp only [zM, h]
theorem zM_no {r c k w : Int} (h : gI r c k w ≠ 0) : zM r c k w = .agg #[.int .i64 0, .int .i64 0, .int .i64 0] := by
  simp only [zM, zI_no h]


set_option maxRecDepth 100000 in
theorem Fewest_n (w0 : World) (r c k : Int) (hne : fE r c k ≠ 0) :
    Calls Tryd.prog 46 #[.agg #[.int .i64 r, .int .i64 c, .int .i64 k]] w0 (Post (X := Unit) (fun _ => .tuple #[.int .i64 0, .int .i64 0, .int .i64 (fE r c k)]) (fun _ => True) (fun _ => []) w0) := by
  refine calls Tryd.func46 rfl (n := 42) rfl (by simp) ?_
  refine TC.seq ?_
  refine TC.region ?_
  refine TL.box rfl rfl (by decide) (fun b0 hb0 => ?_)
  refine TL.pure (PV.assign rfl) rfl (by decide) ?_
  refine TL.pure (PV.assign rfl) rfl (by decide) ?_
  refine TL.pure (PV.assign rfl) rfl (by decide) ?_
  refine TL.nil ?_
  refine TQ.thenC ?_
  refine TC.seq ?_
  refine TC.seq ?_
  refine TC.region ?_
  refine TL.pure (PV.loadBox rfl Tb.agg_23 (by repeat (first | exact List.Mem.head _ | refine List.Mem.tail _ ?_ | refine List.mem_append_right _ ?_)) rfl) rfl (by decide) ?_
  refine TL.call rfl Tb.gofn_19 (fun a w hs => validate_ok w _ _ _) rfl (by decide) (fun _ _ => ?_)
  refine TL.pure (PV.assign rfl) rfl (by decide) ?_
  refine TL.nil ?_
  refine TQ.thenC ?_
  refine TC.seq ?_
  refine TC.region ?_
  refine TL.pure (PV.move rfl) rfl (by decide) ?_
  refine TL.pure (PV.neq rfl rfl) rfl (by decide) ?_
  refine TL.nil ?_
  refine TQ.thenC ?_
  first | refine TC.condD rfl (fun hv => ?_) (fun hv => ?_) | refine TC.cond rfl (fun hv => ?_) (fun hv => ?_)
  · skip
    refine TC.seq ?_
    refine TC.region ?_
    refine TL.pure (PV.move rfl) rfl (by decide) ?_
    refine TL.pure (PV.assign rfl) rfl (by decide) ?_
    refine TL.pure (PV.assign rfl) rfl (by decide) ?_
    refine TL.pure (PV.assign rfl) rfl (by decide) ?_
    refine TL.nil ?_
    refine TQ.thenC ?_
    refine TC.ret ?_
    refine TQ.thenR ?_
    refine TQ.retE3 rfl rfl rfl rfl ?_
    exact ⟨(), by rw [fE_v hv], trivial, List.nil_sublist _⟩
  · skip
    obtain ⟨m, ho, rfl, rfl, rfl⟩ := vI_is (show vI r c k = 0 by omega)
    have hpf := pc_full_N ho
    have hf63 := full_63 ho
    have hfe := fE_ok ho
    refine TC.skip ?_
    refine TQ.thenC ?_
    refine TC.seq ?_
    refine TC.seq ?_
    refine TC.region ?_
    refine TL.pure (PV.loadBox rfl Tb.agg_23 (by repeat (first | exact List.Mem.head _ | refine List.Mem.tail _ ?_ | refine List.mem_append_right _ ?_)) rfl) rfl (by decide) ?_
    refine TL.call rfl Tb.gofn_71 (fun a w hs => all_ok w m ho) rfl (by decide) (fun _ _ => ?_)
    refine TL.call rfl Tb.gofn_82 (fun a w hs => count_ok w _ hf63) rfl (by decide) (fun _ _ => ?_)
    refine TL.pure (PV.gtr rfl rfl) rfl (by decide) ?_
    refine TL.nil ?_
    refine TQ.thenC ?_
    first | refine TC.condD rfl (fun hl => ?_) (fun hl => ?_) | refine TC.cond rfl (fun hl => ?_) (fun hl => ?_)
    · skip
      refine TC.seq ?_
      refine TC.region ?_
      refine TL.pure (PV.assign rfl) rfl (by decide) ?_
      refine TL.pure (PV.assign rfl) rfl (by decide) ?_
      refine TL.pure (PV.assign rfl) rfl (by decide) ?_
      refine TL.nil ?_
      refine TQ.thenC ?_
      refine TC.ret ?_
      refine TQ.thenR ?_
      refine TQ.retE3 rfl rfl rfl rfl ?_
      exact ⟨(), by rw [hfe, if_pos (by omega)], trivial, List.nil_sublist _⟩
    · skip
      exact absurd (by rw [hfe, if_neg (by omega)]) hne

set_option maxRecDepth 100000 in
theorem rFewest_n (w0 : World) (r c k : Int) (hne : fE r c k ≠ 0) :
    Calls Tryd.prog 47 #[.agg #[.int .i64 r, .int .i64 c, .int .i64 k]] w0 (Post (X := Unit) (fun _ => .tuple #[.int .i64 0, .int .i64 0, .int .i64 (fE r c k)]) (fun _ => True) (fun _ => []) w0) := by
  refine calls Tryd.func47 rfl (n := 45) rfl (by simp) ?_
  refine TC.seq ?_
  refine TC.region ?_
  refine TL.box rfl rfl (by decide) (fun b0 hb0 => ?_)
  refine TL.pure (PV.assign rfl) rfl (by decide) ?_
  refine TL.pure (PV.assign rfl) rfl (by decide) ?_
  refine TL.pure (PV.assign rfl) rfl (by decide) ?_
  refine TL.nil ?_
  refine TQ.thenC ?_
  refine TC.seq ?_
  refine TC.region ?_
  refine TL.pure (PV.loadBox rfl Tb.agg_23 (by repeat (first | exact List.Mem.head _ | refine List.Mem.tail _ ?_ | refine List.mem_append_right _ ?_)) rfl) rfl (by decide) ?_
  refine TL.call rfl Tb.gofn_20 (fun a w hs => rvalidate_ok w _ _ _) rfl (by decide) (fun _ _ => ?_)
  refine TL.pure (PV.assign rfl) rfl (by decide) ?_
  refine TL.nil ?_
  refine TQ.thenC ?_
  refine TC.seq ?_
  refine TC.seq ?_
  refine TC.region ?_
  refine TL.pure (PV.move rfl) rfl (by decide) ?_
  refine TL.pure (PV.neq rfl rfl) rfl (by decide) ?_
  refine TL.nil ?_
  refine TQ.thenC ?_
  first | refine TC.condD rfl (fun hv => ?_) (fun hv => ?_) | refine TC.cond rfl (fun hv => ?_) (fun hv => ?_)
  · skip
    refine TC.seq ?_
    refine TC.region ?_
    refine TL.pure (PV.move rfl) rfl (by decide) ?_
    refine TL.pure (PV.assign rfl) rfl (by decide) ?_
    refine TL.pure (PV.assign rfl) rfl (by decide) ?_
    refine TL.pure (PV.assign rfl) rfl (by decide) ?_
    refine TL.nil ?_
    refine TQ.thenC ?_
    refine TC.ret ?_
    refine TQ.thenR ?_
    refine TQ.retE3 rfl rfl rfl rfl ?_
    exact ⟨(), by rw [fE_v hv], trivial, List.nil_sublist _⟩
  · skip
    obtain ⟨m, ho, rfl, rfl, rfl⟩ := vI_is (show vI r c k = 0 by omega)
    have hfe := fE_ok ho
    refine TC.skip ?_
    refine TQ.thenC ?_
    refine TC.seq ?_
    refine TC.seq ?_
    refine TC.region ?_
    refine TL.pure (PV.loadBox rfl Tb.agg_23 (by repeat (first | exact List.Mem.head _ | refine List.Mem.tail _ ?_ | refine List.mem_append_right _ ?_)) rfl) rfl (by decide) ?_
    refine TL.call rfl Tb.gofn_61 (fun a w hs => rsquares_ok w m ho) rfl (by decide) (fun _ _ => ?_)
    refine TL.pure (PV.gtr rfl rfl) rfl (by decide) ?_
    refine TL.nil ?_
    refine TQ.thenC ?_
    first | refine TC.condD rfl (fun hl => ?_) (fun hl => ?_) | refine TC.cond rfl (fun hl => ?_) (fun hl => ?_)
    · skip
      refine TC.seq ?_
      refine TC.region ?_
      refine TL.pure (PV.assign rfl) rfl (by decide) ?_
      refine TL.pure (PV.assign rfl) rfl (by decide) ?_
      refine TL.pure (PV.assign rfl) rfl (by decide) ?_
      refine TL.nil ?_
      refine TQ.thenC ?_
      refine TC.ret ?_
      refine TQ.thenR ?_
      refine TQ.retE3 rfl rfl rfl rfl ?_
      exact ⟨(), by rw [hfe, if_pos (by omega)], trivial, List.nil_sublist _⟩
    · skip
      exact absurd (by rw [hfe, if_neg (by omega)]) hne

set_option maxRecDepth 100000 in
set_option maxHeartbeats 1000000 in
theorem moved_ok (w0 : World) (ht : TzAt w0) (m : Mo.Md) (ho : Mo.Ok m) (S : Nat) (hS : S < 2 ^ m.N) (f : FuncId) (caps : List Value) (τ : Nat → Nat) (hτ : ∀ q, q < m.N → τ q < m.N) (hfn : goFn Tryd.prog f = true) (hcb : ∀ w G, New w0 w G → ∀ s, s < m.N → Calls Tryd.prog f (Value.int .i64 (s / m.C : Nat) :: Value.int .i64 (s % m.C : Nat) :: caps).toArray w (Post (X := Unit) (fun _ => .int .i64 (τ s : Nat)) (fun _ => True) (fun _ => []) w)) :
    Calls Tryd.prog 86 #[mV m, .int .i64 S, .func (.func f) #[] caps.toArray] w0 (Post (X := Unit) (fun _ => .int .i64 (Mo.im m τ S : Nat)) (fun _ => True) (fun _ => []) w0) := by
  have hS63 := set63 ho hS
  have hN := ho.N36
  have hC1 := ho.C1
  refine callsRF Tryd.func86 rfl (n := 26) rfl (by simp) ?_
  refine TC.seq ?_
  refine TC.region ?_
  refine TL.box rfl rfl (by decide) (fun b0 hb0 => ?_)
  refine TL.box rfl rfl (by decide) (fun b1 hb1 => ?_)
  refine TL.pure (PV.assign rfl) rfl (by decide) ?_
  refine TL.nil ?_
  refine TQ.thenC ?_
  refine TC.seq ?_
  refine TC.region ?_
  refine TL.alloc Tb.zero_3 rfl (by decide) (fun b2 hb2 => ?_)
  refine TL.store rfl rfl Tb.cells_3 rfl (by repeat (first | exact Upd.head _ | apply Upd.tail | apply Upd.appR)) (by first | decide | (simp; done) | (simp; omega) | omega) rfl rfl ?_
  refine TL.nil ?_
  refine TQ.thenC ?_
  refine TC.seq ?_
  refine TC.seq ?_
  refine TC.region ?_
  refine TL.pure (PV.move rfl) rfl (by decide) ?_
  refine TL.call rfl Tb.gofn_58 (fun a w hs => squares_ok w S) rfl (by decide) (fun bx hbx => ?_)
  refine TL.nil ?_
  refine TQ.thenC ?_
  refine TC.block ?_
  refine TC.rangeFunc (encs := fun s : Nat => [.int .i64 s]) (kept := [(bx, Obj.cells #[.int .i64 (S : Nat)] 3 (0, 0))]) (α := Nat) (X := Nat) (Y := Unit) (Z := Nat) (ps := [11]) (fun pre s => s = imL τ pre) (fun s => [(bx, Obj.cells #[.int .i64 (S : Nat)] 3 (0, 0)), (b2, Obj.cells #[.int .i64 (s : Nat)] 3 (0, 0)), (b1, Obj.cells #[.func (.func f) #[] caps.toArray] 72 (0, 0)), (b0, Obj.cells #[.int .i64 m.R, .int .i64 m.C, .int .i64 m.K] 23 (0, 0))]) (fun pre y => False) (fun y => []) 0 (fun x s z => z = s) (fun x z => [(8, .int .i64 x), (3, .pointer (some ⟨b0, 0, none⟩)), (5, .pointer (some ⟨b1, 0, none⟩)), (7, .pointer (some ⟨b2, 0, none⟩))]) (fun x z => [(bx, Obj.cells #[.int .i64 (S : Nat)] 3 (0, 0)), (b2, Obj.cells #[.int .i64 (z : Nat)] 3 (0, 0)), (b1, Obj.cells #[.func (.func f) #[] caps.toArray] 72 (0, 0)), (b0, Obj.cells #[.int .i64 m.R, .int .i64 m.C, .int .i64 m.K] 23 (0, 0))]) rfl Tb.gofn_95 (squares_it w0 ht S hS63 bx) (fun _ => rfl) (by decide) rfl (by repeat (first | exact List.Sublist.slnil | exact List.nil_sublist _ | exact List.Sublist.refl _ | refine List.Sublist.cons_cons _ ?_ | refine List.Sublist.cons _ ?_ | refine List.Sublist.trans ?_ (List.sublist_append_right _ _))) (fun s q hq => by simp only [List.mem_cons, List.not_mem_nil, or_false] at hq; subst hq; exact List.Mem.head _) ?_ ?_ ?_ ?_
  · skip
    intro lR TR pre x s hp_ hF_
    refine TG.region (by repeat (first | with_reducible exact RB.lo | with_reducible exact QN.lo | with_reducible exact bodyM_lo | with_reducible exact bodyP_lo | with_reducible apply lo_then | with_reducible apply lo_blk)) (by kernel_rfl) ?_
    refine TL.pure (PV.assign rfl) rfl (by decide) ?_
    refine TL.nil ?_
    refine TQ.gmid s rfl (by repeat (first | exact True.intro | refine And.intro rfl ?_)) (List.Sublist.refl _)
  · skip
    intro lR TR pre x s z hp_ hF_ hz_
    obtain rfl : s = z := hz_.symm
    have hmem := pre_mem hp_
    have hxN := sq_lt ho hS hmem
    have htx := hτ x hxN
    have hs63 : s < 9223372036854775808 := by rw [hF_]; exact set63 ho (imL_lt pre fun q hq => hτ q (sq_lt ho hS (hp_.subset (List.mem_append_left _ hq))))
    refine TG.block ?_
    refine TG.mix (by repeat (first | with_reducible exact RB.lo | with_reducible exact QN.lo | with_reducible exact bodyM_lo | with_reducible exact bodyP_lo | with_reducible apply lo_then | with_reducible apply lo_blk)) (by kernel_rfl) [false, true, true, true, true, true, true, true, true, true, false, false, false, false] [(bx, Obj.cells #[.int .i64 (S : Nat)] 3 (0, 0)), (b1, Obj.cells #[.func (.func f) #[] caps.toArray] 72 (0, 0)), (b0, Obj.cells #[.int .i64 m.R, .int .i64 m.C, .int .i64 m.K] 23 (0, 0))] 5 Tb.mixed rfl (by kernel_rfl) (by kernel_rfl) (by kernel_rfl) (by kernel_rfl) (by repeat (first | exact List.Sublist.slnil | exact List.nil_sublist _ | exact List.Sublist.refl _ | refine List.Sublist.cons_cons _ ?_ | refine List.Sublist.cons _ ?_ | refine List.Sublist.trans ?_ (List.sublist_append_right _ _))) ?_
    refine TB.no ?_
    refine TB.op (SOK.pure (PV.load rfl Tb.one_72 (by repeat (first | exact List.Mem.head _ | refine List.Mem.tail _ ?_ | refine List.mem_append_right _ ?_)) rfl) rfl) (by decide) ?_
    refine TB.op (SOK.pure (PV.move rfl) rfl) (by decide) ?_
    refine TB.op (SOK.pure (PV.fieldAddr rfl Tb.fo_23_1) rfl) (by decide) ?_
    refine TB.op (SOK.pure (PV.load rfl Tb.one_3 (by repeat (first | exact List.Mem.head _ | refine List.Mem.tail _ ?_ | refine List.mem_append_right _ ?_)) rfl) rfl) (by decide) ?_
    refine TB.op (SOK.pure (PV.quoN rfl rfl (by omega) (by omega)) rfl) (by decide) ?_
    refine TB.op (SOK.pure (PV.move rfl) rfl) (by decide) ?_
    refine TB.op (SOK.pure (PV.fieldAddr rfl Tb.fo_23_1) rfl) (by decide) ?_
    refine TB.op (SOK.pure (PV.load rfl Tb.one_3 (by repeat (first | exact List.Mem.head _ | refine List.Mem.tail _ ?_ | refine List.mem_append_right _ ?_)) rfl) rfl) (by decide) ?_
    refine TB.op (SOK.pure (PV.remN rfl rfl (by omega) (by omega)) rfl) (by decide) ?_
    refine TB.no ?_
    refine TB.no ?_
    refine TB.no ?_
    refine TB.no ?_
    refine TB.fin ?_
    refine TX.step [0, 10] (by kernel_rfl) (by decide) ⟨⟨_, rfl, ?_⟩, ⟨_, rfl, ?_⟩, trivial⟩
    · skip
      refine TL.pure (PV.load rfl Tb.one_3 (by repeat (first | exact List.Mem.head _ | refine List.Mem.tail _ ?_ | refine List.mem_append_right _ ?_)) rfl) rfl (by decide) ?_
      refine TL.nil ?_
      refine TX.next (.inl (by repeat (first | exact List.Sublist.slnil | exact List.nil_sublist _ | exact List.Sublist.refl _ | refine List.Sublist.cons_cons _ ?_ | refine List.Sublist.cons _ ?_ | refine List.Sublist.trans ?_ (List.sublist_append_right _ _)))) ?_
      refine TX.step [10] (by kernel_rfl) (by decide) ⟨⟨_, rfl, ?_⟩, trivial⟩
      refine TL.callF (f := f) (caps := caps) (X := Unit) (fun _ => .int .i64 (τ x : Nat)) (fun _ => True) (fun _ => _) rfl rfl hfn (fun a w hs => (hcb w _ hs.new x hxN).mono fun e w' ⟨x9, h1, h2, h3⟩ => ⟨x9, h1, h2, hs.new.trans h3⟩) rfl (by decide) (fun _ _ => ?_)
      refine TL.nil ?_
      refine TX.next (.inl (by repeat (first | exact List.Sublist.slnil | exact List.nil_sublist _ | exact List.Sublist.refl _ | refine List.Sublist.cons_cons _ ?_ | refine List.Sublist.cons _ ?_ | refine List.Sublist.trans ?_ (List.sublist_append_right _ _)))) ?_
      refine TX.step [11] (by kernel_rfl) (by decide) ⟨⟨_, rfl, ?_⟩, trivial⟩
      refine TL.call rfl Tb.gofn_79 (fun a w hs => only_ok w _ (by omega)) rfl (by decide) (fun _ _ => ?_)
      refine TL.nil ?_
      refine TX.next (.inl (by repeat (first | exact List.Sublist.slnil | exact List.nil_sublist _ | exact List.Sublist.refl _ | refine List.Sublist.cons_cons _ ?_ | refine List.Sublist.cons _ ?_ | refine List.Sublist.trans ?_ (List.sublist_append_right _ _)))) ?_
      refine TX.step [12] (by kernel_rfl) (by decide) ⟨⟨_, rfl, ?_⟩, trivial⟩
      refine TL.pure (PV.orK rfl rfl (i64_or_nat hs63 (p63 (by omega)))) rfl (by decide) ?_
      refine TL.nil ?_
      refine TX.next (.inl (by repeat (first | exact List.Sublist.slnil | exact List.nil_sublist _ | exact List.Sublist.refl _ | refine List.Sublist.cons_cons _ ?_ | refine List.Sublist.cons _ ?_ | refine List.Sublist.trans ?_ (List.sublist_append_right _ _)))) ?_
      refine TX.step [13] (by kernel_rfl) (by decide) ⟨⟨_, rfl, ?_⟩, trivial⟩
      refine TL.store rfl rfl Tb.cells_3 rfl (by repeat (first | exact Upd.head _ | apply Upd.tail | apply Upd.appR)) (by first | decide | (simp; done) | (simp; omega) | omega) rfl rfl ?_
      refine TL.nil ?_
      refine TX.next (.inr (by kernel_rfl)) ?_
      refine TX.done (by kernel_rfl) ?_
      refine TQ.gblkN ?_
      refine TQ.goOn (s ||| 2 ^ τ x) (by rw [imL_snoc, ← hF_]) (by repeat (first | exact List.Sublist.slnil | exact List.nil_sublist _ | exact List.Sublist.refl _ | refine List.Sublist.cons_cons _ ?_ | refine List.Sublist.cons _ ?_ | refine List.Sublist.trans ?_ (List.sublist_append_right _ _)))
    · skip
      refine TL.callF (f := f) (caps := caps) (X := Unit) (fun _ => .int .i64 (τ x : Nat)) (fun _ => True) (fun _ => _) rfl rfl hfn (fun a w hs => (hcb w _ hs.new x hxN).mono fun e w' ⟨x9, h1, h2, h3⟩ => ⟨x9, h1, h2, hs.new.trans h3⟩) rfl (by decide) (fun _ _ => ?_)
      refine TL.nil ?_
      refine TX.next (.inl (by repeat (first | exact List.Sublist.slnil | exact List.nil_sublist _ | exact List.Sublist.refl _ | refine List.Sublist.cons_cons _ ?_ | refine List.Sublist.cons _ ?_ | refine List.Sublist.trans ?_ (List.sublist_append_right _ _)))) ?_
      refine TX.step [0, 11] (by kernel_rfl) (by decide) ⟨⟨_, rfl, ?_⟩, ⟨_, rfl, ?_⟩, trivial⟩
      · skip
        refine TL.pure (PV.load rfl Tb.one_3 (by repeat (first | exact List.Mem.head _ | refine List.Mem.tail _ ?_ | refine List.mem_append_right _ ?_)) rfl) rfl (by decide) ?_
        refine TL.nil ?_
        refine TX.next (.inl (by repeat (first | exact List.Sublist.slnil | exact List.nil_sublist _ | exact List.Sublist.refl _ | refine List.Sublist.cons_cons _ ?_ | refine List.Sublist.cons _ ?_ | refine List.Sublist.trans ?_ (List.sublist_append_right _ _)))) ?_
        refine TX.step [11] (by kernel_rfl) (by decide) ⟨⟨_, rfl, ?_⟩, trivial⟩
        refine TL.call rfl Tb.gofn_79 (fun a w hs => only_ok w _ (by omega)) rfl (by decide) (fun _ _ => ?_)
        refine TL.nil ?_
        refine TX.next (.inl (by repeat (first | exact List.Sublist.slnil | exact List.nil_sublist _ | exact List.Sublist.refl _ | refine List.Sublist.cons_cons _ ?_ | refine List.Sublist.cons _ ?_ | refine List.Sublist.trans ?_ (List.sublist_append_right _ _)))) ?_
        refine TX.step [12] (by kernel_rfl) (by decide) ⟨⟨_, rfl, ?_⟩, trivial⟩
        refine TL.pure (PV.orK rfl rfl (i64_or_nat hs63 (p63 (by omega)))) rfl (by decide) ?_
        refine TL.nil ?_
        refine TX.next (.inl (by repeat (first | exact List.Sublist.slnil | exact List.nil_sublist _ | exact List.Sublist.refl _ | refine List.Sublist.cons_cons _ ?_ | refine List.Sublist.cons _ ?_ | refine List.Sublist.trans ?_ (List.sublist_append_right _ _)))) ?_
        refine TX.step [13] (by kernel_rfl) (by decide) ⟨⟨_, rfl, ?_⟩, trivial⟩
        refine TL.store rfl rfl Tb.cells_3 rfl (by repeat (first | exact Upd.head _ | apply Upd.tail | apply Upd.appR)) (by first | decide | (simp; done) | (simp; omega) | omega) rfl rfl ?_
        refine TL.nil ?_
        refine TX.next (.inr (by kernel_rfl)) ?_
        refine TX.done (by kernel_rfl) ?_
        refine TQ.gblkN ?_
        refine TQ.goOn (s ||| 2 ^ τ x) (by rw [imL_snoc, ← hF_]) (by repeat (first | exact List.Sublist.slnil | exact List.nil_sublist _ | exact List.Sublist.refl _ | refine List.Sublist.cons_cons _ ?_ | refine List.Sublist.cons _ ?_ | refine List.Sublist.trans ?_ (List.sublist_append_right _ _)))
      · skip
        refine TL.call rfl Tb.gofn_79 (fun a w hs => only_ok w _ (by omega)) rfl (by decide) (fun _ _ => ?_)
        refine TL.nil ?_
        refine TX.next (.inl (by repeat (first | exact List.Sublist.slnil | exact List.nil_sublist _ | exact List.Sublist.refl _ | refine List.Sublist.cons_cons _ ?_ | refine List.Sublist.cons _ ?_ | refine List.Sublist.trans ?_ (List.sublist_append_right _ _)))) ?_
        refine TX.step [0] (by kernel_rfl) (by decide) ⟨⟨_, rfl, ?_⟩, trivial⟩
        refine TL.pure (PV.load rfl Tb.one_3 (by repeat (first | exact List.Mem.head _ | refine List.Mem.tail _ ?_ | refine List.mem_append_right _ ?_)) rfl) rfl (by decide) ?_
        refine TL.nil ?_
        refine TX.next (.inl (by repeat (first | exact List.Sublist.slnil | exact List.nil_sublist _ | exact List.Sublist.refl _ | refine List.Sublist.cons_cons _ ?_ | refine List.Sublist.cons _ ?_ | refine List.Sublist.trans ?_ (List.sublist_append_right _ _)))) ?_
        refine TX.step [12] (by kernel_rfl) (by decide) ⟨⟨_, rfl, ?_⟩, trivial⟩
        refine TL.pure (PV.orK rfl rfl (i64_or_nat hs63 (p63 (by omega)))) rfl (by decide) ?_
        refine TL.nil ?_
        refine TX.next (.inl (by repeat (first | exact List.Sublist.slnil | exact List.nil_sublist _ | exact List.Sublist.refl _ | refine List.Sublist.cons_cons _ ?_ | refine List.Sublist.cons _ ?_ | refine List.Sublist.trans ?_ (List.sublist_append_right _ _)))) ?_
        refine TX.step [13] (by kernel_rfl) (by decide) ⟨⟨_, rfl, ?_⟩, trivial⟩
        refine TL.store rfl rfl Tb.cells_3 rfl (by repeat (first | exact Upd.head _ | apply Upd.tail | apply Upd.appR)) (by first | decide | (simp; done) | (simp; omega) | omega) rfl rfl ?_
        refine TL.nil ?_
        refine TX.next (.inr (by kernel_rfl)) ?_
        refine TX.done (by kernel_rfl) ?_
        refine TQ.gblkN ?_
        refine TQ.goOn (s ||| 2 ^ τ x) (by rw [imL_snoc, ← hF_]) (by repeat (first | exact List.Sublist.slnil | exact List.nil_sublist _ | exact List.Sublist.refl _ | refine List.Sublist.cons_cons _ ?_ | refine List.Sublist.cons _ ?_ | refine List.Sublist.trans ?_ (List.sublist_append_right _ _)))
  · skip
    intro dB lB oB xs_ s hD_ hF_
    have hs9 : s = Mo.im m τ S := by rw [hF_, hD_]; exact imL_all ho hS τ
    refine TQ.gblkN ?_
    refine TQ.thenD ?_
    refine TG.seq ?_
    refine TG.region (by repeat (first | with_reducible exact RB.lo | with_reducible exact QN.lo | with_reducible exact bodyM_lo | with_reducible exact bodyP_lo | with_reducible apply lo_then | with_reducible apply lo_blk)) (by kernel_rfl) ?_
    refine TL.pure (PV.load rfl Tb.one_3 (by repeat (first | exact List.Mem.head _ | refine List.Mem.tail _ ?_ | refine List.mem_append_right _ ?_)) rfl) rfl (by decide) ?_
    refine TL.pure (PV.assign rfl) rfl (by decide) ?_
    refine TL.nil ?_
    refine TQ.thenG ?_
    refine TG.ret ?_
    refine TQ.retM (by repeat (first | exact Take.head _ | apply Take.tail | apply Take.appR)) ?_
    refine TQ.retE1 rfl rfl ?_
    exact ⟨(), by rw [hs9], trivial, List.nil_sublist _⟩
  · skip
    intro dB lB oB xs_ y hP_ hF_
    exact hF_.elim

set_option maxRecDepth 100000 in
theorem turnF_ok (w0 : World) (m : Mo.Md) (ho : Mo.Ok m) (s : Nat) (hs3 : s < m.N) (a b : Nat) (ha : ∀ j v, [Value.int .i64 m.C, .int .i64 m.R, .int .i64 m.K][j]? = some v → w0.cell? ⟨a, 0 + j, none⟩ = some v) (hb : ∀ j v, [Value.int .i64 m.R, .int .i64 m.C, .int .i64 m.K][j]? = some v → w0.cell? ⟨b, 0 + j, none⟩ = some v) :
    Calls Tryd.prog 84 #[.int .i64 (s / m.C : Nat), .int .i64 (s % m.C : Nat), .pointer (some ⟨a, 0, none⟩), .pointer (some ⟨b, 0, none⟩)] w0 (Post (X := Unit) (fun _ => .int .i64 (Mo.tu m s : Nat)) (fun _ => True) (fun _ => []) w0) := by
  have hrc := row_col ho hs3
  have hR6 := ho.R6
  have hC6 := ho.C6
  have hR1 := ho.R1
  have hq0 : (0 : Int) ≤ (s : Int) / (m.C : Int) := Int.ediv_nonneg (by omega) (by omega)
  have hq1 : (0 : Int) ≤ (s : Int) % (m.C : Int) := Int.emod_nonneg _ (by have := ho.C1; omega)
  refine calls Tryd.func84 rfl (n := 15) rfl (by simp) ?_
  refine TC.seq ?_
  refine TC.region ?_
  refine TL.pure (PV.assign rfl) rfl (by decide) ?_
  refine TL.nil ?_
  refine TQ.thenC ?_
  refine TC.seq ?_
  refine TC.region ?_
  refine TL.pure (PV.loadAggOld (vs := [.int .i64 m.C, .int .i64 m.R, .int .i64 m.K]) rfl Tb.agg_23 rfl ha) rfl (by decide) ?_
  refine TL.pure (PV.move rfl) rfl (by decide) ?_
  refine TL.pure (PV.fieldAddr rfl Tb.fo_23_0) rfl (by decide) ?_
  refine TL.pure (PV.loadOld rfl Tb.one_3 (hb 0 _ rfl)) rfl (by decide) ?_
  refine TL.pure (PV.sub rfl rfl (by omega)) rfl (by decide) ?_
  refine TL.pure (PV.move rfl) rfl (by decide) ?_
  refine TL.pure (PV.sub rfl rfl (by omega)) rfl (by decide) ?_
  refine TL.call rfl Tb.gofn_85 (fun a w hs => squareAt_ok w (Mo.tm m) (Mo.ok_turn ho) _ _ _ (tu_int ho hs3) (by omega) (by omega)) rfl (by decide) (fun _ _ => ?_)
  refine TL.pure (PV.assign rfl) rfl (by decide) ?_
  refine TL.nil ?_
  refine TQ.thenC ?_
  refine TC.ret ?_
  refine TQ.retE1 rfl rfl ?_
  exact ⟨(), rfl, trivial, List.nil_sublist _⟩

set_option maxRecDepth 100000 in
theorem mirrorF_ok (w0 : World) (m : Mo.Md) (ho : Mo.Ok m) (s : Nat) (hs3 : s < m.N) (b : Nat) (hb : ∀ j v, [Value.int .i64 m.R, .int .i64 m.C, .int .i64 m.K][j]? = some v → w0.cell? ⟨b, 0 + j, none⟩ = some v) :
    Calls Tryd.prog 87 #[.int .i64 (s / m.C : Nat), .int .i64 (s % m.C : Nat), .pointer (some ⟨b, 0, none⟩)] w0 (Post (X := Unit) (fun _ => .int .i64 (Mo.mi m s : Nat)) (fun _ => True) (fun _ => []) w0) := by
  have hrc := row_col ho hs3
  have hR6 := ho.R6
  have hC6 := ho.C6
  have hC1 := ho.C1
  have hq0 : (0 : Int) ≤ (s : Int) / (m.C : Int) := Int.ediv_nonneg (by omega) (by omega)
  have hq1 : (0 : Int) ≤ (s : Int) % (m.C : Int) := Int.emod_nonneg _ (by omega)
  refine calls Tryd.func87 rfl (n := 14) rfl (by simp) ?_
  refine TC.seq ?_
  refine TC.region ?_
  refine TL.pure (PV.assign rfl) rfl (by decide) ?_
  refine TL.nil ?_
  refine TQ.thenC ?_
  refine TC.seq ?_
  refine TC.region ?_
  refine TL.pure (PV.loadAggOld (vs := [.int .i64 m.R, .int .i64 m.C, .int .i64 m.K]) rfl Tb.agg_23 rfl hb) rfl (by decide) ?_
  refine TL.pure (PV.move rfl) rfl (by decide) ?_
  refine TL.pure (PV.fieldAddr rfl Tb.fo_23_1) rfl (by decide) ?_
  refine TL.pure (PV.loadOld rfl Tb.one_3 (hb 1 _ rfl)) rfl (by decide) ?_
  refine TL.pure (PV.sub rfl rfl (by omega)) rfl (by decide) ?_
  refine TL.pure (PV.move rfl) rfl (by decide) ?_
  refine TL.pure (PV.sub rfl rfl (by omega)) rfl (by decide) ?_
  refine TL.call rfl Tb.gofn_85 (fun a w hs => squareAt_ok w m ho _ _ _ (mi_int ho hs3) (by omega) (by omega)) rfl (by decide) (fun _ _ => ?_)
  refine TL.pure (PV.assign rfl) rfl (by decide) ?_
  refine TL.nil ?_
  refine TQ.thenC ?_
  refine TC.ret ?_
  refine TQ.retE1 rfl rfl ?_
  exact ⟨(), rfl, trivial, List.nil_sublist _⟩

set_option maxRecDepth 100000 in
set_option maxHeartbeats 1000000 in
theorem Turn_ok (w0 : World) (ht : TzAt w0) (r c k w9 : Int) :
    Calls Tryd.prog 48 #[.agg #[.int .i64 r, .int .i64 c, .int .i64 k], .int .i64 w9] w0 (Post (X := Unit) (fun _ => .tuple #[zM r c k w9, .int .i64 (zI r c k w9 (Mo.im (Mo.mD r c k) (Mo.tu (Mo.mD r c k)) w9.toNat : Nat)), .int .i64 (gI r c k w9)]) (fun _ => True) (fun _ => []) w0) := by
  refine calls Tryd.func48 rfl (n := 30) rfl (by simp) ?_
  refine TC.seq ?_
  refine TC.region ?_
  refine TL.box rfl rfl (by decide) (fun b0 hb0 => ?_)
  refine TL.alloc Tb.zero_23 rfl (by decide) (fun b1 hb1 => ?_)
  refine TL.pure (PV.assign rfl) rfl (by decide) ?_
  refine TL.pure (PV.assign rfl) rfl (by decide) ?_
  refine TL.nil ?_
  refine TQ.thenC ?_
  refine TC.seq ?_
  refine TC.seq ?_
  refine TC.region ?_
  refine TL.pure (PV.loadBox rfl Tb.agg_23 (by repeat (first | exact List.Mem.head _ | refine List.Mem.tail _ ?_ | refine List.mem_append_right _ ?_)) rfl) rfl (by decide) ?_
  refine TL.pure (PV.move rfl) rfl (by decide) ?_
  refine TL.call rfl Tb.gofn_64 (fun a w hs => validateSet_ok w _ _ _ _) rfl (by decide) (fun _ _ => ?_)
  refine TL.pure (PV.assign rfl) rfl (by decide) ?_
  refine TL.nil ?_
  refine TQ.thenC ?_
  refine TC.seq ?_
  refine TC.region ?_
  refine TL.pure (PV.move rfl) rfl (by decide) ?_
  refine TL.pure (PV.neq rfl rfl) rfl (by decide) ?_
  refine TL.nil ?_
  refine TQ.thenC ?_
  first | refine TC.condD rfl (fun hv => ?_) (fun hv => ?_) | refine TC.cond rfl (fun hv => ?_) (fun hv => ?_)
  · skip
    refine TC.seq ?_
    refine TC.region ?_
    refine TL.pure (PV.build rfl Tb.zero_23 Tb.pl_23 rfl) rfl (by decide) ?_
    refine TL.pure (PV.move rfl) rfl (by decide) ?_
    refine TL.storeAgg rfl rfl Tb.cells_23 (by repeat (first | exact Upd.head _ | apply Upd.tail | apply Upd.appR)) rfl rfl rfl rfl rfl ?_
    refine TL.pure (PV.assign rfl) rfl (by decide) ?_
    refine TL.pure (PV.assign rfl) rfl (by decide) ?_
    refine TL.nil ?_
    refine TQ.thenC ?_
    refine TC.ret ?_
    refine TQ.thenR ?_
    refine TQ.retR rfl (Res.agg rfl Tb.agg_23 (by repeat (first | exact List.Mem.head _ | refine List.Mem.tail _ ?_ | refine List.mem_append_right _ ?_)) rfl (Res.tmp rfl (Res.tmp rfl Res.nil))) ?_
    simp only [tup]
    exact ⟨(), by simp only [zM_no hv, zI_no hv], trivial, List.nil_sublist _⟩
  · skip
    obtain ⟨m, S, ho, hS, rfl, rfl, rfl, rfl⟩ := gI_is (show gI r c k w9 = 0 by omega)
    have hN := ho.N36
    have hS63 := set63 ho hS
    have hzv := zI_ok ho hS
    have hbv := zB_ok ho hS
    have hgv := gI_ok ho hS
    refine TC.skip ?_
    refine TQ.thenC ?_
    refine TC.seq ?_
    refine TC.region ?_
    refine TL.pure (PV.fieldAddr rfl Tb.fo_23_1) rfl (by decide) ?_
    refine TL.pure (PV.load rfl Tb.one_3 (by repeat (first | exact List.Mem.head _ | refine List.Mem.tail _ ?_ | refine List.mem_append_right _ ?_)) rfl) rfl (by decide) ?_
    refine TL.pure (PV.fieldAddr rfl Tb.fo_23_0) rfl (by decide) ?_
    refine TL.pure (PV.load rfl Tb.one_3 (by repeat (first | exact List.Mem.head _ | refine List.Mem.tail _ ?_ | refine List.mem_append_right _ ?_)) rfl) rfl (by decide) ?_
    refine TL.pure (PV.fieldAddr rfl Tb.fo_23_2) rfl (by decide) ?_
    refine TL.pure (PV.load rfl Tb.one_3 (by repeat (first | exact List.Mem.head _ | refine List.Mem.tail _ ?_ | refine List.mem_append_right _ ?_)) rfl) rfl (by decide) ?_
    refine TL.pure (PV.build rfl Tb.zero_23 Tb.pl_23 rfl) rfl (by decide) ?_
    refine TL.alloc Tb.zero_23 rfl (by decide) (fun b2 hb2 => ?_)
    refine TL.storeAgg rfl rfl Tb.cells_23 (by repeat (first | exact Upd.head _ | apply Upd.tail | apply Upd.appR)) rfl rfl rfl rfl rfl ?_
    refine TL.nil ?_
    refine TQ.thenC ?_
    refine TC.seq ?_
    refine TC.region ?_
    refine TL.pure (PV.makeFunc rfl) rfl (by decide) ?_
    refine TL.pure (PV.assign rfl) rfl (by decide) ?_
    refine TL.nil ?_
    refine TQ.thenC ?_
    refine TC.seq ?_
    refine TC.mix [true, true, true, true, false, false, false, false] [(b2, Obj.cells #[.int .i64 m.C, .int .i64 m.R, .int .i64 m.K] 23 (0, 0)), (b0, Obj.cells #[.int .i64 m.R, .int .i64 m.C, .int .i64 m.K] 23 (0, 0))] 4 Tb.mixed rfl (by kernel_rfl) (by kernel_rfl) (by kernel_rfl) (by kernel_rfl) (by repeat (first | exact List.Sublist.slnil | exact List.nil_sublist _ | exact List.Sublist.refl _ | refine List.Sublist.cons_cons _ ?_ | refine List.Sublist.cons _ ?_ | refine List.Sublist.trans ?_ (List.sublist_append_right _ _))) ?_
    refine TB.op (SOK.pure (PV.loadBox rfl Tb.agg_23 (by repeat (first | exact List.Mem.head _ | refine List.Mem.tail _ ?_ | refine List.mem_append_right _ ?_)) rfl) rfl) (by decide) ?_
    refine TB.op (SOK.pure (PV.loadBox rfl Tb.agg_23 (by repeat (first | exact List.Mem.head _ | refine List.Mem.tail _ ?_ | refine List.mem_append_right _ ?_)) rfl) rfl) (by decide) ?_
    refine TB.op (SOK.pure (PV.move rfl) rfl) (by decide) ?_
    refine TB.op (SOK.pure (PV.move rfl) rfl) (by decide) ?_
    refine TB.no ?_
    refine TB.no ?_
    refine TB.no ?_
    refine TB.no ?_
    refine TB.fin ?_
    refine TX.step [4] (by kernel_rfl) (by decide) ⟨⟨_, rfl, ?_⟩, trivial⟩
    refine TL.call rfl Tb.gofn_86 (fun a w hs => moved_ok w (ht.new hs.new) m ho S hS 84 [.pointer (some ⟨b2, 0, none⟩), .pointer (some ⟨b0, 0, none⟩)] (Mo.tu m) (tu_lt ho) Tb.gofn_84 (fun w2 G2 hn2 q hq => turnF_ok w2 m ho q hq b2 b0 (box_at (hs.new.trans hn2) (by repeat (first | exact List.Mem.head _ | refine List.Mem.tail _ ?_ | refine List.mem_append_right _ ?_))) (box_at (hs.new.trans hn2) (by repeat (first | exact List.Mem.head _ | refine List.Mem.tail _ ?_ | refine List.mem_append_right _ ?_))))) rfl (by decide) (fun _ _ => ?_)
    refine TL.nil ?_
    refine TX.next (.inl (by repeat (first | exact List.Sublist.slnil | exact List.nil_sublist _ | exact List.Sublist.refl _ | refine List.Sublist.cons_cons _ ?_ | refine List.Sublist.cons _ ?_ | refine List.Sublist.trans ?_ (List.sublist_append_right _ _)))) ?_
    refine TX.step [5] (by kernel_rfl) (by decide) ⟨⟨_, rfl, ?_⟩, trivial⟩
    refine TL.storeAgg rfl rfl Tb.cells_23 (by repeat (first | exact Upd.head _ | apply Upd.tail | apply Upd.appR)) rfl rfl rfl rfl rfl ?_
    refine TL.nil ?_
    refine TX.next (.inl (by repeat (first | exact List.Sublist.slnil | exact List.nil_sublist _ | exact List.Sublist.refl _ | refine List.Sublist.cons_cons _ ?_ | refine List.Sublist.cons _ ?_ | refine List.Sublist.trans ?_ (List.sublist_append_right _ _)))) ?_
    refine TX.step [6] (by kernel_rfl) (by decide) ⟨⟨_, rfl, ?_⟩, trivial⟩
    refine TL.pure (PV.assign rfl) rfl (by decide) ?_
    refine TL.nil ?_
    refine TX.next (.inr (by kernel_rfl)) ?_
    refine TX.step [7] (by kernel_rfl) (by decide) ⟨⟨_, rfl, ?_⟩, trivial⟩
    refine TL.pure (PV.assign rfl) rfl (by decide) ?_
    refine TL.nil ?_
    refine TX.next (.inr (by kernel_rfl)) ?_
    refine TX.done (by kernel_rfl) ?_
    refine TQ.thenC ?_
    refine TC.ret ?_
    refine TQ.retR rfl (Res.agg rfl Tb.agg_23 (by repeat (first | exact List.Mem.head _ | refine List.Mem.tail _ ?_ | refine List.mem_append_right _ ?_)) rfl (Res.tmp rfl (Res.tmp rfl Res.nil))) ?_
    simp only [tup]
    exact ⟨(), by simp only [zM_ok ho hS, hzv, hgv]; rfl, trivial, List.nil_sublist _⟩

set_option maxRecDepth 100000 in
theorem Mirror_ok (w0 : World) (ht : TzAt w0) (r c k w9 : Int) :
    Calls Tryd.prog 50 #[.agg #[.int .i64 r, .int .i64 c, .int .i64 k], .int .i64 w9] w0 (Post (X := Unit) (fun _ => .tuple #[.int .i64 (zI r c k w9 (Mo.im (Mo.mD r c k) (Mo.mi (Mo.mD r c k)) w9.toNat : Nat)), .int .i64 (gI r c k w9)]) (fun _ => True) (fun _ => []) w0) := by
  refine calls Tryd.func50 rfl (n := 19) rfl (by simp) ?_
  refine TC.seq ?_
  refine TC.region ?_
  refine TL.box rfl rfl (by decide) (fun b0 hb0 => ?_)
  refine TL.pure (PV.assign rfl) rfl (by decide) ?_
  refine TL.pure (PV.assign rfl) rfl (by decide) ?_
  refine TL.nil ?_
  refine TQ.thenC ?_
  refine TC.seq ?_
  refine TC.seq ?_
  refine TC.region ?_
  refine TL.pure (PV.loadBox rfl Tb.agg_23 (by repeat (first | exact List.Mem.head _ | refine List.Mem.tail _ ?_ | refine List.mem_append_right _ ?_)) rfl) rfl (by decide) ?_
  refine TL.pure (PV.move rfl) rfl (by decide) ?_
  refine TL.call rfl Tb.gofn_64 (fun a w hs => validateSet_ok w _ _ _ _) rfl (by decide) (fun _ _ => ?_)
  refine TL.pure (PV.assign rfl) rfl (by decide) ?_
  refine TL.nil ?_
  refine TQ.thenC ?_
  refine TC.seq ?_
  refine TC.region ?_
  refine TL.pure (PV.move rfl) rfl (by decide) ?_
  refine TL.pure (PV.neq rfl rfl) rfl (by decide) ?_
  refine TL.nil ?_
  refine TQ.thenC ?_
  first | refine TC.condD rfl (fun hv => ?_) (fun hv => ?_) | refine TC.cond rfl (fun hv => ?_) (fun hv => ?_)
  · skip
    refine TC.seq ?_
    refine TC.region ?_
    refine TL.pure (PV.move rfl) rfl (by decide) ?_
    refine TL.pure (PV.assign rfl) rfl (by decide) ?_
    refine TL.pure (PV.assign rfl) rfl (by decide) ?_
    refine TL.nil ?_
    refine TQ.thenC ?_
    refine TC.ret ?_
    refine TQ.thenR ?_
    refine TQ.retE2 rfl rfl rfl ?_
    exact ⟨(), by simp only [zI_no hv, zB_no hv], trivial, List.nil_sublist _⟩
  · skip
    obtain ⟨m, S, ho, hS, rfl, rfl, rfl, rfl⟩ := gI_is (show gI r c k w9 = 0 by omega)
    have hN := ho.N36
    have hS63 := set63 ho hS
    have hzv := zI_ok ho hS
    have hbv := zB_ok ho hS
    have hgv := gI_ok ho hS
    refine TC.skip ?_
    refine TQ.thenC ?_
    refine TC.seq ?_
    refine TC.region ?_
    refine TL.pure (PV.makeFunc rfl) rfl (by decide) ?_
    refine TL.pure (PV.assign rfl) rfl (by decide) ?_
    refine TL.nil ?_
    refine TQ.thenC ?_
    refine TC.seq ?_
    refine TC.region ?_
    refine TL.pure (PV.loadBox rfl Tb.agg_23 (by repeat (first | exact List.Mem.head _ | refine List.Mem.tail _ ?_ | refine List.mem_append_right _ ?_)) rfl) rfl (by decide) ?_
    refine TL.pure (PV.move rfl) rfl (by decide) ?_
    refine TL.pure (PV.move rfl) rfl (by decide) ?_
    refine TL.call rfl Tb.gofn_86 (fun a w hs => moved_ok w (ht.new hs.new) m ho S hS 87 [.pointer (some ⟨b0, 0, none⟩)] (Mo.mi m) (mi_lt ho) Tb.gofn_87 (fun w2 G2 hn2 q hq => mirrorF_ok w2 m ho q hq b0 (box_at (hs.new.trans hn2) (by repeat (first | exact List.Mem.head _ | refine List.Mem.tail _ ?_ | refine List.mem_append_right _ ?_))))) rfl (by decide) (fun _ _ => ?_)
    refine TL.pure (PV.assign rfl) rfl (by decide) ?_
    refine TL.pure (PV.assign rfl) rfl (by decide) ?_
    refine TL.nil ?_
    refine TQ.thenC ?_
    refine TC.ret ?_
    refine TQ.retE2 rfl rfl rfl ?_
    exact ⟨(), by simp only [hzv, hbv, hgv]; rfl, trivial, List.nil_sublist _⟩

set_option maxRecDepth 100000 in
set_option maxHeartbeats 1000000 in
theorem rTurn_ok (w0 : World) (r c k w9 : Int) :
    Calls Tryd.prog 49 #[.agg #[.int .i64 r, .int .i64 c, .int .i64 k], .int .i64 w9] w0 (Post (X := Unit) (fun _ => .tuple #[zM r c k w9, .int .i64 (zI r c k w9 (Mo.im (Mo.mD r c k) (Mo.tu (Mo.mD r c k)) w9.toNat : Nat)), .int .i64 (gI r c k w9)]) (fun _ => True) (fun _ => []) w0) := by
  refine calls Tryd.func49 rfl (n := 54) rfl (by simp) ?_
  refine TC.seq ?_
  refine TC.region ?_
  refine TL.box rfl rfl (by decide) (fun b0 hb0 => ?_)
  refine TL.alloc Tb.zero_23 rfl (by decide) (fun b1 hb1 => ?_)
  refine TL.pure (PV.assign rfl) rfl (by decide) ?_
  refine TL.pure (PV.assign rfl) rfl (by decide) ?_
  refine TL.nil ?_
  refine TQ.thenC ?_
  refine TC.seq ?_
  refine TC.region ?_
  refine TL.pure (PV.loadBox rfl Tb.agg_23 (by repeat (first | exact List.Mem.head _ | refine List.Mem.tail _ ?_ | refine List.mem_append_right _ ?_)) rfl) rfl (by decide) ?_
  refine TL.pure (PV.move rfl) rfl (by decide) ?_
  refine TL.call rfl Tb.gofn_66 (fun a w hs => given_ok w _ _ _ _) rfl (by decide) (fun _ _ => ?_)
  refine TL.pure (PV.assign rfl) rfl (by decide) ?_
  refine TL.nil ?_
  refine TQ.thenC ?_
  refine TC.seq ?_
  refine TC.seq ?_
  refine TC.region ?_
  refine TL.pure (PV.move rfl) rfl (by decide) ?_
  refine TL.pure (PV.neq rfl rfl) rfl (by decide) ?_
  refine TL.nil ?_
  refine TQ.thenC ?_
  first | refine TC.condD rfl (fun hv => ?_) (fun hv => ?_) | refine TC.cond rfl (fun hv => ?_) (fun hv => ?_)
  · skip
    refine TC.seq ?_
    refine TC.region ?_
    refine TL.pure (PV.build rfl Tb.zero_23 Tb.pl_23 rfl) rfl (by decide) ?_
    refine TL.pure (PV.move rfl) rfl (by decide) ?_
    refine TL.storeAgg rfl rfl Tb.cells_23 (by repeat (first | exact Upd.head _ | apply Upd.tail | apply Upd.appR)) rfl rfl rfl rfl rfl ?_
    refine TL.pure (PV.assign rfl) rfl (by decide) ?_
    refine TL.pure (PV.assign rfl) rfl (by decide) ?_
    refine TL.nil ?_
    refine TQ.thenC ?_
    refine TC.ret ?_
    refine TQ.thenR ?_
    refine TQ.retR rfl (Res.agg rfl Tb.agg_23 (by repeat (first | exact List.Mem.head _ | refine List.Mem.tail _ ?_ | refine List.mem_append_right _ ?_)) rfl (Res.tmp rfl (Res.tmp rfl Res.nil))) ?_
    simp only [tup]
    exact ⟨(), by simp only [zM_no hv, zI_no hv], trivial, List.nil_sublist _⟩
  · skip
    obtain ⟨m, S, ho, hS, rfl, rfl, rfl, rfl⟩ := gI_is (show gI r c k w9 = 0 by omega)
    have hN := ho.N36
    have hS63 := set63 ho hS
    have hzv := zI_ok ho hS
    have hbv := zB_ok ho hS
    have hgv := gI_ok ho hS
    have hf63 : ∀ k, k ≤ m.N → Mo.img (Mo.tu m) S k < 9223372036854775808 := fun k hk => set63 ho (img_lt (tu_lt ho) k hk)
    have hR6 := ho.R6
    have hC6 := ho.C6
    have hC1 := ho.C1
    refine TC.skip ?_
    refine TQ.thenC ?_
    refine TC.seq ?_
    refine TC.region ?_
    refine TL.pure (PV.assign rfl) rfl (by decide) ?_
    refine TL.nil ?_
    refine TQ.thenC ?_
    refine TC.seq ?_
    refine TC.seq ?_
    refine TC.region ?_
    refine TL.pure (PV.assign rfl) rfl (by decide) ?_
    refine TL.nil ?_
    refine TQ.thenC ?_
    refine TC.block ?_
    refine TC.loopK [1, 2, 4, 5, 6] (X := Nat) (fun x => x ≤ m.N) (fun x => [(8, .int .i64 (Mo.img (Mo.tu m) S x : Nat)), (9, .int .i64 x)]) (fun x => [(b1, Obj.cells #[.int .i64 0, .int .i64 0, .int .i64 0] 23 (0, 0)), (b0, Obj.cells #[.int .i64 m.R, .int .i64 m.C, .int .i64 m.K] 23 (0, 0))]) (fun x => m.N - x) 0 (Nat.zero_le _) (by repeat (first | exact True.intro | refine And.intro rfl ?_)) (by repeat (first | exact List.Sublist.slnil | exact List.nil_sublist _ | exact List.Sublist.refl _ | refine List.Sublist.cons_cons _ ?_ | refine List.Sublist.cons _ ?_ | refine List.Sublist.trans ?_ (List.sublist_append_right _ _))) ?_
    intro x hx9
    refine TC.seq ?_
    refine TC.seq ?_
    refine TC.region ?_
    refine TL.pure (PV.move rfl) rfl (by decide) ?_
    refine TL.pure (PV.loadBox rfl Tb.agg_23 (by repeat (first | exact List.Mem.head _ | refine List.Mem.tail _ ?_ | refine List.mem_append_right _ ?_)) rfl) rfl (by decide) ?_
    refine TL.call rfl Tb.gofn_61 (fun a w hs => rsquares_ok w m ho) rfl (by decide) (fun _ _ => ?_)
    refine TL.pure (PV.lss rfl rfl) rfl (by decide) ?_
    refine TL.nil ?_
    refine TQ.thenC ?_
    first | refine TC.condD rfl (fun hlt => ?_) (fun hlt => ?_) | refine TC.cond rfl (fun hlt => ?_) (fun hlt => ?_)
    · skip
      refine TC.skip ?_
      refine TQ.thenC ?_
      refine TC.seq ?_
      refine TC.block ?_
      refine TC.seq ?_
      refine TC.region ?_
      refine TL.pure (PV.move rfl) rfl (by decide) ?_
      refine TL.pure (PV.move rfl) rfl (by decide) ?_
      refine TL.call rfl Tb.gofn_31 (fun a w hs => rHas_ok w S _ hS63 (by omega)) rfl (by decide) (fun _ _ => ?_)
      refine TL.nil ?_
      refine TQ.thenC ?_
      first | refine TC.condD rfl (fun hb => ?_) (fun hb => ?_) | refine TC.cond rfl (fun hb => ?_) (fun hb => ?_)
      · skip
        have hxN : x < m.N := by omega
        have htu := tu_lt ho x hxN
        have hti := tu_int2 ho hxN
        have hrc := row_col ho hxN
        have hq0 : (0 : Int) ≤ (x : Int) / (m.C : Int) := Int.ediv_nonneg (by omega) (by omega)
        have hq1 : (0 : Int) ≤ (x : Int) % (m.C : Int) := Int.emod_nonneg _ (by omega)
        have hm6 := mul_66 (a := ((x % m.C : Nat) : Int)) (b := 0) (by omega) hR6
        refine TC.draw 20 Tb.mixed (by kernel_rfl) ?_
        simp only [List.take_succ_cons, List.take_zero, List.drop_succ_cons, List.drop_zero]
        refine TS.pure (PV.move rfl) rfl (by decide) ?_
        refine TS.pure (PV.move rfl) rfl (by decide) ?_
        refine TS.pure (PV.fieldAddr rfl Tb.fo_23_1) rfl (by decide) ?_
        refine TS.pure (PV.load rfl Tb.one_3 (by repeat (first | exact List.Mem.head _ | refine List.Mem.tail _ ?_ | refine List.mem_append_right _ ?_)) rfl) rfl (by decide) ?_
        refine TS.pure (PV.remN rfl rfl (by omega) (by omega)) rfl (by decide) ?_
        refine TS.pure (PV.fieldAddr rfl Tb.fo_23_0) rfl (by decide) ?_
        refine TS.pure (PV.load rfl Tb.one_3 (by repeat (first | exact List.Mem.head _ | refine List.Mem.tail _ ?_ | refine List.mem_append_right _ ?_)) rfl) rfl (by decide) ?_
        refine TS.pure (PV.mul rfl rfl (by omega)) rfl (by decide) ?_
        refine TS.pure (PV.fieldAddr rfl Tb.fo_23_0) rfl (by decide) ?_
        refine TS.pure (PV.load rfl Tb.one_3 (by repeat (first | exact List.Mem.head _ | refine List.Mem.tail _ ?_ | refine List.mem_append_right _ ?_)) rfl) rfl (by decide) ?_
        refine TS.pure (PV.add rfl rfl (by omega)) rfl (by decide) ?_
        refine TS.pure (PV.sub rfl rfl (by omega)) rfl (by decide) ?_
        refine TS.pure (PV.move rfl) rfl (by decide) ?_
        refine TS.pure (PV.fieldAddr rfl Tb.fo_23_1) rfl (by decide) ?_
        refine TS.pure (PV.load rfl Tb.one_3 (by repeat (first | exact List.Mem.head _ | refine List.Mem.tail _ ?_ | refine List.mem_append_right _ ?_)) rfl) rfl (by decide) ?_
        refine TS.pure (PV.quoN rfl rfl (by omega) (by omega)) rfl (by decide) ?_
        refine TS.pure (PV.sub rfl rfl (by omega)) rfl (by decide) ?_
        refine TS.pure (PV.conv Tb.int_3 Tb.int_43 rfl ((congrArg IntKind.u64.wrap hti).trans (conv_u (by omega)))) rfl (by decide) ?_
        refine TS.pure (PV.shlK rfl rfl (by omega) (by omega) (shl_nat (by omega))) rfl (by decide) ?_
        refine TS.pure (PV.orK rfl rfl (i64_or_nat (hf63 x (by omega)) (p63 (by omega)))) rfl (by decide) ?_
        refine TS.nil ?_
        refine TL.pure (PV.assign rfl) rfl (by decide) ?_
        refine TL.nil ?_
        refine TQ.blkN ?_
        refine TQ.thenC ?_
        refine TC.region ?_
        refine TL.pure (PV.move rfl) rfl (by decide) ?_
        refine TL.pure (PV.add rfl rfl (by omega)) rfl (by decide) ?_
        refine TL.pure (PV.assign rfl) rfl (by decide) ?_
        refine TL.nil ?_
        refine TQ.thenN ?_
        refine TQ.backK (x + 1) (by refine And.intro ?_ (And.intro rfl True.intro); show some _ = some _; first | rw [img_yes hb] | rw [img_no hb]) (by repeat (first | exact True.intro | refine And.intro rfl ?_)) (by repeat (first | exact List.Sublist.slnil | exact List.nil_sublist _ | exact List.Sublist.refl _ | refine List.Sublist.cons_cons _ ?_ | refine List.Sublist.cons _ ?_ | refine List.Sublist.trans ?_ (List.sublist_append_right _ _))) (by omega) (by omega)
      · skip
        refine TC.skip ?_
        refine TQ.blkN ?_
        refine TQ.thenC ?_
        refine TC.region ?_
        refine TL.pure (PV.move rfl) rfl (by decide) ?_
        refine TL.pure (PV.add rfl rfl (by omega)) rfl (by decide) ?_
        refine TL.pure (PV.assign rfl) rfl (by decide) ?_
        refine TL.nil ?_
        refine TQ.thenN ?_
        refine TQ.backK (x + 1) (by refine And.intro ?_ (And.intro rfl True.intro); show some _ = some _; first | rw [img_yes hb] | rw [img_no hb]) (by repeat (first | exact True.intro | refine And.intro rfl ?_)) (by repeat (first | exact List.Sublist.slnil | exact List.nil_sublist _ | exact List.Sublist.refl _ | refine List.Sublist.cons_cons _ ?_ | refine List.Sublist.cons _ ?_ | refine List.Sublist.trans ?_ (List.sublist_append_right _ _))) (by omega) (by omega)
    · skip
      refine TC.exit ?_
      refine TQ.thenE ?_
      refine TQ.thenE ?_
      refine TQ.blkS ?_
      refine TQ.thenC ?_
      refine TC.seq ?_
      have hxe : x = m.N := by omega
      refine TC.region ?_
      refine TL.pure (PV.fieldAddr rfl Tb.fo_23_1) rfl (by decide) ?_
      refine TL.pure (PV.load rfl Tb.one_3 (by repeat (first | exact List.Mem.head _ | refine List.Mem.tail _ ?_ | refine List.mem_append_right _ ?_)) rfl) rfl (by decide) ?_
      refine TL.pure (PV.fieldAddr rfl Tb.fo_23_0) rfl (by decide) ?_
      refine TL.pure (PV.load rfl Tb.one_3 (by repeat (first | exact List.Mem.head _ | refine List.Mem.tail _ ?_ | refine List.mem_append_right _ ?_)) rfl) rfl (by decide) ?_
      refine TL.pure (PV.fieldAddr rfl Tb.fo_23_2) rfl (by decide) ?_
      refine TL.pure (PV.load rfl Tb.one_3 (by repeat (first | exact List.Mem.head _ | refine List.Mem.tail _ ?_ | refine List.mem_append_right _ ?_)) rfl) rfl (by decide) ?_
      refine TL.pure (PV.build rfl Tb.zero_23 Tb.pl_23 rfl) rfl (by decide) ?_
      refine TL.pure (PV.move rfl) rfl (by decide) ?_
      refine TL.storeAgg rfl rfl Tb.cells_23 (by repeat (first | exact Upd.head _ | apply Upd.tail | apply Upd.appR)) rfl rfl rfl rfl rfl ?_
      refine TL.pure (PV.assign rfl) rfl (by decide) ?_
      refine TL.pure (PV.assign rfl) rfl (by decide) ?_
      refine TL.nil ?_
      refine TQ.thenC ?_
      refine TC.ret ?_
      refine TQ.retR rfl (Res.agg rfl Tb.agg_23 (by repeat (first | exact List.Mem.head _ | refine List.Mem.tail _ ?_ | refine List.mem_append_right _ ?_)) rfl (Res.tmp rfl (Res.tmp rfl Res.nil))) ?_
      simp only [tup]
      exact ⟨(), by simp only [zM_ok ho hS, hzv, hgv]; rw [hxe]; rfl, trivial, List.nil_sublist _⟩

set_option maxRecDepth 100000 in
set_option maxHeartbeats 1000000 in
theorem rMirror_ok (w0 : World) (r c k w9 : Int) :
    Calls Tryd.prog 51 #[.agg #[.int .i64 r, .int .i64 c, .int .i64 k], .int .i64 w9] w0 (Post (X := Unit) (fun _ => .tuple #[.int .i64 (zI r c k w9 (Mo.im (Mo.mD r c k) (Mo.mi (Mo.mD r c k)) w9.toNat : Nat)), .int .i64 (gI r c k w9)]) (fun _ => True) (fun _ => []) w0) := by
  refine calls Tryd.func51 rfl (n := 45) rfl (by simp) ?_
  refine TC.seq ?_
  refine TC.region ?_
  refine TL.box rfl rfl (by decide) (fun b0 hb0 => ?_)
  refine TL.pure (PV.assign rfl) rfl (by decide) ?_
  refine TL.pure (PV.assign rfl) rfl (by decide) ?_
  refine TL.nil ?_
  refine TQ.thenC ?_
  refine TC.seq ?_
  refine TC.region ?_
  refine TL.pure (PV.loadBox rfl Tb.agg_23 (by repeat (first | exact List.Mem.head _ | refine List.Mem.tail _ ?_ | refine List.mem_append_right _ ?_)) rfl) rfl (by decide) ?_
  refine TL.pure (PV.move rfl) rfl (by decide) ?_
  refine TL.call rfl Tb.gofn_66 (fun a w hs => given_ok w _ _ _ _) rfl (by decide) (fun _ _ => ?_)
  refine TL.pure (PV.assign rfl) rfl (by decide) ?_
  refine TL.nil ?_
  refine TQ.thenC ?_
  refine TC.seq ?_
  refine TC.seq ?_
  refine TC.region ?_
  refine TL.pure (PV.move rfl) rfl (by decide) ?_
  refine TL.pure (PV.neq rfl rfl) rfl (by decide) ?_
  refine TL.nil ?_
  refine TQ.thenC ?_
  first | refine TC.condD rfl (fun hv => ?_) (fun hv => ?_) | refine TC.cond rfl (fun hv => ?_) (fun hv => ?_)
  · skip
    refine TC.seq ?_
    refine TC.region ?_
    refine TL.pure (PV.move rfl) rfl (by decide) ?_
    refine TL.pure (PV.assign rfl) rfl (by decide) ?_
    refine TL.pure (PV.assign rfl) rfl (by decide) ?_
    refine TL.nil ?_
    refine TQ.thenC ?_
    refine TC.ret ?_
    refine TQ.thenR ?_
    refine TQ.retE2 rfl rfl rfl ?_
    exact ⟨(), by simp only [zI_no hv, zB_no hv], trivial, List.nil_sublist _⟩
  · skip
    obtain ⟨m, S, ho, hS, rfl, rfl, rfl, rfl⟩ := gI_is (show gI r c k w9 = 0 by omega)
    have hN := ho.N36
    have hS63 := set63 ho hS
    have hzv := zI_ok ho hS
    have hbv := zB_ok ho hS
    have hgv := gI_ok ho hS
    have hf63 : ∀ k, k ≤ m.N → Mo.img (Mo.mi m) S k < 9223372036854775808 := fun k hk => set63 ho (img_lt (mi_lt ho) k hk)
    have hR6 := ho.R6
    have hC6 := ho.C6
    have hC1 := ho.C1
    refine TC.skip ?_
    refine TQ.thenC ?_
    refine TC.seq ?_
    refine TC.region ?_
    refine TL.pure (PV.assign rfl) rfl (by decide) ?_
    refine TL.nil ?_
    refine TQ.thenC ?_
    refine TC.seq ?_
    refine TC.seq ?_
    refine TC.region ?_
    refine TL.pure (PV.assign rfl) rfl (by decide) ?_
    refine TL.nil ?_
    refine TQ.thenC ?_
    refine TC.block ?_
    refine TC.loopK [1, 2, 4, 5] (X := Nat) (fun x => x ≤ m.N) (fun x => [(7, .int .i64 (Mo.img (Mo.mi m) S x : Nat)), (8, .int .i64 x)]) (fun x => [(b0, Obj.cells #[.int .i64 m.R, .int .i64 m.C, .int .i64 m.K] 23 (0, 0))]) (fun x => m.N - x) 0 (Nat.zero_le _) (by repeat (first | exact True.intro | refine And.intro rfl ?_)) (by repeat (first | exact List.Sublist.slnil | exact List.nil_sublist _ | exact List.Sublist.refl _ | refine List.Sublist.cons_cons _ ?_ | refine List.Sublist.cons _ ?_ | refine List.Sublist.trans ?_ (List.sublist_append_right _ _))) ?_
    intro x hx9
    refine TC.seq ?_
    refine TC.seq ?_
    refine TC.region ?_
    refine TL.pure (PV.move rfl) rfl (by decide) ?_
    refine TL.pure (PV.loadBox rfl Tb.agg_23 (by repeat (first | exact List.Mem.head _ | refine List.Mem.tail _ ?_ | refine List.mem_append_right _ ?_)) rfl) rfl (by decide) ?_
    refine TL.call rfl Tb.gofn_61 (fun a w hs => rsquares_ok w m ho) rfl (by decide) (fun _ _ => ?_)
    refine TL.pure (PV.lss rfl rfl) rfl (by decide) ?_
    refine TL.nil ?_
    refine TQ.thenC ?_
    first | refine TC.condD rfl (fun hlt => ?_) (fun hlt => ?_) | refine TC.cond rfl (fun hlt => ?_) (fun hlt => ?_)
    · skip
      refine TC.skip ?_
      refine TQ.thenC ?_
      refine TC.seq ?_
      refine TC.block ?_
      refine TC.seq ?_
      refine TC.region ?_
      refine TL.pure (PV.move rfl) rfl (by decide) ?_
      refine TL.pure (PV.move rfl) rfl (by decide) ?_
      refine TL.call rfl Tb.gofn_31 (fun a w hs => rHas_ok w S _ hS63 (by omega)) rfl (by decide) (fun _ _ => ?_)
      refine TL.nil ?_
      refine TQ.thenC ?_
      first | refine TC.condD rfl (fun hb => ?_) (fun hb => ?_) | refine TC.cond rfl (fun hb => ?_) (fun hb => ?_)
      · skip
        have hxN : x < m.N := by omega
        have hmi := mi_lt ho x hxN
        have hti := mi_int2 ho hxN
        have hrc := row_col ho hxN
        have hq0 : (0 : Int) ≤ (x : Int) / (m.C : Int) := Int.ediv_nonneg (by omega) (by omega)
        have hq1 : (0 : Int) ≤ (x : Int) % (m.C : Int) := Int.emod_nonneg _ (by omega)
        have hm6 := mul_66 (a := ((x / m.C : Nat) : Int)) (b := 0) (by omega) hC6
        refine TC.draw 20 Tb.mixed (by kernel_rfl) ?_
        simp only [List.take_succ_cons, List.take_zero, List.drop_succ_cons, List.drop_zero]
        refine TS.pure (PV.move rfl) rfl (by decide) ?_
        refine TS.pure (PV.move rfl) rfl (by decide) ?_
        refine TS.pure (PV.fieldAddr rfl Tb.fo_23_1) rfl (by decide) ?_
        refine TS.pure (PV.load rfl Tb.one_3 (by repeat (first | exact List.Mem.head _ | refine List.Mem.tail _ ?_ | refine List.mem_append_right _ ?_)) rfl) rfl (by decide) ?_
        refine TS.pure (PV.quoN rfl rfl (by omega) (by omega)) rfl (by decide) ?_
        refine TS.pure (PV.fieldAddr rfl Tb.fo_23_1) rfl (by decide) ?_
        refine TS.pure (PV.load rfl Tb.one_3 (by repeat (first | exact List.Mem.head _ | refine List.Mem.tail _ ?_ | refine List.mem_append_right _ ?_)) rfl) rfl (by decide) ?_
        refine TS.pure (PV.mul rfl rfl (by omega)) rfl (by decide) ?_
        refine TS.pure (PV.fieldAddr rfl Tb.fo_23_1) rfl (by decide) ?_
        refine TS.pure (PV.load rfl Tb.one_3 (by repeat (first | exact List.Mem.head _ | refine List.Mem.tail _ ?_ | refine List.mem_append_right _ ?_)) rfl) rfl (by decide) ?_
        refine TS.pure (PV.add rfl rfl (by omega)) rfl (by decide) ?_
        refine TS.pure (PV.sub rfl rfl (by omega)) rfl (by decide) ?_
        refine TS.pure (PV.move rfl) rfl (by decide) ?_
        refine TS.pure (PV.fieldAddr rfl Tb.fo_23_1) rfl (by decide) ?_
        refine TS.pure (PV.load rfl Tb.one_3 (by repeat (first | exact List.Mem.head _ | refine List.Mem.tail _ ?_ | refine List.mem_append_right _ ?_)) rfl) rfl (by decide) ?_
        refine TS.pure (PV.remN rfl rfl (by omega) (by omega)) rfl (by decide) ?_
        refine TS.pure (PV.sub rfl rfl (by omega)) rfl (by decide) ?_
        refine TS.pure (PV.conv Tb.int_3 Tb.int_43 rfl ((congrArg IntKind.u64.wrap hti).trans (conv_u (by omega)))) rfl (by decide) ?_
        refine TS.pure (PV.shlK rfl rfl (by omega) (by omega) (shl_nat (by omega))) rfl (by decide) ?_
        refine TS.pure (PV.orK rfl rfl (i64_or_nat (hf63 x (by omega)) (p63 (by omega)))) rfl (by decide) ?_
        refine TS.nil ?_
        refine TL.pure (PV.assign rfl) rfl (by decide) ?_
        refine TL.nil ?_
        refine TQ.blkN ?_
        refine TQ.thenC ?_
        refine TC.region ?_
        refine TL.pure (PV.move rfl) rfl (by decide) ?_
        refine TL.pure (PV.add rfl rfl (by omega)) rfl (by decide) ?_
        refine TL.pure (PV.assign rfl) rfl (by decide) ?_
        refine TL.nil ?_
        refine TQ.thenN ?_
        refine TQ.backK (x + 1) (by refine And.intro ?_ (And.intro rfl True.intro); show some _ = some _; first | rw [img_yes hb] | rw [img_no hb]) (by repeat (first | exact True.intro | refine And.intro rfl ?_)) (by repeat (first | exact List.Sublist.slnil | exact List.nil_sublist _ | exact List.Sublist.refl _ | refine List.Sublist.cons_cons _ ?_ | refine List.Sublist.cons _ ?_ | refine List.Sublist.trans ?_ (List.sublist_append_right _ _))) (by omega) (by omega)
      · skip
        refine TC.skip ?_
        refine TQ.blkN ?_
        refine TQ.thenC ?_
        refine TC.region ?_
        refine TL.pure (PV.move rfl) rfl (by decide) ?_
        refine TL.pure (PV.add rfl rfl (by omega)) rfl (by decide) ?_
        refine TL.pure (PV.assign rfl) rfl (by decide) ?_
        refine TL.nil ?_
        refine TQ.thenN ?_
        refine TQ.backK (x + 1) (by refine And.intro ?_ (And.intro rfl True.intro); show some _ = some _; first | rw [img_yes hb] | rw [img_no hb]) (by repeat (first | exact True.intro | refine And.intro rfl ?_)) (by repeat (first | exact List.Sublist.slnil | exact List.nil_sublist _ | exact List.Sublist.refl _ | refine List.Sublist.cons_cons _ ?_ | refine List.Sublist.cons _ ?_ | refine List.Sublist.trans ?_ (List.sublist_append_right _ _))) (by omega) (by omega)
    · skip
      refine TC.exit ?_
      refine TQ.thenE ?_
      refine TQ.thenE ?_
      refine TQ.blkS ?_
      refine TQ.thenC ?_
      refine TC.seq ?_
      have hxe : x = m.N := by omega
      refine TC.region ?_
      refine TL.pure (PV.move rfl) rfl (by decide) ?_
      refine TL.pure (PV.assign rfl) rfl (by decide) ?_
      refine TL.pure (PV.assign rfl) rfl (by decide) ?_
      refine TL.nil ?_
      refine TQ.thenC ?_
      refine TC.ret ?_
      refine TQ.retE2 rfl rfl rfl ?_
      exact ⟨(), by simp only [hzv, hgv]; rw [hxe]; rfl, trivial, List.nil_sublist _⟩

end Go.Proofs.YtaeobkgogipceaaDoor
