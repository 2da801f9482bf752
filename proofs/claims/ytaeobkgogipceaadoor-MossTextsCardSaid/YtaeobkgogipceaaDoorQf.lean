/- Edges, cores, lists of squares, orders: contracts. -/
import Derived.Test.YtaeobkgogipceaaDoorQe
set_option linter.unusedVariables false
set_option linter.unusedSimpArgs false
namespace Go.Proofs.YtaeobkgogipceaaDoor
open Go.Sx Go.RowKit

/-- The array of a list of squares. -/
def padA (l : List Nat) : Array Value := (ival (ofN l) ++ List.replicate (36 - l.length) (Value.int .i64 0)).toArray
theorem padA_set {l : List Nat} {q : Nat} (h : l.length < 36) : (padA l).setIfInBounds l.length (.int .i64 q) = padA (l ++ [q]) := by
  unfold padA
  obtain ⟨d, hd⟩ : ∃ d, 36 - l.length = d + 1 := ⟨36 - l.length - 1, by omega⟩
  rw [List.setIfInBounds_toArray, List.length_append, List.length_singleton, show 36 - (l.length + 1) = d by omega, hd, List.replicate_succ]
  have e : l.length = (ival (ofN l)).length := by simp [ival, ofN]
  conv => lhs; rw [e]
  rw [List.set_append_right _ _ (Nat.le_refl _), Nat.sub_self]
  simp [ival, ofN]
theorem padA_size {l : List Nat} (h : l.length ≤ 36) : (padA l).size = 36 := by
  unfold padA ival ofN
  simp
  omega
theorem padA_rd {l : List Nat} {b : Nat} : RdI (ofN l) (.slice (some ⟨b, 0, none⟩) l.length l.length, [(b, Obj.cells (padA l) 84 (0, 0))]) :=
  ⟨some ⟨b, 0, none⟩, l.length, by rw [List.length_map], fun _ => ⟨_, rfl⟩, fun w0 w G hn hm => IntsAt.blk (xs := ofN l) (sp := List.replicate (36 - l.length) (Value.int .i64 0)) (e := 84) hn (hm _ (.head _))⟩
/-- The error of a square. -/
def nE (r c k s : Int) : Int := if vI r c k = 0 then (if 0 ≤ s ∧ s < ((Mo.Md.N (Mo.mD r c k) : Nat) : Int) then 0 else 4) else vI r c k
def nL (r c k s : Int) : List Int := if nE r c k s = 0 then ofN (nbF (Mo.mD r c k) s.toNat (Mo.mD r c k).N) else []
theorem nE_v {r c k s : Int} (h : vI r c k ≠ 0) : nE r c k s = vI r c k := if_neg h
theorem nE_ok {m : Mo.Md} (ho : Mo.Ok m) (s : Int) : nE m.R m.C m.K s = if 0 ≤ s ∧ s < ((m.N : Nat) : Int) then 0 else 4 := if_pos (vI_ok ho)
theorem nL_no {r c k s : Int} (h : nE r c k s ≠ 0) : nL r c k s = [] := if_neg h
theorem nL_ok {m : Mo.Md} (ho : Mo.Ok m) {s : Nat} (hs : s < m.N) : nL m.R m.C m.K s = ofN (nbF m s m.N) := if_pos (by rw [nE_ok ho, if_pos (by omega)])
theorem sq_nbF {m : Mo.Md} (ho : Mo.Ok m) {s : Nat} (hs : s < m.N) : Mo.sqL (Mo.nb m s) = nbF m s m.N := Mo.sq_nb ho hs
theorem ord_lt {m : Mo.Md} (ho : Mo.Ok m) {S : Nat} (hS : S < 2 ^ m.N) : (Mo.ordL m S).length ≤ 36 := Nat.le_trans (Mo.ord_all ho hS).2.2 ho.N36


set_option maxRecDepth 100000 in
set_option maxHeartbeats 1000000 in
theorem Edge_ok (w0 : World) (ht : TzAt w0) (r c k w9 : Int) :
    Calls Tryd.prog 32 #[.agg #[.int .i64 r, .int .i64 c, .int .i64 k], .int .i64 w9] w0 (Post (X := Unit) (fun _ => .tuple #[.int .i64 (zI r c k w9 (Mo.edge (Mo.mD r c k) w9.toNat)), .int .i64 (gI r c k w9)]) (fun _ => True) (fun _ => []) w0) := by
  refine callsRF Tryd.func32 rfl (n := 26) rfl (by simp) ?_
  refine TC.seq ?_
  refine TC.region ?_
  refine TL.box rfl rfl (by decide) (fun b0 hb0 => ?_)
  refine TL.box rfl rfl (by decide) (fun b1 hb1 => ?_)
  refine TL.pure (PV.assign rfl) rfl (by decide) ?_
  refine TL.pure (PV.assign rfl) rfl (by decide) ?_
  refine TL.nil ?_
  refine TQ.thenC ?_
  refine TC.seq ?_
  refine TC.seq ?_
  refine TC.region ?_
  refine TL.pure (PV.loadBox rfl Tb.agg_23 (by repeat (first | exact List.Mem.head _ | refine List.Mem.tail _ ?_ | refine List.mem_append_right _ ?_)) rfl) rfl (by decide) ?_
  refine TL.pure (PV.load rfl Tb.one_3 (by repeat (first | exact List.Mem.head _ | refine List.Mem.tail _ ?_ | refine List.mem_append_right _ ?_)) rfl) rfl (by decide) ?_
  refine TL.call rfl Tb.gofn_64 (fun a w hs => validateSet_ok w _ _ _ _) rfl (by decide) (fun _ _ => ?_)
  refine TL.pure (PV.assign rfl) rfl (by decide) ?_
  refine TL.nil ?_
  refine TQ.thenC ?_
  refine TC.seq ?_
  refine TC.region ?_
  refine TL.pure (PV.move rfl) rfl (by decide) ?_
  refine TL.pure (PV.neq rfl rfl) rfl (by decide) ?_
  refine TL.nil ?_
  refine TQ.thenC ?_
  first | refine TC.condD rfl (fun hv => ?_) (fun hv => ?_) | refine TC.cond rfl (fun hv => ?_) (fun hv => ?_)
  · skip
    refine TC.seq ?_
    refine TC.region ?_
    refine TL.pure (PV.move rfl) rfl (by decide) ?_
    refine TL.pure (PV.assign rfl) rfl (by decide) ?_
    refine TL.pure (PV.assign rfl) rfl (by decide) ?_
    refine TL.nil ?_
    refine TQ.thenC ?_
    refine TC.ret ?_
    refine TQ.thenR ?_
    refine TQ.retM0 ?_
    refine TQ.retE2 rfl rfl rfl ?_
    exact ⟨(), by simp only [zI_no hv, zB_no hv], trivial, List.nil_sublist _⟩
  · skip
    obtain ⟨m, S, ho, hS, rfl, rfl, rfl, rfl⟩ := gI_is (show gI r c k w9 = 0 by omega)
    have hN := ho.N36
    have hS63 := set63 ho hS
    have hzv := zI_ok ho hS
    have hbv := zB_ok ho hS
    have hgv := gI_ok ho hS
    refine TC.skip ?_
    refine TQ.thenC ?_
    refine TC.seq ?_
    refine TC.region ?_
    refine TL.alloc Tb.zero_3 rfl (by decide) (fun b2 hb2 => ?_)
    refine TL.store rfl rfl Tb.cells_3 rfl (by repeat (first | exact Upd.head _ | apply Upd.tail | apply Upd.appR)) (by first | decide | (simp; done) | (simp; omega) | omega) rfl rfl ?_
    refine TL.nil ?_
    refine TQ.thenC ?_
    refine TC.seq ?_
    refine TC.seq ?_
    refine TC.region ?_
    refine TL.pure (PV.load rfl Tb.one_3 (by repeat (first | exact List.Mem.head _ | refine List.Mem.tail _ ?_ | refine List.mem_append_right _ ?_)) rfl) rfl (by decide) ?_
    refine TL.call rfl Tb.gofn_58 (fun a w hs => squares_ok w S) rfl (by decide) (fun bx hbx => ?_)
    refine TL.nil ?_
    refine TQ.thenC ?_
    refine TC.block ?_
    refine TC.rangeFunc (encs := fun s : Nat => [.int .i64 s]) (kept := [(bx, Obj.cells #[.int .i64 (S : Nat)] 3 (0, 0))]) (α := Nat) (X := Int) (Y := Unit) (Z := Int) (ps := [17]) (fun pre s => s = edS m S pre) (fun s => [(bx, Obj.cells #[.int .i64 (S : Nat)] 3 (0, 0)), (b2, Obj.cells #[.int .i64 s] 3 (0, 0)), (b1, Obj.cells #[.int .i64 (S : Nat)] 3 (0, 0)), (b0, Obj.cells #[.int .i64 m.R, .int .i64 m.C, .int .i64 m.K] 23 (0, 0))]) (fun pre y => False) (fun y => []) 0 (fun x s z => z = s) (fun x z => [(8, .int .i64 x), (2, .pointer (some ⟨b0, 0, none⟩)), (3, .pointer (some ⟨b1, 0, none⟩)), (7, .pointer (some ⟨b2, 0, none⟩))]) (fun x z => [(bx, Obj.cells #[.int .i64 (S : Nat)] 3 (0, 0)), (b2, Obj.cells #[.int .i64 z] 3 (0, 0)), (b1, Obj.cells #[.int .i64 (S : Nat)] 3 (0, 0)), (b0, Obj.cells #[.int .i64 m.R, .int .i64 m.C, .int .i64 m.K] 23 (0, 0))]) rfl Tb.gofn_95 (squares_it w0 ht S hS63 bx) (fun _ => rfl) (by decide) rfl (by repeat (first | exact List.Sublist.slnil | exact List.nil_sublist _ | exact List.Sublist.refl _ | refine List.Sublist.cons_cons _ ?_ | refine List.Sublist.cons _ ?_ | refine List.Sublist.trans ?_ (List.sublist_append_right _ _))) (fun s q hq => by simp only [List.mem_cons, List.not_mem_nil, or_false] at hq; subst hq; exact List.Mem.head _) ?_ ?_ ?_ ?_
    · skip
      intro lR TR pre x s hp_ hF_
      refine TG.region (by repeat (first | with_reducible exact RB.lo | with_reducible exact QN.lo | with_reducible exact bodyM_lo | with_reducible exact bodyP_lo | with_reducible apply lo_then | with_reducible apply lo_blk)) (by kernel_rfl) ?_
      refine TL.pure (PV.assign rfl) rfl (by decide) ?_
      refine TL.nil ?_
      refine TQ.gmid s rfl (by repeat (first | exact True.intro | refine And.intro rfl ?_)) (List.Sublist.refl _)
    · skip
      intro lR TR pre x s z hp_ hF_ hz_
      obtain rfl : s = z := hz_.symm
      have hmem := pre_mem hp_
      have hxN := sq_lt ho hS hmem
      have hpl := hp_.length_le
      rw [List.length_append, List.length_singleton] at hpl
      have hq36 := sq_len36 ho hS
      have hbd := edS_bd ho S pre (by omega)
      rw [← hF_] at hbd
      have hal := ar_le m S x
      refine TG.block ?_
      refine TG.mix (by repeat (first | with_reducible exact RB.lo | with_reducible exact QN.lo | with_reducible exact bodyM_lo | with_reducible exact bodyP_lo | with_reducible apply lo_then | with_reducible apply lo_blk)) (by kernel_rfl) [false, true, true, true, false, false, false, false] [(bx, Obj.cells #[.int .i64 (S : Nat)] 3 (0, 0)), (b1, Obj.cells #[.int .i64 (S : Nat)] 3 (0, 0)), (b0, Obj.cells #[.int .i64 m.R, .int .i64 m.C, .int .i64 m.K] 23 (0, 0))] 5 Tb.mixed rfl (by kernel_rfl) (by kernel_rfl) (by kernel_rfl) (by kernel_rfl) (by repeat (first | exact List.Sublist.slnil | exact List.nil_sublist _ | exact List.Sublist.refl _ | refine List.Sublist.cons_cons _ ?_ | refine List.Sublist.cons _ ?_ | refine List.Sublist.trans ?_ (List.sublist_append_right _ _))) ?_
      refine TB.no ?_
      refine TB.op (SOK.pure (PV.loadBox rfl Tb.agg_23 (by repeat (first | exact List.Mem.head _ | refine List.Mem.tail _ ?_ | refine List.mem_append_right _ ?_)) rfl) rfl) (by decide) ?_
      refine TB.op (SOK.pure (PV.move rfl) rfl) (by decide) ?_
      refine TB.op (SOK.pure (PV.load rfl Tb.one_3 (by repeat (first | exact List.Mem.head _ | refine List.Mem.tail _ ?_ | refine List.mem_append_right _ ?_)) rfl) rfl) (by decide) ?_
      refine TB.no ?_
      refine TB.no ?_
      refine TB.no ?_
      refine TB.no ?_
      refine TB.fin ?_
      refine TX.step [0, 4] (by kernel_rfl) (by decide) ⟨⟨_, rfl, ?_⟩, ⟨_, rfl, ?_⟩, trivial⟩
      · skip
        refine TL.pure (PV.load rfl Tb.one_3 (by repeat (first | exact List.Mem.head _ | refine List.Mem.tail _ ?_ | refine List.mem_append_right _ ?_)) rfl) rfl (by decide) ?_
        refine TL.nil ?_
        refine TX.next (.inl (by repeat (first | exact List.Sublist.slnil | exact List.nil_sublist _ | exact List.Sublist.refl _ | refine List.Sublist.cons_cons _ ?_ | refine List.Sublist.cons _ ?_ | refine List.Sublist.trans ?_ (List.sublist_append_right _ _)))) ?_
        refine TX.step [4] (by kernel_rfl) (by decide) ⟨⟨_, rfl, ?_⟩, trivial⟩
        refine TL.call rfl Tb.gofn_74 (fun a w hs => beside_ok w m ho _ hxN S hS63) rfl (by decide) (fun _ _ => ?_)
        refine TL.nil ?_
        refine TX.next (.inr (by kernel_rfl)) ?_
        refine TX.step [5] (by kernel_rfl) (by decide) ⟨⟨_, rfl, ?_⟩, trivial⟩
        refine TL.pure (PV.sub rfl rfl (by omega)) rfl (by decide) ?_
        refine TL.nil ?_
        refine TX.next (.inl (by repeat (first | exact List.Sublist.slnil | exact List.nil_sublist _ | exact List.Sublist.refl _ | refine List.Sublist.cons_cons _ ?_ | refine List.Sublist.cons _ ?_ | refine List.Sublist.trans ?_ (List.sublist_append_right _ _)))) ?_
        refine TX.step [6] (by kernel_rfl) (by decide) ⟨⟨_, rfl, ?_⟩, trivial⟩
        refine TL.pure (PV.add rfl rfl (by omega)) rfl (by decide) ?_
        refine TL.nil ?_
        refine TX.next (.inl (by repeat (first | exact List.Sublist.slnil | exact List.nil_sublist _ | exact List.Sublist.refl _ | refine List.Sublist.cons_cons _ ?_ | refine List.Sublist.cons _ ?_ | refine List.Sublist.trans ?_ (List.sublist_append_right _ _)))) ?_
        refine TX.step [7] (by kernel_rfl) (by decide) ⟨⟨_, rfl, ?_⟩, trivial⟩
        refine TL.store rfl rfl Tb.cells_3 rfl (by repeat (first | exact Upd.head _ | apply Upd.tail | apply Upd.appR)) (by first | decide | (simp; done) | (simp; omega) | omega) rfl rfl ?_
        refine TL.nil ?_
        refine TX.next (.inr (by kernel_rfl)) ?_
        refine TX.done (by kernel_rfl) ?_
        refine TQ.gblkN ?_
        refine TQ.goOn (s + (4 - ((Mo.ar m S x : Nat) : Int))) (by rw [edS_snoc, ← hF_]) (by repeat (first | exact List.Sublist.slnil | exact List.nil_sublist _ | exact List.Sublist.refl _ | refine List.Sublist.cons_cons _ ?_ | refine List.Sublist.cons _ ?_ | refine List.Sublist.trans ?_ (List.sublist_append_right _ _)))
      · skip
        refine TL.call rfl Tb.gofn_74 (fun a w hs => beside_ok w m ho _ hxN S hS63) rfl (by decide) (fun _ _ => ?_)
        refine TL.nil ?_
        refine TX.next (.inr (by kernel_rfl)) ?_
        refine TX.step [0, 5] (by kernel_rfl) (by decide) ⟨⟨_, rfl, ?_⟩, ⟨_, rfl, ?_⟩, trivial⟩
        · skip
          refine TL.pure (PV.load rfl Tb.one_3 (by repeat (first | exact List.Mem.head _ | refine List.Mem.tail _ ?_ | refine List.mem_append_right _ ?_)) rfl) rfl (by decide) ?_
          refine TL.nil ?_
          refine TX.next (.inl (by repeat (first | exact List.Sublist.slnil | exact List.nil_sublist _ | exact List.Sublist.refl _ | refine List.Sublist.cons_cons _ ?_ | refine List.Sublist.cons _ ?_ | refine List.Sublist.trans ?_ (List.sublist_append_right _ _)))) ?_
          refine TX.step [5] (by kernel_rfl) (by decide) ⟨⟨_, rfl, ?_⟩, trivial⟩
          refine TL.pure (PV.sub rfl rfl (by omega)) rfl (by decide) ?_
          refine TL.nil ?_
          refine TX.next (.inl (by repeat (first | exact List.Sublist.slnil | exact List.nil_sublist _ | exact List.Sublist.refl _ | refine List.Sublist.cons_cons _ ?_ | refine List.Sublist.cons _ ?_ | refine List.Sublist.trans ?_ (List.sublist_append_right _ _)))) ?_
          refine TX.step [6] (by kernel_rfl) (by decide) ⟨⟨_, rfl, ?_⟩, trivial⟩
          refine TL.pure (PV.add rfl rfl (by omega)) rfl (by decide) ?_
          refine TL.nil ?_
          refine TX.next (.inl (by repeat (first | exact List.Sublist.slnil | exact List.nil_sublist _ | exact List.Sublist.refl _ | refine List.Sublist.cons_cons _ ?_ | refine List.Sublist.cons _ ?_ | refine List.Sublist.trans ?_ (List.sublist_append_right _ _)))) ?_
          refine TX.step [7] (by kernel_rfl) (by decide) ⟨⟨_, rfl, ?_⟩, trivial⟩
          refine TL.store rfl rfl Tb.cells_3 rfl (by repeat (first | exact Upd.head _ | apply Upd.tail | apply Upd.appR)) (by first | decide | (simp; done) | (simp; omega) | omega) rfl rfl ?_
          refine TL.nil ?_
          refine TX.next (.inr (by kernel_rfl)) ?_
          refine TX.done (by kernel_rfl) ?_
          refine TQ.gblkN ?_
          refine TQ.goOn (s + (4 - ((Mo.ar m S x : Nat) : Int))) (by rw [edS_snoc, ← hF_]) (by repeat (first | exact List.Sublist.slnil | exact List.nil_sublist _ | exact List.Sublist.refl _ | refine List.Sublist.cons_cons _ ?_ | refine List.Sublist.cons _ ?_ | refine List.Sublist.trans ?_ (List.sublist_append_right _ _)))
        · skip
          refine TL.pure (PV.sub rfl rfl (by omega)) rfl (by decide) ?_
          refine TL.nil ?_
          refine TX.next (.inl (by repeat (first | exact List.Sublist.slnil | exact List.nil_sublist _ | exact List.Sublist.refl _ | refine List.Sublist.cons_cons _ ?_ | refine List.Sublist.cons _ ?_ | refine List.Sublist.trans ?_ (List.sublist_append_right _ _)))) ?_
          refine TX.step [0] (by kernel_rfl) (by decide) ⟨⟨_, rfl, ?_⟩, trivial⟩
          refine TL.pure (PV.load rfl Tb.one_3 (by repeat (first | exact List.Mem.head _ | refine List.Mem.tail _ ?_ | refine List.mem_append_right _ ?_)) rfl) rfl (by decide) ?_
          refine TL.nil ?_
          refine TX.next (.inl (by repeat (first | exact List.Sublist.slnil | exact List.nil_sublist _ | exact List.Sublist.refl _ | refine List.Sublist.cons_cons _ ?_ | refine List.Sublist.cons _ ?_ | refine List.Sublist.trans ?_ (List.sublist_append_right _ _)))) ?_
          refine TX.step [6] (by kernel_rfl) (by decide) ⟨⟨_, rfl, ?_⟩, trivial⟩
          refine TL.pure (PV.add rfl rfl (by omega)) rfl (by decide) ?_
          refine TL.nil ?_
          refine TX.next (.inl (by repeat (first | exact List.Sublist.slnil | exact List.nil_sublist _ | exact List.Sublist.refl _ | refine List.Sublist.cons_cons _ ?_ | refine List.Sublist.cons _ ?_ | refine List.Sublist.trans ?_ (List.sublist_append_right _ _)))) ?_
          refine TX.step [7] (by kernel_rfl) (by decide) ⟨⟨_, rfl, ?_⟩, trivial⟩
          refine TL.store rfl rfl Tb.cells_3 rfl (by repeat (first | exact Upd.head _ | apply Upd.tail | apply Upd.appR)) (by first | decide | (simp; done) | (simp; omega) | omega) rfl rfl ?_
          refine TL.nil ?_
          refine TX.next (.inr (by kernel_rfl)) ?_
          refine TX.done (by kernel_rfl) ?_
          refine TQ.gblkN ?_
          refine TQ.goOn (s + (4 - ((Mo.ar m S x : Nat) : Int))) (by rw [edS_snoc, ← hF_]) (by repeat (first | exact List.Sublist.slnil | exact List.nil_sublist _ | exact List.Sublist.refl _ | refine List.Sublist.cons_cons _ ?_ | refine List.Sublist.cons _ ?_ | refine List.Sublist.trans ?_ (List.sublist_append_right _ _)))
    · skip
      intro dB lB oB xs_ s hD_ hF_
      have hs9 : s = Mo.edge m S := by rw [hF_, hD_]; exact edS_all ho hS
      refine TQ.gblkN ?_
      refine TQ.thenD ?_
      refine TG.seq ?_
      refine TG.region (by repeat (first | with_reducible exact RB.lo | with_reducible exact QN.lo | with_reducible exact bodyM_lo | with_reducible exact bodyP_lo | with_reducible apply lo_then | with_reducible apply lo_blk)) (by kernel_rfl) ?_
      refine TL.pure (PV.load rfl Tb.one_3 (by repeat (first | exact List.Mem.head _ | refine List.Mem.tail _ ?_ | refine List.mem_append_right _ ?_)) rfl) rfl (by decide) ?_
      refine TL.pure (PV.assign rfl) rfl (by decide) ?_
      refine TL.pure (PV.assign rfl) rfl (by decide) ?_
      refine TL.nil ?_
      refine TQ.thenG ?_
      refine TG.ret ?_
      refine TQ.retM (by repeat (first | exact Take.head _ | apply Take.tail | apply Take.appR)) ?_
      refine TQ.retE2 rfl rfl rfl ?_
      exact ⟨(), by simp only [hzv, hgv]; rw [hs9]; rfl, trivial, List.nil_sublist _⟩
    · skip
      intro dB lB oB xs_ y hP_ hF_
      exact hF_.elim

set_option maxRecDepth 100000 in
theorem rEdge_ok (w0 : World) (r c k w9 : Int) :
    Calls Tryd.prog 33 #[.agg #[.int .i64 r, .int .i64 c, .int .i64 k], .int .i64 w9] w0 (Post (X := Unit) (fun _ => .tuple #[.int .i64 (zI r c k w9 (Mo.edge (Mo.mD r c k) w9.toNat)), .int .i64 (gI r c k w9)]) (fun _ => True) (fun _ => []) w0) := by
  refine calls Tryd.func33 rfl (n := 32) rfl (by simp) ?_
  refine TC.seq ?_
  refine TC.region ?_
  refine TL.box rfl rfl (by decide) (fun b0 hb0 => ?_)
  refine TL.pure (PV.assign rfl) rfl (by decide) ?_
  refine TL.pure (PV.assign rfl) rfl (by decide) ?_
  refine TL.nil ?_
  refine TQ.thenC ?_
  refine TC.seq ?_
  refine TC.region ?_
  refine TL.pure (PV.loadBox rfl Tb.agg_23 (by repeat (first | exact List.Mem.head _ | refine List.Mem.tail _ ?_ | refine List.mem_append_right _ ?_)) rfl) rfl (by decide) ?_
  refine TL.pure (PV.move rfl) rfl (by decide) ?_
  refine TL.call rfl Tb.gofn_66 (fun a w hs => given_ok w _ _ _ _) rfl (by decide) (fun _ _ => ?_)
  refine TL.pure (PV.assign rfl) rfl (by decide) ?_
  refine TL.nil ?_
  refine TQ.thenC ?_
  refine TC.seq ?_
  refine TC.seq ?_
  refine TC.region ?_
  refine TL.pure (PV.move rfl) rfl (by decide) ?_
  refine TL.pure (PV.neq rfl rfl) rfl (by decide) ?_
  refine TL.nil ?_
  refine TQ.thenC ?_
  first | refine TC.condD rfl (fun hv => ?_) (fun hv => ?_) | refine TC.cond rfl (fun hv => ?_) (fun hv => ?_)
  · skip
    refine TC.seq ?_
    refine TC.region ?_
    refine TL.pure (PV.move rfl) rfl (by decide) ?_
    refine TL.pure (PV.assign rfl) rfl (by decide) ?_
    refine TL.pure (PV.assign rfl) rfl (by decide) ?_
    refine TL.nil ?_
    refine TQ.thenC ?_
    refine TC.ret ?_
    refine TQ.thenR ?_
    refine TQ.retE2 rfl rfl rfl ?_
    exact ⟨(), by simp only [zI_no hv, zB_no hv], trivial, List.nil_sublist _⟩
  · skip
    obtain ⟨m, S, ho, hS, rfl, rfl, rfl, rfl⟩ := gI_is (show gI r c k w9 = 0 by omega)
    have hN := ho.N36
    have hS63 := set63 ho hS
    have hzv := zI_ok ho hS
    have hbv := zB_ok ho hS
    have hgv := gI_ok ho hS
    refine TC.skip ?_
    refine TQ.thenC ?_
    refine TC.seq ?_
    refine TC.region ?_
    refine TL.pure (PV.assign rfl) rfl (by decide) ?_
    refine TL.nil ?_
    refine TQ.thenC ?_
    refine TC.seq ?_
    refine TC.seq ?_
    refine TC.region ?_
    refine TL.pure (PV.assign rfl) rfl (by decide) ?_
    refine TL.nil ?_
    refine TQ.thenC ?_
    refine TC.block ?_
    refine TC.loopG [1, 2, 4, 5] (X := Nat) (fun j => j ≤ m.N) (fun j => [(7, .int .i64 (Mo.edg m S j)), (8, .int .i64 j)]) (fun j => m.N - j) 0 (Nat.zero_le _) (by repeat (first | exact True.intro | refine And.intro rfl ?_)) ?_
    intro j hj
    have hbd := edg_bd ho S j hj
    have hal := ar_le m S j
    refine TC.seq ?_
    refine TC.seq ?_
    refine TC.region ?_
    refine TL.pure (PV.move rfl) rfl (by decide) ?_
    refine TL.pure (PV.loadBox rfl Tb.agg_23 (by repeat (first | exact List.Mem.head _ | refine List.Mem.tail _ ?_ | refine List.mem_append_right _ ?_)) rfl) rfl (by decide) ?_
    refine TL.call rfl Tb.gofn_61 (fun a w hs => rsquares_ok w m ho) rfl (by decide) (fun _ _ => ?_)
    refine TL.pure (PV.lss rfl rfl) rfl (by decide) ?_
    refine TL.nil ?_
    refine TQ.thenC ?_
    first | refine TC.condD rfl (fun hlt => ?_) (fun hlt => ?_) | refine TC.cond rfl (fun hlt => ?_) (fun hlt => ?_)
    · skip
      refine TC.skip ?_
      refine TQ.thenC ?_
      refine TC.seq ?_
      refine TC.block ?_
      refine TC.seq ?_
      refine TC.region ?_
      refine TL.pure (PV.move rfl) rfl (by decide) ?_
      refine TL.pure (PV.move rfl) rfl (by decide) ?_
      refine TL.call rfl Tb.gofn_31 (fun a w hs => rHas_ok w S _ hS63 (by omega)) rfl (by decide) (fun _ _ => ?_)
      refine TL.nil ?_
      refine TQ.thenC ?_
      first | refine TC.condD rfl (fun hb => ?_) (fun hb => ?_) | refine TC.cond rfl (fun hb => ?_) (fun hb => ?_)
      · skip
        refine TC.region ?_
        refine TL.pure (PV.move rfl) rfl (by decide) ?_
        refine TL.pure (PV.loadBox rfl Tb.agg_23 (by repeat (first | exact List.Mem.head _ | refine List.Mem.tail _ ?_ | refine List.mem_append_right _ ?_)) rfl) rfl (by decide) ?_
        refine TL.pure (PV.move rfl) rfl (by decide) ?_
        refine TL.pure (PV.move rfl) rfl (by decide) ?_
        refine TL.call rfl Tb.gofn_75 (fun a w hs => around_ok w m ho S hS63 _ (by omega)) rfl (by decide) (fun _ _ => ?_)
        refine TL.pure (PV.sub rfl rfl (by omega)) rfl (by decide) ?_
        refine TL.pure (PV.add rfl rfl (by omega)) rfl (by decide) ?_
        refine TL.pure (PV.assign rfl) rfl (by decide) ?_
        refine TL.nil ?_
        refine TQ.blkN ?_
        refine TQ.thenC ?_
        refine TC.region ?_
        refine TL.pure (PV.move rfl) rfl (by decide) ?_
        refine TL.pure (PV.add rfl rfl (by omega)) rfl (by decide) ?_
        refine TL.pure (PV.assign rfl) rfl (by decide) ?_
        refine TL.nil ?_
        refine TQ.thenN ?_
        refine TQ.backK (j + 1) (by refine And.intro ?_ (And.intro rfl True.intro); show some _ = some _; first | rw [edg_yes hb] | rw [edg_no hb]) (by repeat (first | exact True.intro | refine And.intro rfl ?_)) (by repeat (first | exact List.Sublist.slnil | exact List.nil_sublist _ | exact List.Sublist.refl _ | refine List.Sublist.cons_cons _ ?_ | refine List.Sublist.cons _ ?_ | refine List.Sublist.trans ?_ (List.sublist_append_right _ _))) (by omega) (by omega)
      · skip
        refine TC.skip ?_
        refine TQ.blkN ?_
        refine TQ.thenC ?_
        refine TC.region ?_
        refine TL.pure (PV.move rfl) rfl (by decide) ?_
        refine TL.pure (PV.add rfl rfl (by omega)) rfl (by decide) ?_
        refine TL.pure (PV.assign rfl) rfl (by decide) ?_
        refine TL.nil ?_
        refine TQ.thenN ?_
        refine TQ.backK (j + 1) (by refine And.intro ?_ (And.intro rfl True.intro); show some _ = some _; first | rw [edg_yes hb] | rw [edg_no hb]) (by repeat (first | exact True.intro | refine And.intro rfl ?_)) (by repeat (first | exact List.Sublist.slnil | exact List.nil_sublist _ | exact List.Sublist.refl _ | refine List.Sublist.cons_cons _ ?_ | refine List.Sublist.cons _ ?_ | refine List.Sublist.trans ?_ (List.sublist_append_right _ _))) (by omega) (by omega)
    · skip
      refine TC.exit ?_
      refine TQ.thenE ?_
      refine TQ.thenE ?_
      refine TQ.blkS ?_
      refine TQ.thenC ?_
      refine TC.seq ?_
      have hje : j = m.N := by omega
      refine TC.region ?_
      refine TL.pure (PV.move rfl) rfl (by decide) ?_
      refine TL.pure (PV.assign rfl) rfl (by decide) ?_
      refine TL.pure (PV.assign rfl) rfl (by decide) ?_
      refine TL.nil ?_
      refine TQ.thenC ?_
      refine TC.ret ?_
      refine TQ.retE2 rfl rfl rfl ?_
      exact ⟨(), by simp only [hzv, hgv]; rw [hje]; rfl, trivial, List.nil_sublist _⟩

set_option maxRecDepth 100000 in
set_option maxHeartbeats 2000000 in
theorem rCore_ok (w0 : World) (r c k w9 : Int) :
    Calls Tryd.prog 35 #[.agg #[.int .i64 r, .int .i64 c, .int .i64 k], .int .i64 w9] w0 (Post (X := Unit) (fun _ => .tuple #[.int .i64 (zI r c k w9 (Mo.cor (Mo.mD r c k) w9.toNat : Nat)), .int .i64 (gI r c k w9)]) (fun _ => True) (fun _ => []) w0) := by
  refine calls Tryd.func35 rfl (n := 50) rfl (by simp) ?_
  refine TC.seq ?_
  refine TC.region ?_
  refine TL.box rfl rfl (by decide) (fun b0 hb0 => ?_)
  refine TL.pure (PV.assign rfl) rfl (by decide) ?_
  refine TL.pure (PV.assign rfl) rfl (by decide) ?_
  refine TL.nil ?_
  refine TQ.thenC ?_
  refine TC.seq ?_
  refine TC.region ?_
  refine TL.pure (PV.loadBox rfl Tb.agg_23 (by repeat (first | exact List.Mem.head _ | refine List.Mem.tail _ ?_ | refine List.mem_append_right _ ?_)) rfl) rfl (by decide) ?_
  refine TL.pure (PV.move rfl) rfl (by decide) ?_
  refine TL.call rfl Tb.gofn_66 (fun a w hs => given_ok w _ _ _ _) rfl (by decide) (fun _ _ => ?_)
  refine TL.pure (PV.assign rfl) rfl (by decide) ?_
  refine TL.nil ?_
  refine TQ.thenC ?_
  refine TC.seq ?_
  refine TC.seq ?_
  refine TC.region ?_
  refine TL.pure (PV.move rfl) rfl (by decide) ?_
  refine TL.pure (PV.neq rfl rfl) rfl (by decide) ?_
  refine TL.nil ?_
  refine TQ.thenC ?_
  first | refine TC.condD rfl (fun hv => ?_) (fun hv => ?_) | refine TC.cond rfl (fun hv => ?_) (fun hv => ?_)
  · skip
    refine TC.seq ?_
    refine TC.region ?_
    refine TL.pure (PV.move rfl) rfl (by decide) ?_
    refine TL.pure (PV.assign rfl) rfl (by decide) ?_
    refine TL.pure (PV.assign rfl) rfl (by decide) ?_
    refine TL.nil ?_
    refine TQ.thenC ?_
    refine TC.ret ?_
    refine TQ.thenR ?_
    refine TQ.retE2 rfl rfl rfl ?_
    exact ⟨(), by simp only [zI_no hv, zB_no hv], trivial, List.nil_sublist _⟩
  · skip
    obtain ⟨m, S, ho, hS, rfl, rfl, rfl, rfl⟩ := gI_is (show gI r c k w9 = 0 by omega)
    have hN := ho.N36
    have hS63 := set63 ho hS
    have hzv := zI_ok ho hS
    have hbv := zB_ok ho hS
    have hgv := gI_ok ho hS
    refine TC.skip ?_
    refine TQ.thenC ?_
    refine TC.seq ?_
    refine TC.region ?_
    refine TL.pure (PV.loadBox rfl Tb.agg_23 (by repeat (first | exact List.Mem.head _ | refine List.Mem.tail _ ?_ | refine List.mem_append_right _ ?_)) rfl) rfl (by decide) ?_
    refine TL.call rfl Tb.gofn_72 (fun a w hs => rfull_ok w m ho) rfl (by decide) (fun _ _ => ?_)
    refine TL.pure (PV.move rfl) rfl (by decide) ?_
    refine TL.pure (PV.andNotK rfl rfl (i64_andNot_nat (full_63 ho) hS63)) rfl (by decide) ?_
    refine TL.pure (PV.assign rfl) rfl (by decide) ?_
    refine TL.nil ?_
    refine TQ.thenC ?_
    refine TC.seq ?_
    refine TC.block ?_
    refine TC.lit [(2, _), (4, _), (5, _), (7, _)] (by repeat (first | exact True.intro | refine And.intro rfl ?_)) ?_
    refine TC.loopK [2, 4, 5] (X := Nat) (fun x => Mo.CI m S x) (fun x => [(7, .int .i64 x)]) (fun x => [(b0, Obj.cells #[.int .i64 m.R, .int .i64 m.C, .int .i64 m.K] 23 (0, 0))]) (fun x => Mo.pc x) (Mo.dif (Mo.full m) S) Mo.CI.start (by repeat (first | exact True.intro | refine And.intro rfl ?_)) (List.Sublist.refl _) ?_
    intro x hx9
    refine TC.lit [(2, _), (4, _), (5, _), (7, _)] (by repeat (first | exact True.intro | refine And.intro rfl ?_)) ?_
    refine TC.seq ?_
    refine TC.seq ?_
    refine TC.region ?_
    refine TL.pure (PV.loadBox rfl Tb.agg_23 (by repeat (first | exact List.Mem.head _ | refine List.Mem.tail _ ?_ | refine List.mem_append_right _ ?_)) rfl) rfl (by decide) ?_
    refine TL.pure (PV.move rfl) rfl (by decide) ?_
    refine TL.call rfl Tb.gofn_76 (fun a w hs => isCore_ok w m ho _ hx9.lt) rfl (by decide) (fun _ _ => ?_)
    refine TL.pure ((by first | exact PV.notD rfl | exact PV.not rfl)) rfl (by decide) ?_
    refine TL.nil ?_
    refine TQ.thenC ?_
    first | refine TC.condD rfl (fun hnc => ?_) (fun hnc => ?_) | refine TC.cond rfl (fun hnc => ?_) (fun hnc => ?_)
    · skip
      refine TC.skip ?_
      refine TQ.thenC ?_
      refine TC.block ?_
      refine TC.seq ?_
      refine TC.region ?_
      refine TL.pure (PV.assign rfl) rfl (by decide) ?_
      refine TL.nil ?_
      refine TQ.thenC ?_
      refine TC.block ?_
      refine TC.lit [(2, _), (4, _), (5, _), (7, _), (8, _)] (by repeat (first | exact True.intro | refine And.intro rfl ?_)) ?_
      refine TC.loopK [2, 4, 5] (X := Nat × Nat) (fun y => y.1 ≤ m.N ∧ Mo.CR m S x y.1 y.2) (fun y => [(8, .int .i64 y.1), (7, .int .i64 y.2)]) (fun y => [(b0, Obj.cells #[.int .i64 m.R, .int .i64 m.C, .int .i64 m.K] 23 (0, 0))]) (fun y => m.N - y.1) (0, x) ⟨Nat.zero_le _, Mo.CR.zero hx9⟩ (by repeat (first | exact True.intro | refine And.intro rfl ?_)) (List.Sublist.refl _) ?_
      intro y hy9
      have hyl := hy9.1
      have hy63 := set63 ho hy9.2.ci.lt
      have hd63 := set63 ho (Mo.co_lt m y.2)
      refine TC.lit [(2, _), (4, _), (5, _), (7, _), (8, _)] (by repeat (first | exact True.intro | refine And.intro rfl ?_)) ?_
      refine TC.seq ?_
      refine TC.seq ?_
      refine TC.region ?_
      refine TL.pure (PV.move rfl) rfl (by decide) ?_
      refine TL.pure (PV.loadBox rfl Tb.agg_23 (by repeat (first | exact List.Mem.head _ | refine List.Mem.tail _ ?_ | refine List.mem_append_right _ ?_)) rfl) rfl (by decide) ?_
      refine TL.call rfl Tb.gofn_61 (fun a w hs => rsquares_ok w m ho) rfl (by decide) (fun _ _ => ?_)
      refine TL.pure (PV.lss rfl rfl) rfl (by decide) ?_
      refine TL.nil ?_
      refine TQ.thenC ?_
      first | refine TC.condD rfl (fun hlt => ?_) (fun hlt => ?_) | refine TC.cond rfl (fun hlt => ?_) (fun hlt => ?_)
      · skip
        refine TC.skip ?_
        refine TQ.thenC ?_
        refine TC.seq ?_
        refine TC.block ?_
        refine TC.seq ?_
        refine TC.any Tb.mixed rfl rfl ?_
        refine TA.op (OpOK.pure (PV.move rfl) rfl (by decide)) (by decide) ?_
        refine TA.op (OpOK.pure (PV.move rfl) rfl (by decide)) (by decide) ?_
        refine TA.op (OpOK.call rfl Tb.gofn_31 (fun a w hs => rHas_ok w y.2 _ hy63 (by omega)) rfl (by decide)) (by decide) ?_
        refine TA.op (OpOK.pure (PV.move rfl) rfl (by decide)) (by decide) ?_
        first | refine TA.splitD 32 rfl (fun hb => ?_) (fun hb => ?_) | refine TA.split 32 rfl (fun hb => ?_) (fun hb => ?_)
        · skip
          refine TA.op (OpOK.pure (PV.loadBox rfl Tb.agg_23 (by repeat (first | exact List.Mem.head _ | refine List.Mem.tail _ ?_ | refine List.mem_append_right _ ?_)) rfl) rfl (by decide)) (by decide) ?_
          refine TA.op (OpOK.pure (PV.loadBox rfl Tb.agg_23 (by repeat (first | exact List.Mem.head _ | refine List.Mem.tail _ ?_ | refine List.mem_append_right _ ?_)) rfl) rfl (by decide)) (by decide) ?_
          refine TA.op (OpOK.call rfl Tb.gofn_72 (fun a w hs => rfull_ok w m ho) rfl (by decide)) (by decide) ?_
          refine TA.op (OpOK.pure (PV.move rfl) rfl (by decide)) (by decide) ?_
          refine TA.op (OpOK.pure (PV.andNotK rfl rfl (i64_andNot_nat (full_63 ho) hy63)) rfl (by decide)) (by decide) ?_
          refine TA.op (OpOK.pure (PV.move rfl) rfl (by decide)) (by decide) ?_
          refine TA.op (OpOK.call rfl Tb.gofn_75 (fun a w hs => around_ok w m ho _ hd63 _ (by omega)) rfl (by decide)) (by decide) ?_
          refine TA.op (OpOK.pure (PV.fieldAddr rfl Tb.fo_23_2) rfl (by decide)) (by decide) ?_
          refine TA.op (OpOK.pure (PV.load rfl Tb.one_3 (by repeat (first | exact List.Mem.head _ | refine List.Mem.tail _ ?_ | refine List.mem_append_right _ ?_)) rfl) rfl (by decide)) (by decide) ?_
          refine TA.op (OpOK.pure (PV.geq rfl rfl) rfl (by decide)) (by decide) ?_
          refine TA.op (OpOK.pure (PV.pickT rfl rfl) rfl (by decide)) (by decide) ?_
          show TQ _ _ _ _ _
          refine TQ.thenC ?_
          first | refine TC.condD rfl (fun hge => ?_) (fun hge => ?_) | refine TC.cond rfl (fun hge => ?_) (fun hge => ?_)
          · skip
            refine TC.region ?_
            refine TL.pure (PV.move rfl) rfl (by decide) ?_
            refine TL.pure (PV.move rfl) rfl (by decide) ?_
            refine TL.pure (PV.conv Tb.int_3 Tb.int_43 rfl (conv_u (by omega))) rfl (by decide) ?_
            refine TL.pure (PV.shlK rfl rfl (by omega) (by omega) (shl_nat (by omega))) rfl (by decide) ?_
            refine TL.pure (PV.andNotK rfl rfl (i64_andNot_nat hy63 (p63 (by omega)))) rfl (by decide) ?_
            refine TL.pure (PV.assign rfl) rfl (by decide) ?_
            refine TL.nil ?_
            refine TQ.blkN ?_
            refine TQ.thenC ?_
            refine TC.region ?_
            refine TL.pure (PV.move rfl) rfl (by decide) ?_
            refine TL.pure (PV.add rfl rfl (by omega)) rfl (by decide) ?_
            refine TL.pure (PV.assign rfl) rfl (by decide) ?_
            refine TL.nil ?_
            refine TQ.thenN ?_
            refine TQ.backK (y.1 + 1, Mo.dif y.2 (2 ^ y.1)) (by repeat (first | exact True.intro | refine And.intro rfl ?_)) (by repeat (first | exact True.intro | refine And.intro rfl ?_)) (List.Sublist.refl _) ⟨by simp only; omega, hy9.2.rem ho hS (by omega) hb (by omega)⟩ (by simp only; omega)
          · skip
            refine TC.skip ?_
            refine TQ.blkN ?_
            refine TQ.thenC ?_
            refine TC.region ?_
            refine TL.pure (PV.move rfl) rfl (by decide) ?_
            refine TL.pure (PV.add rfl rfl (by omega)) rfl (by decide) ?_
            refine TL.pure (PV.assign rfl) rfl (by decide) ?_
            refine TL.nil ?_
            refine TQ.thenN ?_
            refine TQ.backK (y.1 + 1, y.2) (by repeat (first | exact True.intro | refine And.intro rfl ?_)) (by repeat (first | exact True.intro | refine And.intro rfl ?_)) (List.Sublist.refl _) ⟨by simp only; omega, hy9.2.skip (fun q => hge (by have := q.2; omega))⟩ (by simp only; omega)
        · skip
          refine TA.op (OpOK.skip rfl) (by decide) ?_
          refine TA.op (OpOK.skip rfl) (by decide) ?_
          refine TA.op (OpOK.skip rfl) (by decide) ?_
          refine TA.op (OpOK.skip rfl) (by decide) ?_
          refine TA.op (OpOK.skip rfl) (by decide) ?_
          refine TA.op (OpOK.skip rfl) (by decide) ?_
          refine TA.op (OpOK.skip rfl) (by decide) ?_
          refine TA.op (OpOK.skip rfl) (by decide) ?_
          refine TA.op (OpOK.skip rfl) (by decide) ?_
          refine TA.op (OpOK.skip rfl) (by decide) ?_
          refine TA.op (OpOK.pure (PV.pickF rfl rfl) rfl (by decide)) (by decide) ?_
          show TQ _ _ _ _ _
          refine TQ.thenC ?_
          refine TC.condF rfl ?_
          refine TC.skip ?_
          refine TQ.blkN ?_
          refine TQ.thenC ?_
          refine TC.region ?_
          refine TL.pure (PV.move rfl) rfl (by decide) ?_
          refine TL.pure (PV.add rfl rfl (by omega)) rfl (by decide) ?_
          refine TL.pure (PV.assign rfl) rfl (by decide) ?_
          refine TL.nil ?_
          refine TQ.thenN ?_
          refine TQ.backK (y.1 + 1, y.2) (by repeat (first | exact True.intro | refine And.intro rfl ?_)) (by repeat (first | exact True.intro | refine And.intro rfl ?_)) (List.Sublist.refl _) ⟨by simp only; omega, hy9.2.skip (fun q => by rw [hb] at q; cases q.1)⟩ (by simp only; omega)
      · skip
        have hy8 : Mo.CR m S x m.N y.2 := (show y.1 = m.N by omega) ▸ hy9.2
        refine TC.exit ?_
        refine TQ.thenE ?_
        refine TQ.thenE ?_
        refine TQ.blkS ?_
        refine TQ.blkN ?_
        refine TQ.thenN ?_
        refine TQ.backK y.2 (by repeat (first | exact True.intro | refine And.intro rfl ?_)) (by repeat (first | exact True.intro | refine And.intro rfl ?_)) (List.Sublist.refl _) hy9.2.ci (hy8.less ho hx9.lt (fun e => by rw [isC_rdy] at e; simp [e] at hnc))
    · skip
      refine TC.exit ?_
      refine TQ.thenE ?_
      refine TQ.thenE ?_
      refine TQ.blkS ?_
      refine TQ.thenC ?_
      refine TC.seq ?_
      refine TC.region ?_
      refine TL.pure (PV.move rfl) rfl (by decide) ?_
      refine TL.pure (PV.assign rfl) rfl (by decide) ?_
      refine TL.pure (PV.assign rfl) rfl (by decide) ?_
      refine TL.nil ?_
      refine TQ.thenC ?_
      refine TC.ret ?_
      refine TQ.retE2 rfl rfl rfl ?_
      exact ⟨(), by simp only [hzv, hgv]; rw [hx9.done ho hS (isC_rdy.2 (by simpa using hnc))]; rfl, trivial, List.nil_sublist _⟩

set_option maxRecDepth 100000 in
set_option maxHeartbeats 1000000 in
theorem listOfS_ok {w0 w : World} {R : Heap} (ht : TzAt w0) (b q9 : Nat) (hx : q9 < 9223372036854775808) (hL : (Mo.sqL q9).length ≤ 36) (hn : New w0 w ((b, Obj.cells #[.int .i64 (q9 : Nat)] 3 (0, 0)) :: R)) :
    Calls Tryd.prog 57 #[.func (.func 95) #[] #[.pointer (some ⟨b, 0, none⟩)]] w (Post (X := Value × Heap) (fun x => x.1) (fun x => RdI (ofN (Mo.sqL q9)) x) (fun x => x.2 ++ ((b, Obj.cells #[.int .i64 (q9 : Nat)] 3 (0, 0)) :: R)) w0) := by
  refine callsRFM hn Tryd.func57 rfl (n := 16) rfl (by simp) ?_
  refine TC.seq ?_
  refine TC.region ?_
  refine TL.pure (PV.assign rfl) rfl (by decide) ?_
  refine TL.nil ?_
  refine TQ.thenC ?_
  refine TC.seq ?_
  refine TC.region ?_
  refine TL.alloc Tb.zero_84 rfl (by decide) (fun b0 hb0 => ?_)
  refine TL.nil ?_
  refine TQ.thenC ?_
  refine TC.seq ?_
  refine TC.region ?_
  refine TL.alloc Tb.zero_3 rfl (by decide) (fun b1 hb1 => ?_)
  refine TL.store rfl rfl Tb.cells_3 rfl (by repeat (first | exact Upd.head _ | apply Upd.tail | apply Upd.appR)) (by first | decide | (simp; done) | (simp; omega) | omega) rfl rfl ?_
  refine TL.nil ?_
  refine TQ.thenC ?_
  refine TC.seq ?_
  refine TC.seq ?_
  refine TC.region ?_
  refine TL.pure (PV.move rfl) rfl (by decide) ?_
  refine TL.nil ?_
  refine TQ.thenC ?_
  refine TC.block ?_
  refine TC.rangeFunc (encs := fun s : Nat => [.int .i64 s]) (kept := [(b, Obj.cells #[.int .i64 (q9 : Nat)] 3 (0, 0))]) (α := Nat) (X := List Nat) (Y := Unit) (Z := List Nat) (ps := [7]) (fun pre s => s = pre) (fun s => (b1, Obj.cells #[.int .i64 (s.length : Nat)] 3 (0, 0)) :: (b0, Obj.cells (padA s) 84 (0, 0)) :: (b, Obj.cells #[.int .i64 (q9 : Nat)] 3 (0, 0)) :: R) (fun pre y => False) (fun y => []) [] (fun x s z => z = s) (fun x z => [(5, .int .i64 x), (3, .pointer (some ⟨b0, 0, none⟩)), (4, .pointer (some ⟨b1, 0, none⟩))]) (fun x z => (b1, Obj.cells #[.int .i64 (z.length : Nat)] 3 (0, 0)) :: (b0, Obj.cells (padA z) 84 (0, 0)) :: (b, Obj.cells #[.int .i64 (q9 : Nat)] 3 (0, 0)) :: R) rfl Tb.gofn_95 (squares_it w0 ht q9 hx b) (fun _ => rfl) (by decide) rfl (List.Sublist.refl _) (fun s q hq => by simp only [List.mem_cons, List.not_mem_nil, or_false] at hq; subst hq; simp) ?_ ?_ ?_ ?_
  · skip
    intro lR TR pre x s hp_ hF_
    refine TG.region (by repeat (first | with_reducible exact RB.lo | with_reducible exact QN.lo | with_reducible exact bodyM_lo | with_reducible exact bodyP_lo | with_reducible apply lo_then | with_reducible apply lo_blk)) (by kernel_rfl) ?_
    refine TL.pure (PV.assign rfl) rfl (by decide) ?_
    refine TL.nil ?_
    refine TQ.gmid s rfl (by repeat (first | exact True.intro | refine And.intro rfl ?_)) (List.Sublist.refl _)
  · skip
    intro lR TR pre x s z hp_ hF_ hz_
    obtain rfl : s = z := hz_.symm
    obtain rfl : s = pre := hF_
    have hpl := hp_.length_le
    rw [List.length_append, List.length_singleton] at hpl
    refine TG.block ?_
    refine TG.seq ?_
    refine TG.region (by repeat (first | with_reducible exact RB.lo | with_reducible exact QN.lo | with_reducible exact bodyM_lo | with_reducible exact bodyP_lo | with_reducible apply lo_then | with_reducible apply lo_blk)) (by kernel_rfl) ?_
    refine TL.pure (PV.load rfl Tb.one_3 (by repeat (first | exact List.Mem.head _ | refine List.Mem.tail _ ?_ | refine List.mem_append_right _ ?_)) rfl) rfl (by decide) ?_
    refine TL.pure (PV.move rfl) rfl (by decide) ?_
    refine TL.pure (PV.indexArr (j := s.length) rfl rfl arr_84 rfl (by omega)) rfl (by decide) ?_
    refine TL.store (cs := padA s) rfl rfl Tb.cells_3 rfl (by rw [padA_set (by omega)]; exact (by repeat (first | exact Upd.head _ | apply Upd.tail | apply Upd.appR))) (by rw [padA_size (by omega)]; omega) rfl rfl ?_
    refine TL.nil ?_
    refine TQ.thenG ?_
    refine TG.region (by repeat (first | with_reducible exact RB.lo | with_reducible exact QN.lo | with_reducible exact bodyM_lo | with_reducible exact bodyP_lo | with_reducible apply lo_then | with_reducible apply lo_blk)) (by kernel_rfl) ?_
    refine TL.pure (PV.load rfl Tb.one_3 (by repeat (first | exact List.Mem.head _ | refine List.Mem.tail _ ?_ | refine List.mem_append_right _ ?_)) rfl) rfl (by decide) ?_
    refine TL.pure (PV.add rfl rfl (by omega)) rfl (by decide) ?_
    refine TL.store rfl rfl Tb.cells_3 rfl (by repeat (first | exact Upd.head _ | apply Upd.tail | apply Upd.appR)) (by first | decide | (simp; done) | (simp; omega) | omega) rfl rfl ?_
    refine TL.nil ?_
    refine TQ.gblkN ?_
    refine TQ.goOn (s ++ [x]) rfl ?_
    have e9 : (((s ++ [x]).length : Nat) : Int) = ((s.length : Nat) : Int) + 1 := by rw [List.length_append]; rfl
    simp only [e9]
    exact List.Sublist.refl _
  · skip
    intro dB lB oB xs_ s hD_ hF_
    obtain rfl : s = xs_ := hF_
    have hD9 := hD_
    have hsl : s.length ≤ 36 := by rw [hD9]; exact hL
    refine TQ.gblkN ?_
    refine TQ.thenD ?_
    refine TG.seq ?_
    refine TG.region (by repeat (first | with_reducible exact RB.lo | with_reducible exact QN.lo | with_reducible exact bodyM_lo | with_reducible exact bodyP_lo | with_reducible apply lo_then | with_reducible apply lo_blk)) (by kernel_rfl) ?_
    refine TL.pure (PV.load rfl Tb.one_3 (by repeat (first | exact List.Mem.head _ | refine List.Mem.tail _ ?_ | refine List.mem_append_right _ ?_)) rfl) rfl (by decide) ?_
    refine TL.pure (PV.load rfl Tb.one_3 (by repeat (first | exact List.Mem.head _ | refine List.Mem.tail _ ?_ | refine List.mem_append_right _ ?_)) rfl) rfl (by decide) ?_
    refine TL.pure (PV.sliceArr3 (h := s.length) rfl rfl rfl arr_84 rfl rfl (by omega) (by decide)) rfl (by decide) ?_
    refine TL.pure (PV.assign rfl) rfl (by decide) ?_
    refine TL.nil ?_
    refine TQ.thenG ?_
    refine TG.ret ?_
    refine TQ.retM (by repeat (first | exact Take.head _ | apply Take.tail | apply Take.appR)) ?_
    refine TQ.retE1 rfl rfl ?_
    exact ⟨(.slice (some ⟨b0, 0, none⟩) s.length s.length, [(b0, Obj.cells (padA s) 84 (0, 0))]), rfl, by rw [← hD9]; exact padA_rd, by simp only [List.cons_append, List.nil_append]; exact List.Sublist.cons _ (List.Sublist.cons_cons _ (List.Sublist.cons_cons _ (List.sublist_append_left _ _)))⟩
  · skip
    intro dB lB oB xs_ y hP_ hF_
    exact hF_.elim

end Go.Proofs.YtaeobkgogipceaaDoor
