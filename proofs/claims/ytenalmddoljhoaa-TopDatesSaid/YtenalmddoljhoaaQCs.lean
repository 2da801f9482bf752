/- A core without the bounds that follow from others: the program's contract. -/
import Derived.Test.YtenalmddoljhoaaQBs
import Derived.Test.YtenalmddoljhoaaSw
set_option linter.unusedVariables false
set_option linter.unusedSimpArgs false
namespace Go.Proofs.Ytenalmddoljhoaa
open Go.Sx Go.RowKit

end Go.Proofs.Ytenalmddoljhoaa
namespace Go.Sx
/-- An operation whose guard's own operation was not wanted is not wanted. -/
def undoneB (ops : Array Oper) (E : Env) : Option (Nat × Bool) → Bool
  | none => false
  | some (j, _) => match (ops[j]?).bind (·.dst) with
    | none => false
    | some s => match Sx.look s E with
      | some (.tuple _) => true
      | _ => false
section
variable {P : Program} {n : Nat} {w0 : World} {E : Env} {G : Heap} {a : Act} {w : World} {ops : Array Oper} {Q : Exit → Act → World → Prop} {l : List Oper}
theorem S_undone (h : S n w0 E G a w) {o : Oper} (hw : undoneB ops E o.guard = true) : Region.wanted o (yielded ops a.tmps) = false := by
  unfold Region.wanted
  cases hg : o.guard with
  | none => simp [undoneB, hg] at hw
  | some jw =>
    obtain ⟨j, want⟩ := jw
    simp only [undoneB, hg] at hw
    simp only [yielded]
    cases hs : (ops[j]?).bind (·.dst) with
    | none => simp [hs] at hw
    | some s =>
      simp only [hs] at hw
      cases hl : Sx.look s E with
      | none => simp [hl] at hw
      | some v =>
        have := h.env s v hl
        rw [hl] at hw
        cases v <;> first | (simp [this]; done) | simp at hw
theorem TL.skipU {d : Option Nat} {op : Op} {ty : TypeId} {pos : String} {aft : Array Edge} {g : Option (Nat × Bool)}
    (hg : undoneB ops E g = true) (hd : ∀ k, d = some k → k < n) (h : TL P n w0 ops Q l (match d with | some k => (k, undef) :: E | none => E) G) :
    TL P n w0 ops Q (⟨d, op, ty, pos, aft, g⟩ :: l) E G := by
  intro a w hs
  unfold wpList
  have := S_undone hs (o := ⟨d, op, ty, pos, aft, g⟩) hg
  rw [if_neg (by simp [this])]
  cases d with
  | none => exact h _ _ hs
  | some k => exact h _ _ (hs.put (hd k rfl) undef)
theorem OpOK.skipU {d : Nat} {op : Op} {ty : TypeId} {pos : String} {aft : Array Edge} {g : Option (Nat × Bool)} (hg : undoneB ops E g = true) :
    OpOK P n w0 ops Q G E ⟨some d, op, ty, pos, aft, g⟩ d undef := by
  intro F' hF a w hs
  have := S_undone (hs.env_le hF) (o := ⟨some d, op, ty, pos, aft, g⟩) hg
  rw [if_neg (by simp [this])]
theorem TS.skipU {tl : List Oper} {d : Nat} {op : Op} {ty : TypeId} {pos : String} {aft : Array Edge} {g : Option (Nat × Bool)}
    (hg : undoneB ops E g = true) (hd : d < n) (h : TS P n w0 ops Q tl l ((d, undef) :: E) G) :
    TS P n w0 ops Q tl (⟨some d, op, ty, pos, aft, g⟩ :: l) E G := by
  intro a w hs
  unfold wpStill
  have := S_undone hs (o := ⟨some d, op, ty, pos, aft, g⟩) hg
  rw [if_neg (by simp [this])]
  exact h _ _ (hs.put hd undef)
end

end Go.Sx
namespace Go.Proofs.Ytenalmddoljhoaa
open Go.Sx Go.RowKit
theorem copiedS {w : World} {n : Int} {h : HD} {l : List Bd} (ho : goB h l) (hr : BdsAt w (gp h) l) (hl : l.length ≤ 100000) :
    Calls Try.prog 81 #[.agg #[.int .i64 n, gval h l.length]] w (Post (X := HD) (fun h' => .agg #[.int .i64 n, gval h' l.length]) (fun h' => goB h' l) (fun h' => gbB 42 h' l) w) := by
  have hc := copied_ok w n (gp h) (gc h) l.length l rfl hr hl
  rw [gvB_eq ho rfl]
  exact hc
theorem redK_yes {N : Nat} {rs : List Bd} {j : Nat} (h : flwB (plainB N (delB (redK N rs j) (rs.length - 1 - j))) (rs.getD (rs.length - 1 - j) default) = true) : redK N rs (j + 1) = delB (redK N rs j) (rs.length - 1 - j) := if_pos h
theorem redK_no {N : Nat} {rs : List Bd} {j : Nat} (h : flwB (plainB N (delB (redK N rs j) (rs.length - 1 - j))) (rs.getD (rs.length - 1 - j) default) = false) : redK N rs (j + 1) = redK N rs j := if_neg (by rw [h]; decide)
theorem bwd_at {rs : List Bd} {pre : List (Nat × Bd)} {x : Nat × Bd} (h : pre ++ [x] <+: bwd rs rs.length) : pre.length < rs.length ∧ x = (rs.length - 1 - pre.length, rs.getD (rs.length - 1 - pre.length) default) := by
  obtain ⟨t, ht⟩ := h
  have h1 := congrArg List.length ht
  rw [bwd_len] at h1
  simp at h1
  have hlt : pre.length < rs.length := by omega
  refine ⟨hlt, ?_⟩
  have h2 := congrArg (fun l => l[pre.length]?) ht
  simp only [List.append_assoc] at h2
  rw [List.getElem?_append_right (Nat.le_refl _), Nat.sub_self] at h2
  unfold bwd at h2
  rw [List.getElem?_map, List.getElem?_range hlt] at h2
  simpa using h2


set_option maxRecDepth 100000 in
set_option maxHeartbeats 2000000 in
theorem Reduce_ok (w0 : World) (n : Int) (p : Option Addr) (cap : Nat) (rs : List Bd) (hr : BdsAt w0 p rs) :
    Calls Try.prog 49 #[cv n p rs.length cap] w0 (Post (X := Int × HD × List Bd) (fun x => .tuple #[.agg #[.int .i64 x.1, gval x.2.1 x.2.2.length], .int .i64 (pofI n rs [])]) (CF (pofI n rs []) n (redK n.toNat rs rs.length)) (fun x => gbB 42 x.2.1 x.2.2) w0) := by
  refine callsRF Try.func49 rfl (n := 41) rfl (by simp) ?_
  refine TC.seq ?_
  refine TC.region ?_
  refine TL.box rfl rfl (by decide) (fun b0 hb0 => ?_)
  refine TL.alloc Tb.zero_24 rfl (by decide) (fun b1 hb1 => ?_)
  refine TL.pure (PV.assign rfl) rfl (by decide) ?_
  refine TL.nil ?_
  refine TQ.thenC ?_
  refine TC.seq ?_
  refine TC.seq ?_
  refine TC.region ?_
  refine TL.pure (PV.loadBox rfl Tb.agg_24 (by repeat (first | exact List.Mem.head _ | refine List.Mem.tail _ ?_ | refine List.mem_append_right _ ?_)) rfl) rfl (by decide) ?_
  refine TL.call rfl Tb.gofn_69 (fun a w hs => plainOfG_ok w _ _ _ _ (hr.new hs.new) none 0 [] (fun j hj => absurd hj (Nat.not_lt_zero _)) (show (0 : Nat) ≤ 1000 by decide)) rfl (by decide) (fun h8 hh8 => ?_)
  refine TL.pure (PV.move rfl) rfl (by decide) ?_
  refine TL.pure (PV.extract rfl rfl) rfl (by decide) ?_
  refine TL.pure (PV.extract rfl rfl) rfl (by decide) ?_
  refine TL.pure (PV.assign rfl) rfl (by decide) ?_
  refine TL.pure (PV.assign rfl) rfl (by decide) ?_
  refine TL.nil ?_
  refine TQ.thenC ?_
  refine TC.seq ?_
  refine TC.region ?_
  refine TL.pure (PV.move rfl) rfl (by decide) ?_
  refine TL.pure (PV.neq rfl rfl) rfl (by decide) ?_
  refine TL.nil ?_
  refine TQ.thenC ?_
  first | refine TC.condD rfl (fun hbad => ?_) (fun hbad => ?_) | refine TC.cond rfl (fun hbad => ?_) (fun hbad => ?_)
  · skip
    refine TC.seq ?_
    refine TC.region ?_
    refine TL.pure (PV.build rfl Tb.zero_24 Tb.pl_24 rfl) rfl (by decide) ?_
    refine TL.pure (PV.move rfl) rfl (by decide) ?_
    refine TL.storeAgg rfl rfl Tb.cells_24 (by repeat (first | exact Upd.head _ | apply Upd.tail | apply Upd.appR)) rfl rfl (by first | rfl | exact sv_one _ _ _) rfl rfl ?_
    refine TL.pure (PV.assign rfl) rfl (by decide) ?_
    refine TL.nil ?_
    refine TQ.thenC ?_
    refine TC.ret ?_
    refine TQ.thenR ?_
    refine TQ.retM0 ?_
    refine TQ.retR rfl (Res.agg rfl Tb.agg_24 (by repeat (first | exact List.Mem.head _ | refine List.Mem.tail _ ?_ | refine List.mem_append_right _ ?_)) rfl (Res.tmp rfl Res.nil)) ?_
    simp only [tup]
    exact ⟨(0, none, []), rfl, CF.bad hbad, List.nil_sublist _⟩
  · skip
    refine TC.skip ?_
    refine TQ.thenC ?_
    refine TC.seq ?_
    have hz0 : pofI n rs [] = 0 := Decidable.of_not_not hbad
    have hd := pof_dok hz0
    have hv : Valid n rs := (of_decide_eq_true hd).1
    have hl9 := hv.len
    refine TC.region ?_
    refine TL.pure (PV.loadBox rfl Tb.agg_24 (by repeat (first | exact List.Mem.head _ | refine List.Mem.tail _ ?_ | refine List.mem_append_right _ ?_)) rfl) rfl (by decide) ?_
    refine TL.call rfl Tb.gofn_81 (fun a w hs => copied_ok w n p cap rs.length rs rfl (hr.new hs.new) (by omega)) rfl (by decide) (fun h1 hh1 => ?_)
    refine TL.alloc Tb.zero_24 rfl (by decide) (fun b2 hb2 => ?_)
    refine TL.storeAgg rfl rfl Tb.cells_24 (by repeat (first | exact Upd.head _ | apply Upd.tail | apply Upd.appR)) rfl rfl (by first | rfl | exact sv_one _ _ _) rfl rfl ?_
    refine TL.nil ?_
    refine TQ.thenC ?_
    refine TC.seq ?_
    refine TC.seq ?_
    refine TC.region ?_
    refine TL.pure (PV.fieldAddr rfl Tb.fo_24_1) rfl (by decide) ?_
    refine TL.pure (PV.load rfl Tb.one_22 (by repeat (first | exact List.Mem.head _ | refine List.Mem.tail _ ?_ | refine List.mem_append_right _ ?_)) rfl) rfl (by decide) ?_
    refine TL.call rfl Tb.gofn_82 (fun a w hs => backward_ok w p cap rs) rfl (by decide) (fun y9 _ => ?_)
    refine TL.nil ?_
    refine TQ.thenC ?_
    refine TC.block ?_
    refine TC.rangeFunc (encs := fun x : Nat × Bd => [.int .i64 x.1, x.2.val]) (kept := [(y9, Obj.cells #[.slice p rs.length cap] 22 (0, 0))]) (α := Nat × Bd) (X := HD × List Bd) (Y := Unit) (Z := Nat × HD × List Bd) (ps := [24, 25]) (fun pre s => s.2 = redK n.toNat rs pre.length ∧ goB s.1 s.2) (fun s => (y9, Obj.cells #[.slice p rs.length cap] 22 (0, 0)) :: (b2, Obj.cells #[.int .i64 n, gval s.1 (s.2).length] 24 (0, 0)) :: (gbB 42 s.1 s.2 ++ [(b1, Obj.cells #[.int .i64 0, .slice none 0 0] 24 (0, 0)), (b0, Obj.cells #[.int .i64 n, .slice p rs.length cap] 24 (0, 0))])) (fun pre y => False) (fun y => []) (h1, rs) (fun x s z => z.2 = s) (fun x z => [(7, .int .i64 x.1), (8, .pointer (some ⟨z.1, 0, none⟩)), (6, .pointer (some ⟨b2, 0, none⟩)), (2, .pointer (some ⟨b1, 0, none⟩))]) (fun x z => (z.1, Obj.cells x.2.cells.toArray 42 (0, 0)) :: (y9, Obj.cells #[.slice p rs.length cap] 22 (0, 0)) :: (b2, Obj.cells #[.int .i64 n, gval z.2.1 (z.2.2).length] 24 (0, 0)) :: (gbB 42 z.2.1 z.2.2 ++ [(b1, Obj.cells #[.int .i64 0, .slice none 0 0] 24 (0, 0)), (b0, Obj.cells #[.int .i64 n, .slice p rs.length cap] 24 (0, 0))])) rfl Tb.gofn_90 (backward_it w0 p cap rs hr (by omega) y9) (fun _ => rfl) (by decide) ⟨rfl, hh1⟩ (List.Sublist.cons_cons _ (List.Sublist.cons_cons _ (List.Sublist.append_left (List.sublist_append_right _ _) _))) (fun s q hq => by simp only [List.mem_cons, List.not_mem_nil, or_false] at hq; subst hq; exact List.Mem.head _) ?_ ?_ ?_ ?_
    · skip
      intro lR TR pre x s hp_ hF_
      refine TG.seq ?_
      refine TG.region (by repeat (first | with_reducible exact RB.lo | with_reducible exact QN.lo | with_reducible exact bodyM_lo | with_reducible exact bodyP_lo | with_reducible apply lo_then | with_reducible apply lo_blk)) (by kernel_rfl) ?_
      refine TL.pure (PV.assign rfl) rfl (by decide) ?_
      refine TL.nil ?_
      refine TQ.thenG ?_
      refine TG.region (by repeat (first | with_reducible exact RB.lo | with_reducible exact QN.lo | with_reducible exact bodyM_lo | with_reducible exact bodyP_lo | with_reducible apply lo_then | with_reducible apply lo_blk)) (by kernel_rfl) ?_
      refine TL.alloc Tb.zero_42 rfl (by decide) (fun b3 hb3 => ?_)
      refine TL.storeAgg rfl rfl Tb.cells_42 (by repeat (first | exact Upd.head _ | apply Upd.tail | apply Upd.appR)) rfl rfl rfl rfl rfl ?_
      refine TL.nil ?_
      refine TQ.gmid (b3, s) rfl (by repeat (first | exact True.intro | refine And.intro rfl ?_)) (List.Sublist.refl _)
    · skip
      intro lR TR pre x s z hp_ hF_ hz_
      obtain ⟨zb, zs⟩ := z
      obtain rfl : zs = s := hz_
      obtain ⟨hpre, hzg⟩ := hF_
      obtain ⟨hlt, rfl⟩ := bwd_at hp_
      have hk9 := redK_ok hv pre.length (by omega)
      rw [← hpre] at hk9
      have hlo := hk9.lo
      have hhi := hk9.hi
      have hil : rs.length - 1 - pre.length < zs.2.length := by omega
      dsimp only
      refine TG.perm (G' := (zb, Obj.cells (rs.getD (rs.length - 1 - pre.length) default).cells.toArray 42 (0, 0)) :: (y9, Obj.cells #[.slice p rs.length cap] 22 (0, 0)) :: (b2, Obj.cells #[.int .i64 n, gval zs.1 (zs.2).length] 24 (0, 0)) :: (gbB 42 zs.1 zs.2 ++ ((b1, Obj.cells #[.int .i64 0, .slice none 0 0] 24 (0, 0)) :: (b0, Obj.cells #[.int .i64 n, .slice p rs.length cap] 24 (0, 0)) :: TR))) (List.Perm.of_eq (by simp only [List.append_assoc, List.cons_append, List.nil_append])) ?_
      refine TG.block ?_
      refine TG.seq ?_
      refine TG.region (by repeat (first | with_reducible exact RB.lo | with_reducible exact QN.lo | with_reducible exact bodyM_lo | with_reducible exact bodyP_lo | with_reducible apply lo_then | with_reducible apply lo_blk)) (by kernel_rfl) ?_
      refine TL.pure (PV.loadBox rfl Tb.agg_24 (by repeat (first | exact List.Mem.head _ | refine List.Mem.tail _ ?_ | refine List.mem_append_right _ ?_)) rfl) rfl (by decide) ?_
      refine TL.call rfl Tb.gofn_81 (fun a w hs => copiedS hzg (BdsAt.s (e := 42) hs.new (fun yy hyy => by simp only [List.mem_append, List.mem_cons]; simp [hyy]) hzg) (by omega)) rfl (by decide) (fun hL hhL => ?_)
      refine TL.alloc Tb.zero_24 rfl (by decide) (fun b4 hb4 => ?_)
      refine TL.storeAgg rfl rfl Tb.cells_24 (by repeat (first | exact Upd.head _ | apply Upd.tail | apply Upd.appR)) rfl rfl (by first | rfl | exact sv_one _ _ _) rfl rfl ?_
      refine TL.nil ?_
      refine TQ.thenG ?_
      refine TG.seq ?_
      obtain _ | ⟨b9, c9, s9⟩ := hL
      · exact absurd hhL.2 (by simp only; omega)
      refine TG.region (by repeat (first | with_reducible exact RB.lo | with_reducible exact QN.lo | with_reducible exact bodyM_lo | with_reducible exact bodyP_lo | with_reducible apply lo_then | with_reducible apply lo_blk)) (by kernel_rfl) ?_
      refine TL.pure (PV.fieldAddr rfl Tb.fo_24_1) rfl (by decide) ?_
      refine TL.pure (PV.load rfl Tb.one_22 (by repeat (first | exact List.Mem.head _ | refine List.Mem.tail _ ?_ | refine List.mem_append_right _ ?_)) rfl) rfl (by decide) ?_
      refine TL.pure (PV.move rfl) rfl (by decide) ?_
      refine TL.pure (PV.move rfl) rfl (by decide) ?_
      refine TL.pure (PV.add rfl rfl (by omega)) rfl (by decide) ?_
      refine TL.callW (X := List Value) (fun v9 => gval (some (b9, c9, v9)) (delB zs.2 (rs.length - 1 - pre.length)).length) (fun v9 => goB (some (b9, c9, v9)) (delB zs.2 (rs.length - 1 - pre.length))) (fun v9 => (b9, Obj.cells (bdc (delB zs.2 (rs.length - 1 - pre.length)) ++ v9).toArray 42 (0, 0)) :: ((b4, Obj.cells #[.int .i64 n, gval (some (b9, c9, s9)) (zs.2).length] 24 (0, 0)) :: (zb, Obj.cells (rs.getD (rs.length - 1 - pre.length) default).cells.toArray 42 (0, 0)) :: (y9, Obj.cells #[.slice p rs.length cap] 22 (0, 0)) :: (b2, Obj.cells #[.int .i64 n, gval zs.1 (zs.2).length] 24 (0, 0)) :: (gbB 42 zs.1 zs.2 ++ ((b1, Obj.cells #[.int .i64 0, .slice none 0 0] 24 (0, 0)) :: (b0, Obj.cells #[.int .i64 n, .slice p rs.length cap] 24 (0, 0)) :: TR)))) rfl Tb.gofn_83 (fun a w hs => delete_ok (R := ((b4, Obj.cells #[.int .i64 n, gval (some (b9, c9, s9)) (zs.2).length] 24 (0, 0)) :: (zb, Obj.cells (rs.getD (rs.length - 1 - pre.length) default).cells.toArray 42 (0, 0)) :: (y9, Obj.cells #[.slice p rs.length cap] 22 (0, 0)) :: (b2, Obj.cells #[.int .i64 n, gval zs.1 (zs.2).length] 24 (0, 0)) :: (gbB 42 zs.1 zs.2 ++ ((b1, Obj.cells #[.int .i64 0, .slice none 0 0] 24 (0, 0)) :: (b0, Obj.cells #[.int .i64 n, .slice p rs.length cap] 24 (0, 0)) :: TR)))) (hs.new.perm (List.Perm.swap _ _ _)) hhL (rs.length - 1 - pre.length) hil (by omega)) rfl (by decide) (fun x9 hx9 => ?_)
      refine TL.pure (PV.fieldAddr rfl Tb.fo_24_1) rfl (by decide) ?_
      refine TL.store rfl rfl Tb.cells_22 rfl (by repeat (first | exact Upd.head _ | apply Upd.tail | apply Upd.appR)) (by first | decide | (simp; done) | (simp; omega) | omega) rfl rfl ?_
      refine TL.nil ?_
      refine TQ.thenG ?_
      refine TG.seq ?_
      have hvd : Valid n (delB zs.2 (rs.length - 1 - pre.length)) := valid_sub hk9.vd (by rw [delB_len hil]; omega) del_mem
      have hpl9 := (plain_pb hvd n.toNat (Nat.le_refl _)).1
      have hpl8 : (plainB n.toNat (delB zs.2 (rs.length - 1 - pre.length))).length ≤ 300 := hpl9
      refine TG.mix (by repeat (first | with_reducible exact RB.lo | with_reducible exact QN.lo | with_reducible exact bodyM_lo | with_reducible exact bodyP_lo | with_reducible apply lo_then | with_reducible apply lo_blk)) (by kernel_rfl) [true, false, true, false] [(b4, Obj.cells #[.int .i64 n, gval (some (b9, c9, x9)) (delB zs.2 (rs.length - 1 - pre.length)).length] 24 (0, 0)), (zb, Obj.cells (rs.getD (rs.length - 1 - pre.length) default).cells.toArray 42 (0, 0))] 2 Tb.mixed rfl (by kernel_rfl) (by kernel_rfl) (by kernel_rfl) (by kernel_rfl) (by repeat (first | exact List.Sublist.slnil | exact List.nil_sublist _ | exact List.Sublist.refl _ | refine List.Sublist.cons_cons _ ?_ | refine List.Sublist.cons _ ?_ | refine List.Sublist.trans ?_ (List.sublist_append_right _ _))) ?_
      refine TB.op (SOK.pure (PV.loadBox rfl Tb.agg_24 (by repeat (first | exact List.Mem.head _ | refine List.Mem.tail _ ?_ | refine List.mem_append_right _ ?_)) rfl) rfl) (by decide) ?_
      refine TB.no ?_
      refine TB.op (SOK.pure (PV.loadBox rfl Tb.agg_42 (by repeat (first | exact List.Mem.head _ | refine List.Mem.tail _ ?_ | refine List.mem_append_right _ ?_)) rfl) rfl) (by decide) ?_
      refine TB.no ?_
      refine TB.fin ?_
      refine TX.step [1] (by kernel_rfl) (by decide) ⟨⟨_, rfl, ?_⟩, trivial⟩
      refine TL.call rfl Tb.gofn_84 (fun a w hs => plainG_ok w n _ _ _ (BdsAt.s (e := 42) hs.new (fun yy hyy => by rw [List.mem_singleton.1 (show yy ∈ [(b9, Obj.cells (bdc (delB zs.2 (rs.length - 1 - pre.length)) ++ x9).toArray 42 (0, 0))] from hyy)];  repeat (first | exact List.Mem.head _ | refine List.Mem.tail _ ?_ | refine List.mem_append_right _ ?_)) hx9) hvd) rfl (by decide) (fun h7 hh7 => ?_)
      refine TL.nil ?_
      refine TX.next (.inl (by repeat (first | exact List.Sublist.slnil | exact List.nil_sublist _ | exact List.Sublist.refl _ | refine List.Sublist.cons_cons _ ?_ | refine List.Sublist.cons _ ?_ | refine List.Sublist.trans ?_ (List.sublist_append_right _ _)))) ?_
      refine TX.step [3] (by kernel_rfl) (by decide) ⟨⟨_, rfl, ?_⟩, trivial⟩
      refine TL.call rfl Tb.gofn_75 (fun a w hs => follows_ok w h7 _ hh7 (BdsAt.s (e := 88) hs.new (fun yy hyy => by simp only [List.mem_append, List.mem_cons]; simp [hyy]) hh7) (by omega) _) rfl (by decide) (fun _ _ => ?_)
      refine TL.nil ?_
      refine TX.next (.inl (by repeat (first | exact List.Sublist.slnil | exact List.nil_sublist _ | exact List.Sublist.refl _ | refine List.Sublist.cons_cons _ ?_ | refine List.Sublist.cons _ ?_ | refine List.Sublist.trans ?_ (List.sublist_append_right _ _)))) ?_
      refine TX.done (by kernel_rfl) ?_
      refine TQ.thenG ?_
      first | refine TG.condD rfl (fun hfl => ?_) (fun hfl => ?_) | refine TG.cond rfl (fun hfl => ?_) (fun hfl => ?_)
      · skip
        refine TG.region (by repeat (first | with_reducible exact RB.lo | with_reducible exact QN.lo | with_reducible exact bodyM_lo | with_reducible exact bodyP_lo | with_reducible apply lo_then | with_reducible apply lo_blk)) (by kernel_rfl) ?_
        refine TL.pure (PV.loadBox rfl Tb.agg_24 (by repeat (first | exact List.Mem.head _ | refine List.Mem.tail _ ?_ | refine List.mem_append_right _ ?_)) rfl) rfl (by decide) ?_
        refine TL.storeAgg rfl rfl Tb.cells_24 (by repeat (first | exact Upd.head _ | apply Upd.tail | apply Upd.appR)) rfl rfl (by first | rfl | exact sv_one _ _ _) rfl rfl ?_
        refine TL.nil ?_
        refine TQ.gblkN ?_
        first | (refine TQ.perm (G' := (y9, Obj.cells #[.slice p rs.length cap] 22 (0, 0)) :: (b2, Obj.cells #[.int .i64 n, gval (some (b9, c9, x9)) (delB zs.2 (rs.length - 1 - pre.length)).length] 24 (0, 0)) :: (b9, Obj.cells (bdc (delB zs.2 (rs.length - 1 - pre.length)) ++ x9).toArray 42 (0, 0)) :: (gbB 88 h7 (plainB n.toNat (delB zs.2 (rs.length - 1 - pre.length))) ++ ((b4, Obj.cells #[.int .i64 n, gval (some (b9, c9, x9)) (delB zs.2 (rs.length - 1 - pre.length)).length] 24 (0, 0)) :: (zb, Obj.cells (rs.getD (rs.length - 1 - pre.length) default).cells.toArray 42 (0, 0)) :: (gbB 42 zs.1 zs.2 ++ ((b1, Obj.cells #[.int .i64 0, .slice none 0 0] 24 (0, 0)) :: (b0, Obj.cells #[.int .i64 n, .slice p rs.length cap] 24 (0, 0)) :: TR))))) (by repeat (first | exact List.Perm.refl _ | refine permTake (by repeat (first | exact Take.head _ | apply Take.tail | apply Take.appR)) ?_ | refine permMid ?_)) ?_; exact TQ.goOn (some (b9, c9, x9), delB zs.2 (rs.length - 1 - pre.length)) ⟨by rw [List.length_append, hpre]; exact (redK_yes (by rw [← hpre]; exact hfl)).symm, hx9⟩ (List.Sublist.cons_cons _ (List.Sublist.cons_cons _ (List.Sublist.cons_cons _ (List.Sublist.trans (List.Sublist.cons _ (List.Sublist.cons _ (List.sublist_append_right _ _))) (List.sublist_append_right _ _)))))) | exact TQ.goOn zs ⟨by rw [List.length_append, hpre]; exact (redK_no (by rw [← hpre]; exact hfl)).symm, hzg⟩ (by simp only [List.cons_append, List.append_assoc, List.nil_append]; exact List.Sublist.trans (List.Sublist.cons _ (List.Sublist.cons _ (List.Sublist.cons _ (List.Sublist.refl _)))) (List.sublist_append_right _ _))
      · skip
        refine TG.skip ?_
        refine TQ.gblkN ?_
        first | (refine TQ.perm (G' := (y9, Obj.cells #[.slice p rs.length cap] 22 (0, 0)) :: (b2, Obj.cells #[.int .i64 n, gval (some (b9, c9, x9)) (delB zs.2 (rs.length - 1 - pre.length)).length] 24 (0, 0)) :: (b9, Obj.cells (bdc (delB zs.2 (rs.length - 1 - pre.length)) ++ x9).toArray 42 (0, 0)) :: (gbB 88 h7 (plainB n.toNat (delB zs.2 (rs.length - 1 - pre.length))) ++ ((b4, Obj.cells #[.int .i64 n, gval (some (b9, c9, x9)) (delB zs.2 (rs.length - 1 - pre.length)).length] 24 (0, 0)) :: (zb, Obj.cells (rs.getD (rs.length - 1 - pre.length) default).cells.toArray 42 (0, 0)) :: (gbB 42 zs.1 zs.2 ++ ((b1, Obj.cells #[.int .i64 0, .slice none 0 0] 24 (0, 0)) :: (b0, Obj.cells #[.int .i64 n, .slice p rs.length cap] 24 (0, 0)) :: TR))))) (by repeat (first | exact List.Perm.refl _ | refine permTake (by repeat (first | exact Take.head _ | apply Take.tail | apply Take.appR)) ?_ | refine permMid ?_)) ?_; exact TQ.goOn (some (b9, c9, x9), delB zs.2 (rs.length - 1 - pre.length)) ⟨by rw [List.length_append, hpre]; exact (redK_yes (by rw [← hpre]; exact hfl)).symm, hx9⟩ (List.Sublist.cons_cons _ (List.Sublist.cons_cons _ (List.Sublist.cons_cons _ (List.Sublist.trans (List.Sublist.cons _ (List.Sublist.cons _ (List.sublist_append_right _ _))) (List.sublist_append_right _ _)))))) | exact TQ.goOn zs ⟨by rw [List.length_append, hpre]; exact (redK_no (by rw [← hpre]; exact hfl)).symm, hzg⟩ (by simp only [List.cons_append, List.append_assoc, List.nil_append]; exact List.Sublist.trans (List.Sublist.cons _ (List.Sublist.cons _ (List.Sublist.cons _ (List.Sublist.refl _)))) (List.sublist_append_right _ _))
    · skip
      intro dB lB oB xs_ s hD_ hF_
      obtain ⟨hpre, hsg⟩ := hF_
      obtain rfl : xs_ = bwd rs rs.length := hD_
      rw [bwd_len] at hpre
      refine TQ.perm (G' := (y9, Obj.cells #[.slice p rs.length cap] 22 (0, 0)) :: (b2, Obj.cells #[.int .i64 n, gval s.1 (s.2).length] 24 (0, 0)) :: (gbB 42 s.1 s.2 ++ ((b1, Obj.cells #[.int .i64 0, .slice none 0 0] 24 (0, 0)) :: (b0, Obj.cells #[.int .i64 n, .slice p rs.length cap] 24 (0, 0)) :: [(lB, oB), (dB, .deferred (some []))]))) (List.Perm.of_eq (by simp only [List.append_assoc, List.cons_append, List.nil_append])) ?_
      refine TQ.gblkN ?_
      refine TQ.thenD ?_
      refine TG.seq ?_
      refine TG.region (by repeat (first | with_reducible exact RB.lo | with_reducible exact QN.lo | with_reducible exact bodyM_lo | with_reducible exact bodyP_lo | with_reducible apply lo_then | with_reducible apply lo_blk)) (by kernel_rfl) ?_
      refine TL.pure (PV.loadBox rfl Tb.agg_24 (by repeat (first | exact List.Mem.head _ | refine List.Mem.tail _ ?_ | refine List.mem_append_right _ ?_)) rfl) rfl (by decide) ?_
      refine TL.storeAgg rfl rfl Tb.cells_24 (by repeat (first | exact Upd.head _ | apply Upd.tail | apply Upd.appR)) rfl rfl (by first | rfl | exact sv_one _ _ _) rfl rfl ?_
      refine TL.pure (PV.assign rfl) rfl (by decide) ?_
      refine TL.nil ?_
      refine TQ.thenG ?_
      refine TG.ret ?_
      refine TQ.retM (by repeat (first | exact Take.head _ | apply Take.tail | apply Take.appR)) ?_
      refine TQ.retR rfl (Res.agg rfl Tb.agg_24 (by repeat (first | exact List.Mem.head _ | refine List.Mem.tail _ ?_ | refine List.mem_append_right _ ?_)) rfl (Res.tmp rfl Res.nil)) ?_
      simp only [tup]
      exact ⟨(n, s.1, s.2), by rw [hz0], by rw [hpre] at hsg ⊢; exact CF.good hz0 hsg, List.Sublist.cons _ (List.Sublist.cons _ (List.sublist_append_left _ _))⟩
    · skip
      intro dB lB oB xs_ y hP_ hF_
      exact hF_.elim

end Go.Proofs.Ytenalmddoljhoaa
