/- Joined nets, and laws of leaving, turning, widening and joining: contracts. -/
import Derived.Test.YtnlbngbbddhgeaaGx
set_option linter.unusedVariables false
set_option linter.unusedSimpArgs false
namespace Go.Proofs.Ytnlbngbbddhgeaa
open Go.Sx Go.RowKit


set_option maxRecDepth 100000 in
theorem numP_ok (w0 : World) (v i j : Int) (pj pi : Addr) (hj : w0.cell? pj = some (.int .i64 j)) (hi : w0.cell? pi = some (.int .i64 i)) (hv8 : 0 ≤ v ∧ v < 8) (hi8 : 0 ≤ i ∧ i < 8) (hj8 : 0 ≤ j ∧ j < 8) :
    Calls Try.prog 78 #[.int .i64 v, .pointer (some pj), .pointer (some pi)] w0 (Post (X := Unit) (fun _ => .int .i64 (nmI i j v)) (fun _ => True) (fun _ => []) w0) := by
  refine calls Try.func78 rfl (n := 15) rfl (by simp) ?_
  refine TC.seq ?_
  refine TC.region ?_
  refine TL.pure (PV.assign rfl) rfl (by decide) ?_
  refine TL.nil ?_
  refine TQ.thenC ?_
  refine TC.seq ?_
  refine TC.seq ?_
  refine TC.region ?_
  refine TL.pure (PV.move rfl) rfl (by decide) ?_
  refine TL.pure (PV.loadOld rfl Tb.one_3 hj) rfl (by decide) ?_
  refine TL.pure (PV.eql rfl rfl) rfl (by decide) ?_
  refine TL.nil ?_
  refine TQ.thenC ?_
  first | refine TC.condD rfl (fun h1 => ?_) (fun h1 => ?_) | refine TC.cond rfl (fun h1 => ?_) (fun h1 => ?_)
  · skip
    refine TC.region ?_
    refine TL.pure (PV.loadOld rfl Tb.one_3 hi) rfl (by decide) ?_
    refine TL.pure (PV.assign rfl) rfl (by decide) ?_
    refine TL.nil ?_
    refine TQ.thenC ?_
    refine TC.seq ?_
    refine TC.seq ?_
    refine TC.region ?_
    refine TL.pure (PV.move rfl) rfl (by decide) ?_
    refine TL.pure (PV.loadOld rfl Tb.one_3 hj) rfl (by decide) ?_
    refine TL.pure (PV.gtr rfl rfl) rfl (by decide) ?_
    refine TL.nil ?_
    refine TQ.thenC ?_
    first | refine TC.condD rfl (fun h2 => ?_) (fun h2 => ?_) | refine TC.cond rfl (fun h2 => ?_) (fun h2 => ?_)
    · skip
      refine TC.seq ?_
      refine TC.region ?_
      refine TL.pure (PV.move rfl) rfl (by decide) ?_
      refine TL.pure (PV.sub rfl rfl (by omega)) rfl (by decide) ?_
      refine TL.pure (PV.assign rfl) rfl (by decide) ?_
      refine TL.nil ?_
      refine TQ.thenC ?_
      refine TC.ret ?_
      refine TQ.thenR ?_
      refine TQ.retE1 rfl rfl ?_
      exact ⟨(), by unfold nmI; (first | rw [if_pos h1] | rw [if_neg h1]); (first | rw [if_pos h2] | rw [if_neg h2]), trivial, List.nil_sublist _⟩
    · skip
      refine TC.skip ?_
      refine TQ.thenC ?_
      refine TC.seq ?_
      refine TC.region ?_
      refine TL.pure (PV.move rfl) rfl (by decide) ?_
      refine TL.pure (PV.assign rfl) rfl (by decide) ?_
      refine TL.nil ?_
      refine TQ.thenC ?_
      refine TC.ret ?_
      refine TQ.retE1 rfl rfl ?_
      exact ⟨(), by unfold nmI; (first | rw [if_pos h1] | rw [if_neg h1]); (first | rw [if_pos h2] | rw [if_neg h2]), trivial, List.nil_sublist _⟩
  · skip
    refine TC.skip ?_
    refine TQ.thenC ?_
    refine TC.seq ?_
    refine TC.seq ?_
    refine TC.region ?_
    refine TL.pure (PV.move rfl) rfl (by decide) ?_
    refine TL.pure (PV.loadOld rfl Tb.one_3 hj) rfl (by decide) ?_
    refine TL.pure (PV.gtr rfl rfl) rfl (by decide) ?_
    refine TL.nil ?_
    refine TQ.thenC ?_
    first | refine TC.condD rfl (fun h2 => ?_) (fun h2 => ?_) | refine TC.cond rfl (fun h2 => ?_) (fun h2 => ?_)
    · skip
      refine TC.seq ?_
      refine TC.region ?_
      refine TL.pure (PV.move rfl) rfl (by decide) ?_
      refine TL.pure (PV.sub rfl rfl (by omega)) rfl (by decide) ?_
      refine TL.pure (PV.assign rfl) rfl (by decide) ?_
      refine TL.nil ?_
      refine TQ.thenC ?_
      refine TC.ret ?_
      refine TQ.thenR ?_
      refine TQ.retE1 rfl rfl ?_
      exact ⟨(), by unfold nmI; (first | rw [if_pos h1] | rw [if_neg h1]); (first | rw [if_pos h2] | rw [if_neg h2]), trivial, List.nil_sublist _⟩
    · skip
      refine TC.skip ?_
      refine TQ.thenC ?_
      refine TC.seq ?_
      refine TC.region ?_
      refine TL.pure (PV.move rfl) rfl (by decide) ?_
      refine TL.pure (PV.assign rfl) rfl (by decide) ?_
      refine TL.nil ?_
      refine TQ.thenC ?_
      refine TC.ret ?_
      refine TQ.retE1 rfl rfl ?_
      exact ⟨(), by unfold nmI; (first | rw [if_pos h1] | rw [if_neg h1]); (first | rw [if_pos h2] | rw [if_neg h2]), trivial, List.nil_sublist _⟩

set_option maxRecDepth 100000 in
theorem named_ok (w0 : World) (v i j : Int) (hv8 : 0 ≤ v ∧ v < 8) (hi8 : 0 ≤ i ∧ i < 8) (hj8 : 0 ≤ j ∧ j < 8) :
    Calls Try.prog 79 #[.int .i64 v, .int .i64 i, .int .i64 j] w0 (Post (X := Unit) (fun _ => .int .i64 (nmI i j v)) (fun _ => True) (fun _ => []) w0) := by
  refine calls Try.func79 rfl (n := 17) rfl (by simp) ?_
  refine TC.seq ?_
  refine TC.region ?_
  refine TL.pure (PV.assign rfl) rfl (by decide) ?_
  refine TL.nil ?_
  refine TQ.thenC ?_
  refine TC.seq ?_
  refine TC.seq ?_
  refine TC.region ?_
  refine TL.pure (PV.move rfl) rfl (by decide) ?_
  refine TL.pure (PV.move rfl) rfl (by decide) ?_
  refine TL.pure (PV.eql rfl rfl) rfl (by decide) ?_
  refine TL.nil ?_
  refine TQ.thenC ?_
  first | refine TC.condD rfl (fun h1 => ?_) (fun h1 => ?_) | refine TC.cond rfl (fun h1 => ?_) (fun h1 => ?_)
  · skip
    refine TC.region ?_
    refine TL.pure (PV.move rfl) rfl (by decide) ?_
    refine TL.pure (PV.assign rfl) rfl (by decide) ?_
    refine TL.nil ?_
    refine TQ.thenC ?_
    refine TC.seq ?_
    refine TC.seq ?_
    refine TC.region ?_
    refine TL.pure (PV.move rfl) rfl (by decide) ?_
    refine TL.pure (PV.move rfl) rfl (by decide) ?_
    refine TL.pure (PV.gtr rfl rfl) rfl (by decide) ?_
    refine TL.nil ?_
    refine TQ.thenC ?_
    first | refine TC.condD rfl (fun h2 => ?_) (fun h2 => ?_) | refine TC.cond rfl (fun h2 => ?_) (fun h2 => ?_)
    · skip
      refine TC.region ?_
      refine TL.pure (PV.move rfl) rfl (by decide) ?_
      refine TL.pure (PV.sub rfl rfl (by omega)) rfl (by decide) ?_
      refine TL.pure (PV.assign rfl) rfl (by decide) ?_
      refine TL.nil ?_
      refine TQ.thenC ?_
      refine TC.seq ?_
      refine TC.region ?_
      refine TL.pure (PV.move rfl) rfl (by decide) ?_
      refine TL.pure (PV.assign rfl) rfl (by decide) ?_
      refine TL.nil ?_
      refine TQ.thenC ?_
      refine TC.ret ?_
      refine TQ.retE1 rfl rfl ?_
      exact ⟨(), by unfold nmI; (first | rw [if_pos h1] | rw [if_neg h1]); (first | rw [if_pos h2] | rw [if_neg h2]), trivial, List.nil_sublist _⟩
    · skip
      refine TC.skip ?_
      refine TQ.thenC ?_
      refine TC.seq ?_
      refine TC.region ?_
      refine TL.pure (PV.move rfl) rfl (by decide) ?_
      refine TL.pure (PV.assign rfl) rfl (by decide) ?_
      refine TL.nil ?_
      refine TQ.thenC ?_
      refine TC.ret ?_
      refine TQ.retE1 rfl rfl ?_
      exact ⟨(), by unfold nmI; (first | rw [if_pos h1] | rw [if_neg h1]); (first | rw [if_pos h2] | rw [if_neg h2]), trivial, List.nil_sublist _⟩
  · skip
    refine TC.skip ?_
    refine TQ.thenC ?_
    refine TC.seq ?_
    refine TC.seq ?_
    refine TC.region ?_
    refine TL.pure (PV.move rfl) rfl (by decide) ?_
    refine TL.pure (PV.move rfl) rfl (by decide) ?_
    refine TL.pure (PV.gtr rfl rfl) rfl (by decide) ?_
    refine TL.nil ?_
    refine TQ.thenC ?_
    first | refine TC.condD rfl (fun h2 => ?_) (fun h2 => ?_) | refine TC.cond rfl (fun h2 => ?_) (fun h2 => ?_)
    · skip
      refine TC.region ?_
      refine TL.pure (PV.move rfl) rfl (by decide) ?_
      refine TL.pure (PV.sub rfl rfl (by omega)) rfl (by decide) ?_
      refine TL.pure (PV.assign rfl) rfl (by decide) ?_
      refine TL.nil ?_
      refine TQ.thenC ?_
      refine TC.seq ?_
      refine TC.region ?_
      refine TL.pure (PV.move rfl) rfl (by decide) ?_
      refine TL.pure (PV.assign rfl) rfl (by decide) ?_
      refine TL.nil ?_
      refine TQ.thenC ?_
      refine TC.ret ?_
      refine TQ.retE1 rfl rfl ?_
      exact ⟨(), by unfold nmI; (first | rw [if_pos h1] | rw [if_neg h1]); (first | rw [if_pos h2] | rw [if_neg h2]), trivial, List.nil_sublist _⟩
    · skip
      refine TC.skip ?_
      refine TQ.thenC ?_
      refine TC.seq ?_
      refine TC.region ?_
      refine TL.pure (PV.move rfl) rfl (by decide) ?_
      refine TL.pure (PV.assign rfl) rfl (by decide) ?_
      refine TL.nil ?_
      refine TQ.thenC ?_
      refine TC.ret ?_
      refine TQ.retE1 rfl rfl ?_
      exact ⟨(), by unfold nmI; (first | rw [if_pos h1] | rw [if_neg h1]); (first | rw [if_pos h2] | rw [if_neg h2]), trivial, List.nil_sublist _⟩

set_option maxRecDepth 100000 in
set_option maxHeartbeats 4000000 in
theorem Join_v (w0 : World) (n s t : Nat) (p : Option Addr) (cap : Nat) (rs : List Bd) (hr : BdsAt w0 p rs) (hv : Vd n s t rs) (hd0 : dI n s t rs = 0) (i j : Int) :
    Calls Try.prog 48 #[dnV n s t p rs.length cap, .int .i64 i, .int .i64 j] w0 (Post (X := NX) (fun x => .tuple #[x.val, .int .i64 (joI n s t i j)]) (fun x => NF (joI n s t i j) (n - 1) (nmI i j s) (nmI i j t) (jo i j rs) x) (fun x => gbB 40 x.h x.l) w0) := by
  have hw := hv.w1
  have hlen := hv.len
  have hn8 := hw.n8
  have hsn := hw.sn
  have htn := hw.tn
  have h256 := p2_256 hn8
  have hpos := Nat.two_pow_pos n
  refine calls Try.func48 rfl (n := 84) rfl (by simp) ?_
  refine TC.seq ?_
  refine TC.region ?_
  refine TL.box rfl rfl (by decide) (fun b0 hb0 => ?_)
  refine TL.box rfl rfl (by decide) (fun b1 hb1 => ?_)
  refine TL.box rfl rfl (by decide) (fun b2 hb2 => ?_)
  refine TL.alloc Tb.zero_24 rfl (by decide) (fun b3 hb3 => ?_)
  refine TL.pure (PV.assign rfl) rfl (by decide) ?_
  refine TL.nil ?_
  refine TQ.thenC ?_
  refine TC.seq ?_
  refine TC.seq ?_
  refine TC.region ?_
  refine TL.pure (PV.loadBox rfl Tb.agg_24 (by repeat (first | exact List.Mem.head _ | refine List.Mem.tail _ ?_ | refine List.mem_append_right _ ?_)) rfl) rfl (by decide) ?_
  refine TL.call rfl Tb.gofn_20 (fun a w hs => validate_ok w n s t p cap rs (hr.new hs.new)) rfl (by decide) (fun _ _ => ?_)
  refine TL.pure (PV.assign rfl) rfl (by decide) ?_
  refine TL.nil ?_
  refine TQ.thenC ?_
  refine TC.seq ?_
  refine TC.region ?_
  refine TL.pure (PV.move rfl) rfl (by decide) ?_
  refine TL.pure (PV.neq rfl rfl) rfl (by decide) ?_
  refine TL.nil ?_
  refine TQ.thenC ?_
  first | refine TC.condD rfl (fun hv9 => ?_) (fun hv9 => ?_) | refine TC.cond rfl (fun hv9 => ?_) (fun hv9 => ?_)
  · skip
    refine TC.seq ?_
    refine TC.region ?_
    refine TL.pure (PV.build rfl Tb.zero_24 Tb.pl_24 rfl) rfl (by decide) ?_
    refine TL.pure (PV.move rfl) rfl (by decide) ?_
    refine TL.storeAgg (vs := [.int .i64 0, .int .i64 0, .int .i64 0, .slice none 0 0]) rfl rfl Tb.cells_24 (by repeat (first | exact Upd.head _ | apply Upd.tail | apply Upd.appR)) rfl rfl rfl rfl rfl ?_
    refine TL.pure (PV.assign rfl) rfl (by decide) ?_
    refine TL.nil ?_
    refine TQ.thenC ?_
    refine TC.ret ?_
    refine TQ.thenR ?_
    refine TQ.retR rfl (Res.agg rfl Tb.agg_24 (by repeat (first | exact List.Mem.head _ | refine List.Mem.tail _ ?_ | refine List.mem_append_right _ ?_)) rfl (Res.tmp rfl Res.nil)) ?_
    simp only [tup]
    first | exact absurd hd0 hv9 | exact ⟨NX.zero, by rw [joI_4 (by omega)]; rfl, NF.bad (by rw [joI_4 (by omega)]; decide), List.nil_sublist _⟩ | exact ⟨NX.zero, by rw [joI_1 hin (by first | omega | exact .inr ((nm_eq hin hv.s0 hv.t0 hv.st a2).1 hbad))]; rfl, NF.bad (by rw [joI_1 hin (by first | omega | exact .inr ((nm_eq hin hv.s0 hv.t0 hv.st a2).1 hbad))]; decide), List.nil_sublist _⟩ | exact ⟨⟨(n - 1 : Int), nmI i j s, nmI i j t, x.2, jo i j rs⟩, by rw [joI_0 hin hgood, hxe, List.take_length]; rfl, NF.good (joI_0 hin hgood) (by have h9 := hx.2; rw [hxe, List.take_length] at h9; exact h9), by rw [hxe, List.take_length]; exact (by repeat (first | exact List.Sublist.slnil | exact List.nil_sublist _ | exact List.Sublist.refl _ | exact List.sublist_append_left _ _ | refine List.Sublist.cons_cons _ ?_ | refine (List.append_sublist_append_left _).2 ?_ | refine List.Sublist.cons _ ?_ | refine List.Sublist.trans ?_ (List.sublist_append_right _ _)))⟩
  · skip
    refine TC.skip ?_
    refine TQ.thenC ?_
    refine TC.seqG [3, 4, 5, 6, 7] (X := Unit) (fun x9 => (0 ≤ i ∧ i < (n : Int)) ∧ (0 ≤ j ∧ j < (n : Int))) (fun x9 => []) ?_ ?_
    · skip
      refine TC.seq ?_
      refine TC.region ?_
      refine TL.pure (PV.loadBox rfl Tb.agg_24 (by repeat (first | exact List.Mem.head _ | refine List.Mem.tail _ ?_ | refine List.mem_append_right _ ?_)) rfl) rfl (by decide) ?_
      refine TL.pure (PV.load rfl Tb.one_3 (by repeat (first | exact List.Mem.head _ | refine List.Mem.tail _ ?_ | refine List.mem_append_right _ ?_)) rfl) rfl (by decide) ?_
      refine TL.call rfl Tb.gofn_59 (fun a w hs => isNode_ok _ _ _ _ _ _) rfl (by decide) (fun _ _ => ?_)
      refine TL.pure ((by first | exact PV.notD rfl | exact PV.not rfl)) rfl (by decide) ?_
      refine TL.pure (PV.move rfl) rfl (by decide) ?_
      first | refine TL.splitD 23 rfl (fun a1 => ?_) (fun a1 => ?_) | refine TL.split 23 rfl (fun a1 => ?_) (fun a1 => ?_)
      · skip
        refine TL.skip rfl (fun k hk => by cases hk; decide) ?_
        refine TL.skip rfl (fun k hk => by cases hk; decide) ?_
        refine TL.skip rfl (fun k hk => by cases hk; decide) ?_
        refine TL.skip rfl (fun k hk => by cases hk; decide) ?_
        refine TL.pure (PV.pickT rfl rfl) rfl (by decide) ?_
        refine TL.nil ?_
        refine TQ.thenC ?_
        refine TC.condT rfl ?_
        refine TC.seq ?_
        refine TC.region ?_
        refine TL.pure (PV.build rfl Tb.zero_24 Tb.pl_24 rfl) rfl (by decide) ?_
        refine TL.storeAgg (vs := [.int .i64 0, .int .i64 0, .int .i64 0, .slice none 0 0]) rfl rfl Tb.cells_24 (by repeat (first | exact Upd.head _ | apply Upd.tail | apply Upd.appR)) rfl rfl rfl rfl rfl ?_
        refine TL.pure (PV.assign rfl) rfl (by decide) ?_
        refine TL.nil ?_
        refine TQ.thenC ?_
        refine TC.ret ?_
        refine TQ.thenR ?_
        refine TQ.retR rfl (Res.agg rfl Tb.agg_24 (by repeat (first | exact List.Mem.head _ | refine List.Mem.tail _ ?_ | refine List.mem_append_right _ ?_)) rfl (Res.tmp rfl Res.nil)) ?_
        simp only [tup]
        first | exact absurd hd0 hv9 | exact ⟨NX.zero, by rw [joI_4 (by omega)]; rfl, NF.bad (by rw [joI_4 (by omega)]; decide), List.nil_sublist _⟩ | exact ⟨NX.zero, by rw [joI_1 hin (by first | omega | exact .inr ((nm_eq hin hv.s0 hv.t0 hv.st a2).1 hbad))]; rfl, NF.bad (by rw [joI_1 hin (by first | omega | exact .inr ((nm_eq hin hv.s0 hv.t0 hv.st a2).1 hbad))]; decide), List.nil_sublist _⟩ | exact ⟨⟨(n - 1 : Int), nmI i j s, nmI i j t, x.2, jo i j rs⟩, by rw [joI_0 hin hgood, hxe, List.take_length]; rfl, NF.good (joI_0 hin hgood) (by have h9 := hx.2; rw [hxe, List.take_length] at h9; exact h9), by rw [hxe, List.take_length]; exact (by repeat (first | exact List.Sublist.slnil | exact List.nil_sublist _ | exact List.Sublist.refl _ | exact List.sublist_append_left _ _ | refine List.Sublist.cons_cons _ ?_ | refine (List.append_sublist_append_left _).2 ?_ | refine List.Sublist.cons _ ?_ | refine List.Sublist.trans ?_ (List.sublist_append_right _ _)))⟩
      · skip
        refine TL.pure (PV.loadBox rfl Tb.agg_24 (by repeat (first | exact List.Mem.head _ | refine List.Mem.tail _ ?_ | refine List.mem_append_right _ ?_)) rfl) rfl (by decide) ?_
        refine TL.pure (PV.load rfl Tb.one_3 (by repeat (first | exact List.Mem.head _ | refine List.Mem.tail _ ?_ | refine List.mem_append_right _ ?_)) rfl) rfl (by decide) ?_
        refine TL.call rfl Tb.gofn_59 (fun a w hs => isNode_ok _ _ _ _ _ _) rfl (by decide) (fun _ _ => ?_)
        refine TL.pure ((by first | exact PV.notD rfl | exact PV.not rfl)) rfl (by decide) ?_
        refine TL.pure (PV.pickF rfl rfl) rfl (by decide) ?_
        refine TL.nil ?_
        refine TQ.thenC ?_
        first | refine TC.condD rfl (fun hnn => ?_) (fun hnn => ?_) | refine TC.cond rfl (fun hnn => ?_) (fun hnn => ?_)
        · skip
          refine TC.seq ?_
          refine TC.region ?_
          refine TL.pure (PV.build rfl Tb.zero_24 Tb.pl_24 rfl) rfl (by decide) ?_
          refine TL.storeAgg (vs := [.int .i64 0, .int .i64 0, .int .i64 0, .slice none 0 0]) rfl rfl Tb.cells_24 (by repeat (first | exact Upd.head _ | apply Upd.tail | apply Upd.appR)) rfl rfl rfl rfl rfl ?_
          refine TL.pure (PV.assign rfl) rfl (by decide) ?_
          refine TL.nil ?_
          refine TQ.thenC ?_
          refine TC.ret ?_
          refine TQ.thenR ?_
          refine TQ.retR rfl (Res.agg rfl Tb.agg_24 (by repeat (first | exact List.Mem.head _ | refine List.Mem.tail _ ?_ | refine List.mem_append_right _ ?_)) rfl (Res.tmp rfl Res.nil)) ?_
          simp only [tup]
          first | exact absurd hd0 hv9 | exact ⟨NX.zero, by rw [joI_4 (by omega)]; rfl, NF.bad (by rw [joI_4 (by omega)]; decide), List.nil_sublist _⟩ | exact ⟨NX.zero, by rw [joI_1 hin (by first | omega | exact .inr ((nm_eq hin hv.s0 hv.t0 hv.st a2).1 hbad))]; rfl, NF.bad (by rw [joI_1 hin (by first | omega | exact .inr ((nm_eq hin hv.s0 hv.t0 hv.st a2).1 hbad))]; decide), List.nil_sublist _⟩ | exact ⟨⟨(n - 1 : Int), nmI i j s, nmI i j t, x.2, jo i j rs⟩, by rw [joI_0 hin hgood, hxe, List.take_length]; rfl, NF.good (joI_0 hin hgood) (by have h9 := hx.2; rw [hxe, List.take_length] at h9; exact h9), by rw [hxe, List.take_length]; exact (by repeat (first | exact List.Sublist.slnil | exact List.nil_sublist _ | exact List.Sublist.refl _ | exact List.sublist_append_left _ _ | refine List.Sublist.cons_cons _ ?_ | refine (List.append_sublist_append_left _).2 ?_ | refine List.Sublist.cons _ ?_ | refine List.Sublist.trans ?_ (List.sublist_append_right _ _)))⟩
        · skip
          have hin : (0 ≤ i ∧ i < (n : Int)) ∧ (0 ≤ j ∧ j < (n : Int)) := by omega
          refine TC.skip ?_
          refine TQ.thenN ?_
          refine TQ.midK () (by repeat (first | exact True.intro | refine And.intro rfl ?_)) (by repeat (first | exact True.intro | refine And.intro rfl ?_)) (by repeat (first | exact List.Sublist.slnil | exact List.nil_sublist _ | exact List.Sublist.refl _ | refine List.Sublist.cons_cons _ ?_ | refine List.Sublist.cons _ ?_ | refine List.Sublist.trans ?_ (List.sublist_append_right _ _))) hin
    · skip
      intro x9 hin
      refine TC.lit [(3, _), (4, _), (5, _), (6, _), (7, _)] (by repeat (first | exact True.intro | refine And.intro rfl ?_)) ?_
      refine TC.seq ?_
      refine TC.region ?_
      refine TL.pure (PV.makeFunc rfl) rfl (by decide) ?_
      refine TL.pure (PV.assign rfl) rfl (by decide) ?_
      refine TL.nil ?_
      refine TQ.thenC ?_
      refine TC.seqK [3, 4, 5, 6, 7, 9] (X := Nat) (fun bN => True) (fun bN => [(10, .pointer (some ⟨bN, 0, none⟩))]) (fun bN => [(bN, Obj.cells #[.int .i64 (n - 1 : Int), .int .i64 (nmI i j s), .int .i64 (nmI i j t), .slice none 0 0] 24 (0, 0)), (b3, Obj.cells #[.int .i64 0, .int .i64 0, .int .i64 0, .slice none 0 0] 24 (0, 0)), (b2, Obj.cells #[.int .i64 j] 3 (0, 0)), (b1, Obj.cells #[.int .i64 i] 3 (0, 0)), (b0, Obj.cells #[.int .i64 (n : Nat), .int .i64 (s : Nat), .int .i64 (t : Nat), .slice p rs.length cap] 24 (0, 0))]) ?_ ?_
      · skip
        refine TC.mixV [true, true, true, true, true, true, false, true, true, true, false, true, false, false] [(b3, Obj.cells #[.int .i64 0, .int .i64 0, .int .i64 0, .slice none 0 0] 24 (0, 0)), (b2, Obj.cells #[.int .i64 j] 3 (0, 0)), (b1, Obj.cells #[.int .i64 i] 3 (0, 0)), (b0, Obj.cells #[.int .i64 (n : Nat), .int .i64 (s : Nat), .int .i64 (t : Nat), .slice p rs.length cap] 24 (0, 0))] 14 Tb.mixed rfl (by kernel_rfl) (by kernel_rfl) (by kernel_rfl) (by kernel_rfl) (by repeat (first | exact List.Sublist.slnil | exact List.nil_sublist _ | exact List.Sublist.refl _ | refine List.Sublist.cons_cons _ ?_ | refine List.Sublist.cons _ ?_ | refine List.Sublist.trans ?_ (List.sublist_append_right _ _))) ?_
        refine TV.virt 0 rfl rfl (by decide) rfl (by kernel_rfl) (SOK.pure (PV.fieldAddr rfl Tb.fo_24_0) rfl) ?_
        refine TV.virt 1 rfl rfl (by decide) rfl (by kernel_rfl) (SOK.pure (PV.load rfl Tb.one_3 (by repeat (first | exact List.Mem.head _ | refine List.Mem.tail _ ?_ | refine List.mem_append_right _ ?_)) rfl) rfl) ?_
        refine TV.virt 2 rfl rfl (by decide) rfl (by kernel_rfl) (SOK.pure (PV.sub rfl rfl (by omega)) rfl) ?_
        refine TV.virt 3 rfl rfl (by decide) rfl (by kernel_rfl) (SOK.pure (PV.move rfl) rfl) ?_
        refine TV.virt 4 rfl rfl (by decide) rfl (by kernel_rfl) (SOK.pure (PV.fieldAddr rfl Tb.fo_24_1) rfl) ?_
        refine TV.virt 5 rfl rfl (by decide) rfl (by kernel_rfl) (SOK.pure (PV.load rfl Tb.one_3 (by repeat (first | exact List.Mem.head _ | refine List.Mem.tail _ ?_ | refine List.mem_append_right _ ?_)) rfl) rfl) ?_
        refine TV.virt 7 rfl rfl (by decide) rfl (by kernel_rfl) (SOK.pure (PV.move rfl) rfl) ?_
        refine TV.virt 8 rfl rfl (by decide) rfl (by kernel_rfl) (SOK.pure (PV.fieldAddr rfl Tb.fo_24_2) rfl) ?_
        refine TV.virt 9 rfl rfl (by decide) rfl (by kernel_rfl) (SOK.pure (PV.load rfl Tb.one_3 (by repeat (first | exact List.Mem.head _ | refine List.Mem.tail _ ?_ | refine List.mem_append_right _ ?_)) rfl) rfl) ?_
        refine TV.step [6, 12] (by kernel_rfl) (by decide) rfl ⟨⟨_, rfl, ?_⟩, ⟨_, rfl, ?_⟩, trivial⟩
        · skip
          refine TL.callFN (f := 78) (k := 34) (vs := [.int .i64 (s : Nat)]) (caps := [.pointer (some ⟨b2, 0, none⟩), .pointer (some ⟨b1, 0, none⟩)]) (.int .i64 (nmI i j s)) rfl rfl Tb.gofn_78 (fun a w hs => numP_ok w s i j ⟨b2, 0, none⟩ ⟨b1, 0, none⟩ (hs.new.cell (by repeat (first | exact List.Mem.head _ | refine List.Mem.tail _ ?_ | refine List.mem_append_right _ ?_)) rfl) (hs.new.cell (by repeat (first | exact List.Mem.head _ | refine List.Mem.tail _ ?_ | refine List.mem_append_right _ ?_)) rfl) (by omega) (by omega) (by omega)) rfl (by decide) ?_
          refine TL.nil ?_
          refine TV.next (.inl (by repeat (first | exact List.Sublist.slnil | exact List.nil_sublist _ | exact List.Sublist.refl _ | refine List.Sublist.cons_cons _ ?_ | refine List.Sublist.cons _ ?_ | refine List.Sublist.trans ?_ (List.sublist_append_right _ _)))) ?_
          refine TV.step [10, 12] (by kernel_rfl) (by decide) rfl ⟨⟨_, rfl, ?_⟩, ⟨_, rfl, ?_⟩, trivial⟩
          · skip
            refine TL.callFN (f := 78) (k := 38) (vs := [.int .i64 (t : Nat)]) (caps := [.pointer (some ⟨b2, 0, none⟩), .pointer (some ⟨b1, 0, none⟩)]) (.int .i64 (nmI i j t)) rfl rfl Tb.gofn_78 (fun a w hs => numP_ok w t i j ⟨b2, 0, none⟩ ⟨b1, 0, none⟩ (hs.new.cell (by repeat (first | exact List.Mem.head _ | refine List.Mem.tail _ ?_ | refine List.mem_append_right _ ?_)) rfl) (hs.new.cell (by repeat (first | exact List.Mem.head _ | refine List.Mem.tail _ ?_ | refine List.mem_append_right _ ?_)) rfl) (by omega) (by omega) (by omega)) rfl (by decide) ?_
            refine TL.nil ?_
            refine TV.next (.inl (by repeat (first | exact List.Sublist.slnil | exact List.nil_sublist _ | exact List.Sublist.refl _ | refine List.Sublist.cons_cons _ ?_ | refine List.Sublist.cons _ ?_ | refine List.Sublist.trans ?_ (List.sublist_append_right _ _)))) ?_
            refine TV.virt 11 rfl rfl (by decide) rfl (by kernel_rfl) (SOK.pure (PV.build rfl Tb.zero_24 Tb.pl_24 rfl) rfl) ?_
            refine TV.step [12] (by kernel_rfl) (by decide) rfl ⟨⟨_, rfl, ?_⟩, trivial⟩
            refine TL.alloc Tb.zero_24 rfl (by decide) (fun bN hbN => ?_)
            refine TL.nil ?_
            refine TV.next (.inl (by repeat (first | exact List.Sublist.slnil | exact List.nil_sublist _ | exact List.Sublist.refl _ | refine List.Sublist.cons_cons _ ?_ | refine List.Sublist.cons _ ?_ | refine List.Sublist.trans ?_ (List.sublist_append_right _ _)))) ?_
            refine TV.step [13] (by kernel_rfl) (by decide) rfl ⟨⟨_, rfl, ?_⟩, trivial⟩
            refine TL.storeAgg (vs := [.int .i64 (n - 1 : Int), .int .i64 (nmI i j s), .int .i64 (nmI i j t), .slice none 0 0]) rfl rfl Tb.cells_24 (by repeat (first | exact Upd.head _ | apply Upd.tail | apply Upd.appR)) rfl rfl rfl rfl rfl ?_
            refine TL.nil ?_
            refine TV.next (.inr (by kernel_rfl)) ?_
            refine TV.done (by kernel_rfl) ?_
            refine TQ.thenN ?_
            refine TQ.midK bN (by repeat (first | exact True.intro | refine And.intro rfl ?_)) (by repeat (first | exact True.intro | refine And.intro rfl ?_)) (by repeat (first | exact List.Sublist.slnil | exact List.nil_sublist _ | exact List.Sublist.refl _ | exact List.sublist_append_left _ _ | refine List.Sublist.cons_cons _ ?_ | refine (List.append_sublist_append_left _).2 ?_ | refine List.Sublist.cons _ ?_ | refine List.Sublist.trans ?_ (List.sublist_append_right _ _))) trivial
          · skip
            refine TL.alloc Tb.zero_24 rfl (by decide) (fun bN hbN => ?_)
            refine TL.nil ?_
            refine TV.next (.inl (by repeat (first | exact List.Sublist.slnil | exact List.nil_sublist _ | exact List.Sublist.refl _ | refine List.Sublist.cons_cons _ ?_ | refine List.Sublist.cons _ ?_ | refine List.Sublist.trans ?_ (List.sublist_append_right _ _)))) ?_
            refine TV.step [10] (by kernel_rfl) (by decide) rfl ⟨⟨_, rfl, ?_⟩, trivial⟩
            refine TL.callFN (f := 78) (k := 38) (vs := [.int .i64 (t : Nat)]) (caps := [.pointer (some ⟨b2, 0, none⟩), .pointer (some ⟨b1, 0, none⟩)]) (.int .i64 (nmI i j t)) rfl rfl Tb.gofn_78 (fun a w hs => numP_ok w t i j ⟨b2, 0, none⟩ ⟨b1, 0, none⟩ (hs.new.cell (by repeat (first | exact List.Mem.head _ | refine List.Mem.tail _ ?_ | refine List.mem_append_right _ ?_)) rfl) (hs.new.cell (by repeat (first | exact List.Mem.head _ | refine List.Mem.tail _ ?_ | refine List.mem_append_right _ ?_)) rfl) (by omega) (by omega) (by omega)) rfl (by decide) ?_
            refine TL.nil ?_
            refine TV.next (.inl (by repeat (first | exact List.Sublist.slnil | exact List.nil_sublist _ | exact List.Sublist.refl _ | refine List.Sublist.cons_cons _ ?_ | refine List.Sublist.cons _ ?_ | refine List.Sublist.trans ?_ (List.sublist_append_right _ _)))) ?_
            refine TV.virt 11 rfl rfl (by decide) rfl (by kernel_rfl) (SOK.pure (PV.build rfl Tb.zero_24 Tb.pl_24 rfl) rfl) ?_
            refine TV.step [13] (by kernel_rfl) (by decide) rfl ⟨⟨_, rfl, ?_⟩, trivial⟩
            refine TL.storeAgg (vs := [.int .i64 (n - 1 : Int), .int .i64 (nmI i j s), .int .i64 (nmI i j t), .slice none 0 0]) rfl rfl Tb.cells_24 (by repeat (first | exact Upd.head _ | apply Upd.tail | apply Upd.appR)) rfl rfl rfl rfl rfl ?_
            refine TL.nil ?_
            refine TV.next (.inr (by kernel_rfl)) ?_
            refine TV.done (by kernel_rfl) ?_
            refine TQ.thenN ?_
            refine TQ.midK bN (by repeat (first | exact True.intro | refine And.intro rfl ?_)) (by repeat (first | exact True.intro | refine And.intro rfl ?_)) (by repeat (first | exact List.Sublist.slnil | exact List.nil_sublist _ | exact List.Sublist.refl _ | exact List.sublist_append_left _ _ | refine List.Sublist.cons_cons _ ?_ | refine (List.append_sublist_append_left _).2 ?_ | refine List.Sublist.cons _ ?_ | refine List.Sublist.trans ?_ (List.sublist_append_right _ _))) trivial
        · skip
          refine TL.alloc Tb.zero_24 rfl (by decide) (fun bN hbN => ?_)
          refine TL.nil ?_
          refine TV.next (.inl (by repeat (first | exact List.Sublist.slnil | exact List.nil_sublist _ | exact List.Sublist.refl _ | refine List.Sublist.cons_cons _ ?_ | refine List.Sublist.cons _ ?_ | refine List.Sublist.trans ?_ (List.sublist_append_right _ _)))) ?_
          refine TV.step [6] (by kernel_rfl) (by decide) rfl ⟨⟨_, rfl, ?_⟩, trivial⟩
          refine TL.callFN (f := 78) (k := 34) (vs := [.int .i64 (s : Nat)]) (caps := [.pointer (some ⟨b2, 0, none⟩), .pointer (some ⟨b1, 0, none⟩)]) (.int .i64 (nmI i j s)) rfl rfl Tb.gofn_78 (fun a w hs => numP_ok w s i j ⟨b2, 0, none⟩ ⟨b1, 0, none⟩ (hs.new.cell (by repeat (first | exact List.Mem.head _ | refine List.Mem.tail _ ?_ | refine List.mem_append_right _ ?_)) rfl) (hs.new.cell (by repeat (first | exact List.Mem.head _ | refine List.Mem.tail _ ?_ | refine List.mem_append_right _ ?_)) rfl) (by omega) (by omega) (by omega)) rfl (by decide) ?_
          refine TL.nil ?_
          refine TV.next (.inl (by repeat (first | exact List.Sublist.slnil | exact List.nil_sublist _ | exact List.Sublist.refl _ | refine List.Sublist.cons_cons _ ?_ | refine List.Sublist.cons _ ?_ | refine List.Sublist.trans ?_ (List.sublist_append_right _ _)))) ?_
          refine TV.step [10] (by kernel_rfl) (by decide) rfl ⟨⟨_, rfl, ?_⟩, trivial⟩
          refine TL.callFN (f := 78) (k := 38) (vs := [.int .i64 (t : Nat)]) (caps := [.pointer (some ⟨b2, 0, none⟩), .pointer (some ⟨b1, 0, none⟩)]) (.int .i64 (nmI i j t)) rfl rfl Tb.gofn_78 (fun a w hs => numP_ok w t i j ⟨b2, 0, none⟩ ⟨b1, 0, none⟩ (hs.new.cell (by repeat (first | exact List.Mem.head _ | refine List.Mem.tail _ ?_ | refine List.mem_append_right _ ?_)) rfl) (hs.new.cell (by repeat (first | exact List.Mem.head _ | refine List.Mem.tail _ ?_ | refine List.mem_append_right _ ?_)) rfl) (by omega) (by omega) (by omega)) rfl (by decide) ?_
          refine TL.nil ?_
          refine TV.next (.inl (by repeat (first | exact List.Sublist.slnil | exact List.nil_sublist _ | exact List.Sublist.refl _ | refine List.Sublist.cons_cons _ ?_ | refine List.Sublist.cons _ ?_ | refine List.Sublist.trans ?_ (List.sublist_append_right _ _)))) ?_
          refine TV.virt 11 rfl rfl (by decide) rfl (by kernel_rfl) (SOK.pure (PV.build rfl Tb.zero_24 Tb.pl_24 rfl) rfl) ?_
          refine TV.step [13] (by kernel_rfl) (by decide) rfl ⟨⟨_, rfl, ?_⟩, trivial⟩
          refine TL.storeAgg (vs := [.int .i64 (n - 1 : Int), .int .i64 (nmI i j s), .int .i64 (nmI i j t), .slice none 0 0]) rfl rfl Tb.cells_24 (by repeat (first | exact Upd.head _ | apply Upd.tail | apply Upd.appR)) rfl rfl rfl rfl rfl ?_
          refine TL.nil ?_
          refine TV.next (.inr (by kernel_rfl)) ?_
          refine TV.done (by kernel_rfl) ?_
          refine TQ.thenN ?_
          refine TQ.midK bN (by repeat (first | exact True.intro | refine And.intro rfl ?_)) (by repeat (first | exact True.intro | refine And.intro rfl ?_)) (by repeat (first | exact List.Sublist.slnil | exact List.nil_sublist _ | exact List.Sublist.refl _ | exact List.sublist_append_left _ _ | refine List.Sublist.cons_cons _ ?_ | refine (List.append_sublist_append_left _).2 ?_ | refine List.Sublist.cons _ ?_ | refine List.Sublist.trans ?_ (List.sublist_append_right _ _))) trivial
      · skip
        intro bN _
        refine TC.lit [(3, _), (4, _), (5, _), (6, _), (7, _), (9, _), (10, _)] (by repeat (first | exact True.intro | refine And.intro rfl ?_)) ?_
        refine TC.seqG [3, 6, 7, 9, 10] (X := Unit) (fun x9 => ¬ (i = j ∨ (i = (s : Int) ∧ j = (t : Int)) ∨ (i = (t : Int) ∧ j = (s : Int)))) (fun x9 => []) ?_ ?_
        · skip
          refine TC.seq ?_
          refine TC.region ?_
          refine TL.pure (PV.load rfl Tb.one_3 (by repeat (first | exact List.Mem.head _ | refine List.Mem.tail _ ?_ | refine List.mem_append_right _ ?_)) rfl) rfl (by decide) ?_
          refine TL.pure (PV.load rfl Tb.one_3 (by repeat (first | exact List.Mem.head _ | refine List.Mem.tail _ ?_ | refine List.mem_append_right _ ?_)) rfl) rfl (by decide) ?_
          refine TL.pure (PV.eql rfl rfl) rfl (by decide) ?_
          refine TL.pure (PV.move rfl) rfl (by decide) ?_
          first | refine TL.splitD 46 rfl (fun a2 => ?_) (fun a2 => ?_) | refine TL.split 46 rfl (fun a2 => ?_) (fun a2 => ?_)
          · skip
            refine TL.skip rfl (fun k hk => by cases hk; decide) ?_
            refine TL.skip rfl (fun k hk => by cases hk; decide) ?_
            refine TL.skip rfl (fun k hk => by cases hk; decide) ?_
            refine TL.skip rfl (fun k hk => by cases hk; decide) ?_
            refine TL.skip rfl (fun k hk => by cases hk; decide) ?_
            refine TL.pure (PV.pickT rfl rfl) rfl (by decide) ?_
            refine TL.nil ?_
            refine TQ.thenC ?_
            refine TC.condT rfl ?_
            refine TC.seq ?_
            refine TC.region ?_
            refine TL.pure (PV.build rfl Tb.zero_24 Tb.pl_24 rfl) rfl (by decide) ?_
            refine TL.storeAgg (vs := [.int .i64 0, .int .i64 0, .int .i64 0, .slice none 0 0]) rfl rfl Tb.cells_24 (by repeat (first | exact Upd.head _ | apply Upd.tail | apply Upd.appR)) rfl rfl rfl rfl rfl ?_
            refine TL.pure (PV.assign rfl) rfl (by decide) ?_
            refine TL.nil ?_
            refine TQ.thenC ?_
            refine TC.ret ?_
            refine TQ.thenR ?_
            refine TQ.retR rfl (Res.agg rfl Tb.agg_24 (by repeat (first | exact List.Mem.head _ | refine List.Mem.tail _ ?_ | refine List.mem_append_right _ ?_)) rfl (Res.tmp rfl Res.nil)) ?_
            simp only [tup]
            first | exact absurd hd0 hv9 | exact ⟨NX.zero, by rw [joI_4 (by omega)]; rfl, NF.bad (by rw [joI_4 (by omega)]; decide), List.nil_sublist _⟩ | exact ⟨NX.zero, by rw [joI_1 hin (by first | omega | exact .inr ((nm_eq hin hv.s0 hv.t0 hv.st a2).1 hbad))]; rfl, NF.bad (by rw [joI_1 hin (by first | omega | exact .inr ((nm_eq hin hv.s0 hv.t0 hv.st a2).1 hbad))]; decide), List.nil_sublist _⟩ | exact ⟨⟨(n - 1 : Int), nmI i j s, nmI i j t, x.2, jo i j rs⟩, by rw [joI_0 hin hgood, hxe, List.take_length]; rfl, NF.good (joI_0 hin hgood) (by have h9 := hx.2; rw [hxe, List.take_length] at h9; exact h9), by rw [hxe, List.take_length]; exact (by repeat (first | exact List.Sublist.slnil | exact List.nil_sublist _ | exact List.Sublist.refl _ | exact List.sublist_append_left _ _ | refine List.Sublist.cons_cons _ ?_ | refine (List.append_sublist_append_left _).2 ?_ | refine List.Sublist.cons _ ?_ | refine List.Sublist.trans ?_ (List.sublist_append_right _ _)))⟩
          · skip
            refine TL.pure (PV.fieldAddr rfl Tb.fo_24_1) rfl (by decide) ?_
            refine TL.pure (PV.load rfl Tb.one_3 (by repeat (first | exact List.Mem.head _ | refine List.Mem.tail _ ?_ | refine List.mem_append_right _ ?_)) rfl) rfl (by decide) ?_
            refine TL.pure (PV.fieldAddr rfl Tb.fo_24_2) rfl (by decide) ?_
            refine TL.pure (PV.load rfl Tb.one_3 (by repeat (first | exact List.Mem.head _ | refine List.Mem.tail _ ?_ | refine List.mem_append_right _ ?_)) rfl) rfl (by decide) ?_
            refine TL.pure (PV.eql rfl rfl) rfl (by decide) ?_
            refine TL.pure (PV.pickF rfl rfl) rfl (by decide) ?_
            refine TL.nil ?_
            refine TQ.thenC ?_
            first | refine TC.condD rfl (fun hbad => ?_) (fun hbad => ?_) | refine TC.cond rfl (fun hbad => ?_) (fun hbad => ?_)
            · skip
              refine TC.seq ?_
              refine TC.region ?_
              refine TL.pure (PV.build rfl Tb.zero_24 Tb.pl_24 rfl) rfl (by decide) ?_
              refine TL.storeAgg (vs := [.int .i64 0, .int .i64 0, .int .i64 0, .slice none 0 0]) rfl rfl Tb.cells_24 (by repeat (first | exact Upd.head _ | apply Upd.tail | apply Upd.appR)) rfl rfl rfl rfl rfl ?_
              refine TL.pure (PV.assign rfl) rfl (by decide) ?_
              refine TL.nil ?_
              refine TQ.thenC ?_
              refine TC.ret ?_
              refine TQ.thenR ?_
              refine TQ.retR rfl (Res.agg rfl Tb.agg_24 (by repeat (first | exact List.Mem.head _ | refine List.Mem.tail _ ?_ | refine List.mem_append_right _ ?_)) rfl (Res.tmp rfl Res.nil)) ?_
              simp only [tup]
              first | exact absurd hd0 hv9 | exact ⟨NX.zero, by rw [joI_4 (by omega)]; rfl, NF.bad (by rw [joI_4 (by omega)]; decide), List.nil_sublist _⟩ | exact ⟨NX.zero, by rw [joI_1 hin (by first | omega | exact .inr ((nm_eq hin hv.s0 hv.t0 hv.st a2).1 hbad))]; rfl, NF.bad (by rw [joI_1 hin (by first | omega | exact .inr ((nm_eq hin hv.s0 hv.t0 hv.st a2).1 hbad))]; decide), List.nil_sublist _⟩ | exact ⟨⟨(n - 1 : Int), nmI i j s, nmI i j t, x.2, jo i j rs⟩, by rw [joI_0 hin hgood, hxe, List.take_length]; rfl, NF.good (joI_0 hin hgood) (by have h9 := hx.2; rw [hxe, List.take_length] at h9; exact h9), by rw [hxe, List.take_length]; exact (by repeat (first | exact List.Sublist.slnil | exact List.nil_sublist _ | exact List.Sublist.refl _ | exact List.sublist_append_left _ _ | refine List.Sublist.cons_cons _ ?_ | refine (List.append_sublist_append_left _).2 ?_ | refine List.Sublist.cons _ ?_ | refine List.Sublist.trans ?_ (List.sublist_append_right _ _)))⟩
            · skip
              have hgood : ¬ (i = j ∨ (i = (s : Int) ∧ j = (t : Int)) ∨ (i = (t : Int) ∧ j = (s : Int))) := by have hq9 := nm_eq hin hv.s0 hv.t0 hv.st (fun e => a2 e); omega
              refine TC.skip ?_
              refine TQ.thenN ?_
              refine TQ.midK () (by repeat (first | exact True.intro | refine And.intro rfl ?_)) (by repeat (first | exact True.intro | refine And.intro rfl ?_)) (by repeat (first | exact List.Sublist.slnil | exact List.nil_sublist _ | exact List.Sublist.refl _ | refine List.Sublist.cons_cons _ ?_ | refine List.Sublist.cons _ ?_ | refine List.Sublist.trans ?_ (List.sublist_append_right _ _))) hgood
        · skip
          intro x9 hgood
          refine TC.lit [(3, _), (6, _), (7, _), (9, _), (10, _)] (by repeat (first | exact True.intro | refine And.intro rfl ?_)) ?_
          refine TC.seq ?_
          refine TC.seq ?_
          refine TC.region ?_
          refine TL.pure (PV.fieldAddr rfl Tb.fo_24_3) rfl (by decide) ?_
          refine TL.pure (PV.load rfl Tb.one_22 (by repeat (first | exact List.Mem.head _ | refine List.Mem.tail _ ?_ | refine List.mem_append_right _ ?_)) rfl) rfl (by decide) ?_
          refine TL.pure (PV.len rfl Tb.sl_22) rfl (by decide) ?_
          refine TL.pure (PV.move rfl) rfl (by decide) ?_
          refine TL.nil ?_
          refine TQ.thenC ?_
          refine TC.block ?_
          refine TC.lit [(6, _), (7, _), (9, _), (10, _), (55, _), (56, _), (57, _)] (by repeat (first | exact True.intro | refine And.intro rfl ?_)) ?_
          refine TC.loopK [6, 7, 9, 10, 55, 56] (X := Nat × HD) (fun x => x.1 ≤ rs.length ∧ goB x.2 (jo i j (rs.take x.1))) (fun x => [(57, .int .i64 (x.1 : Nat))]) (fun x => gbB 40 x.2 (jo i j (rs.take x.1)) ++ [(bN, Obj.cells #[.int .i64 (n - 1 : Int), .int .i64 (nmI i j s), .int .i64 (nmI i j t), gval x.2 (jo i j (rs.take x.1)).length] 24 (0, 0)), (b3, Obj.cells #[.int .i64 0, .int .i64 0, .int .i64 0, .slice none 0 0] 24 (0, 0)), (b2, Obj.cells #[.int .i64 j] 3 (0, 0)), (b1, Obj.cells #[.int .i64 i] 3 (0, 0)), (b0, Obj.cells #[.int .i64 (n : Nat), .int .i64 (s : Nat), .int .i64 (t : Nat), .slice p rs.length cap] 24 (0, 0))]) (fun x => rs.length - x.1) (0, none) ⟨Nat.zero_le _, rfl, rfl⟩ (by repeat (first | exact True.intro | refine And.intro rfl ?_)) (by repeat (first | exact List.Sublist.slnil | exact List.nil_sublist _ | exact List.Sublist.refl _ | exact List.sublist_append_left _ _ | refine List.Sublist.cons_cons _ ?_ | refine (List.append_sublist_append_left _).2 ?_ | refine List.Sublist.cons _ ?_ | refine List.Sublist.trans ?_ (List.sublist_append_right _ _))) ?_
          intro x hx
          have hx1 := hx.1
          refine TC.lit [(6, _), (7, _), (9, _), (10, _), (55, _), (56, _), (57, _)] (by repeat (first | exact True.intro | refine And.intro rfl ?_)) ?_
          refine TC.seq ?_
          refine TC.region ?_
          refine TL.pure (PV.lss rfl rfl) rfl (by decide) ?_
          refine TL.nil ?_
          refine TQ.thenC ?_
          refine TC.seq ?_
          first | refine TC.condD rfl (fun hlt => ?_) (fun hlt => ?_) | refine TC.cond rfl (fun hlt => ?_) (fun hlt => ?_)
          · skip
            refine TC.skip ?_
            refine TQ.thenC ?_
            refine TC.seq ?_
            refine TC.block ?_
            refine TC.seq ?_
            have hxk : x.1 < rs.length := by omega
            obtain ⟨q, hqp, hq⟩ := hr x.1 (by omega)
            have hma := hv.at hxk
            refine TC.region ?_
            refine TL.pure (PV.indexA rfl hqp rfl Tb.elm_22 rfl (by omega)) rfl (by decide) ?_
            refine TL.pure (PV.loadAggA rfl Tb.agg_40 rfl hq) rfl (by decide) ?_
            refine TL.alloc Tb.zero_40 rfl (by decide) (fun bD hbD => ?_)
            refine TL.storeAgg (vs := [.int .i64 (rs.getD x.1 default).a, .int .i64 (rs.getD x.1 default).b, .int .i64 (rs.getD x.1 default).m]) rfl rfl Tb.cells_40 (by repeat (first | exact Upd.head _ | apply Upd.tail | apply Upd.appR)) rfl rfl rfl rfl rfl ?_
            refine TL.nil ?_
            refine TQ.thenC ?_
            refine TC.seqK [6, 7, 9, 10, 12, 55, 56, 57] (X := Unit) (fun x9 => True) (fun x9 => []) (fun x9 => (bD, Obj.cells #[.int .i64 (nmI i j (rs.getD x.1 default).a), .int .i64 (nmI i j (rs.getD x.1 default).b), .int .i64 (rs.getD x.1 default).m] 40 (0, 0)) :: (gbB 40 x.2 (jo i j (rs.take x.1)) ++ [(bN, Obj.cells #[.int .i64 (n - 1 : Int), .int .i64 (nmI i j s), .int .i64 (nmI i j t), gval x.2 (jo i j (rs.take x.1)).length] 24 (0, 0)), (b3, Obj.cells #[.int .i64 0, .int .i64 0, .int .i64 0, .slice none 0 0] 24 (0, 0)), (b2, Obj.cells #[.int .i64 j] 3 (0, 0)), (b1, Obj.cells #[.int .i64 i] 3 (0, 0)), (b0, Obj.cells #[.int .i64 (n : Nat), .int .i64 (s : Nat), .int .i64 (t : Nat), .slice p rs.length cap] 24 (0, 0))])) ?_ ?_
            · skip
              refine TC.mixV [true, true, true, false, false, true, true, false, true, false, false, false] ((bD, Obj.cells #[.int .i64 (rs.getD x.1 default).a, .int .i64 (rs.getD x.1 default).b, .int .i64 (rs.getD x.1 default).m] 40 (0, 0)) :: (gbB 40 x.2 (jo i j (rs.take x.1)) ++ [(bN, Obj.cells #[.int .i64 (n - 1 : Int), .int .i64 (nmI i j s), .int .i64 (nmI i j t), gval x.2 (jo i j (rs.take x.1)).length] 24 (0, 0)), (b3, Obj.cells #[.int .i64 0, .int .i64 0, .int .i64 0, .slice none 0 0] 24 (0, 0)), (b2, Obj.cells #[.int .i64 j] 3 (0, 0)), (b1, Obj.cells #[.int .i64 i] 3 (0, 0)), (b0, Obj.cells #[.int .i64 (n : Nat), .int .i64 (s : Nat), .int .i64 (t : Nat), .slice p rs.length cap] 24 (0, 0))])) 12 Tb.mixed rfl (by kernel_rfl) (by kernel_rfl) (by kernel_rfl) (by kernel_rfl) (by repeat (first | exact List.Sublist.slnil | exact List.nil_sublist _ | exact List.Sublist.refl _ | refine List.Sublist.cons_cons _ ?_ | refine List.Sublist.cons _ ?_ | refine List.Sublist.trans ?_ (List.sublist_append_right _ _))) ?_
              refine TV.virt 0 rfl rfl (by decide) rfl (by kernel_rfl) (SOK.pure (PV.move rfl) rfl) ?_
              refine TV.virt 1 rfl rfl (by decide) rfl (by kernel_rfl) (SOK.pure (PV.fieldAddr rfl Tb.fo_40_0) rfl) ?_
              refine TV.virt 2 rfl rfl (by decide) rfl (by kernel_rfl) (SOK.pure (PV.load rfl Tb.one_3 (by repeat (first | exact List.Mem.head _ | refine List.Mem.tail _ ?_ | refine List.mem_append_right _ ?_)) rfl) rfl) ?_
              refine TV.virt 5 rfl rfl (by decide) rfl (by kernel_rfl) (SOK.pure (PV.fieldAddr rfl Tb.fo_40_1) rfl) ?_
              refine TV.virt 6 rfl rfl (by decide) rfl (by kernel_rfl) (SOK.pure (PV.load rfl Tb.one_3 (by repeat (first | exact List.Mem.head _ | refine List.Mem.tail _ ?_ | refine List.mem_append_right _ ?_)) rfl) rfl) ?_
              refine TV.step [3, 4] (by kernel_rfl) (by decide) rfl ⟨⟨_, rfl, ?_⟩, ⟨_, rfl, ?_⟩, trivial⟩
              · skip
                refine TL.callFN (f := 78) (k := 61) (vs := [.int .i64 (rs.getD x.1 default).a]) (caps := [.pointer (some ⟨b2, 0, none⟩), .pointer (some ⟨b1, 0, none⟩)]) (.int .i64 (nmI i j (rs.getD x.1 default).a)) rfl rfl Tb.gofn_78 (fun a w hs => numP_ok w (rs.getD x.1 default).a i j ⟨b2, 0, none⟩ ⟨b1, 0, none⟩ (hs.new.cell (by repeat (first | exact List.Mem.head _ | refine List.Mem.tail _ ?_ | refine List.mem_append_right _ ?_)) rfl) (hs.new.cell (by repeat (first | exact List.Mem.head _ | refine List.Mem.tail _ ?_ | refine List.mem_append_right _ ?_)) rfl) (by omega) (by omega) (by omega)) rfl (by decide) ?_
                refine TL.nil ?_
                refine TV.next (.inl (by repeat (first | exact List.Sublist.slnil | exact List.nil_sublist _ | exact List.Sublist.refl _ | refine List.Sublist.cons_cons _ ?_ | refine List.Sublist.cons _ ?_ | refine List.Sublist.trans ?_ (List.sublist_append_right _ _)))) ?_
                refine TV.virt 8 rfl rfl (by decide) rfl (by kernel_rfl) (SOK.pure (PV.fieldAddr rfl Tb.fo_40_0) rfl) ?_
                refine TV.step [4] (by kernel_rfl) (by decide) rfl ⟨⟨_, rfl, ?_⟩, trivial⟩
                refine TL.pure (PV.move rfl) rfl (by decide) ?_
                refine TL.nil ?_
                refine TV.next (.inl (by repeat (first | exact List.Sublist.slnil | exact List.nil_sublist _ | exact List.Sublist.refl _ | refine List.Sublist.cons_cons _ ?_ | refine List.Sublist.cons _ ?_ | refine List.Sublist.trans ?_ (List.sublist_append_right _ _)))) ?_
                refine TV.step [7] (by kernel_rfl) (by decide) rfl ⟨⟨_, rfl, ?_⟩, trivial⟩
                refine TL.callFN (f := 78) (k := 65) (vs := [.int .i64 (rs.getD x.1 default).b]) (caps := [.pointer (some ⟨b2, 0, none⟩), .pointer (some ⟨b1, 0, none⟩)]) (.int .i64 (nmI i j (rs.getD x.1 default).b)) rfl rfl Tb.gofn_78 (fun a w hs => numP_ok w (rs.getD x.1 default).b i j ⟨b2, 0, none⟩ ⟨b1, 0, none⟩ (hs.new.cell (by repeat (first | exact List.Mem.head _ | refine List.Mem.tail _ ?_ | refine List.mem_append_right _ ?_)) rfl) (hs.new.cell (by repeat (first | exact List.Mem.head _ | refine List.Mem.tail _ ?_ | refine List.mem_append_right _ ?_)) rfl) (by omega) (by omega) (by omega)) rfl (by decide) ?_
                refine TL.nil ?_
                refine TV.next (.inl (by repeat (first | exact List.Sublist.slnil | exact List.nil_sublist _ | exact List.Sublist.refl _ | refine List.Sublist.cons_cons _ ?_ | refine List.Sublist.cons _ ?_ | refine List.Sublist.trans ?_ (List.sublist_append_right _ _)))) ?_
                refine TV.step [9] (by kernel_rfl) (by decide) rfl ⟨⟨_, rfl, ?_⟩, trivial⟩
                refine TL.store rfl rfl Tb.cells_3 rfl (by repeat (first | exact Upd.head _ | apply Upd.tail | apply Upd.appR)) (by first | decide | (simp; done) | (simp; omega) | omega) rfl rfl ?_
                refine TL.nil ?_
                refine TV.next (.inr (by kernel_rfl)) ?_
                refine TV.step [10] (by kernel_rfl) (by decide) rfl ⟨⟨_, rfl, ?_⟩, trivial⟩
                refine TL.pure (PV.fieldAddr rfl Tb.fo_40_1) rfl (by decide) ?_
                refine TL.nil ?_
                refine TV.next (.inr (by kernel_rfl)) ?_
                refine TV.step [11] (by kernel_rfl) (by decide) rfl ⟨⟨_, rfl, ?_⟩, trivial⟩
                refine TL.store rfl rfl Tb.cells_3 rfl (by repeat (first | exact Upd.head _ | apply Upd.tail | apply Upd.appR)) (by first | decide | (simp; done) | (simp; omega) | omega) rfl rfl ?_
                refine TL.nil ?_
                refine TV.next (.inr (by kernel_rfl)) ?_
                refine TV.done (by kernel_rfl) ?_
                refine TQ.thenN ?_
                refine TQ.midK () (by repeat (first | exact True.intro | refine And.intro rfl ?_)) (by repeat (first | exact True.intro | refine And.intro rfl ?_)) (by repeat (first | exact List.Sublist.slnil | exact List.nil_sublist _ | exact List.Sublist.refl _ | exact List.sublist_append_left _ _ | refine List.Sublist.cons_cons _ ?_ | refine (List.append_sublist_append_left _).2 ?_ | refine List.Sublist.cons _ ?_ | refine List.Sublist.trans ?_ (List.sublist_append_right _ _))) trivial
              · skip
                refine TL.pure (PV.move rfl) rfl (by decide) ?_
                refine TL.nil ?_
                refine TV.next (.inl (by repeat (first | exact List.Sublist.slnil | exact List.nil_sublist _ | exact List.Sublist.refl _ | refine List.Sublist.cons_cons _ ?_ | refine List.Sublist.cons _ ?_ | refine List.Sublist.trans ?_ (List.sublist_append_right _ _)))) ?_
                refine TV.step [3] (by kernel_rfl) (by decide) rfl ⟨⟨_, rfl, ?_⟩, trivial⟩
                refine TL.callFN (f := 78) (k := 61) (vs := [.int .i64 (rs.getD x.1 default).a]) (caps := [.pointer (some ⟨b2, 0, none⟩), .pointer (some ⟨b1, 0, none⟩)]) (.int .i64 (nmI i j (rs.getD x.1 default).a)) rfl rfl Tb.gofn_78 (fun a w hs => numP_ok w (rs.getD x.1 default).a i j ⟨b2, 0, none⟩ ⟨b1, 0, none⟩ (hs.new.cell (by repeat (first | exact List.Mem.head _ | refine List.Mem.tail _ ?_ | refine List.mem_append_right _ ?_)) rfl) (hs.new.cell (by repeat (first | exact List.Mem.head _ | refine List.Mem.tail _ ?_ | refine List.mem_append_right _ ?_)) rfl) (by omega) (by omega) (by omega)) rfl (by decide) ?_
                refine TL.nil ?_
                refine TV.next (.inl (by repeat (first | exact List.Sublist.slnil | exact List.nil_sublist _ | exact List.Sublist.refl _ | refine List.Sublist.cons_cons _ ?_ | refine List.Sublist.cons _ ?_ | refine List.Sublist.trans ?_ (List.sublist_append_right _ _)))) ?_
                refine TV.virt 8 rfl rfl (by decide) rfl (by kernel_rfl) (SOK.pure (PV.fieldAddr rfl Tb.fo_40_0) rfl) ?_
                refine TV.step [7] (by kernel_rfl) (by decide) rfl ⟨⟨_, rfl, ?_⟩, trivial⟩
                refine TL.callFN (f := 78) (k := 65) (vs := [.int .i64 (rs.getD x.1 default).b]) (caps := [.pointer (some ⟨b2, 0, none⟩), .pointer (some ⟨b1, 0, none⟩)]) (.int .i64 (nmI i j (rs.getD x.1 default).b)) rfl rfl Tb.gofn_78 (fun a w hs => numP_ok w (rs.getD x.1 default).b i j ⟨b2, 0, none⟩ ⟨b1, 0, none⟩ (hs.new.cell (by repeat (first | exact List.Mem.head _ | refine List.Mem.tail _ ?_ | refine List.mem_append_right _ ?_)) rfl) (hs.new.cell (by repeat (first | exact List.Mem.head _ | refine List.Mem.tail _ ?_ | refine List.mem_append_right _ ?_)) rfl) (by omega) (by omega) (by omega)) rfl (by decide) ?_
                refine TL.nil ?_
                refine TV.next (.inl (by repeat (first | exact List.Sublist.slnil | exact List.nil_sublist _ | exact List.Sublist.refl _ | refine List.Sublist.cons_cons _ ?_ | refine List.Sublist.cons _ ?_ | refine List.Sublist.trans ?_ (List.sublist_append_right _ _)))) ?_
                refine TV.step [9] (by kernel_rfl) (by decide) rfl ⟨⟨_, rfl, ?_⟩, trivial⟩
                refine TL.store rfl rfl Tb.cells_3 rfl (by repeat (first | exact Upd.head _ | apply Upd.tail | apply Upd.appR)) (by first | decide | (simp; done) | (simp; omega) | omega) rfl rfl ?_
                refine TL.nil ?_
                refine TV.next (.inr (by kernel_rfl)) ?_
                refine TV.step [10] (by kernel_rfl) (by decide) rfl ⟨⟨_, rfl, ?_⟩, trivial⟩
                refine TL.pure (PV.fieldAddr rfl Tb.fo_40_1) rfl (by decide) ?_
                refine TL.nil ?_
                refine TV.next (.inr (by kernel_rfl)) ?_
                refine TV.step [11] (by kernel_rfl) (by decide) rfl ⟨⟨_, rfl, ?_⟩, trivial⟩
                refine TL.store rfl rfl Tb.cells_3 rfl (by repeat (first | exact Upd.head _ | apply Upd.tail | apply Upd.appR)) (by first | decide | (simp; done) | (simp; omega) | omega) rfl rfl ?_
                refine TL.nil ?_
                refine TV.next (.inr (by kernel_rfl)) ?_
                refine TV.done (by kernel_rfl) ?_
                refine TQ.thenN ?_
                refine TQ.midK () (by repeat (first | exact True.intro | refine And.intro rfl ?_)) (by repeat (first | exact True.intro | refine And.intro rfl ?_)) (by repeat (first | exact List.Sublist.slnil | exact List.nil_sublist _ | exact List.Sublist.refl _ | exact List.sublist_append_left _ _ | refine List.Sublist.cons_cons _ ?_ | refine (List.append_sublist_append_left _).2 ?_ | refine List.Sublist.cons _ ?_ | refine List.Sublist.trans ?_ (List.sublist_append_right _ _))) trivial
            · skip
              intro x9 _
              refine TC.lit [(6, _), (7, _), (9, _), (10, _), (12, _), (55, _), (56, _), (57, _)] (by repeat (first | exact True.intro | refine And.intro rfl ?_)) ?_
              refine TC.seq ?_
              refine TC.region ?_
              refine TL.pure (PV.fieldAddr rfl Tb.fo_40_0) rfl (by decide) ?_
              refine TL.pure (PV.load rfl Tb.one_3 (by repeat (first | exact List.Mem.head _ | refine List.Mem.tail _ ?_ | refine List.mem_append_right _ ?_)) rfl) rfl (by decide) ?_
              refine TL.pure (PV.fieldAddr rfl Tb.fo_40_1) rfl (by decide) ?_
              refine TL.pure (PV.load rfl Tb.one_3 (by repeat (first | exact List.Mem.head _ | refine List.Mem.tail _ ?_ | refine List.mem_append_right _ ?_)) rfl) rfl (by decide) ?_
              refine TL.pure (PV.neq rfl rfl) rfl (by decide) ?_
              refine TL.nil ?_
              refine TQ.thenC ?_
              first | refine TC.condD rfl (fun hne => ?_) (fun hne => ?_) | refine TC.cond rfl (fun hne => ?_) (fun hne => ?_)
              · skip
                have hjo := jo_yes hxk hne
                refine TC.region ?_
                refine TL.pure (PV.fieldAddr rfl Tb.fo_24_3) rfl (by decide) ?_
                refine TL.pure (PV.load rfl Tb.one_22 (by repeat (first | exact List.Mem.head _ | refine List.Mem.tail _ ?_ | refine List.mem_append_right _ ?_)) rfl) rfl (by decide) ?_
                refine TL.pure (PV.loadBox rfl Tb.agg_40 (by repeat (first | exact List.Mem.head _ | refine List.Mem.tail _ ?_ | refine List.mem_append_right _ ?_)) rfl) rfl (by decide) ?_
                refine TL.buildSlice (cs := (rnB i j (rs.getD x.1 default)).cells.toArray) rfl Tb.sl_22 Tb.zi_40 (by decide) (fill_bd (rnB i j (rs.getD x.1 default))) (by decide) rfl (by decide) (fun bE hbE => ?_)
                refine TL.appendBd (h0 := x.2) (ys := (jo i j (rs.take x.1))) (K0 := (jo i j (rs.take x.1)).length) (r := rnB i j (rs.getD x.1 default)) Tb.sl_22 Tb.zi_40 rfl rfl rfl rfl (by repeat (first | exact List.Mem.head _ | refine List.Mem.tail _ ?_ | refine List.mem_append_right _ ?_)) rfl hx.2 (by repeat (first | exact TakeH.here _ _ _ _ | apply TakeH.tail | apply TakeH.app)) (by have := jo_take_len i j rs x.1; omega) rfl (by decide) (fun h2 hh2 => ?_)
                refine TL.pure (PV.fieldAddr rfl Tb.fo_24_3) rfl (by decide) ?_
                refine TL.store rfl rfl Tb.cells_22 (gval_one _ _) (by repeat (first | exact Upd.head _ | apply Upd.tail | apply Upd.appR)) (by show 3 < 4; decide) rfl rfl ?_
                refine TL.nil ?_
                refine TQ.blkN ?_
                refine TQ.thenC ?_
                refine TC.region ?_
                refine TL.pure (PV.add rfl rfl (by omega)) rfl (by decide) ?_
                refine TL.pure (PV.move rfl) rfl (by decide) ?_
                refine TL.nil ?_
                refine TQ.thenN ?_
                refine TQ.backK (x.1 + 1, h2) (by repeat (first | exact True.intro | refine And.intro rfl ?_)) (by repeat (first | exact True.intro | refine And.intro rfl ?_)) (by rw [hjo]; first | (rw [List.length_append]; exact (by repeat (first | exact List.Sublist.slnil | exact List.nil_sublist _ | exact List.Sublist.refl _ | exact List.sublist_append_left _ _ | refine List.Sublist.cons_cons _ ?_ | refine (List.append_sublist_append_left _).2 ?_ | refine List.Sublist.cons _ ?_ | refine List.Sublist.trans ?_ (List.sublist_append_right _ _)))) | exact (by repeat (first | exact List.Sublist.slnil | exact List.nil_sublist _ | exact List.Sublist.refl _ | exact List.sublist_append_left _ _ | refine List.Sublist.cons_cons _ ?_ | refine (List.append_sublist_append_left _).2 ?_ | refine List.Sublist.cons _ ?_ | refine List.Sublist.trans ?_ (List.sublist_append_right _ _)))) ⟨by simp only; omega, by simp only; rw [hjo]; exact hh2⟩ (by simp only; omega)
              · skip
                have hjo := jo_no hxk hne
                refine TC.skip ?_
                refine TQ.blkN ?_
                refine TQ.thenC ?_
                refine TC.region ?_
                refine TL.pure (PV.add rfl rfl (by omega)) rfl (by decide) ?_
                refine TL.pure (PV.move rfl) rfl (by decide) ?_
                refine TL.nil ?_
                refine TQ.thenN ?_
                refine TQ.backK (x.1 + 1, x.2) (by repeat (first | exact True.intro | refine And.intro rfl ?_)) (by repeat (first | exact True.intro | refine And.intro rfl ?_)) (by rw [hjo]; first | (rw [List.length_append]; exact (by repeat (first | exact List.Sublist.slnil | exact List.nil_sublist _ | exact List.Sublist.refl _ | exact List.sublist_append_left _ _ | refine List.Sublist.cons_cons _ ?_ | refine (List.append_sublist_append_left _).2 ?_ | refine List.Sublist.cons _ ?_ | refine List.Sublist.trans ?_ (List.sublist_append_right _ _)))) | exact (by repeat (first | exact List.Sublist.slnil | exact List.nil_sublist _ | exact List.Sublist.refl _ | exact List.sublist_append_left _ _ | refine List.Sublist.cons_cons _ ?_ | refine (List.append_sublist_append_left _).2 ?_ | refine List.Sublist.cons _ ?_ | refine List.Sublist.trans ?_ (List.sublist_append_right _ _)))) ⟨by simp only; omega, by simp only; rw [hjo]; exact hx.2⟩ (by simp only; omega)
          · skip
            refine TC.exit ?_
            refine TQ.thenE ?_
            refine TQ.thenE ?_
            refine TQ.blkS ?_
            refine TQ.thenC ?_
            refine TC.seq ?_
            have hxe : x.1 = rs.length := by omega
            refine TC.region ?_
            refine TL.pure (PV.loadBox rfl Tb.agg_24 (by repeat (first | exact List.Mem.head _ | refine List.Mem.tail _ ?_ | refine List.mem_append_right _ ?_)) rfl) rfl (by decide) ?_
            refine TL.storeAgg rfl rfl Tb.cells_24 (by repeat (first | exact Upd.head _ | apply Upd.tail | apply Upd.appR)) rfl rfl (by first | rfl | exact sv_one _ _ _ | exact nv_one _ _ _ _ _) rfl rfl ?_
            refine TL.pure (PV.assign rfl) rfl (by decide) ?_
            refine TL.nil ?_
            refine TQ.thenC ?_
            refine TC.ret ?_
            refine TQ.retR rfl (Res.agg rfl Tb.agg_24 (by repeat (first | exact List.Mem.head _ | refine List.Mem.tail _ ?_ | refine List.mem_append_right _ ?_)) rfl (Res.tmp rfl Res.nil)) ?_
            simp only [tup]
            first | exact absurd hd0 hv9 | exact ⟨NX.zero, by rw [joI_4 (by omega)]; rfl, NF.bad (by rw [joI_4 (by omega)]; decide), List.nil_sublist _⟩ | exact ⟨NX.zero, by rw [joI_1 hin (by first | omega | exact .inr ((nm_eq hin hv.s0 hv.t0 hv.st a2).1 hbad))]; rfl, NF.bad (by rw [joI_1 hin (by first | omega | exact .inr ((nm_eq hin hv.s0 hv.t0 hv.st a2).1 hbad))]; decide), List.nil_sublist _⟩ | exact ⟨⟨(n - 1 : Int), nmI i j s, nmI i j t, x.2, jo i j rs⟩, by rw [joI_0 hin hgood, hxe, List.take_length]; rfl, NF.good (joI_0 hin hgood) (by have h9 := hx.2; rw [hxe, List.take_length] at h9; exact h9), by rw [hxe, List.take_length]; exact (by repeat (first | exact List.Sublist.slnil | exact List.nil_sublist _ | exact List.Sublist.refl _ | exact List.sublist_append_left _ _ | refine List.Sublist.cons_cons _ ?_ | refine (List.append_sublist_append_left _).2 ?_ | refine List.Sublist.cons _ ?_ | refine List.Sublist.trans ?_ (List.sublist_append_right _ _)))⟩

set_option maxRecDepth 100000 in
set_option maxHeartbeats 4000000 in
theorem rJoin_v (w0 : World) (n s t : Nat) (p : Option Addr) (cap : Nat) (rs : List Bd) (hr : BdsAt w0 p rs) (hv : Vd n s t rs) (hd0 : dI n s t rs = 0) (i j : Int) :
    Calls Try.prog 49 #[dnV n s t p rs.length cap, .int .i64 i, .int .i64 j] w0 (Post (X := NX) (fun x => .tuple #[x.val, .int .i64 (joI n s t i j)]) (fun x => NF (joI n s t i j) (n - 1) (nmI i j s) (nmI i j t) (jo i j rs) x) (fun x => gbB 40 x.h x.l) w0) := by
  have hw := hv.w1
  have hlen := hv.len
  have hn8 := hw.n8
  have hsn := hw.sn
  have htn := hw.tn
  have h256 := p2_256 hn8
  have hpos := Nat.two_pow_pos n
  refine calls Try.func49 rfl (n := 113) rfl (by simp) ?_
  refine TC.seq ?_
  refine TC.region ?_
  refine TL.box rfl rfl (by decide) (fun b0 hb0 => ?_)
  refine TL.alloc Tb.zero_24 rfl (by decide) (fun b1 hb1 => ?_)
  refine TL.pure (PV.assign rfl) rfl (by decide) ?_
  refine TL.nil ?_
  refine TQ.thenC ?_
  refine TC.seq ?_
  refine TC.seq ?_
  refine TC.region ?_
  refine TL.pure (PV.loadBox rfl Tb.agg_24 (by repeat (first | exact List.Mem.head _ | refine List.Mem.tail _ ?_ | refine List.mem_append_right _ ?_)) rfl) rfl (by decide) ?_
  refine TL.call rfl Tb.gofn_21 (fun a w hs => rvalidate_ok w n s t p cap rs (hr.new hs.new)) rfl (by decide) (fun _ _ => ?_)
  refine TL.pure (PV.assign rfl) rfl (by decide) ?_
  refine TL.nil ?_
  refine TQ.thenC ?_
  refine TC.seq ?_
  refine TC.region ?_
  refine TL.pure (PV.move rfl) rfl (by decide) ?_
  refine TL.pure (PV.neq rfl rfl) rfl (by decide) ?_
  refine TL.nil ?_
  refine TQ.thenC ?_
  first | refine TC.condD rfl (fun hv9 => ?_) (fun hv9 => ?_) | refine TC.cond rfl (fun hv9 => ?_) (fun hv9 => ?_)
  · skip
    refine TC.seq ?_
    refine TC.region ?_
    refine TL.pure (PV.build rfl Tb.zero_24 Tb.pl_24 rfl) rfl (by decide) ?_
    refine TL.pure (PV.move rfl) rfl (by decide) ?_
    refine TL.storeAgg (vs := [.int .i64 0, .int .i64 0, .int .i64 0, .slice none 0 0]) rfl rfl Tb.cells_24 (by repeat (first | exact Upd.head _ | apply Upd.tail | apply Upd.appR)) rfl rfl rfl rfl rfl ?_
    refine TL.pure (PV.assign rfl) rfl (by decide) ?_
    refine TL.nil ?_
    refine TQ.thenC ?_
    refine TC.ret ?_
    refine TQ.thenR ?_
    refine TQ.retR rfl (Res.agg rfl Tb.agg_24 (by repeat (first | exact List.Mem.head _ | refine List.Mem.tail _ ?_ | refine List.mem_append_right _ ?_)) rfl (Res.tmp rfl Res.nil)) ?_
    simp only [tup]
    first | exact absurd hd0 hv9 | exact ⟨NX.zero, by rw [joI_4 (by omega)]; rfl, NF.bad (by rw [joI_4 (by omega)]; decide), List.nil_sublist _⟩ | exact ⟨NX.zero, by rw [joI_1 hin (by first | omega | exact .inr ((nm_eq hin hv.s0 hv.t0 hv.st a2).1 hbad))]; rfl, NF.bad (by rw [joI_1 hin (by first | omega | exact .inr ((nm_eq hin hv.s0 hv.t0 hv.st a2).1 hbad))]; decide), List.nil_sublist _⟩ | exact ⟨⟨(n - 1 : Int), nmI i j s, nmI i j t, x.2, jo i j rs⟩, by rw [joI_0 hin hgood, hxe, List.take_length]; rfl, NF.good (joI_0 hin hgood) (by have h9 := hx.2; rw [hxe, List.take_length] at h9; exact h9), by rw [hxe, List.take_length]; exact (by repeat (first | exact List.Sublist.slnil | exact List.nil_sublist _ | exact List.Sublist.refl _ | exact List.sublist_append_left _ _ | refine List.Sublist.cons_cons _ ?_ | refine (List.append_sublist_append_left _).2 ?_ | refine List.Sublist.cons _ ?_ | refine List.Sublist.trans ?_ (List.sublist_append_right _ _)))⟩
  · skip
    refine TC.skip ?_
    refine TQ.thenC ?_
    refine TC.seqG [1, 2, 3, 6, 7] (X := Unit) (fun x9 => (0 ≤ i ∧ i < (n : Int)) ∧ (0 ≤ j ∧ j < (n : Int))) (fun x9 => []) ?_ ?_
    · skip
      refine TC.seq ?_
      refine TC.region ?_
      refine TL.pure (PV.move rfl) rfl (by decide) ?_
      refine TL.pure (PV.fieldAddr rfl Tb.fo_24_0) rfl (by decide) ?_
      refine TL.pure (PV.load rfl Tb.one_3 (by repeat (first | exact List.Mem.head _ | refine List.Mem.tail _ ?_ | refine List.mem_append_right _ ?_)) rfl) rfl (by decide) ?_
      refine TL.pure (PV.sub rfl rfl (by omega)) rfl (by decide) ?_
      refine TL.call rfl Tb.gofn_57 (fun a w hs => within_ok _ _ _ _) rfl (by decide) (fun _ _ => ?_)
      refine TL.pure ((by first | exact PV.notD rfl | exact PV.not rfl)) rfl (by decide) ?_
      refine TL.pure (PV.move rfl) rfl (by decide) ?_
      first | refine TL.splitD 26 rfl (fun a1 => ?_) (fun a1 => ?_) | refine TL.split 26 rfl (fun a1 => ?_) (fun a1 => ?_)
      · skip
        refine TL.skip rfl (fun k hk => by cases hk; decide) ?_
        refine TL.skip rfl (fun k hk => by cases hk; decide) ?_
        refine TL.skip rfl (fun k hk => by cases hk; decide) ?_
        refine TL.skip rfl (fun k hk => by cases hk; decide) ?_
        refine TL.skip rfl (fun k hk => by cases hk; decide) ?_
        refine TL.skip rfl (fun k hk => by cases hk; decide) ?_
        refine TL.pure (PV.pickT rfl rfl) rfl (by decide) ?_
        refine TL.nil ?_
        refine TQ.thenC ?_
        refine TC.condT rfl ?_
        refine TC.seq ?_
        refine TC.region ?_
        refine TL.pure (PV.build rfl Tb.zero_24 Tb.pl_24 rfl) rfl (by decide) ?_
        refine TL.storeAgg (vs := [.int .i64 0, .int .i64 0, .int .i64 0, .slice none 0 0]) rfl rfl Tb.cells_24 (by repeat (first | exact Upd.head _ | apply Upd.tail | apply Upd.appR)) rfl rfl rfl rfl rfl ?_
        refine TL.pure (PV.assign rfl) rfl (by decide) ?_
        refine TL.nil ?_
        refine TQ.thenC ?_
        refine TC.ret ?_
        refine TQ.thenR ?_
        refine TQ.retR rfl (Res.agg rfl Tb.agg_24 (by repeat (first | exact List.Mem.head _ | refine List.Mem.tail _ ?_ | refine List.mem_append_right _ ?_)) rfl (Res.tmp rfl Res.nil)) ?_
        simp only [tup]
        first | exact absurd hd0 hv9 | exact ⟨NX.zero, by rw [joI_4 (by omega)]; rfl, NF.bad (by rw [joI_4 (by omega)]; decide), List.nil_sublist _⟩ | exact ⟨NX.zero, by rw [joI_1 hin (by first | omega | exact .inr ((nm_eq hin hv.s0 hv.t0 hv.st a2).1 hbad))]; rfl, NF.bad (by rw [joI_1 hin (by first | omega | exact .inr ((nm_eq hin hv.s0 hv.t0 hv.st a2).1 hbad))]; decide), List.nil_sublist _⟩ | exact ⟨⟨(n - 1 : Int), nmI i j s, nmI i j t, x.2, jo i j rs⟩, by rw [joI_0 hin hgood, hxe, List.take_length]; rfl, NF.good (joI_0 hin hgood) (by have h9 := hx.2; rw [hxe, List.take_length] at h9; exact h9), by rw [hxe, List.take_length]; exact (by repeat (first | exact List.Sublist.slnil | exact List.nil_sublist _ | exact List.Sublist.refl _ | exact List.sublist_append_left _ _ | refine List.Sublist.cons_cons _ ?_ | refine (List.append_sublist_append_left _).2 ?_ | refine List.Sublist.cons _ ?_ | refine List.Sublist.trans ?_ (List.sublist_append_right _ _)))⟩
      · skip
        refine TL.pure (PV.move rfl) rfl (by decide) ?_
        refine TL.pure (PV.fieldAddr rfl Tb.fo_24_0) rfl (by decide) ?_
        refine TL.pure (PV.load rfl Tb.one_3 (by repeat (first | exact List.Mem.head _ | refine List.Mem.tail _ ?_ | refine List.mem_append_right _ ?_)) rfl) rfl (by decide) ?_
        refine TL.pure (PV.sub rfl rfl (by omega)) rfl (by decide) ?_
        refine TL.call rfl Tb.gofn_57 (fun a w hs => within_ok _ _ _ _) rfl (by decide) (fun _ _ => ?_)
        refine TL.pure ((by first | exact PV.notD rfl | exact PV.not rfl)) rfl (by decide) ?_
        refine TL.pure (PV.pickF rfl rfl) rfl (by decide) ?_
        refine TL.nil ?_
        refine TQ.thenC ?_
        first | refine TC.condD rfl (fun hnn => ?_) (fun hnn => ?_) | refine TC.cond rfl (fun hnn => ?_) (fun hnn => ?_)
        · skip
          refine TC.seq ?_
          refine TC.region ?_
          refine TL.pure (PV.build rfl Tb.zero_24 Tb.pl_24 rfl) rfl (by decide) ?_
          refine TL.storeAgg (vs := [.int .i64 0, .int .i64 0, .int .i64 0, .slice none 0 0]) rfl rfl Tb.cells_24 (by repeat (first | exact Upd.head _ | apply Upd.tail | apply Upd.appR)) rfl rfl rfl rfl rfl ?_
          refine TL.pure (PV.assign rfl) rfl (by decide) ?_
          refine TL.nil ?_
          refine TQ.thenC ?_
          refine TC.ret ?_
          refine TQ.thenR ?_
          refine TQ.retR rfl (Res.agg rfl Tb.agg_24 (by repeat (first | exact List.Mem.head _ | refine List.Mem.tail _ ?_ | refine List.mem_append_right _ ?_)) rfl (Res.tmp rfl Res.nil)) ?_
          simp only [tup]
          first | exact absurd hd0 hv9 | exact ⟨NX.zero, by rw [joI_4 (by omega)]; rfl, NF.bad (by rw [joI_4 (by omega)]; decide), List.nil_sublist _⟩ | exact ⟨NX.zero, by rw [joI_1 hin (by first | omega | exact .inr ((nm_eq hin hv.s0 hv.t0 hv.st a2).1 hbad))]; rfl, NF.bad (by rw [joI_1 hin (by first | omega | exact .inr ((nm_eq hin hv.s0 hv.t0 hv.st a2).1 hbad))]; decide), List.nil_sublist _⟩ | exact ⟨⟨(n - 1 : Int), nmI i j s, nmI i j t, x.2, jo i j rs⟩, by rw [joI_0 hin hgood, hxe, List.take_length]; rfl, NF.good (joI_0 hin hgood) (by have h9 := hx.2; rw [hxe, List.take_length] at h9; exact h9), by rw [hxe, List.take_length]; exact (by repeat (first | exact List.Sublist.slnil | exact List.nil_sublist _ | exact List.Sublist.refl _ | exact List.sublist_append_left _ _ | refine List.Sublist.cons_cons _ ?_ | refine (List.append_sublist_append_left _).2 ?_ | refine List.Sublist.cons _ ?_ | refine List.Sublist.trans ?_ (List.sublist_append_right _ _)))⟩
        · skip
          have hin : (0 ≤ i ∧ i < (n : Int)) ∧ (0 ≤ j ∧ j < (n : Int)) := by omega
          refine TC.skip ?_
          refine TQ.thenN ?_
          refine TQ.midK () (by repeat (first | exact True.intro | refine And.intro rfl ?_)) (by repeat (first | exact True.intro | refine And.intro rfl ?_)) (by repeat (first | exact List.Sublist.slnil | exact List.nil_sublist _ | exact List.Sublist.refl _ | refine List.Sublist.cons_cons _ ?_ | refine List.Sublist.cons _ ?_ | refine List.Sublist.trans ?_ (List.sublist_append_right _ _))) hin
    · skip
      intro x9 hin
      refine TC.lit [(1, _), (2, _), (3, _), (6, _), (7, _)] (by repeat (first | exact True.intro | refine And.intro rfl ?_)) ?_
      refine TC.seqG [1, 2, 3, 6, 7] (X := Unit) (fun x9 => ¬ (i = j ∨ (i = (s : Int) ∧ j = (t : Int)) ∨ (i = (t : Int) ∧ j = (s : Int)))) (fun x9 => []) ?_ ?_
      · skip
        refine TC.seq ?_
        refine TC.region ?_
        refine TL.pure (PV.move rfl) rfl (by decide) ?_
        refine TL.pure (PV.move rfl) rfl (by decide) ?_
        refine TL.pure (PV.eql rfl rfl) rfl (by decide) ?_
        refine TL.pure (PV.move rfl) rfl (by decide) ?_
        first | refine TL.splitD 38 rfl (fun a2 => ?_) (fun a2 => ?_) | refine TL.split 38 rfl (fun a2 => ?_) (fun a2 => ?_)
        · skip
          refine TL.skip rfl (fun k hk => by cases hk; decide) ?_
          refine TL.skip rfl (fun k hk => by cases hk; decide) ?_
          refine TL.skip rfl (fun k hk => by cases hk; decide) ?_
          refine TL.skip rfl (fun k hk => by cases hk; decide) ?_
          refine TL.skip rfl (fun k hk => by cases hk; decide) ?_
          refine TL.skipU rfl (fun k hk => by cases hk; decide) ?_
          refine TL.skipU rfl (fun k hk => by cases hk; decide) ?_
          refine TL.skipU rfl (fun k hk => by cases hk; decide) ?_
          refine TL.skipU rfl (fun k hk => by cases hk; decide) ?_
          refine TL.skip rfl (fun k hk => by cases hk; decide) ?_
          refine TL.pure (PV.pickT rfl rfl) rfl (by decide) ?_
          refine TL.pure (PV.move rfl) rfl (by decide) ?_
          refine TL.skip rfl (fun k hk => by cases hk; decide) ?_
          refine TL.skip rfl (fun k hk => by cases hk; decide) ?_
          refine TL.skip rfl (fun k hk => by cases hk; decide) ?_
          refine TL.skip rfl (fun k hk => by cases hk; decide) ?_
          refine TL.skip rfl (fun k hk => by cases hk; decide) ?_
          refine TL.skipU rfl (fun k hk => by cases hk; decide) ?_
          refine TL.skipU rfl (fun k hk => by cases hk; decide) ?_
          refine TL.skipU rfl (fun k hk => by cases hk; decide) ?_
          refine TL.skipU rfl (fun k hk => by cases hk; decide) ?_
          refine TL.skip rfl (fun k hk => by cases hk; decide) ?_
          refine TL.pure (PV.pickT rfl rfl) rfl (by decide) ?_
          refine TL.nil ?_
          refine TQ.thenC ?_
          refine TC.condT rfl ?_
          refine TC.seq ?_
          refine TC.region ?_
          refine TL.pure (PV.build rfl Tb.zero_24 Tb.pl_24 rfl) rfl (by decide) ?_
          refine TL.storeAgg (vs := [.int .i64 0, .int .i64 0, .int .i64 0, .slice none 0 0]) rfl rfl Tb.cells_24 (by repeat (first | exact Upd.head _ | apply Upd.tail | apply Upd.appR)) rfl rfl rfl rfl rfl ?_
          refine TL.pure (PV.assign rfl) rfl (by decide) ?_
          refine TL.nil ?_
          refine TQ.thenC ?_
          refine TC.ret ?_
          refine TQ.thenR ?_
          refine TQ.retR rfl (Res.agg rfl Tb.agg_24 (by repeat (first | exact List.Mem.head _ | refine List.Mem.tail _ ?_ | refine List.mem_append_right _ ?_)) rfl (Res.tmp rfl Res.nil)) ?_
          simp only [tup]
          first | exact absurd hd0 hv9 | exact ⟨NX.zero, by rw [joI_4 (by omega)]; rfl, NF.bad (by rw [joI_4 (by omega)]; decide), List.nil_sublist _⟩ | exact ⟨NX.zero, by rw [joI_1 hin (by first | omega | exact .inr ((nm_eq hin hv.s0 hv.t0 hv.st a2).1 hbad))]; rfl, NF.bad (by rw [joI_1 hin (by first | omega | exact .inr ((nm_eq hin hv.s0 hv.t0 hv.st a2).1 hbad))]; decide), List.nil_sublist _⟩ | exact ⟨⟨(n - 1 : Int), nmI i j s, nmI i j t, x.2, jo i j rs⟩, by rw [joI_0 hin hgood, hxe, List.take_length]; rfl, NF.good (joI_0 hin hgood) (by have h9 := hx.2; rw [hxe, List.take_length] at h9; exact h9), by rw [hxe, List.take_length]; exact (by repeat (first | exact List.Sublist.slnil | exact List.nil_sublist _ | exact List.Sublist.refl _ | exact List.sublist_append_left _ _ | refine List.Sublist.cons_cons _ ?_ | refine (List.append_sublist_append_left _).2 ?_ | refine List.Sublist.cons _ ?_ | refine List.Sublist.trans ?_ (List.sublist_append_right _ _)))⟩
        · skip
          refine TL.pure (PV.move rfl) rfl (by decide) ?_
          refine TL.pure (PV.fieldAddr rfl Tb.fo_24_1) rfl (by decide) ?_
          refine TL.pure (PV.load rfl Tb.one_3 (by repeat (first | exact List.Mem.head _ | refine List.Mem.tail _ ?_ | refine List.mem_append_right _ ?_)) rfl) rfl (by decide) ?_
          refine TL.pure (PV.eql rfl rfl) rfl (by decide) ?_
          refine TL.pure (PV.move rfl) rfl (by decide) ?_
          first | refine TL.splitD 43 rfl (fun a3 => ?_) (fun a3 => ?_) | refine TL.split 43 rfl (fun a3 => ?_) (fun a3 => ?_)
          · skip
            refine TL.pure (PV.move rfl) rfl (by decide) ?_
            refine TL.pure (PV.fieldAddr rfl Tb.fo_24_2) rfl (by decide) ?_
            refine TL.pure (PV.load rfl Tb.one_3 (by repeat (first | exact List.Mem.head _ | refine List.Mem.tail _ ?_ | refine List.mem_append_right _ ?_)) rfl) rfl (by decide) ?_
            refine TL.pure (PV.eql rfl rfl) rfl (by decide) ?_
            refine TL.pure (PV.pickT rfl rfl) rfl (by decide) ?_
            refine TL.pure (PV.pickF rfl rfl) rfl (by decide) ?_
            refine TL.pure (PV.move rfl) rfl (by decide) ?_
            first | refine TL.splitD 50 rfl (fun a4 => ?_) (fun a4 => ?_) | refine TL.split 50 rfl (fun a4 => ?_) (fun a4 => ?_)
            · skip
              refine TL.skip rfl (fun k hk => by cases hk; decide) ?_
              refine TL.skip rfl (fun k hk => by cases hk; decide) ?_
              refine TL.skip rfl (fun k hk => by cases hk; decide) ?_
              refine TL.skip rfl (fun k hk => by cases hk; decide) ?_
              refine TL.skip rfl (fun k hk => by cases hk; decide) ?_
              refine TL.skipU rfl (fun k hk => by cases hk; decide) ?_
              refine TL.skipU rfl (fun k hk => by cases hk; decide) ?_
              refine TL.skipU rfl (fun k hk => by cases hk; decide) ?_
              refine TL.skipU rfl (fun k hk => by cases hk; decide) ?_
              refine TL.skip rfl (fun k hk => by cases hk; decide) ?_
              refine TL.pure (PV.pickT rfl rfl) rfl (by decide) ?_
              refine TL.nil ?_
              refine TQ.thenC ?_
              refine TC.condT rfl ?_
              refine TC.seq ?_
              refine TC.region ?_
              refine TL.pure (PV.build rfl Tb.zero_24 Tb.pl_24 rfl) rfl (by decide) ?_
              refine TL.storeAgg (vs := [.int .i64 0, .int .i64 0, .int .i64 0, .slice none 0 0]) rfl rfl Tb.cells_24 (by repeat (first | exact Upd.head _ | apply Upd.tail | apply Upd.appR)) rfl rfl rfl rfl rfl ?_
              refine TL.pure (PV.assign rfl) rfl (by decide) ?_
              refine TL.nil ?_
              refine TQ.thenC ?_
              refine TC.ret ?_
              refine TQ.thenR ?_
              refine TQ.retR rfl (Res.agg rfl Tb.agg_24 (by repeat (first | exact List.Mem.head _ | refine List.Mem.tail _ ?_ | refine List.mem_append_right _ ?_)) rfl (Res.tmp rfl Res.nil)) ?_
              simp only [tup]
              first | exact absurd hd0 hv9 | exact ⟨NX.zero, by rw [joI_4 (by omega)]; rfl, NF.bad (by rw [joI_4 (by omega)]; decide), List.nil_sublist _⟩ | exact ⟨NX.zero, by rw [joI_1 hin (by first | omega | exact .inr ((nm_eq hin hv.s0 hv.t0 hv.st a2).1 hbad))]; rfl, NF.bad (by rw [joI_1 hin (by first | omega | exact .inr ((nm_eq hin hv.s0 hv.t0 hv.st a2).1 hbad))]; decide), List.nil_sublist _⟩ | exact ⟨⟨(n - 1 : Int), nmI i j s, nmI i j t, x.2, jo i j rs⟩, by rw [joI_0 hin hgood, hxe, List.take_length]; rfl, NF.good (joI_0 hin hgood) (by have h9 := hx.2; rw [hxe, List.take_length] at h9; exact h9), by rw [hxe, List.take_length]; exact (by repeat (first | exact List.Sublist.slnil | exact List.nil_sublist _ | exact List.Sublist.refl _ | exact List.sublist_append_left _ _ | refine List.Sublist.cons_cons _ ?_ | refine (List.append_sublist_append_left _).2 ?_ | refine List.Sublist.cons _ ?_ | refine List.Sublist.trans ?_ (List.sublist_append_right _ _)))⟩
            · skip
              refine TL.pure (PV.move rfl) rfl (by decide) ?_
              refine TL.pure (PV.fieldAddr rfl Tb.fo_24_2) rfl (by decide) ?_
              refine TL.pure (PV.load rfl Tb.one_3 (by repeat (first | exact List.Mem.head _ | refine List.Mem.tail _ ?_ | refine List.mem_append_right _ ?_)) rfl) rfl (by decide) ?_
              refine TL.pure (PV.eql rfl rfl) rfl (by decide) ?_
              refine TL.pure (PV.move rfl) rfl (by decide) ?_
              first | refine TL.splitD 55 rfl (fun a5 => ?_) (fun a5 => ?_) | refine TL.split 55 rfl (fun a5 => ?_) (fun a5 => ?_)
              · skip
                refine TL.pure (PV.move rfl) rfl (by decide) ?_
                refine TL.pure (PV.fieldAddr rfl Tb.fo_24_1) rfl (by decide) ?_
                refine TL.pure (PV.load rfl Tb.one_3 (by repeat (first | exact List.Mem.head _ | refine List.Mem.tail _ ?_ | refine List.mem_append_right _ ?_)) rfl) rfl (by decide) ?_
                refine TL.pure (PV.eql rfl rfl) rfl (by decide) ?_
                refine TL.pure (PV.pickT rfl rfl) rfl (by decide) ?_
                refine TL.pure (PV.pickF rfl rfl) rfl (by decide) ?_
                refine TL.nil ?_
                refine TQ.thenC ?_
                first | refine TC.condD rfl (fun hbad => ?_) (fun hbad => ?_) | refine TC.cond rfl (fun hbad => ?_) (fun hbad => ?_)
                · skip
                  refine TC.seq ?_
                  refine TC.region ?_
                  refine TL.pure (PV.build rfl Tb.zero_24 Tb.pl_24 rfl) rfl (by decide) ?_
                  refine TL.storeAgg (vs := [.int .i64 0, .int .i64 0, .int .i64 0, .slice none 0 0]) rfl rfl Tb.cells_24 (by repeat (first | exact Upd.head _ | apply Upd.tail | apply Upd.appR)) rfl rfl rfl rfl rfl ?_
                  refine TL.pure (PV.assign rfl) rfl (by decide) ?_
                  refine TL.nil ?_
                  refine TQ.thenC ?_
                  refine TC.ret ?_
                  refine TQ.thenR ?_
                  refine TQ.retR rfl (Res.agg rfl Tb.agg_24 (by repeat (first | exact List.Mem.head _ | refine List.Mem.tail _ ?_ | refine List.mem_append_right _ ?_)) rfl (Res.tmp rfl Res.nil)) ?_
                  simp only [tup]
                  first | exact absurd hd0 hv9 | exact ⟨NX.zero, by rw [joI_4 (by omega)]; rfl, NF.bad (by rw [joI_4 (by omega)]; decide), List.nil_sublist _⟩ | exact ⟨NX.zero, by rw [joI_1 hin (by first | omega | exact .inr ((nm_eq hin hv.s0 hv.t0 hv.st a2).1 hbad))]; rfl, NF.bad (by rw [joI_1 hin (by first | omega | exact .inr ((nm_eq hin hv.s0 hv.t0 hv.st a2).1 hbad))]; decide), List.nil_sublist _⟩ | exact ⟨⟨(n - 1 : Int), nmI i j s, nmI i j t, x.2, jo i j rs⟩, by rw [joI_0 hin hgood, hxe, List.take_length]; rfl, NF.good (joI_0 hin hgood) (by have h9 := hx.2; rw [hxe, List.take_length] at h9; exact h9), by rw [hxe, List.take_length]; exact (by repeat (first | exact List.Sublist.slnil | exact List.nil_sublist _ | exact List.Sublist.refl _ | exact List.sublist_append_left _ _ | refine List.Sublist.cons_cons _ ?_ | refine (List.append_sublist_append_left _).2 ?_ | refine List.Sublist.cons _ ?_ | refine List.Sublist.trans ?_ (List.sublist_append_right _ _)))⟩
                · skip
                  have hgood : ¬ (i = j ∨ (i = (s : Int) ∧ j = (t : Int)) ∨ (i = (t : Int) ∧ j = (s : Int))) := by omega
                  refine TC.skip ?_
                  refine TQ.thenN ?_
                  refine TQ.midK () (by repeat (first | exact True.intro | refine And.intro rfl ?_)) (by repeat (first | exact True.intro | refine And.intro rfl ?_)) (by repeat (first | exact List.Sublist.slnil | exact List.nil_sublist _ | exact List.Sublist.refl _ | refine List.Sublist.cons_cons _ ?_ | refine List.Sublist.cons _ ?_ | refine List.Sublist.trans ?_ (List.sublist_append_right _ _))) hgood
              · skip
                refine TL.skip rfl (fun k hk => by cases hk; decide) ?_
                refine TL.skip rfl (fun k hk => by cases hk; decide) ?_
                refine TL.skip rfl (fun k hk => by cases hk; decide) ?_
                refine TL.skip rfl (fun k hk => by cases hk; decide) ?_
                refine TL.pure (PV.pickF rfl rfl) rfl (by decide) ?_
                refine TL.pure (PV.pickF rfl rfl) rfl (by decide) ?_
                refine TL.nil ?_
                refine TQ.thenC ?_
                refine TC.condF rfl ?_
                have hgood : ¬ (i = j ∨ (i = (s : Int) ∧ j = (t : Int)) ∨ (i = (t : Int) ∧ j = (s : Int))) := by omega
                refine TC.skip ?_
                refine TQ.thenN ?_
                refine TQ.midK () (by repeat (first | exact True.intro | refine And.intro rfl ?_)) (by repeat (first | exact True.intro | refine And.intro rfl ?_)) (by repeat (first | exact List.Sublist.slnil | exact List.nil_sublist _ | exact List.Sublist.refl _ | refine List.Sublist.cons_cons _ ?_ | refine List.Sublist.cons _ ?_ | refine List.Sublist.trans ?_ (List.sublist_append_right _ _))) hgood
          · skip
            refine TL.skip rfl (fun k hk => by cases hk; decide) ?_
            refine TL.skip rfl (fun k hk => by cases hk; decide) ?_
            refine TL.skip rfl (fun k hk => by cases hk; decide) ?_
            refine TL.skip rfl (fun k hk => by cases hk; decide) ?_
            refine TL.pure (PV.pickF rfl rfl) rfl (by decide) ?_
            refine TL.pure (PV.pickF rfl rfl) rfl (by decide) ?_
            refine TL.pure (PV.move rfl) rfl (by decide) ?_
            refine TL.pure (PV.move rfl) rfl (by decide) ?_
            refine TL.pure (PV.fieldAddr rfl Tb.fo_24_2) rfl (by decide) ?_
            refine TL.pure (PV.load rfl Tb.one_3 (by repeat (first | exact List.Mem.head _ | refine List.Mem.tail _ ?_ | refine List.mem_append_right _ ?_)) rfl) rfl (by decide) ?_
            refine TL.pure (PV.eql rfl rfl) rfl (by decide) ?_
            refine TL.pure (PV.move rfl) rfl (by decide) ?_
            first | refine TL.splitD 55 rfl (fun a5 => ?_) (fun a5 => ?_) | refine TL.split 55 rfl (fun a5 => ?_) (fun a5 => ?_)
            · skip
              refine TL.pure (PV.move rfl) rfl (by decide) ?_
              refine TL.pure (PV.fieldAddr rfl Tb.fo_24_1) rfl (by decide) ?_
              refine TL.pure (PV.load rfl Tb.one_3 (by repeat (first | exact List.Mem.head _ | refine List.Mem.tail _ ?_ | refine List.mem_append_right _ ?_)) rfl) rfl (by decide) ?_
              refine TL.pure (PV.eql rfl rfl) rfl (by decide) ?_
              refine TL.pure (PV.pickT rfl rfl) rfl (by decide) ?_
              refine TL.pure (PV.pickF rfl rfl) rfl (by decide) ?_
              refine TL.nil ?_
              refine TQ.thenC ?_
              first | refine TC.condD rfl (fun hbad => ?_) (fun hbad => ?_) | refine TC.cond rfl (fun hbad => ?_) (fun hbad => ?_)
              · skip
                refine TC.seq ?_
                refine TC.region ?_
                refine TL.pure (PV.build rfl Tb.zero_24 Tb.pl_24 rfl) rfl (by decide) ?_
                refine TL.storeAgg (vs := [.int .i64 0, .int .i64 0, .int .i64 0, .slice none 0 0]) rfl rfl Tb.cells_24 (by repeat (first | exact Upd.head _ | apply Upd.tail | apply Upd.appR)) rfl rfl rfl rfl rfl ?_
                refine TL.pure (PV.assign rfl) rfl (by decide) ?_
                refine TL.nil ?_
                refine TQ.thenC ?_
                refine TC.ret ?_
                refine TQ.thenR ?_
                refine TQ.retR rfl (Res.agg rfl Tb.agg_24 (by repeat (first | exact List.Mem.head _ | refine List.Mem.tail _ ?_ | refine List.mem_append_right _ ?_)) rfl (Res.tmp rfl Res.nil)) ?_
                simp only [tup]
                first | exact absurd hd0 hv9 | exact ⟨NX.zero, by rw [joI_4 (by omega)]; rfl, NF.bad (by rw [joI_4 (by omega)]; decide), List.nil_sublist _⟩ | exact ⟨NX.zero, by rw [joI_1 hin (by first | omega | exact .inr ((nm_eq hin hv.s0 hv.t0 hv.st a2).1 hbad))]; rfl, NF.bad (by rw [joI_1 hin (by first | omega | exact .inr ((nm_eq hin hv.s0 hv.t0 hv.st a2).1 hbad))]; decide), List.nil_sublist _⟩ | exact ⟨⟨(n - 1 : Int), nmI i j s, nmI i j t, x.2, jo i j rs⟩, by rw [joI_0 hin hgood, hxe, List.take_length]; rfl, NF.good (joI_0 hin hgood) (by have h9 := hx.2; rw [hxe, List.take_length] at h9; exact h9), by rw [hxe, List.take_length]; exact (by repeat (first | exact List.Sublist.slnil | exact List.nil_sublist _ | exact List.Sublist.refl _ | exact List.sublist_append_left _ _ | refine List.Sublist.cons_cons _ ?_ | refine (List.append_sublist_append_left _).2 ?_ | refine List.Sublist.cons _ ?_ | refine List.Sublist.trans ?_ (List.sublist_append_right _ _)))⟩
              · skip
                have hgood : ¬ (i = j ∨ (i = (s : Int) ∧ j = (t : Int)) ∨ (i = (t : Int) ∧ j = (s : Int))) := by omega
                refine TC.skip ?_
                refine TQ.thenN ?_
                refine TQ.midK () (by repeat (first | exact True.intro | refine And.intro rfl ?_)) (by repeat (first | exact True.intro | refine And.intro rfl ?_)) (by repeat (first | exact List.Sublist.slnil | exact List.nil_sublist _ | exact List.Sublist.refl _ | refine List.Sublist.cons_cons _ ?_ | refine List.Sublist.cons _ ?_ | refine List.Sublist.trans ?_ (List.sublist_append_right _ _))) hgood
            · skip
              refine TL.skip rfl (fun k hk => by cases hk; decide) ?_
              refine TL.skip rfl (fun k hk => by cases hk; decide) ?_
              refine TL.skip rfl (fun k hk => by cases hk; decide) ?_
              refine TL.skip rfl (fun k hk => by cases hk; decide) ?_
              refine TL.pure (PV.pickF rfl rfl) rfl (by decide) ?_
              refine TL.pure (PV.pickF rfl rfl) rfl (by decide) ?_
              refine TL.nil ?_
              refine TQ.thenC ?_
              refine TC.condF rfl ?_
              have hgood : ¬ (i = j ∨ (i = (s : Int) ∧ j = (t : Int)) ∨ (i = (t : Int) ∧ j = (s : Int))) := by omega
              refine TC.skip ?_
              refine TQ.thenN ?_
              refine TQ.midK () (by repeat (first | exact True.intro | refine And.intro rfl ?_)) (by repeat (first | exact True.intro | refine And.intro rfl ?_)) (by repeat (first | exact List.Sublist.slnil | exact List.nil_sublist _ | exact List.Sublist.refl _ | refine List.Sublist.cons_cons _ ?_ | refine List.Sublist.cons _ ?_ | refine List.Sublist.trans ?_ (List.sublist_append_right _ _))) hgood
      · skip
        intro x9 hgood
        refine TC.lit [(1, _), (2, _), (3, _), (6, _), (7, _)] (by repeat (first | exact True.intro | refine And.intro rfl ?_)) ?_
        refine TC.seqK [1, 2, 3, 6, 7] (X := Nat) (fun bN => True) (fun bN => [(9, .pointer (some ⟨bN, 0, none⟩))]) (fun bN => [(bN, Obj.cells #[.int .i64 (n - 1 : Int), .int .i64 (nmI i j s), .int .i64 (nmI i j t), .slice none 0 0] 24 (0, 0)), (b1, Obj.cells #[.int .i64 0, .int .i64 0, .int .i64 0, .slice none 0 0] 24 (0, 0)), (b0, Obj.cells #[.int .i64 (n : Nat), .int .i64 (s : Nat), .int .i64 (t : Nat), .slice p rs.length cap] 24 (0, 0))]) ?_ ?_
        · skip
          refine TC.mixV [true, true, true, true, true, true, true, false, true, true, true, true, false, true, false, false] [(b1, Obj.cells #[.int .i64 0, .int .i64 0, .int .i64 0, .slice none 0 0] 24 (0, 0)), (b0, Obj.cells #[.int .i64 (n : Nat), .int .i64 (s : Nat), .int .i64 (t : Nat), .slice p rs.length cap] 24 (0, 0))] 16 Tb.mixed rfl (by kernel_rfl) (by kernel_rfl) (by kernel_rfl) (by kernel_rfl) (by repeat (first | exact List.Sublist.slnil | exact List.nil_sublist _ | exact List.Sublist.refl _ | refine List.Sublist.cons_cons _ ?_ | refine List.Sublist.cons _ ?_ | refine List.Sublist.trans ?_ (List.sublist_append_right _ _))) ?_
          refine TV.virt 0 rfl rfl (by decide) rfl (by kernel_rfl) (SOK.pure (PV.fieldAddr rfl Tb.fo_24_0) rfl) ?_
          refine TV.virt 1 rfl rfl (by decide) rfl (by kernel_rfl) (SOK.pure (PV.load rfl Tb.one_3 (by repeat (first | exact List.Mem.head _ | refine List.Mem.tail _ ?_ | refine List.mem_append_right _ ?_)) rfl) rfl) ?_
          refine TV.virt 2 rfl rfl (by decide) rfl (by kernel_rfl) (SOK.pure (PV.sub rfl rfl (by omega)) rfl) ?_
          refine TV.virt 3 rfl rfl (by decide) rfl (by kernel_rfl) (SOK.pure (PV.fieldAddr rfl Tb.fo_24_1) rfl) ?_
          refine TV.virt 4 rfl rfl (by decide) rfl (by kernel_rfl) (SOK.pure (PV.load rfl Tb.one_3 (by repeat (first | exact List.Mem.head _ | refine List.Mem.tail _ ?_ | refine List.mem_append_right _ ?_)) rfl) rfl) ?_
          refine TV.virt 5 rfl rfl (by decide) rfl (by kernel_rfl) (SOK.pure (PV.move rfl) rfl) ?_
          refine TV.virt 6 rfl rfl (by decide) rfl (by kernel_rfl) (SOK.pure (PV.move rfl) rfl) ?_
          refine TV.virt 8 rfl rfl (by decide) rfl (by kernel_rfl) (SOK.pure (PV.fieldAddr rfl Tb.fo_24_2) rfl) ?_
          refine TV.virt 9 rfl rfl (by decide) rfl (by kernel_rfl) (SOK.pure (PV.load rfl Tb.one_3 (by repeat (first | exact List.Mem.head _ | refine List.Mem.tail _ ?_ | refine List.mem_append_right _ ?_)) rfl) rfl) ?_
          refine TV.virt 10 rfl rfl (by decide) rfl (by kernel_rfl) (SOK.pure (PV.move rfl) rfl) ?_
          refine TV.virt 11 rfl rfl (by decide) rfl (by kernel_rfl) (SOK.pure (PV.move rfl) rfl) ?_
          refine TV.step [7, 14] (by kernel_rfl) (by decide) rfl ⟨⟨_, rfl, ?_⟩, ⟨_, rfl, ?_⟩, trivial⟩
          · skip
            refine TL.call rfl Tb.gofn_79 (fun a w hs => named_ok w s i j (by omega) (by omega) (by omega)) rfl (by decide) (fun _ _ => ?_)
            refine TL.nil ?_
            refine TV.next (.inl (by repeat (first | exact List.Sublist.slnil | exact List.nil_sublist _ | exact List.Sublist.refl _ | refine List.Sublist.cons_cons _ ?_ | refine List.Sublist.cons _ ?_ | refine List.Sublist.trans ?_ (List.sublist_append_right _ _)))) ?_
            refine TV.step [12, 14] (by kernel_rfl) (by decide) rfl ⟨⟨_, rfl, ?_⟩, ⟨_, rfl, ?_⟩, trivial⟩
            · skip
              refine TL.call rfl Tb.gofn_79 (fun a w hs => named_ok w t i j (by omega) (by omega) (by omega)) rfl (by decide) (fun _ _ => ?_)
              refine TL.nil ?_
              refine TV.next (.inl (by repeat (first | exact List.Sublist.slnil | exact List.nil_sublist _ | exact List.Sublist.refl _ | refine List.Sublist.cons_cons _ ?_ | refine List.Sublist.cons _ ?_ | refine List.Sublist.trans ?_ (List.sublist_append_right _ _)))) ?_
              refine TV.virt 13 rfl rfl (by decide) rfl (by kernel_rfl) (SOK.pure (PV.build rfl Tb.zero_24 Tb.pl_24 rfl) rfl) ?_
              refine TV.step [14] (by kernel_rfl) (by decide) rfl ⟨⟨_, rfl, ?_⟩, trivial⟩
              refine TL.alloc Tb.zero_24 rfl (by decide) (fun bN hbN => ?_)
              refine TL.nil ?_
              refine TV.next (.inl (by repeat (first | exact List.Sublist.slnil | exact List.nil_sublist _ | exact List.Sublist.refl _ | refine List.Sublist.cons_cons _ ?_ | refine List.Sublist.cons _ ?_ | refine List.Sublist.trans ?_ (List.sublist_append_right _ _)))) ?_
              refine TV.step [15] (by kernel_rfl) (by decide) rfl ⟨⟨_, rfl, ?_⟩, trivial⟩
              refine TL.storeAgg (vs := [.int .i64 (n - 1 : Int), .int .i64 (nmI i j s), .int .i64 (nmI i j t), .slice none 0 0]) rfl rfl Tb.cells_24 (by repeat (first | exact Upd.head _ | apply Upd.tail | apply Upd.appR)) rfl rfl rfl rfl rfl ?_
              refine TL.nil ?_
              refine TV.next (.inr (by kernel_rfl)) ?_
              refine TV.done (by kernel_rfl) ?_
              refine TQ.thenN ?_
              refine TQ.midK bN (by repeat (first | exact True.intro | refine And.intro rfl ?_)) (by repeat (first | exact True.intro | refine And.intro rfl ?_)) (by repeat (first | exact List.Sublist.slnil | exact List.nil_sublist _ | exact List.Sublist.refl _ | exact List.sublist_append_left _ _ | refine List.Sublist.cons_cons _ ?_ | refine (List.append_sublist_append_left _).2 ?_ | refine List.Sublist.cons _ ?_ | refine List.Sublist.trans ?_ (List.sublist_append_right _ _))) trivial
            · skip
              refine TL.alloc Tb.zero_24 rfl (by decide) (fun bN hbN => ?_)
              refine TL.nil ?_
              refine TV.next (.inl (by repeat (first | exact List.Sublist.slnil | exact List.nil_sublist _ | exact List.Sublist.refl _ | refine List.Sublist.cons_cons _ ?_ | refine List.Sublist.cons _ ?_ | refine List.Sublist.trans ?_ (List.sublist_append_right _ _)))) ?_
              refine TV.step [12] (by kernel_rfl) (by decide) rfl ⟨⟨_, rfl, ?_⟩, trivial⟩
              refine TL.call rfl Tb.gofn_79 (fun a w hs => named_ok w t i j (by omega) (by omega) (by omega)) rfl (by decide) (fun _ _ => ?_)
              refine TL.nil ?_
              refine TV.next (.inl (by repeat (first | exact List.Sublist.slnil | exact List.nil_sublist _ | exact List.Sublist.refl _ | refine List.Sublist.cons_cons _ ?_ | refine List.Sublist.cons _ ?_ | refine List.Sublist.trans ?_ (List.sublist_append_right _ _)))) ?_
              refine TV.virt 13 rfl rfl (by decide) rfl (by kernel_rfl) (SOK.pure (PV.build rfl Tb.zero_24 Tb.pl_24 rfl) rfl) ?_
              refine TV.step [15] (by kernel_rfl) (by decide) rfl ⟨⟨_, rfl, ?_⟩, trivial⟩
              refine TL.storeAgg (vs := [.int .i64 (n - 1 : Int), .int .i64 (nmI i j s), .int .i64 (nmI i j t), .slice none 0 0]) rfl rfl Tb.cells_24 (by repeat (first | exact Upd.head _ | apply Upd.tail | apply Upd.appR)) rfl rfl rfl rfl rfl ?_
              refine TL.nil ?_
              refine TV.next (.inr (by kernel_rfl)) ?_
              refine TV.done (by kernel_rfl) ?_
              refine TQ.thenN ?_
              refine TQ.midK bN (by repeat (first | exact True.intro | refine And.intro rfl ?_)) (by repeat (first | exact True.intro | refine And.intro rfl ?_)) (by repeat (first | exact List.Sublist.slnil | exact List.nil_sublist _ | exact List.Sublist.refl _ | exact List.sublist_append_left _ _ | refine List.Sublist.cons_cons _ ?_ | refine (List.append_sublist_append_left _).2 ?_ | refine List.Sublist.cons _ ?_ | refine List.Sublist.trans ?_ (List.sublist_append_right _ _))) trivial
          · skip
            refine TL.alloc Tb.zero_24 rfl (by decide) (fun bN hbN => ?_)
            refine TL.nil ?_
            refine TV.next (.inl (by repeat (first | exact List.Sublist.slnil | exact List.nil_sublist _ | exact List.Sublist.refl _ | refine List.Sublist.cons_cons _ ?_ | refine List.Sublist.cons _ ?_ | refine List.Sublist.trans ?_ (List.sublist_append_right _ _)))) ?_
            refine TV.step [7] (by kernel_rfl) (by decide) rfl ⟨⟨_, rfl, ?_⟩, trivial⟩
            refine TL.call rfl Tb.gofn_79 (fun a w hs => named_ok w s i j (by omega) (by omega) (by omega)) rfl (by decide) (fun _ _ => ?_)
            refine TL.nil ?_
            refine TV.next (.inl (by repeat (first | exact List.Sublist.slnil | exact List.nil_sublist _ | exact List.Sublist.refl _ | refine List.Sublist.cons_cons _ ?_ | refine List.Sublist.cons _ ?_ | refine List.Sublist.trans ?_ (List.sublist_append_right _ _)))) ?_
            refine TV.step [12] (by kernel_rfl) (by decide) rfl ⟨⟨_, rfl, ?_⟩, trivial⟩
            refine TL.call rfl Tb.gofn_79 (fun a w hs => named_ok w t i j (by omega) (by omega) (by omega)) rfl (by decide) (fun _ _ => ?_)
            refine TL.nil ?_
            refine TV.next (.inl (by repeat (first | exact List.Sublist.slnil | exact List.nil_sublist _ | exact List.Sublist.refl _ | refine List.Sublist.cons_cons _ ?_ | refine List.Sublist.cons _ ?_ | refine List.Sublist.trans ?_ (List.sublist_append_right _ _)))) ?_
            refine TV.virt 13 rfl rfl (by decide) rfl (by kernel_rfl) (SOK.pure (PV.build rfl Tb.zero_24 Tb.pl_24 rfl) rfl) ?_
            refine TV.step [15] (by kernel_rfl) (by decide) rfl ⟨⟨_, rfl, ?_⟩, trivial⟩
            refine TL.storeAgg (vs := [.int .i64 (n - 1 : Int), .int .i64 (nmI i j s), .int .i64 (nmI i j t), .slice none 0 0]) rfl rfl Tb.cells_24 (by repeat (first | exact Upd.head _ | apply Upd.tail | apply Upd.appR)) rfl rfl rfl rfl rfl ?_
            refine TL.nil ?_
            refine TV.next (.inr (by kernel_rfl)) ?_
            refine TV.done (by kernel_rfl) ?_
            refine TQ.thenN ?_
            refine TQ.midK bN (by repeat (first | exact True.intro | refine And.intro rfl ?_)) (by repeat (first | exact True.intro | refine And.intro rfl ?_)) (by repeat (first | exact List.Sublist.slnil | exact List.nil_sublist _ | exact List.Sublist.refl _ | exact List.sublist_append_left _ _ | refine List.Sublist.cons_cons _ ?_ | refine (List.append_sublist_append_left _).2 ?_ | refine List.Sublist.cons _ ?_ | refine List.Sublist.trans ?_ (List.sublist_append_right _ _))) trivial
        · skip
          intro bN _
          refine TC.lit [(1, _), (2, _), (3, _), (6, _), (7, _), (9, _)] (by repeat (first | exact True.intro | refine And.intro rfl ?_)) ?_
          refine TC.seq ?_
          refine TC.seq ?_
          refine TC.region ?_
          refine TL.pure (PV.assign rfl) rfl (by decide) ?_
          refine TL.nil ?_
          refine TQ.thenC ?_
          refine TC.block ?_
          refine TC.lit [(1, _), (2, _), (3, _), (6, _), (7, _), (9, _), (10, _)] (by repeat (first | exact True.intro | refine And.intro rfl ?_)) ?_
          refine TC.loopK [1, 2, 3, 6, 7, 9] (X := Nat × HD) (fun x => x.1 ≤ rs.length ∧ goB x.2 (jo i j (rs.take x.1))) (fun x => [(10, .int .i64 (x.1 : Nat))]) (fun x => gbB 40 x.2 (jo i j (rs.take x.1)) ++ [(bN, Obj.cells #[.int .i64 (n - 1 : Int), .int .i64 (nmI i j s), .int .i64 (nmI i j t), gval x.2 (jo i j (rs.take x.1)).length] 24 (0, 0)), (b1, Obj.cells #[.int .i64 0, .int .i64 0, .int .i64 0, .slice none 0 0] 24 (0, 0)), (b0, Obj.cells #[.int .i64 (n : Nat), .int .i64 (s : Nat), .int .i64 (t : Nat), .slice p rs.length cap] 24 (0, 0))]) (fun x => rs.length - x.1) (0, none) ⟨Nat.zero_le _, rfl, rfl⟩ (by repeat (first | exact True.intro | refine And.intro rfl ?_)) (by repeat (first | exact List.Sublist.slnil | exact List.nil_sublist _ | exact List.Sublist.refl _ | exact List.sublist_append_left _ _ | refine List.Sublist.cons_cons _ ?_ | refine (List.append_sublist_append_left _).2 ?_ | refine List.Sublist.cons _ ?_ | refine List.Sublist.trans ?_ (List.sublist_append_right _ _))) ?_
          intro x hx
          have hx1 := hx.1
          refine TC.lit [(1, _), (2, _), (3, _), (6, _), (7, _), (9, _), (10, _)] (by repeat (first | exact True.intro | refine And.intro rfl ?_)) ?_
          refine TC.seq ?_
          refine TC.seq ?_
          refine TC.region ?_
          refine TL.pure (PV.move rfl) rfl (by decide) ?_
          refine TL.pure (PV.fieldAddr rfl Tb.fo_24_3) rfl (by decide) ?_
          refine TL.pure (PV.load rfl Tb.one_22 (by repeat (first | exact List.Mem.head _ | refine List.Mem.tail _ ?_ | refine List.mem_append_right _ ?_)) rfl) rfl (by decide) ?_
          refine TL.pure (PV.len rfl Tb.sl_22) rfl (by decide) ?_
          refine TL.pure (PV.lss rfl rfl) rfl (by decide) ?_
          refine TL.nil ?_
          refine TQ.thenC ?_
          first | refine TC.condD rfl (fun hlt => ?_) (fun hlt => ?_) | refine TC.cond rfl (fun hlt => ?_) (fun hlt => ?_)
          · skip
            refine TC.skip ?_
            refine TQ.thenC ?_
            refine TC.seq ?_
            refine TC.block ?_
            refine TC.seq ?_
            have hxk : x.1 < rs.length := by omega
            obtain ⟨q, hqp, hq⟩ := hr x.1 (by omega)
            have hma := hv.at hxk
            refine TC.region ?_
            refine TL.pure (PV.fieldAddr rfl Tb.fo_24_3) rfl (by decide) ?_
            refine TL.pure (PV.load rfl Tb.one_22 (by repeat (first | exact List.Mem.head _ | refine List.Mem.tail _ ?_ | refine List.mem_append_right _ ?_)) rfl) rfl (by decide) ?_
            refine TL.pure (PV.move rfl) rfl (by decide) ?_
            refine TL.pure (PV.indexA rfl hqp rfl Tb.elm_22 rfl (by omega)) rfl (by decide) ?_
            refine TL.pure (PV.loadAggA rfl Tb.agg_40 rfl hq) rfl (by decide) ?_
            refine TL.alloc Tb.zero_40 rfl (by decide) (fun bD hbD => ?_)
            refine TL.storeAgg (vs := [.int .i64 (rs.getD x.1 default).a, .int .i64 (rs.getD x.1 default).b, .int .i64 (rs.getD x.1 default).m]) rfl rfl Tb.cells_40 (by repeat (first | exact Upd.head _ | apply Upd.tail | apply Upd.appR)) rfl rfl rfl rfl rfl ?_
            refine TL.nil ?_
            refine TQ.thenC ?_
            refine TC.seqG [1, 2, 3, 6, 7, 9, 10, 11] (X := Unit) (fun x9 => True) (fun x9 => [(12, .int .i64 (nmI i j (rs.getD x.1 default).a)), (13, .int .i64 (nmI i j (rs.getD x.1 default).b))]) ?_ ?_
            · skip
              refine TC.mixV [true, true, true, true, false, true, true, true, true, false, true, true] ((bD, Obj.cells #[.int .i64 (rs.getD x.1 default).a, .int .i64 (rs.getD x.1 default).b, .int .i64 (rs.getD x.1 default).m] 40 (0, 0)) :: (gbB 40 x.2 (jo i j (rs.take x.1)) ++ [(bN, Obj.cells #[.int .i64 (n - 1 : Int), .int .i64 (nmI i j s), .int .i64 (nmI i j t), gval x.2 (jo i j (rs.take x.1)).length] 24 (0, 0)), (b1, Obj.cells #[.int .i64 0, .int .i64 0, .int .i64 0, .slice none 0 0] 24 (0, 0)), (b0, Obj.cells #[.int .i64 (n : Nat), .int .i64 (s : Nat), .int .i64 (t : Nat), .slice p rs.length cap] 24 (0, 0))])) 12 Tb.mixed rfl (by kernel_rfl) (by kernel_rfl) (by kernel_rfl) (by kernel_rfl) (by repeat (first | exact List.Sublist.slnil | exact List.nil_sublist _ | exact List.Sublist.refl _ | refine List.Sublist.cons_cons _ ?_ | refine List.Sublist.cons _ ?_ | refine List.Sublist.trans ?_ (List.sublist_append_right _ _))) ?_
              refine TV.virt 0 rfl rfl (by decide) rfl (by kernel_rfl) (SOK.pure (PV.fieldAddr rfl Tb.fo_40_0) rfl) ?_
              refine TV.virt 1 rfl rfl (by decide) rfl (by kernel_rfl) (SOK.pure (PV.load rfl Tb.one_3 (by repeat (first | exact List.Mem.head _ | refine List.Mem.tail _ ?_ | refine List.mem_append_right _ ?_)) rfl) rfl) ?_
              refine TV.virt 2 rfl rfl (by decide) rfl (by kernel_rfl) (SOK.pure (PV.move rfl) rfl) ?_
              refine TV.virt 3 rfl rfl (by decide) rfl (by kernel_rfl) (SOK.pure (PV.move rfl) rfl) ?_
              refine TV.virt 5 rfl rfl (by decide) rfl (by kernel_rfl) (SOK.pure (PV.fieldAddr rfl Tb.fo_40_1) rfl) ?_
              refine TV.virt 6 rfl rfl (by decide) rfl (by kernel_rfl) (SOK.pure (PV.load rfl Tb.one_3 (by repeat (first | exact List.Mem.head _ | refine List.Mem.tail _ ?_ | refine List.mem_append_right _ ?_)) rfl) rfl) ?_
              refine TV.virt 7 rfl rfl (by decide) rfl (by kernel_rfl) (SOK.pure (PV.move rfl) rfl) ?_
              refine TV.virt 8 rfl rfl (by decide) rfl (by kernel_rfl) (SOK.pure (PV.move rfl) rfl) ?_
              refine TV.step [4] (by kernel_rfl) (by decide) rfl ⟨⟨_, rfl, ?_⟩, trivial⟩
              refine TL.call rfl Tb.gofn_79 (fun a w hs => named_ok w (rs.getD x.1 default).a i j (by omega) (by omega) (by omega)) rfl (by decide) (fun _ _ => ?_)
              refine TL.nil ?_
              refine TV.next (.inl (by repeat (first | exact List.Sublist.slnil | exact List.nil_sublist _ | exact List.Sublist.refl _ | refine List.Sublist.cons_cons _ ?_ | refine List.Sublist.cons _ ?_ | refine List.Sublist.trans ?_ (List.sublist_append_right _ _)))) ?_
              refine TV.step [9] (by kernel_rfl) (by decide) rfl ⟨⟨_, rfl, ?_⟩, trivial⟩
              refine TL.call rfl Tb.gofn_79 (fun a w hs => named_ok w (rs.getD x.1 default).b i j (by omega) (by omega) (by omega)) rfl (by decide) (fun _ _ => ?_)
              refine TL.nil ?_
              refine TV.next (.inl (by repeat (first | exact List.Sublist.slnil | exact List.nil_sublist _ | exact List.Sublist.refl _ | refine List.Sublist.cons_cons _ ?_ | refine List.Sublist.cons _ ?_ | refine List.Sublist.trans ?_ (List.sublist_append_right _ _)))) ?_
              refine TV.virt 10 rfl rfl (by decide) rfl (by kernel_rfl) (SOK.pure (PV.assign rfl) rfl) ?_
              refine TV.virt 11 rfl rfl (by decide) rfl (by kernel_rfl) (SOK.pure (PV.assign rfl) rfl) ?_
              refine TV.done (by kernel_rfl) ?_
              refine TQ.thenN ?_
              refine TQ.midK () (by repeat (first | exact True.intro | refine And.intro rfl ?_)) (by repeat (first | exact True.intro | refine And.intro rfl ?_)) (by repeat (first | exact List.Sublist.slnil | exact List.nil_sublist _ | exact List.Sublist.refl _ | refine List.Sublist.cons_cons _ ?_ | refine List.Sublist.cons _ ?_ | refine List.Sublist.trans ?_ (List.sublist_append_right _ _))) trivial
            · skip
              intro x9 _
              refine TC.lit [(1, _), (2, _), (3, _), (6, _), (7, _), (9, _), (10, _), (11, _), (12, _), (13, _)] (by repeat (first | exact True.intro | refine And.intro rfl ?_)) ?_
              refine TC.seq ?_
              refine TC.region ?_
              refine TL.pure (PV.move rfl) rfl (by decide) ?_
              refine TL.pure (PV.move rfl) rfl (by decide) ?_
              refine TL.pure (PV.neq rfl rfl) rfl (by decide) ?_
              refine TL.nil ?_
              refine TQ.thenC ?_
              first | refine TC.condD rfl (fun hne => ?_) (fun hne => ?_) | refine TC.cond rfl (fun hne => ?_) (fun hne => ?_)
              · skip
                have hjo := jo_yes hxk hne
                refine TC.region ?_
                refine TL.pure (PV.fieldAddr rfl Tb.fo_24_3) rfl (by decide) ?_
                refine TL.pure (PV.load rfl Tb.one_22 (by repeat (first | exact List.Mem.head _ | refine List.Mem.tail _ ?_ | refine List.mem_append_right _ ?_)) rfl) rfl (by decide) ?_
                refine TL.pure (PV.move rfl) rfl (by decide) ?_
                refine TL.pure (PV.move rfl) rfl (by decide) ?_
                refine TL.pure (PV.fieldAddr rfl Tb.fo_40_2) rfl (by decide) ?_
                refine TL.pure (PV.load rfl Tb.one_3 (by repeat (first | exact List.Mem.head _ | refine List.Mem.tail _ ?_ | refine List.mem_append_right _ ?_)) rfl) rfl (by decide) ?_
                refine TL.pure (PV.build rfl Tb.zero_40 Tb.pl_40 (fill_d _ _ _)) rfl (by decide) ?_
                refine TL.buildSlice (cs := (rnB i j (rs.getD x.1 default)).cells.toArray) rfl Tb.sl_22 Tb.zi_40 (by decide) (fill_bd (rnB i j (rs.getD x.1 default))) (by decide) rfl (by decide) (fun bE hbE => ?_)
                refine TL.appendBd (h0 := x.2) (ys := (jo i j (rs.take x.1))) (K0 := (jo i j (rs.take x.1)).length) (r := rnB i j (rs.getD x.1 default)) Tb.sl_22 Tb.zi_40 rfl rfl rfl rfl (by repeat (first | exact List.Mem.head _ | refine List.Mem.tail _ ?_ | refine List.mem_append_right _ ?_)) rfl hx.2 (by repeat (first | exact TakeH.here _ _ _ _ | apply TakeH.tail | apply TakeH.app)) (by have := jo_take_len i j rs x.1; omega) rfl (by decide) (fun h2 hh2 => ?_)
                refine TL.pure (PV.fieldAddr rfl Tb.fo_24_3) rfl (by decide) ?_
                refine TL.store rfl rfl Tb.cells_22 (gval_one _ _) (by repeat (first | exact Upd.head _ | apply Upd.tail | apply Upd.appR)) (by show 3 < 4; decide) rfl rfl ?_
                refine TL.nil ?_
                refine TQ.blkN ?_
                refine TQ.thenC ?_
                refine TC.region ?_
                refine TL.pure (PV.move rfl) rfl (by decide) ?_
                refine TL.pure (PV.add rfl rfl (by omega)) rfl (by decide) ?_
                refine TL.pure (PV.assign rfl) rfl (by decide) ?_
                refine TL.nil ?_
                refine TQ.thenN ?_
                refine TQ.backK (x.1 + 1, h2) (by repeat (first | exact True.intro | refine And.intro rfl ?_)) (by repeat (first | exact True.intro | refine And.intro rfl ?_)) (by rw [hjo]; first | (rw [List.length_append]; exact (by repeat (first | exact List.Sublist.slnil | exact List.nil_sublist _ | exact List.Sublist.refl _ | exact List.sublist_append_left _ _ | refine List.Sublist.cons_cons _ ?_ | refine (List.append_sublist_append_left _).2 ?_ | refine List.Sublist.cons _ ?_ | refine List.Sublist.trans ?_ (List.sublist_append_right _ _)))) | exact (by repeat (first | exact List.Sublist.slnil | exact List.nil_sublist _ | exact List.Sublist.refl _ | exact List.sublist_append_left _ _ | refine List.Sublist.cons_cons _ ?_ | refine (List.append_sublist_append_left _).2 ?_ | refine List.Sublist.cons _ ?_ | refine List.Sublist.trans ?_ (List.sublist_append_right _ _)))) ⟨by simp only; omega, by simp only; rw [hjo]; exact hh2⟩ (by simp only; omega)
              · skip
                have hjo := jo_no hxk hne
                refine TC.skip ?_
                refine TQ.blkN ?_
                refine TQ.thenC ?_
                refine TC.region ?_
                refine TL.pure (PV.move rfl) rfl (by decide) ?_
                refine TL.pure (PV.add rfl rfl (by omega)) rfl (by decide) ?_
                refine TL.pure (PV.assign rfl) rfl (by decide) ?_
                refine TL.nil ?_
                refine TQ.thenN ?_
                refine TQ.backK (x.1 + 1, x.2) (by repeat (first | exact True.intro | refine And.intro rfl ?_)) (by repeat (first | exact True.intro | refine And.intro rfl ?_)) (by rw [hjo]; first | (rw [List.length_append]; exact (by repeat (first | exact List.Sublist.slnil | exact List.nil_sublist _ | exact List.Sublist.refl _ | exact List.sublist_append_left _ _ | refine List.Sublist.cons_cons _ ?_ | refine (List.append_sublist_append_left _).2 ?_ | refine List.Sublist.cons _ ?_ | refine List.Sublist.trans ?_ (List.sublist_append_right _ _)))) | exact (by repeat (first | exact List.Sublist.slnil | exact List.nil_sublist _ | exact List.Sublist.refl _ | exact List.sublist_append_left _ _ | refine List.Sublist.cons_cons _ ?_ | refine (List.append_sublist_append_left _).2 ?_ | refine List.Sublist.cons _ ?_ | refine List.Sublist.trans ?_ (List.sublist_append_right _ _)))) ⟨by simp only; omega, by simp only; rw [hjo]; exact hx.2⟩ (by simp only; omega)
          · skip
            refine TC.exit ?_
            refine TQ.thenE ?_
            refine TQ.thenE ?_
            refine TQ.blkS ?_
            refine TQ.thenC ?_
            refine TC.seq ?_
            have hxe : x.1 = rs.length := by omega
            refine TC.region ?_
            refine TL.pure (PV.loadBox rfl Tb.agg_24 (by repeat (first | exact List.Mem.head _ | refine List.Mem.tail _ ?_ | refine List.mem_append_right _ ?_)) rfl) rfl (by decide) ?_
            refine TL.storeAgg rfl rfl Tb.cells_24 (by repeat (first | exact Upd.head _ | apply Upd.tail | apply Upd.appR)) rfl rfl (by first | rfl | exact sv_one _ _ _ | exact nv_one _ _ _ _ _) rfl rfl ?_
            refine TL.pure (PV.assign rfl) rfl (by decide) ?_
            refine TL.nil ?_
            refine TQ.thenC ?_
            refine TC.ret ?_
            refine TQ.retR rfl (Res.agg rfl Tb.agg_24 (by repeat (first | exact List.Mem.head _ | refine List.Mem.tail _ ?_ | refine List.mem_append_right _ ?_)) rfl (Res.tmp rfl Res.nil)) ?_
            simp only [tup]
            first | exact absurd hd0 hv9 | exact ⟨NX.zero, by rw [joI_4 (by omega)]; rfl, NF.bad (by rw [joI_4 (by omega)]; decide), List.nil_sublist _⟩ | exact ⟨NX.zero, by rw [joI_1 hin (by first | omega | exact .inr ((nm_eq hin hv.s0 hv.t0 hv.st a2).1 hbad))]; rfl, NF.bad (by rw [joI_1 hin (by first | omega | exact .inr ((nm_eq hin hv.s0 hv.t0 hv.st a2).1 hbad))]; decide), List.nil_sublist _⟩ | exact ⟨⟨(n - 1 : Int), nmI i j s, nmI i j t, x.2, jo i j rs⟩, by rw [joI_0 hin hgood, hxe, List.take_length]; rfl, NF.good (joI_0 hin hgood) (by have h9 := hx.2; rw [hxe, List.take_length] at h9; exact h9), by rw [hxe, List.take_length]; exact (by repeat (first | exact List.Sublist.slnil | exact List.nil_sublist _ | exact List.Sublist.refl _ | exact List.sublist_append_left _ _ | refine List.Sublist.cons_cons _ ?_ | refine (List.append_sublist_append_left _).2 ?_ | refine List.Sublist.cons _ ?_ | refine List.Sublist.trans ?_ (List.sublist_append_right _ _)))⟩

end Go.Proofs.Ytnlbngbbddhgeaa
