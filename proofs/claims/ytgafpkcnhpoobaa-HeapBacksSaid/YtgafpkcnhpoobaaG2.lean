/- Back: the law's contract. -/
import Derived.Test.YtgafpkcnhpoobaaGm
set_option linter.unusedVariables false
set_option linter.unusedSimpArgs false
namespace Go.Proofs.Ytgafpkcnhpoobaa
open Go.Sx Go.RowKit Go.Sand



set_option maxRecDepth 100000 in
set_option maxHeartbeats 2000000 in
theorem heapBacks_ok (w0 : World) (p : Option Addr) (cp : Nat) (ls : List (List Int)) (hr : LsAt w0 p ls) (q : Option Addr) (cq : Nat) (gs : List Int) (hg : IntsAt w0 q gs) (hln : ls.length ≤ 9223372036854775807) (pl : Option Addr) (cl : Nat) (xs : List Int) (hx : IntsAt w0 pl xs) :
    Calls Try.prog 14 #[hv p ls.length cp q gs.length cq, .slice pl xs.length cl] w0 (Post (X := Unit) (fun _ => .bool true) (fun _ => True) (fun _ => []) w0) := by
  refine calls Try.func14 rfl (n := 37) rfl (by simp) ?_
  refine TC.seq ?_
  refine TC.region ?_
  refine TL.box rfl rfl (by decide) (fun b0 hb0 => ?_)
  refine TL.pure (PV.assign rfl) rfl (by decide) ?_
  refine TL.nil ?_
  refine TQ.thenC ?_
  refine TC.seq ?_
  refine TC.seq ?_
  refine TC.region ?_
  refine TL.pure (PV.loadBox rfl Tb.agg_25 (by repeat (first | exact List.Mem.head _ | refine List.Mem.tail _ ?_ | refine List.mem_append_right _ ?_)) rfl) rfl (by decide) ?_
  refine TL.pure (PV.move rfl) rfl (by decide) ?_
  refine TL.buildSlice (cs := #[.slice pl xs.length cl]) rfl Tb.sl_22 Tb.zi_23 (by decide) (fill_o _ _ _) (by decide) rfl (by decide) (fun bS hbS => ?_)
  refine TL.call rfl Tb.gofn_20 (fun a w hs => long_ok w _ _ _ (hr.new hs.new) _ _ _ (hg.new hs.new) _ 1 [xs] (LsAt.one hs.new (by repeat (first | exact List.Mem.head _ | refine List.Mem.tail _ ?_ | refine List.mem_append_right _ ?_)) (hx.new hs.new)) hln (by simp)) rfl (by decide) (fun bl hbl => ?_)
  refine TL.nil ?_
  refine TQ.thenC ?_
  first | refine TC.condD rfl (fun hlong => ?_) (fun hlong => ?_) | refine TC.cond rfl (fun hlong => ?_) (fun hlong => ?_)
  · skip
    refine TC.seq ?_
    refine TC.region ?_
    refine TL.call rfl Tb.gofn_21 (fun a w hs => sane_ok w) rfl (by decide) (fun _ _ => ?_)
    refine TL.pure (PV.assign rfl) rfl (by decide) ?_
    refine TL.nil ?_
    refine TQ.thenC ?_
    refine TC.ret ?_
    refine TQ.thenR ?_
    refine TQ.retE1 rfl rfl ?_
    first | exact ⟨(), rfl, trivial, List.nil_sublist _⟩ | (exfalso; simp_all; done)
  · skip
    refine TC.skip ?_
    refine TQ.thenC ?_
    refine TC.seq ?_
    have hS := hbl hlong
    have hxo : xs.length ≤ 1000000 := by have := hS.x0; omega
    refine TC.region ?_
    refine TL.pure (PV.loadBox rfl Tb.agg_25 (by repeat (first | exact List.Mem.head _ | refine List.Mem.tail _ ?_ | refine List.mem_append_right _ ?_)) rfl) rfl (by decide) ?_
    refine TL.pure (PV.move rfl) rfl (by decide) ?_
    refine TL.call rfl Tb.gofn_50 (fun a w hs => Back_ok w _ _ _ (hr.new hs.new) _ _ _ (hg.new hs.new) hS.lo _ _ _ (hx.new hs.new) hxo) rfl (by decide) (fun hA hhA => ?_)
    refine TL.pure (PV.move rfl) rfl (by decide) ?_
    refine TL.pure (PV.extract rfl rfl) rfl (by decide) ?_
    refine TL.pure (PV.extract rfl rfl) rfl (by decide) ?_
    refine TL.pure (PV.assign rfl) rfl (by decide) ?_
    refine TL.pure (PV.assign rfl) rfl (by decide) ?_
    refine TL.nil ?_
    refine TQ.thenC ?_
    refine TC.seq ?_
    refine TC.region ?_
    refine TL.pure (PV.loadBox rfl Tb.agg_25 (by repeat (first | exact List.Mem.head _ | refine List.Mem.tail _ ?_ | refine List.mem_append_right _ ?_)) rfl) rfl (by decide) ?_
    refine TL.pure (PV.move rfl) rfl (by decide) ?_
    refine TL.call rfl Tb.gofn_51 (fun a w hs => rBack_ok w _ _ _ (hr.new hs.new) _ _ _ (hg.new hs.new) hS.lo _ _ _ (hx.new hs.new) hxo) rfl (by decide) (fun hB hhB => ?_)
    refine TL.pure (PV.move rfl) rfl (by decide) ?_
    refine TL.pure (PV.extract rfl rfl) rfl (by decide) ?_
    refine TL.pure (PV.extract rfl rfl) rfl (by decide) ?_
    refine TL.pure (PV.assign rfl) rfl (by decide) ?_
    refine TL.pure (PV.assign rfl) rfl (by decide) ?_
    refine TL.nil ?_
    refine TQ.thenC ?_
    refine TC.seq ?_
    have k1 := hhA.1.unique hhB.1
    refine TC.region ?_
    refine TL.pure (PV.move rfl) rfl (by decide) ?_
    refine TL.pure (PV.move rfl) rfl (by decide) ?_
    refine TL.call rfl Tb.gofn_30 (fun a w hs => sameGG w (hA.1) (hA.2) hhA.2 (IntsAt.g (x := (hA.1, hA.2)) hs.new (fun yy hyy => by repeat (first | exact List.mem_append_left _ hyy | exact List.mem_append_left _ (List.mem_append_right _ hyy) | exact List.mem_append_left _ (List.mem_append_left _ hyy) | refine List.mem_append_right _ ?_ | refine List.Mem.tail _ ?_)) hhA.2) (hB.1) (hB.2) hhB.2 (IntsAt.g (x := (hB.1, hB.2)) hs.new (fun yy hyy => by repeat (first | exact List.mem_append_left _ hyy | exact List.mem_append_left _ (List.mem_append_right _ hyy) | exact List.mem_append_left _ (List.mem_append_left _ hyy) | refine List.mem_append_right _ ?_ | refine List.Mem.tail _ ?_)) hhB.2) hhA.1.len hhB.1.len) rfl (by decide) (fun _ _ => ?_)
    refine TL.pure (PV.move rfl) rfl (by decide) ?_
    first | refine TL.splitD 29 rfl (fun h1 => ?_) (fun h1 => ?_) | refine TL.split 29 rfl (fun h1 => ?_) (fun h1 => ?_)
    · skip
      refine TL.pure (PV.move rfl) rfl (by decide) ?_
      refine TL.pure (PV.move rfl) rfl (by decide) ?_
      refine TL.pure (PV.eql rfl rfl) rfl (by decide) ?_
      refine TL.pure (PV.pickT rfl rfl) rfl (by decide) ?_
      refine TL.pure (PV.move rfl) rfl (by decide) ?_
      first | refine TL.splitD 34 rfl (fun h2 => ?_) (fun h2 => ?_) | refine TL.split 34 rfl (fun h2 => ?_) (fun h2 => ?_)
      · skip
        refine TL.call rfl Tb.gofn_21 (fun a w hs => sane_ok w) rfl (by decide) (fun _ _ => ?_)
        refine TL.pure (PV.pickT rfl rfl) rfl (by decide) ?_
        refine TL.pure (PV.assign rfl) rfl (by decide) ?_
        refine TL.nil ?_
        refine TQ.thenC ?_
        refine TC.ret ?_
        refine TQ.retE1 rfl rfl ?_
        first | exact ⟨(), rfl, trivial, List.nil_sublist _⟩ | (exfalso; simp_all; done)
      · skip
        refine TL.skip rfl (fun k hk => by cases hk; decide) ?_
        refine TL.pure (PV.pickF rfl rfl) rfl (by decide) ?_
        refine TL.pure (PV.assign rfl) rfl (by decide) ?_
        refine TL.nil ?_
        refine TQ.thenC ?_
        refine TC.ret ?_
        refine TQ.retE1 rfl rfl ?_
        first | exact ⟨(), rfl, trivial, List.nil_sublist _⟩ | (exfalso; simp_all; done)
    · skip
      refine TL.skip rfl (fun k hk => by cases hk; decide) ?_
      refine TL.skip rfl (fun k hk => by cases hk; decide) ?_
      refine TL.skip rfl (fun k hk => by cases hk; decide) ?_
      refine TL.pure (PV.pickF rfl rfl) rfl (by decide) ?_
      refine TL.pure (PV.move rfl) rfl (by decide) ?_
      refine TL.skip rfl (fun k hk => by cases hk; decide) ?_
      refine TL.pure (PV.pickF rfl rfl) rfl (by decide) ?_
      refine TL.pure (PV.assign rfl) rfl (by decide) ?_
      refine TL.nil ?_
      refine TQ.thenC ?_
      refine TC.ret ?_
      refine TQ.retE1 rfl rfl ?_
      first | exact ⟨(), rfl, trivial, List.nil_sublist _⟩ | (exfalso; simp_all; done)

end Go.Proofs.Ytgafpkcnhpoobaa
