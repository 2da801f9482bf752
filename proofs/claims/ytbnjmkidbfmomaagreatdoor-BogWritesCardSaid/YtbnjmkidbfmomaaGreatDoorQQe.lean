/- Steps, cores, edges: contracts. -/
import Derived.Test.YtbnjmkidbfmomaaGreatDoorQQd
set_option linter.unusedVariables false
set_option linter.unusedSimpArgs false
namespace Go.Proofs.YtbnjmkidbfmomaaGreatDoor.M
open Go.Sx Go.RowKit

abbrev Mo.mD (r c k : Int) : Mo.Md := ⟨r.toNat, c.toNat, k.toNat⟩
/-- What is there only without an error. -/
def zI (r c k w : Int) (x : Int) : Int := if gI r c k w = 0 then x else 0
def zB (r c k w : Int) (x : Bool) : Bool := if gI r c k w = 0 then x else false
theorem zI_no {r c k w x : Int} (h : gI r c k w ≠ 0) : zI r c k w x = 0 := if_neg h
theorem zB_no {r c k w : Int} {x : Bool} (h : gI r c k w ≠ 0) : zB r c k w x = false := if_neg h
theorem zI_ok {m : Mo.Md} (ho : Mo.Ok m) {S : Nat} (hS : S < 2 ^ m.N) : ∀ x, zI m.R m.C m.K S x = x := fun _ => if_pos (gI_ok ho hS)
theorem zB_ok {m : Mo.Md} (ho : Mo.Ok m) {S : Nat} (hS : S < 2 ^ m.N) : ∀ x, zB m.R m.C m.K S x = x := fun _ => if_pos (gI_ok ho hS)
set_option maxRecDepth 100000 in
theorem Step_ok (w0 : World) (ht : TzAt w0) (r c k w9 : Int) :
    Calls Tryz.prog 183 #[.agg #[.int .i64 r, .int .i64 c, .int .i64 k], .int .i64 w9] w0 (Post (X := Unit) (fun _ => .tuple #[.int .i64 (zI r c k w9 (Mo.stp (Mo.mD r c k) w9.toNat : Nat)), .int .i64 (gI r c k w9)]) (fun _ => True) (fun _ => []) w0) := by
  refine calls Tryz.func183 rfl (n := 18) rfl (by simp) ?_
  refine TC.seq ?_
  refine TC.region ?_
  refine TL.box rfl rfl (by decide) (fun b0 hb0 => ?_)
  refine TL.pure (PV.assign rfl) rfl (by decide) ?_
  refine TL.pure (PV.assign rfl) rfl (by decide) ?_
  refine TL.nil ?_
  refine TQ.thenC ?_
  refine TC.seq ?_
  refine TC.seq ?_
  refine TC.region ?_
  refine TL.pure (PV.loadBox rfl Tb.agg_52 (by repeat (first | exact List.Mem.head _ | refine List.Mem.tail _ ?_ | refine List.mem_append_right _ ?_)) rfl) rfl (by decide) ?_
  refine TL.pure (PV.move rfl) rfl (by decide) ?_
  refine TL.call rfl Tb.gofn_211 (fun a w hs => validateSet_ok w _ _ _ _) rfl (by decide) (fun _ _ => ?_)
  refine TL.pure (PV.assign rfl) rfl (by decide) ?_
  refine TL.nil ?_
  refine TQ.thenC ?_
  refine TC.seq ?_
  refine TC.region ?_
  refine TL.pure (PV.move rfl) rfl (by decide) ?_
  refine TL.pure (PV.neq rfl rfl) rfl (by decide) ?_
  refine TL.nil ?_
  refine TQ.thenC ?_
  first | refine TC.condD rfl (fun hv => ?_) (fun hv => ?_) | refine TC.cond rfl (fun hv => ?_) (fun hv => ?_)
  · refine TC.seq ?_
    refine TC.region ?_
    refine TL.pure (PV.move rfl) rfl (by decide) ?_
    refine TL.pure (PV.assign rfl) rfl (by decide) ?_
    refine TL.pure (PV.assign rfl) rfl (by decide) ?_
    refine TL.nil ?_
    refine TQ.thenC ?_
    refine TC.ret ?_
    refine TQ.thenR ?_
    refine TQ.retE2 rfl rfl rfl ?_
    exact ⟨(), by simp only [zI_no hv, zB_no hv], trivial, List.nil_sublist _⟩
  · obtain ⟨m, S, ho, hS, rfl, rfl, rfl, rfl⟩ := gI_is (show gI r c k w9 = 0 by omega)
    have hN := ho.N36
    have hS63 := set63 ho hS
    have hzv := zI_ok ho hS
    have hbv := zB_ok ho hS
    have hgv := gI_ok ho hS
    refine TC.skip ?_
    refine TQ.thenC ?_
    refine TC.seq ?_
    refine TC.region ?_
    refine TL.pure (PV.move rfl) rfl (by decide) ?_
    refine TL.pure (PV.loadBox rfl Tb.agg_52 (by repeat (first | exact List.Mem.head _ | refine List.Mem.tail _ ?_ | refine List.mem_append_right _ ?_)) rfl) rfl (by decide) ?_
    refine TL.pure (PV.move rfl) rfl (by decide) ?_
    refine TL.call rfl Tb.gofn_212 (fun a w hs => ready_ok w (ht.new hs.new) m ho S hS) rfl (by decide) (fun _ _ => ?_)
    refine TL.pure (PV.orK rfl rfl (or_step ho hS)) rfl (by decide) ?_
    refine TL.pure (PV.assign rfl) rfl (by decide) ?_
    refine TL.pure (PV.assign rfl) rfl (by decide) ?_
    refine TL.nil ?_
    refine TQ.thenC ?_
    refine TC.ret ?_
    refine TQ.retE2 rfl rfl rfl ?_
    exact ⟨(), by simp only [hzv, hbv, hgv]; rfl, trivial, List.nil_sublist _⟩

end Go.Proofs.YtbnjmkidbfmomaaGreatDoor.M
