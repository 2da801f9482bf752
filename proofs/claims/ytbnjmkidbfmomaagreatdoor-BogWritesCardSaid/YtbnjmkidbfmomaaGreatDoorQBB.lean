/- The document's sum of a text, and orders that are too long: contracts. -/
import Derived.Test.YtbnjmkidbfmomaaGreatDoorQBA
set_option linter.unusedVariables false
set_option linter.unusedSimpArgs false
namespace Go.Proofs.YtbnjmkidbfmomaaGreatDoor
open Go.Sx Go.RowKit

def longB (L : List (List UInt8)) : Bool := L.any (fun s => decide (400 < s.length)) || decide (300 < L.length)
theorem sum_two (b : Int) : (b.tmod 1000003 + 1000003).tmod 1000003 = b % 1000003 := by
  by_cases h : 0 ≤ b
  · rw [tmod_emod h, tmod_emod (by omega)]; omega
  · rw [show b = -(-b) from (Int.neg_neg b).symm, Int.neg_tmod, tmod_emod (show 0 ≤ -b by omega), tmod_emod (by omega)]; omega

set_option maxRecDepth 100000 in
theorem rSum_ok (w0 : World) (b : Int) (hb : -9223372036854775808 ≤ b ∧ b ≤ 9223372036854775807) (L : List UInt8) (hl : L.length ≤ 1000000) :
    Calls Tryz.prog 47 #[.int .i64 b, str L] w0 (Post (X := Unit) (fun _ => .int .i64 (smV b L)) (fun _ => True) (fun _ => []) w0) := by
  have htm : -1000002 ≤ b.tmod 1000003 ∧ b.tmod 1000003 ≤ 1000002 := by
    by_cases h : 0 ≤ b
    · rw [tmod_emod h]; omega
    · rw [show b = -(-b) from (Int.neg_neg b).symm, Int.neg_tmod, tmod_emod (show 0 ≤ -b by omega)]; omega
  have hs2 := sum_two b
  refine calls Tryz.func47 rfl (n := 27) rfl (by simp) ?_
  refine TC.seq ?_
  refine TC.region ?_
  refine TL.pure (PV.assign rfl) rfl (by decide) ?_
  refine TL.nil ?_
  refine TQ.thenC ?_
  refine TC.seq ?_
  refine TC.region ?_
  refine TL.pure (PV.move rfl) rfl (by decide) ?_
  refine TL.pure (PV.rem rfl rfl (by omega) (by omega)) rfl (by decide) ?_
  refine TL.pure (PV.add rfl rfl (by omega)) rfl (by decide) ?_
  refine TL.pure (PV.rem rfl rfl (by omega) (by omega)) rfl (by decide) ?_
  refine TL.pure (PV.assign rfl) rfl (by decide) ?_
  refine TL.nil ?_
  refine TQ.thenC ?_
  refine TC.seq ?_
  refine TC.seq ?_
  refine TC.region ?_
  refine TL.pure (PV.assign rfl) rfl (by decide) ?_
  refine TL.nil ?_
  refine TQ.thenC ?_
  refine TC.block ?_
  refine TC.loopK [1, 4] (X := Nat) (fun k => k ≤ L.length) (fun k => [(6, .int .i64 (k : Nat)), (5, .int .i64 (smV b (L.take k)))]) (fun k => []) (fun k => L.length - k) 0 (Nat.zero_le _) (by refine And.intro rfl (And.intro ?_ True.intro); show some (Value.int .i64 _) = some (Value.int .i64 _); rw [hs2]; rfl) (by repeat (first | exact .slnil | exact List.nil_sublist _ | exact .refl _ | refine .cons_cons _ ?_ | refine .cons _ ?_ | refine .trans ?_ (List.sublist_append_right _ _))) ?_
  intro k hk
  refine TC.seq ?_
  refine TC.seq ?_
  refine TC.region ?_
  refine TL.pure (PV.move rfl) rfl (by decide) ?_
  refine TL.pure (PV.move rfl) rfl (by decide) ?_
  refine TL.pure (PV.lenS rfl Tb.str_9) rfl (by decide) ?_
  refine TL.pure (PV.lss rfl rfl) rfl (by decide) ?_
  refine TL.nil ?_
  refine TQ.thenC ?_
  first | refine TC.condD rfl (fun hlt => ?_) (fun hlt => ?_) | refine TC.cond rfl (fun hlt => ?_) (fun hlt => ?_)
  · refine TC.skip ?_
    refine TQ.thenC ?_
    refine TC.seq ?_
    refine TC.block ?_
    have hk9 : k < L.length := by omega
    have hbd := smV_bd b (L.take k)
    have h8 := UInt8.toNat_lt (L.getD k 0)
    refine TC.region ?_
    refine TL.pure (PV.move rfl) rfl (by decide) ?_
    refine TL.pure (PV.mul rfl rfl (by omega)) rfl (by decide) ?_
    refine TL.pure (PV.move rfl) rfl (by decide) ?_
    refine TL.pure (PV.move rfl) rfl (by decide) ?_
    refine TL.pure (PV.indexS (j := k) rfl rfl Tb.str_9 rfl hk9) rfl (by decide) ?_
    refine TL.pure (PV.conv Tb.int_5 Tb.int_3 rfl (conv_8 _)) rfl (by decide) ?_
    refine TL.pure (PV.add rfl rfl (by omega)) rfl (by decide) ?_
    refine TL.pure (PV.add rfl rfl (by omega)) rfl (by decide) ?_
    refine TL.pure (PV.rem rfl rfl (by omega) (by rw [tmod_emod (by omega)]; omega)) rfl (by decide) ?_
    refine TL.pure (PV.assign rfl) rfl (by decide) ?_
    refine TL.nil ?_
    refine TQ.blkN ?_
    refine TQ.thenC ?_
    have hnx := smV_next (b := b) hk9
    refine TC.region ?_
    refine TL.pure (PV.move rfl) rfl (by decide) ?_
    refine TL.pure (PV.add rfl rfl (by omega)) rfl (by decide) ?_
    refine TL.pure (PV.assign rfl) rfl (by decide) ?_
    refine TL.nil ?_
    refine TQ.thenN ?_
    refine TQ.backK (k + 1) (by refine And.intro rfl (And.intro ?_ True.intro); show some (Value.int .i64 _) = some (Value.int .i64 _); rw [hnx, tmod_emod (by omega)]) (by repeat (first | exact True.intro | refine And.intro rfl ?_)) (by repeat (first | exact .slnil | exact List.nil_sublist _ | exact .refl _ | refine .cons_cons _ ?_ | refine .cons _ ?_ | refine .trans ?_ (List.sublist_append_right _ _))) (by omega) (by omega)
  · refine TC.exit ?_
    refine TQ.thenE ?_
    refine TQ.thenE ?_
    refine TQ.blkS ?_
    refine TQ.thenC ?_
    refine TC.seq ?_
    have hke : k = L.length := by omega
    refine TC.region ?_
    refine TL.pure (PV.move rfl) rfl (by decide) ?_
    refine TL.pure (PV.assign rfl) rfl (by decide) ?_
    refine TL.nil ?_
    refine TQ.thenC ?_
    refine TC.ret ?_
    refine TQ.retE1 rfl rfl ?_
    exact ⟨(), by rw [hke, List.take_length], trivial, List.nil_sublist _⟩

end Go.Proofs.YtbnjmkidbfmomaaGreatDoor
