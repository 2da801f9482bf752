/- Whether two surveys are the same: contract. -/
import Derived.Test.YtmmgcajegokkoaaRB
namespace Go.Proofs.Ytmmgcajegokkoaa
open Go.Sx Go.RowKit

def sameB (n1 n2 : Int) (rs1 rs2 : List Rd) : Bool := decide (n1 = n2 ∧ rs1 = rs2)


set_option maxRecDepth 100000 in
set_option maxHeartbeats 1000000 in
theorem Same_ok (w0 : World) (n1 n2 : Int) (p1 p2 : Option Addr) (c1 c2 : Nat) (rs1 rs2 : List Rd) (h1 : RdsAt w0 p1 rs1) (h2 : RdsAt w0 p2 rs2) (hl : rs1.length ≤ 100000) (hl2 : rs2.length ≤ 100000) :
    Calls Try.prog 53 #[sv n1 p1 rs1.length c1, sv n2 p2 rs2.length c2] w0 (Post (X := Unit) (fun _ => .bool (sameB n1 n2 rs1 rs2)) (fun _ => True) (fun _ => []) w0) := by
  refine calls Try.func53 rfl (n := 38) rfl (by simp) ?_
  refine TC.seq ?_
  refine TC.region ?_
  refine TL.box rfl rfl (by decide) (fun b0 hb0 => ?_)
  refine TL.box rfl rfl (by decide) (fun b1 hb1 => ?_)
  refine TL.pure (PV.assign rfl) rfl (by decide) ?_
  refine TL.nil ?_
  refine TQ.thenC ?_
  refine TC.seq ?_
  refine TC.seq ?_
  refine TC.region ?_
  refine TL.pure (PV.fieldAddr rfl Tb.fo_24_0) rfl (by decide) ?_
  refine TL.pure (PV.load rfl Tb.one_3 (by repeat (first | exact List.Mem.head _ | refine List.Mem.tail _ ?_ | refine List.mem_append_right _ ?_)) rfl) rfl (by decide) ?_
  refine TL.pure (PV.fieldAddr rfl Tb.fo_24_0) rfl (by decide) ?_
  refine TL.pure (PV.load rfl Tb.one_3 (by repeat (first | exact List.Mem.head _ | refine List.Mem.tail _ ?_ | refine List.mem_append_right _ ?_)) rfl) rfl (by decide) ?_
  refine TL.pure (PV.neq rfl rfl) rfl (by decide) ?_
  refine TL.pure (PV.move rfl) rfl (by decide) ?_
  first | refine TL.splitD 11 rfl (fun hg => ?_) (fun hg => ?_) | refine TL.split 11 rfl (fun hg => ?_) (fun hg => ?_)
  · skip
    refine TL.skip rfl (fun k hk => by cases hk; decide) ?_
    refine TL.skip rfl (fun k hk => by cases hk; decide) ?_
    refine TL.skip rfl (fun k hk => by cases hk; decide) ?_
    refine TL.skip rfl (fun k hk => by cases hk; decide) ?_
    refine TL.skip rfl (fun k hk => by cases hk; decide) ?_
    refine TL.skip rfl (fun k hk => by cases hk; decide) ?_
    refine TL.skip rfl (fun k hk => by cases hk; decide) ?_
    refine TL.pure (PV.pickT rfl rfl) rfl (by decide) ?_
    refine TL.nil ?_
    refine TQ.thenC ?_
    refine TC.condT rfl ?_
    refine TC.seq ?_
    refine TC.region ?_
    refine TL.pure (PV.assign rfl) rfl (by decide) ?_
    refine TL.nil ?_
    refine TQ.thenC ?_
    refine TC.ret ?_
    refine TQ.thenR ?_
    refine TQ.retE1 rfl rfl ?_
    first | exact ⟨(), by rw [show sameB n1 n2 rs1 rs2 = false from decide_eq_false (fun h => heq (by rw [h.2]))], trivial, List.nil_sublist _⟩ | exact ⟨(), by rw [show sameB n1 n2 rs1 rs2 = true from decide_eq_true ⟨by omega, take_all_eq default (by omega) (fun j hj => hk.2 j (by omega))⟩], trivial, List.nil_sublist _⟩ | exact ⟨(), by rw [show sameB n1 n2 rs1 rs2 = false from decide_eq_false (fun h => by have h9 := h.2; subst h9; omega)], trivial, List.nil_sublist _⟩
  · skip
    refine TL.pure (PV.fieldAddr rfl Tb.fo_24_1) rfl (by decide) ?_
    refine TL.pure (PV.load rfl Tb.one_22 (by repeat (first | exact List.Mem.head _ | refine List.Mem.tail _ ?_ | refine List.mem_append_right _ ?_)) rfl) rfl (by decide) ?_
    refine TL.pure (PV.len rfl Tb.sl_22) rfl (by decide) ?_
    refine TL.pure (PV.fieldAddr rfl Tb.fo_24_1) rfl (by decide) ?_
    refine TL.pure (PV.load rfl Tb.one_22 (by repeat (first | exact List.Mem.head _ | refine List.Mem.tail _ ?_ | refine List.mem_append_right _ ?_)) rfl) rfl (by decide) ?_
    refine TL.pure (PV.len rfl Tb.sl_22) rfl (by decide) ?_
    refine TL.pure (PV.neq rfl rfl) rfl (by decide) ?_
    refine TL.pure (PV.pickF rfl rfl) rfl (by decide) ?_
    refine TL.nil ?_
    refine TQ.thenC ?_
    first | refine TC.condD rfl (fun hne => ?_) (fun hne => ?_) | refine TC.cond rfl (fun hne => ?_) (fun hne => ?_)
    · skip
      refine TC.seq ?_
      refine TC.region ?_
      refine TL.pure (PV.assign rfl) rfl (by decide) ?_
      refine TL.nil ?_
      refine TQ.thenC ?_
      refine TC.ret ?_
      refine TQ.thenR ?_
      refine TQ.retE1 rfl rfl ?_
      first | exact ⟨(), by rw [show sameB n1 n2 rs1 rs2 = false from decide_eq_false (fun h => heq (by rw [h.2]))], trivial, List.nil_sublist _⟩ | exact ⟨(), by rw [show sameB n1 n2 rs1 rs2 = true from decide_eq_true ⟨by omega, take_all_eq default (by omega) (fun j hj => hk.2 j (by omega))⟩], trivial, List.nil_sublist _⟩ | exact ⟨(), by rw [show sameB n1 n2 rs1 rs2 = false from decide_eq_false (fun h => by have h9 := h.2; subst h9; omega)], trivial, List.nil_sublist _⟩
    · skip
      refine TC.skip ?_
      refine TQ.thenC ?_
      refine TC.seq ?_
      refine TC.seq ?_
      refine TC.region ?_
      refine TL.pure (PV.assign rfl) rfl (by decide) ?_
      refine TL.nil ?_
      refine TQ.thenC ?_
      refine TC.block ?_
      -- live and written in the loop, not told: [4]
      refine TC.loopG [2, 3] (X := Nat) (fun k => k ≤ rs1.length ∧ ∀ j, j < k → rs1.getD j default = rs2.getD j default) (fun k => [(5, .int .i64 k)]) (fun k => rs1.length - k) 0 ⟨Nat.zero_le _, fun j hj => by omega⟩ (by repeat (first | exact True.intro | refine And.intro rfl ?_)) ?_
      intro k hk
      refine TC.seq ?_
      refine TC.seq ?_
      refine TC.region ?_
      refine TL.pure (PV.move rfl) rfl (by decide) ?_
      refine TL.pure (PV.fieldAddr rfl Tb.fo_24_1) rfl (by decide) ?_
      refine TL.pure (PV.load rfl Tb.one_22 (by repeat (first | exact List.Mem.head _ | refine List.Mem.tail _ ?_ | refine List.mem_append_right _ ?_)) rfl) rfl (by decide) ?_
      refine TL.pure (PV.len rfl Tb.sl_22) rfl (by decide) ?_
      refine TL.pure (PV.lss rfl rfl) rfl (by decide) ?_
      refine TL.nil ?_
      refine TQ.thenC ?_
      first | refine TC.condD rfl (fun hlt => ?_) (fun hlt => ?_) | refine TC.cond rfl (fun hlt => ?_) (fun hlt => ?_)
      · skip
        refine TC.skip ?_
        refine TQ.thenC ?_
        refine TC.seq ?_
        refine TC.block ?_
        refine TC.seq ?_
        obtain ⟨q, hqp, hq⟩ := h1 k (by omega)
        obtain ⟨q2, hq2p, hq2⟩ := h2 k (by omega)
        refine TC.any Tb.mixed rfl rfl ?_
        refine TA.op (OpOK.pure (PV.fieldAddr rfl Tb.fo_24_1) rfl (by decide)) (by decide) ?_
        refine TA.op (OpOK.pure (PV.load rfl Tb.one_22 (by repeat (first | exact List.Mem.head _ | refine List.Mem.tail _ ?_ | refine List.mem_append_right _ ?_)) rfl) rfl (by decide)) (by decide) ?_
        refine TA.op (OpOK.pure (PV.move rfl) rfl (by decide)) (by decide) ?_
        refine TA.op (OpOK.pure (PV.indexA rfl hqp rfl Tb.elm_22 rfl (by omega)) rfl (by decide)) (by decide) ?_
        refine TA.op (OpOK.pure (PV.loadAggA rfl Tb.agg_61 rfl hq) rfl (by decide)) (by decide) ?_
        refine TA.op (OpOK.pure (PV.fieldAddr rfl Tb.fo_24_1) rfl (by decide)) (by decide) ?_
        refine TA.op (OpOK.pure (PV.load rfl Tb.one_22 (by repeat (first | exact List.Mem.head _ | refine List.Mem.tail _ ?_ | refine List.mem_append_right _ ?_)) rfl) rfl (by decide)) (by decide) ?_
        refine TA.op (OpOK.pure (PV.move rfl) rfl (by decide)) (by decide) ?_
        refine TA.op (OpOK.pure (PV.indexA rfl hq2p rfl Tb.elm_22 rfl (by omega)) rfl (by decide)) (by decide) ?_
        refine TA.op (OpOK.pure (PV.loadAggA rfl Tb.agg_61 rfl hq2) rfl (by decide)) (by decide) ?_
        refine TA.op (OpOK.pure (PV.cmp rfl rfl (eq61n_guard _ _ (rs1.getD k default) (rs2.getD k default)) (eq61n (rs1.getD k default) (rs2.getD k default))) rfl (by decide)) (by decide) ?_
        show TQ _ _ _ _ _
        refine TQ.thenC ?_
        first | refine TC.condD rfl (fun heq => ?_) (fun heq => ?_) | refine TC.cond rfl (fun heq => ?_) (fun heq => ?_)
        · skip
          refine TC.seq ?_
          refine TC.region ?_
          refine TL.pure (PV.assign rfl) rfl (by decide) ?_
          refine TL.nil ?_
          refine TQ.thenC ?_
          refine TC.ret ?_
          refine TQ.blkR ?_
          refine TQ.thenR ?_
          refine TQ.thenR ?_
          refine TQ.blkR ?_
          refine TQ.thenR ?_
          refine TQ.retE1 rfl rfl ?_
          first | exact ⟨(), by rw [show sameB n1 n2 rs1 rs2 = false from decide_eq_false (fun h => heq (by rw [h.2]))], trivial, List.nil_sublist _⟩ | exact ⟨(), by rw [show sameB n1 n2 rs1 rs2 = true from decide_eq_true ⟨by omega, take_all_eq default (by omega) (fun j hj => hk.2 j (by omega))⟩], trivial, List.nil_sublist _⟩ | exact ⟨(), by rw [show sameB n1 n2 rs1 rs2 = false from decide_eq_false (fun h => by have h9 := h.2; subst h9; omega)], trivial, List.nil_sublist _⟩
        · skip
          refine TC.skip ?_
          refine TQ.blkN ?_
          refine TQ.thenC ?_
          refine TC.region ?_
          refine TL.pure (PV.move rfl) rfl (by decide) ?_
          refine TL.pure (PV.add rfl rfl (by omega)) rfl (by decide) ?_
          refine TL.pure (PV.assign rfl) rfl (by decide) ?_
          refine TL.nil ?_
          refine TQ.thenN ?_
          refine TQ.backK (k + 1) (by repeat (first | exact True.intro | refine And.intro rfl ?_)) (by repeat (first | exact True.intro | refine And.intro rfl ?_)) (by repeat (first | exact List.Sublist.slnil | exact List.nil_sublist _ | exact List.Sublist.refl _ | refine List.Sublist.cons_cons _ ?_ | refine List.Sublist.cons _ ?_ | refine List.Sublist.trans ?_ (List.sublist_append_right _ _))) ⟨by omega, fun j hj => by by_cases h : j = k; · { rw [h]; exact Decidable.of_not_not heq }; · { exact hk.2 j (by omega) }⟩ (by omega)
      · skip
        refine TC.exit ?_
        refine TQ.thenE ?_
        refine TQ.thenE ?_
        refine TQ.blkS ?_
        refine TQ.thenC ?_
        refine TC.seq ?_
        refine TC.region ?_
        refine TL.pure (PV.assign rfl) rfl (by decide) ?_
        refine TL.nil ?_
        refine TQ.thenC ?_
        refine TC.ret ?_
        refine TQ.retE1 rfl rfl ?_
        first | exact ⟨(), by rw [show sameB n1 n2 rs1 rs2 = false from decide_eq_false (fun h => heq (by rw [h.2]))], trivial, List.nil_sublist _⟩ | exact ⟨(), by rw [show sameB n1 n2 rs1 rs2 = true from decide_eq_true ⟨by omega, take_all_eq default (by omega) (fun j hj => hk.2 j (by omega))⟩], trivial, List.nil_sublist _⟩ | exact ⟨(), by rw [show sameB n1 n2 rs1 rs2 = false from decide_eq_false (fun h => by have h9 := h.2; subst h9; omega)], trivial, List.nil_sublist _⟩

theorem sameS {w : World} {n1 n2 : Int} {h1 h2 : HD} {K1 K2 : Nat} {rs1 rs2 : List Rd} (hK1 : rs1.length = K1) (hK2 : rs2.length = K2) (ho1 : goS h1 rs1) (ho2 : goS h2 rs2) (hr1 : RdsAt w (gp h1) rs1) (hr2 : RdsAt w (gp h2) rs2) (hl : rs1.length ≤ 100000) (hl2 : rs2.length ≤ 100000) :
    Calls Try.prog 53 #[.agg #[.int .i64 n1, gval h1 K1], .agg #[.int .i64 n2, gval h2 K2]] w (Post (X := Unit) (fun _ => .bool (sameB n1 n2 rs1 rs2)) (fun _ => True) (fun _ => []) w) := by
  have hc := Same_ok w n1 n2 (gp h1) (gp h2) (gc h1) (gc h2) rs1 rs2 hr1 hr2 hl hl2
  rw [gvS_eq ho1 hK1, gvS_eq ho2 hK2]; subst hK1; subst hK2
  exact hc
end Go.Proofs.Ytmmgcajegokkoaa
