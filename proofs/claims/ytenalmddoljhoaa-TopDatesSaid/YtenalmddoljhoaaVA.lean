/- Which cores are valid, and which dates keep their bounds: contracts. -/
import Derived.Test.YtenalmddoljhoaaBs
set_option linter.unusedVariables false
set_option linter.unusedSimpArgs false
namespace Go.Proofs.Ytenalmddoljhoaa
open Go.Sx Go.RowKit

def isWithinB (a m : Int) : Bool := decide (-m ≤ a ∧ a ≤ m)
def isLayerB (n a : Int) : Bool := decide (0 ≤ a ∧ a < n)
def isBoundB (r : Bd) : Bool := decide (r.a ≠ r.b) && isWithinB r.m 10000
def okB (n : Int) (r : Bd) : Bool := isLayerB n r.a && isLayerB n r.b && isBoundB r
def validateI (n : Int) (rs : List Bd) : Int := if n < 1 ∨ 8 < n then 1 else if 20 < rs.length then 3 else if rs.all (okB n) then 0 else 1
def Valid (n : Int) (rs : List Bd) : Prop := validateI n rs = 0
theorem vof {n : Int} {rs : List Bd} (h : ¬ validateI n rs ≠ 0) : Valid n rs := Decidable.of_not_not (p := validateI n rs = 0) h
theorem Valid.pts {n : Int} {rs : List Bd} (h : Valid n rs) : 1 ≤ n ∧ n ≤ 8 := by
  unfold Valid validateI at h
  split at h
  · cases h
  · omega
theorem Valid.len {n : Int} {rs : List Bd} (h : Valid n rs) : rs.length ≤ 20 := by
  unfold Valid validateI at h
  split at h
  · cases h
  · split at h
    · cases h
    · omega
theorem Valid.all {n : Int} {rs : List Bd} (h : Valid n rs) : rs.all (okB n) = true := by
  unfold Valid validateI at h
  split at h
  · cases h
  · split at h
    · cases h
    · split at h
      · assumption
      · cases h
theorem ok_spec {n : Int} {r : Bd} (h : okB n r = true) : (0 ≤ r.a ∧ r.a < n) ∧ (0 ≤ r.b ∧ r.b < n) ∧ r.a ≠ r.b ∧ (-10000 ≤ r.m ∧ r.m ≤ 10000) := by
  simp only [okB, isLayerB, isBoundB, isWithinB, Bool.and_eq_true, decide_eq_true_eq] at h
  exact ⟨h.1.1, h.1.2, h.2.1, h.2.2⟩
theorem ok_of {n : Int} {r : Bd} (h1 : 0 ≤ r.a ∧ r.a < n) (h2 : 0 ≤ r.b ∧ r.b < n) (h3 : r.a ≠ r.b) (h4 : -10000 ≤ r.m ∧ r.m ≤ 10000) : okB n r = true := by
  simp only [okB, isLayerB, isBoundB, isWithinB, Bool.and_eq_true, decide_eq_true_eq]
  exact ⟨⟨h1, h2⟩, h3, h4⟩
theorem Valid.at {n : Int} {rs : List Bd} (h : Valid n rs) {k : Nat} (hk : k < rs.length) :
    (0 ≤ (rs.getD k default).a ∧ (rs.getD k default).a < n) ∧ (0 ≤ (rs.getD k default).b ∧ (rs.getD k default).b < n) ∧ (rs.getD k default).a ≠ (rs.getD k default).b ∧ (-10000 ≤ (rs.getD k default).m ∧ (rs.getD k default).m ≤ 10000) := ok_spec (all_at h.all hk)
theorem take_all {rs : List Bd} {f : Bd → Bool} {k : Nat} (h : (rs.take k).all f = true) (hk : k < rs.length) (h2 : f (rs.getD k default) = true) : (rs.take (k + 1)).all f = true := by
  have e : rs.getD k default = rs[k] := by simp [List.getD, hk]
  rw [List.take_succ_eq_append_getElem hk, List.all_append, h, ← e]
  simp only [List.all_cons, List.all_nil, Bool.and_true, Bool.true_and]
  exact h2


set_option maxRecDepth 100000 in
theorem isWithin_ok (w0 : World) (a m : Int) (h0 : 0 ≤ m) (h1 : m ≤ 1000000000) :
    Calls Try.prog 86 #[.int .i64 a, .int .i64 m] w0 (Post (X := Unit) (fun _ => .bool (isWithinB a m)) (fun _ => True) (fun _ => []) w0) := by
  refine calls Try.func86 rfl (n := 14) rfl (by simp) ?_
  refine TC.seq ?_
  refine TC.region ?_
  refine TL.pure (PV.assign rfl) rfl (by decide) ?_
  refine TL.nil ?_
  refine TQ.thenC ?_
  refine TC.seq ?_
  refine TC.region ?_
  refine TL.pure (PV.move rfl) rfl (by decide) ?_
  refine TL.pure (PV.move rfl) rfl (by decide) ?_
  refine TL.pure (PV.neg rfl (by omega)) rfl (by decide) ?_
  refine TL.pure (PV.geq rfl rfl) rfl (by decide) ?_
  refine TL.pure (PV.move rfl) rfl (by decide) ?_
  first | refine TL.splitD 9 rfl (fun h0 => ?_) (fun h0 => ?_) | refine TL.split 9 rfl (fun h0 => ?_) (fun h0 => ?_)
  · skip
    refine TL.pure (PV.move rfl) rfl (by decide) ?_
    refine TL.pure (PV.move rfl) rfl (by decide) ?_
    refine TL.pure (PV.leq rfl rfl) rfl (by decide) ?_
    refine TL.pure (PV.pickT rfl rfl) rfl (by decide) ?_
    refine TL.pure (PV.assign rfl) rfl (by decide) ?_
    refine TL.nil ?_
    refine TQ.thenC ?_
    refine TC.ret ?_
    refine TQ.retE1 rfl rfl ?_
    first | exact ⟨(), rfl, trivial, List.nil_sublist _⟩ | exact ⟨(), by simp [isWithinB, isLayerB, *] <;> omega, trivial, List.nil_sublist _⟩
  · skip
    refine TL.skip rfl (fun k hk => by cases hk; decide) ?_
    refine TL.skip rfl (fun k hk => by cases hk; decide) ?_
    refine TL.skip rfl (fun k hk => by cases hk; decide) ?_
    refine TL.pure (PV.pickF rfl rfl) rfl (by decide) ?_
    refine TL.pure (PV.assign rfl) rfl (by decide) ?_
    refine TL.nil ?_
    refine TQ.thenC ?_
    refine TC.ret ?_
    refine TQ.retE1 rfl rfl ?_
    first | exact ⟨(), rfl, trivial, List.nil_sublist _⟩ | exact ⟨(), by simp [isWithinB, isLayerB, *] <;> omega, trivial, List.nil_sublist _⟩

set_option maxRecDepth 100000 in
theorem isLayer_ok (w0 : World) (n a : Int) (rd : Value) :
    Calls Try.prog 59 #[.agg #[.int .i64 n, rd], .int .i64 a] w0 (Post (X := Unit) (fun _ => .bool (isLayerB n a)) (fun _ => True) (fun _ => []) w0) := by
  refine calls Try.func59 rfl (n := 13) rfl (by simp) ?_
  refine TC.seq ?_
  refine TC.region ?_
  refine TL.box rfl rfl (by decide) (fun b0 hb0 => ?_)
  refine TL.pure (PV.assign rfl) rfl (by decide) ?_
  refine TL.nil ?_
  refine TQ.thenC ?_
  refine TC.seq ?_
  refine TC.region ?_
  refine TL.pure (PV.move rfl) rfl (by decide) ?_
  refine TL.pure (PV.geq rfl rfl) rfl (by decide) ?_
  refine TL.pure (PV.move rfl) rfl (by decide) ?_
  first | refine TL.splitD 7 rfl (fun h0 => ?_) (fun h0 => ?_) | refine TL.split 7 rfl (fun h0 => ?_) (fun h0 => ?_)
  · skip
    refine TL.pure (PV.move rfl) rfl (by decide) ?_
    refine TL.pure (PV.fieldAddr rfl Tb.fo_24_0) rfl (by decide) ?_
    refine TL.pure (PV.load rfl Tb.one_3 (by repeat (first | exact List.Mem.head _ | refine List.Mem.tail _ ?_ | refine List.mem_append_right _ ?_)) rfl) rfl (by decide) ?_
    refine TL.pure (PV.lss rfl rfl) rfl (by decide) ?_
    refine TL.pure (PV.pickT rfl rfl) rfl (by decide) ?_
    refine TL.pure (PV.assign rfl) rfl (by decide) ?_
    refine TL.nil ?_
    refine TQ.thenC ?_
    refine TC.ret ?_
    refine TQ.retE1 rfl rfl ?_
    first | exact ⟨(), rfl, trivial, List.nil_sublist _⟩ | exact ⟨(), by simp [isWithinB, isLayerB, *] <;> omega, trivial, List.nil_sublist _⟩
  · skip
    refine TL.skip rfl (fun k hk => by cases hk; decide) ?_
    refine TL.skip rfl (fun k hk => by cases hk; decide) ?_
    refine TL.skip rfl (fun k hk => by cases hk; decide) ?_
    refine TL.skip rfl (fun k hk => by cases hk; decide) ?_
    refine TL.pure (PV.pickF rfl rfl) rfl (by decide) ?_
    refine TL.pure (PV.assign rfl) rfl (by decide) ?_
    refine TL.nil ?_
    refine TQ.thenC ?_
    refine TC.ret ?_
    refine TQ.retE1 rfl rfl ?_
    first | exact ⟨(), rfl, trivial, List.nil_sublist _⟩ | exact ⟨(), by simp [isWithinB, isLayerB, *] <;> omega, trivial, List.nil_sublist _⟩

set_option maxRecDepth 100000 in
theorem isBound_ok (w0 : World) (r : Bd) :
    Calls Try.prog 60 #[r.val] w0 (Post (X := Unit) (fun _ => .bool (isBoundB r)) (fun _ => True) (fun _ => []) w0) := by
  refine calls Try.func60 rfl (n := 13) rfl (by simp) ?_
  refine TC.seq ?_
  refine TC.region ?_
  refine TL.box rfl rfl (by decide) (fun b0 hb0 => ?_)
  refine TL.pure (PV.assign rfl) rfl (by decide) ?_
  refine TL.nil ?_
  refine TQ.thenC ?_
  refine TC.seq ?_
  refine TC.region ?_
  refine TL.pure (PV.fieldAddr rfl Tb.fo_42_0) rfl (by decide) ?_
  refine TL.pure (PV.load rfl Tb.one_3 (by repeat (first | exact List.Mem.head _ | refine List.Mem.tail _ ?_ | refine List.mem_append_right _ ?_)) rfl) rfl (by decide) ?_
  refine TL.pure (PV.fieldAddr rfl Tb.fo_42_1) rfl (by decide) ?_
  refine TL.pure (PV.load rfl Tb.one_3 (by repeat (first | exact List.Mem.head _ | refine List.Mem.tail _ ?_ | refine List.mem_append_right _ ?_)) rfl) rfl (by decide) ?_
  refine TL.pure (PV.neq rfl rfl) rfl (by decide) ?_
  refine TL.pure (PV.move rfl) rfl (by decide) ?_
  first | refine TL.splitD 8 rfl (fun h0 => ?_) (fun h0 => ?_) | refine TL.split 8 rfl (fun h0 => ?_) (fun h0 => ?_)
  · skip
    refine TL.pure (PV.fieldAddr rfl Tb.fo_42_2) rfl (by decide) ?_
    refine TL.pure (PV.load rfl Tb.one_3 (by repeat (first | exact List.Mem.head _ | refine List.Mem.tail _ ?_ | refine List.mem_append_right _ ?_)) rfl) rfl (by decide) ?_
    refine TL.call rfl Tb.gofn_86 (fun a w hs => isWithin_ok _ _ _ (by omega) (by omega)) rfl (by decide) (fun _ _ => ?_)
    refine TL.pure (PV.pickT rfl rfl) rfl (by decide) ?_
    refine TL.pure (PV.assign rfl) rfl (by decide) ?_
    refine TL.nil ?_
    refine TQ.thenC ?_
    refine TC.ret ?_
    refine TQ.retE1 rfl rfl ?_
    first | exact ⟨(), by simp [isBoundB, *], trivial, List.nil_sublist _⟩ | exact ⟨(), by unfold isBoundB; simp_all, trivial, List.nil_sublist _⟩
  · skip
    refine TL.skip rfl (fun k hk => by cases hk; decide) ?_
    refine TL.skip rfl (fun k hk => by cases hk; decide) ?_
    refine TL.skip rfl (fun k hk => by cases hk; decide) ?_
    refine TL.pure (PV.pickF rfl rfl) rfl (by decide) ?_
    refine TL.pure (PV.assign rfl) rfl (by decide) ?_
    refine TL.nil ?_
    refine TQ.thenC ?_
    refine TC.ret ?_
    refine TQ.retE1 rfl rfl ?_
    first | exact ⟨(), by simp [isBoundB, *], trivial, List.nil_sublist _⟩ | exact ⟨(), by unfold isBoundB; simp_all, trivial, List.nil_sublist _⟩

set_option maxRecDepth 100000 in
set_option maxHeartbeats 1000000 in
theorem validate_ok (w0 : World) (n : Int) (p : Option Addr) (cap : Nat) (rs : List Bd) (hr : BdsAt w0 p rs) :
    Calls Try.prog 21 #[cv n p rs.length cap] w0 (Post (X := Unit) (fun _ => .int .i64 (validateI n rs)) (fun _ => True) (fun _ => []) w0) := by
  refine calls Try.func21 rfl (n := 42) rfl (by simp) ?_
  refine TC.seq ?_
  refine TC.region ?_
  refine TL.box rfl rfl (by decide) (fun b0 hb0 => ?_)
  refine TL.pure (PV.assign rfl) rfl (by decide) ?_
  refine TL.nil ?_
  refine TQ.thenC ?_
  refine TC.seq ?_
  refine TC.seq ?_
  refine TC.region ?_
  refine TL.pure (PV.fieldAddr rfl Tb.fo_24_0) rfl (by decide) ?_
  refine TL.pure (PV.load rfl Tb.one_3 (by repeat (first | exact List.Mem.head _ | refine List.Mem.tail _ ?_ | refine List.mem_append_right _ ?_)) rfl) rfl (by decide) ?_
  refine TL.pure (PV.lss rfl rfl) rfl (by decide) ?_
  refine TL.pure (PV.move rfl) rfl (by decide) ?_
  first | refine TL.splitD 8 rfl (fun h0 => ?_) (fun h0 => ?_) | refine TL.split 8 rfl (fun h0 => ?_) (fun h0 => ?_)
  · skip
    refine TL.skip rfl (fun k hk => by cases hk; decide) ?_
    refine TL.skip rfl (fun k hk => by cases hk; decide) ?_
    refine TL.skip rfl (fun k hk => by cases hk; decide) ?_
    refine TL.pure (PV.pickT rfl rfl) rfl (by decide) ?_
    refine TL.nil ?_
    refine TQ.thenC ?_
    refine TC.condT rfl ?_
    refine TC.seq ?_
    refine TC.region ?_
    refine TL.pure (PV.assign rfl) rfl (by decide) ?_
    refine TL.nil ?_
    refine TQ.thenC ?_
    refine TC.ret ?_
    refine TQ.thenR ?_
    refine TQ.retE1 rfl rfl ?_
    first | exact ⟨(), by rw [validateI, if_pos (by omega)], trivial, List.nil_sublist _⟩ | exact ⟨(), by rw [validateI, if_neg (by omega), if_pos (by omega)], trivial, List.nil_sublist _⟩ | exact ⟨(), by rw [validateI, if_neg (by omega), if_neg (by omega), if_neg (fun h => by have h9 := all_at h (k := k) (by omega); first | (have h8 := ok_spec h9; omega) | (unfold okB at h9; simp only [Bool.and_eq_true] at h9; rw [h9.2] at hbad; cases hbad))], trivial, List.nil_sublist _⟩ | exact ⟨(), by rw [validateI, if_neg (by omega), if_neg (by omega), if_pos (by rw [← hk.2, List.take_of_length_le (by omega)])], trivial, List.nil_sublist _⟩
  · skip
    refine TL.pure (PV.fieldAddr rfl Tb.fo_24_0) rfl (by decide) ?_
    refine TL.pure (PV.load rfl Tb.one_3 (by repeat (first | exact List.Mem.head _ | refine List.Mem.tail _ ?_ | refine List.mem_append_right _ ?_)) rfl) rfl (by decide) ?_
    refine TL.pure (PV.gtr rfl rfl) rfl (by decide) ?_
    refine TL.pure (PV.pickF rfl rfl) rfl (by decide) ?_
    refine TL.nil ?_
    refine TQ.thenC ?_
    first | refine TC.condD rfl (fun h1 => ?_) (fun h1 => ?_) | refine TC.cond rfl (fun h1 => ?_) (fun h1 => ?_)
    · skip
      refine TC.seq ?_
      refine TC.region ?_
      refine TL.pure (PV.assign rfl) rfl (by decide) ?_
      refine TL.nil ?_
      refine TQ.thenC ?_
      refine TC.ret ?_
      refine TQ.thenR ?_
      refine TQ.retE1 rfl rfl ?_
      first | exact ⟨(), by rw [validateI, if_pos (by omega)], trivial, List.nil_sublist _⟩ | exact ⟨(), by rw [validateI, if_neg (by omega), if_pos (by omega)], trivial, List.nil_sublist _⟩ | exact ⟨(), by rw [validateI, if_neg (by omega), if_neg (by omega), if_neg (fun h => by have h9 := all_at h (k := k) (by omega); first | (have h8 := ok_spec h9; omega) | (unfold okB at h9; simp only [Bool.and_eq_true] at h9; rw [h9.2] at hbad; cases hbad))], trivial, List.nil_sublist _⟩ | exact ⟨(), by rw [validateI, if_neg (by omega), if_neg (by omega), if_pos (by rw [← hk.2, List.take_of_length_le (by omega)])], trivial, List.nil_sublist _⟩
    · skip
      refine TC.skip ?_
      refine TQ.thenC ?_
      refine TC.seq ?_
      refine TC.seq ?_
      refine TC.region ?_
      refine TL.pure (PV.fieldAddr rfl Tb.fo_24_1) rfl (by decide) ?_
      refine TL.pure (PV.load rfl Tb.one_22 (by repeat (first | exact List.Mem.head _ | refine List.Mem.tail _ ?_ | refine List.mem_append_right _ ?_)) rfl) rfl (by decide) ?_
      refine TL.pure (PV.len rfl Tb.sl_22) rfl (by decide) ?_
      refine TL.pure (PV.gtr rfl rfl) rfl (by decide) ?_
      refine TL.nil ?_
      refine TQ.thenC ?_
      first | refine TC.condD rfl (fun hlong => ?_) (fun hlong => ?_) | refine TC.cond rfl (fun hlong => ?_) (fun hlong => ?_)
      · skip
        refine TC.seq ?_
        refine TC.region ?_
        refine TL.pure (PV.assign rfl) rfl (by decide) ?_
        refine TL.nil ?_
        refine TQ.thenC ?_
        refine TC.ret ?_
        refine TQ.thenR ?_
        refine TQ.retE1 rfl rfl ?_
        first | exact ⟨(), by rw [validateI, if_pos (by omega)], trivial, List.nil_sublist _⟩ | exact ⟨(), by rw [validateI, if_neg (by omega), if_pos (by omega)], trivial, List.nil_sublist _⟩ | exact ⟨(), by rw [validateI, if_neg (by omega), if_neg (by omega), if_neg (fun h => by have h9 := all_at h (k := k) (by omega); first | (have h8 := ok_spec h9; omega) | (unfold okB at h9; simp only [Bool.and_eq_true] at h9; rw [h9.2] at hbad; cases hbad))], trivial, List.nil_sublist _⟩ | exact ⟨(), by rw [validateI, if_neg (by omega), if_neg (by omega), if_pos (by rw [← hk.2, List.take_of_length_le (by omega)])], trivial, List.nil_sublist _⟩
      · skip
        refine TC.skip ?_
        refine TQ.thenC ?_
        refine TC.seq ?_
        refine TC.seq ?_
        refine TC.region ?_
        refine TL.pure (PV.fieldAddr rfl Tb.fo_24_1) rfl (by decide) ?_
        refine TL.pure (PV.load rfl Tb.one_22 (by repeat (first | exact List.Mem.head _ | refine List.Mem.tail _ ?_ | refine List.mem_append_right _ ?_)) rfl) rfl (by decide) ?_
        refine TL.pure (PV.len rfl Tb.sl_22) rfl (by decide) ?_
        refine TL.pure (PV.move rfl) rfl (by decide) ?_
        refine TL.nil ?_
        refine TQ.thenC ?_
        refine TC.block ?_
        -- live and written in the loop, not told: [2]
        refine TC.loopG [1, 18, 19] (X := Nat) (fun k => k ≤ rs.length ∧ (rs.take k).all (okB n) = true) (fun k => [(20, .int .i64 k)]) (fun k => rs.length - k) 0 ⟨Nat.zero_le _, by simp⟩ (by repeat (first | exact True.intro | refine And.intro rfl ?_)) ?_
        intro k hk
        refine TC.seq ?_
        refine TC.region ?_
        refine TL.pure (PV.lss rfl rfl) rfl (by decide) ?_
        refine TL.nil ?_
        refine TQ.thenC ?_
        refine TC.seq ?_
        first | refine TC.condD rfl (fun hlt => ?_) (fun hlt => ?_) | refine TC.cond rfl (fun hlt => ?_) (fun hlt => ?_)
        · skip
          refine TC.skip ?_
          refine TQ.thenC ?_
          refine TC.seq ?_
          refine TC.block ?_
          refine TC.seq ?_
          obtain ⟨q, hqp, hq⟩ := hr k (by omega)
          refine TC.region ?_
          refine TL.pure (PV.indexA rfl hqp rfl Tb.elm_22 rfl (by omega)) rfl (by decide) ?_
          refine TL.pure (PV.loadAggA rfl Tb.agg_42 rfl hq) rfl (by decide) ?_
          refine TL.alloc Tb.zero_42 rfl (by decide) (fun b1 hb1 => ?_)
          refine TL.storeAgg rfl rfl Tb.cells_42 (by repeat (first | exact Upd.head _ | apply Upd.tail | apply Upd.appR)) rfl rfl rfl rfl rfl ?_
          refine TL.nil ?_
          refine TQ.thenC ?_
          refine TC.seq ?_
          refine TC.region ?_
          refine TL.pure (PV.loadBox rfl Tb.agg_24 (by repeat (first | exact List.Mem.head _ | refine List.Mem.tail _ ?_ | refine List.mem_append_right _ ?_)) rfl) rfl (by decide) ?_
          refine TL.pure (PV.fieldAddr rfl Tb.fo_42_0) rfl (by decide) ?_
          refine TL.pure (PV.load rfl Tb.one_3 (by repeat (first | exact List.Mem.head _ | refine List.Mem.tail _ ?_ | refine List.mem_append_right _ ?_)) rfl) rfl (by decide) ?_
          refine TL.call rfl Tb.gofn_59 (fun a w hs => isLayer_ok _ _ _ _) rfl (by decide) (fun _ _ => ?_)
          refine TL.pure ((by first | exact PV.notD rfl | exact PV.not rfl)) rfl (by decide) ?_
          refine TL.pure (PV.move rfl) rfl (by decide) ?_
          first | refine TL.splitD 29 rfl (fun e1 => ?_) (fun e1 => ?_) | refine TL.split 29 rfl (fun e1 => ?_) (fun e1 => ?_)
          · skip
            refine TL.skip rfl (fun k hk => by cases hk; decide) ?_
            refine TL.skip rfl (fun k hk => by cases hk; decide) ?_
            refine TL.skip rfl (fun k hk => by cases hk; decide) ?_
            refine TL.skip rfl (fun k hk => by cases hk; decide) ?_
            refine TL.skip rfl (fun k hk => by cases hk; decide) ?_
            refine TL.pure (PV.pickT rfl rfl) rfl (by decide) ?_
            refine TL.pure (PV.move rfl) rfl (by decide) ?_
            refine TL.skip rfl (fun k hk => by cases hk; decide) ?_
            refine TL.skip rfl (fun k hk => by cases hk; decide) ?_
            refine TL.skip rfl (fun k hk => by cases hk; decide) ?_
            refine TL.pure (PV.pickT rfl rfl) rfl (by decide) ?_
            refine TL.nil ?_
            refine TQ.thenC ?_
            refine TC.condT rfl ?_
            refine TC.seq ?_
            refine TC.region ?_
            refine TL.pure (PV.assign rfl) rfl (by decide) ?_
            refine TL.nil ?_
            refine TQ.thenC ?_
            refine TC.ret ?_
            refine TQ.blkR ?_
            refine TQ.thenR ?_
            refine TQ.thenR ?_
            refine TQ.blkR ?_
            refine TQ.thenR ?_
            refine TQ.retE1 rfl rfl ?_
            first | exact ⟨(), by rw [validateI, if_pos (by omega)], trivial, List.nil_sublist _⟩ | exact ⟨(), by rw [validateI, if_neg (by omega), if_pos (by omega)], trivial, List.nil_sublist _⟩ | exact ⟨(), by rw [validateI, if_neg (by omega), if_neg (by omega), if_neg (fun h => by have h9 := all_at h (k := k) (by omega); first | (have h8 := ok_spec h9; omega) | (unfold okB at h9; simp only [Bool.and_eq_true] at h9; rw [h9.2] at hbad; cases hbad))], trivial, List.nil_sublist _⟩ | exact ⟨(), by rw [validateI, if_neg (by omega), if_neg (by omega), if_pos (by rw [← hk.2, List.take_of_length_le (by omega)])], trivial, List.nil_sublist _⟩
          · skip
            refine TL.pure (PV.loadBox rfl Tb.agg_24 (by repeat (first | exact List.Mem.head _ | refine List.Mem.tail _ ?_ | refine List.mem_append_right _ ?_)) rfl) rfl (by decide) ?_
            refine TL.pure (PV.fieldAddr rfl Tb.fo_42_1) rfl (by decide) ?_
            refine TL.pure (PV.load rfl Tb.one_3 (by repeat (first | exact List.Mem.head _ | refine List.Mem.tail _ ?_ | refine List.mem_append_right _ ?_)) rfl) rfl (by decide) ?_
            refine TL.call rfl Tb.gofn_59 (fun a w hs => isLayer_ok _ _ _ _) rfl (by decide) (fun _ _ => ?_)
            refine TL.pure ((by first | exact PV.notD rfl | exact PV.not rfl)) rfl (by decide) ?_
            refine TL.pure (PV.pickF rfl rfl) rfl (by decide) ?_
            refine TL.pure (PV.move rfl) rfl (by decide) ?_
            first | refine TL.splitD 36 rfl (fun e2 => ?_) (fun e2 => ?_) | refine TL.split 36 rfl (fun e2 => ?_) (fun e2 => ?_)
            · skip
              refine TL.skip rfl (fun k hk => by cases hk; decide) ?_
              refine TL.skip rfl (fun k hk => by cases hk; decide) ?_
              refine TL.skip rfl (fun k hk => by cases hk; decide) ?_
              refine TL.pure (PV.pickT rfl rfl) rfl (by decide) ?_
              refine TL.nil ?_
              refine TQ.thenC ?_
              refine TC.condT rfl ?_
              refine TC.seq ?_
              refine TC.region ?_
              refine TL.pure (PV.assign rfl) rfl (by decide) ?_
              refine TL.nil ?_
              refine TQ.thenC ?_
              refine TC.ret ?_
              refine TQ.blkR ?_
              refine TQ.thenR ?_
              refine TQ.thenR ?_
              refine TQ.blkR ?_
              refine TQ.thenR ?_
              refine TQ.retE1 rfl rfl ?_
              first | exact ⟨(), by rw [validateI, if_pos (by omega)], trivial, List.nil_sublist _⟩ | exact ⟨(), by rw [validateI, if_neg (by omega), if_pos (by omega)], trivial, List.nil_sublist _⟩ | exact ⟨(), by rw [validateI, if_neg (by omega), if_neg (by omega), if_neg (fun h => by have h9 := all_at h (k := k) (by omega); first | (have h8 := ok_spec h9; omega) | (unfold okB at h9; simp only [Bool.and_eq_true] at h9; rw [h9.2] at hbad; cases hbad))], trivial, List.nil_sublist _⟩ | exact ⟨(), by rw [validateI, if_neg (by omega), if_neg (by omega), if_pos (by rw [← hk.2, List.take_of_length_le (by omega)])], trivial, List.nil_sublist _⟩
            · skip
              refine TL.pure (PV.loadBox rfl Tb.agg_42 (by repeat (first | exact List.Mem.head _ | refine List.Mem.tail _ ?_ | refine List.mem_append_right _ ?_)) rfl) rfl (by decide) ?_
              refine TL.call rfl Tb.gofn_60 (fun a w hs => isBound_ok _ (rs.getD k default)) rfl (by decide) (fun _ _ => ?_)
              refine TL.pure ((by first | exact PV.notD rfl | exact PV.not rfl)) rfl (by decide) ?_
              refine TL.pure (PV.pickF rfl rfl) rfl (by decide) ?_
              refine TL.nil ?_
              refine TQ.thenC ?_
              first | refine TC.condD rfl (fun hbad => ?_) (fun hbad => ?_) | refine TC.cond rfl (fun hbad => ?_) (fun hbad => ?_)
              · skip
                refine TC.seq ?_
                refine TC.region ?_
                refine TL.pure (PV.assign rfl) rfl (by decide) ?_
                refine TL.nil ?_
                refine TQ.thenC ?_
                refine TC.ret ?_
                refine TQ.blkR ?_
                refine TQ.thenR ?_
                refine TQ.thenR ?_
                refine TQ.blkR ?_
                refine TQ.thenR ?_
                refine TQ.retE1 rfl rfl ?_
                first | exact ⟨(), by rw [validateI, if_pos (by omega)], trivial, List.nil_sublist _⟩ | exact ⟨(), by rw [validateI, if_neg (by omega), if_pos (by omega)], trivial, List.nil_sublist _⟩ | exact ⟨(), by rw [validateI, if_neg (by omega), if_neg (by omega), if_neg (fun h => by have h9 := all_at h (k := k) (by omega); first | (have h8 := ok_spec h9; omega) | (unfold okB at h9; simp only [Bool.and_eq_true] at h9; rw [h9.2] at hbad; cases hbad))], trivial, List.nil_sublist _⟩ | exact ⟨(), by rw [validateI, if_neg (by omega), if_neg (by omega), if_pos (by rw [← hk.2, List.take_of_length_le (by omega)])], trivial, List.nil_sublist _⟩
              · skip
                have hall : okB n (rs.getD k default) = true := by unfold okB; rw [show isLayerB n (rs.getD k default).a = true from decide_eq_true (by omega), show isLayerB n (rs.getD k default).b = true from decide_eq_true (by omega)]; simpa using hbad
                refine TC.skip ?_
                refine TQ.blkN ?_
                refine TQ.thenC ?_
                refine TC.region ?_
                refine TL.pure (PV.add rfl rfl (by omega)) rfl (by decide) ?_
                refine TL.pure (PV.move rfl) rfl (by decide) ?_
                refine TL.nil ?_
                refine TQ.thenN ?_
                refine TQ.backK (k + 1) (by repeat (first | exact True.intro | refine And.intro rfl ?_)) (by repeat (first | exact True.intro | refine And.intro rfl ?_)) (by repeat (first | exact List.Sublist.slnil | exact List.nil_sublist _ | exact List.Sublist.refl _ | refine List.Sublist.cons_cons _ ?_ | refine List.Sublist.cons _ ?_ | refine List.Sublist.trans ?_ (List.sublist_append_right _ _))) ⟨by omega, take_all hk.2 (by omega) hall⟩ (by omega)
        · skip
          refine TC.exit ?_
          refine TQ.thenE ?_
          refine TQ.thenE ?_
          refine TQ.blkS ?_
          refine TQ.thenC ?_
          refine TC.seq ?_
          refine TC.region ?_
          refine TL.pure (PV.assign rfl) rfl (by decide) ?_
          refine TL.nil ?_
          refine TQ.thenC ?_
          refine TC.ret ?_
          refine TQ.retE1 rfl rfl ?_
          first | exact ⟨(), by rw [validateI, if_pos (by omega)], trivial, List.nil_sublist _⟩ | exact ⟨(), by rw [validateI, if_neg (by omega), if_pos (by omega)], trivial, List.nil_sublist _⟩ | exact ⟨(), by rw [validateI, if_neg (by omega), if_neg (by omega), if_neg (fun h => by have h9 := all_at h (k := k) (by omega); first | (have h8 := ok_spec h9; omega) | (unfold okB at h9; simp only [Bool.and_eq_true] at h9; rw [h9.2] at hbad; cases hbad))], trivial, List.nil_sublist _⟩ | exact ⟨(), by rw [validateI, if_neg (by omega), if_neg (by omega), if_pos (by rw [← hk.2, List.take_of_length_le (by omega)])], trivial, List.nil_sublist _⟩

set_option maxRecDepth 100000 in
theorem within_ok (w0 : World) (a lo hi : Int) :
    Calls Try.prog 61 #[.int .i64 a, .int .i64 lo, .int .i64 hi] w0 (Post (X := Unit) (fun _ => .bool (decide (lo ≤ a ∧ a ≤ hi))) (fun _ => True) (fun _ => []) w0) := by
  refine calls Try.func61 rfl (n := 15) rfl (by simp) ?_
  refine TC.seq ?_
  refine TC.region ?_
  refine TL.pure (PV.assign rfl) rfl (by decide) ?_
  refine TL.nil ?_
  refine TQ.thenC ?_
  refine TC.seq ?_
  refine TC.region ?_
  refine TL.pure (PV.move rfl) rfl (by decide) ?_
  refine TL.pure (PV.move rfl) rfl (by decide) ?_
  refine TL.pure (PV.geq rfl rfl) rfl (by decide) ?_
  refine TL.pure (PV.move rfl) rfl (by decide) ?_
  first | refine TL.splitD 10 rfl (fun h0 => ?_) (fun h0 => ?_) | refine TL.split 10 rfl (fun h0 => ?_) (fun h0 => ?_)
  · skip
    refine TL.pure (PV.move rfl) rfl (by decide) ?_
    refine TL.pure (PV.move rfl) rfl (by decide) ?_
    refine TL.pure (PV.leq rfl rfl) rfl (by decide) ?_
    refine TL.pure (PV.pickT rfl rfl) rfl (by decide) ?_
    refine TL.pure (PV.assign rfl) rfl (by decide) ?_
    refine TL.nil ?_
    refine TQ.thenC ?_
    refine TC.ret ?_
    refine TQ.retE1 rfl rfl ?_
    exact ⟨(), by simp [*] <;> omega, trivial, List.nil_sublist _⟩
  · skip
    refine TL.skip rfl (fun k hk => by cases hk; decide) ?_
    refine TL.skip rfl (fun k hk => by cases hk; decide) ?_
    refine TL.skip rfl (fun k hk => by cases hk; decide) ?_
    refine TL.pure (PV.pickF rfl rfl) rfl (by decide) ?_
    refine TL.pure (PV.assign rfl) rfl (by decide) ?_
    refine TL.nil ?_
    refine TQ.thenC ?_
    refine TC.ret ?_
    refine TQ.retE1 rfl rfl ?_
    exact ⟨(), by simp [*] <;> omega, trivial, List.nil_sublist _⟩

set_option maxRecDepth 100000 in
set_option maxHeartbeats 1000000 in
theorem risBound_ok (w0 : World) (r : Bd) (n : Int) (hn : 1 ≤ n ∧ n ≤ 8) :
    Calls Try.prog 62 #[r.val, .int .i64 n] w0 (Post (X := Unit) (fun _ => .bool (okB n r)) (fun _ => True) (fun _ => []) w0) := by
  refine calls Try.func62 rfl (n := 29) rfl (by simp) ?_
  refine TC.seq ?_
  refine TC.region ?_
  refine TL.box rfl rfl (by decide) (fun b0 hb0 => ?_)
  refine TL.pure (PV.assign rfl) rfl (by decide) ?_
  refine TL.nil ?_
  refine TQ.thenC ?_
  refine TC.seq ?_
  refine TC.region ?_
  refine TL.pure (PV.fieldAddr rfl Tb.fo_42_0) rfl (by decide) ?_
  refine TL.pure (PV.load rfl Tb.one_3 (by repeat (first | exact List.Mem.head _ | refine List.Mem.tail _ ?_ | refine List.mem_append_right _ ?_)) rfl) rfl (by decide) ?_
  refine TL.pure (PV.move rfl) rfl (by decide) ?_
  refine TL.pure (PV.sub rfl rfl (by omega)) rfl (by decide) ?_
  refine TL.call rfl Tb.gofn_61 (fun a w hs => within_ok _ _ _ _) rfl (by decide) (fun _ _ => ?_)
  refine TL.pure (PV.move rfl) rfl (by decide) ?_
  first | refine TL.splitD 10 rfl (fun h0 => ?_) (fun h0 => ?_) | refine TL.split 10 rfl (fun h0 => ?_) (fun h0 => ?_)
  · skip
    refine TL.pure (PV.fieldAddr rfl Tb.fo_42_1) rfl (by decide) ?_
    refine TL.pure (PV.load rfl Tb.one_3 (by repeat (first | exact List.Mem.head _ | refine List.Mem.tail _ ?_ | refine List.mem_append_right _ ?_)) rfl) rfl (by decide) ?_
    refine TL.pure (PV.move rfl) rfl (by decide) ?_
    refine TL.pure (PV.sub rfl rfl (by omega)) rfl (by decide) ?_
    refine TL.call rfl Tb.gofn_61 (fun a w hs => within_ok _ _ _ _) rfl (by decide) (fun _ _ => ?_)
    refine TL.pure (PV.pickT rfl rfl) rfl (by decide) ?_
    refine TL.pure (PV.move rfl) rfl (by decide) ?_
    first | refine TL.splitD 17 rfl (fun h1 => ?_) (fun h1 => ?_) | refine TL.split 17 rfl (fun h1 => ?_) (fun h1 => ?_)
    · skip
      refine TL.pure (PV.fieldAddr rfl Tb.fo_42_0) rfl (by decide) ?_
      refine TL.pure (PV.load rfl Tb.one_3 (by repeat (first | exact List.Mem.head _ | refine List.Mem.tail _ ?_ | refine List.mem_append_right _ ?_)) rfl) rfl (by decide) ?_
      refine TL.pure (PV.fieldAddr rfl Tb.fo_42_1) rfl (by decide) ?_
      refine TL.pure (PV.load rfl Tb.one_3 (by repeat (first | exact List.Mem.head _ | refine List.Mem.tail _ ?_ | refine List.mem_append_right _ ?_)) rfl) rfl (by decide) ?_
      refine TL.pure (PV.neq rfl rfl) rfl (by decide) ?_
      refine TL.pure (PV.pickT rfl rfl) rfl (by decide) ?_
      refine TL.pure (PV.move rfl) rfl (by decide) ?_
      first | refine TL.splitD 24 rfl (fun h2 => ?_) (fun h2 => ?_) | refine TL.split 24 rfl (fun h2 => ?_) (fun h2 => ?_)
      · skip
        refine TL.pure (PV.fieldAddr rfl Tb.fo_42_2) rfl (by decide) ?_
        refine TL.pure (PV.load rfl Tb.one_3 (by repeat (first | exact List.Mem.head _ | refine List.Mem.tail _ ?_ | refine List.mem_append_right _ ?_)) rfl) rfl (by decide) ?_
        refine TL.call rfl Tb.gofn_61 (fun a w hs => within_ok _ _ _ _) rfl (by decide) (fun _ _ => ?_)
        refine TL.pure (PV.pickT rfl rfl) rfl (by decide) ?_
        refine TL.pure (PV.assign rfl) rfl (by decide) ?_
        refine TL.nil ?_
        refine TQ.thenC ?_
        refine TC.ret ?_
        refine TQ.retE1 rfl rfl ?_
        refine ⟨(), ?_, trivial, List.nil_sublist _⟩; unfold okB isLayerB isBoundB isWithinB; first | (simp_all; done) | (simp_all; omega) | (simp only [Value.bool.injEq]; rw [Bool.eq_iff_iff]; simp_all; omega)
      · skip
        refine TL.skip rfl (fun k hk => by cases hk; decide) ?_
        refine TL.skip rfl (fun k hk => by cases hk; decide) ?_
        refine TL.skip rfl (fun k hk => by cases hk; decide) ?_
        refine TL.pure (PV.pickF rfl rfl) rfl (by decide) ?_
        refine TL.pure (PV.assign rfl) rfl (by decide) ?_
        refine TL.nil ?_
        refine TQ.thenC ?_
        refine TC.ret ?_
        refine TQ.retE1 rfl rfl ?_
        refine ⟨(), ?_, trivial, List.nil_sublist _⟩; unfold okB isLayerB isBoundB isWithinB; first | (simp_all; done) | (simp_all; omega) | (simp only [Value.bool.injEq]; rw [Bool.eq_iff_iff]; simp_all; omega)
    · skip
      refine TL.skip rfl (fun k hk => by cases hk; decide) ?_
      refine TL.skip rfl (fun k hk => by cases hk; decide) ?_
      refine TL.skip rfl (fun k hk => by cases hk; decide) ?_
      refine TL.skip rfl (fun k hk => by cases hk; decide) ?_
      refine TL.skip rfl (fun k hk => by cases hk; decide) ?_
      refine TL.pure (PV.pickF rfl rfl) rfl (by decide) ?_
      refine TL.pure (PV.move rfl) rfl (by decide) ?_
      refine TL.skip rfl (fun k hk => by cases hk; decide) ?_
      refine TL.skip rfl (fun k hk => by cases hk; decide) ?_
      refine TL.skip rfl (fun k hk => by cases hk; decide) ?_
      refine TL.pure (PV.pickF rfl rfl) rfl (by decide) ?_
      refine TL.pure (PV.assign rfl) rfl (by decide) ?_
      refine TL.nil ?_
      refine TQ.thenC ?_
      refine TC.ret ?_
      refine TQ.retE1 rfl rfl ?_
      refine ⟨(), ?_, trivial, List.nil_sublist _⟩; unfold okB isLayerB isBoundB isWithinB; first | (simp_all; done) | (simp_all; omega) | (simp only [Value.bool.injEq]; rw [Bool.eq_iff_iff]; simp_all; omega)
  · skip
    refine TL.skip rfl (fun k hk => by cases hk; decide) ?_
    refine TL.skip rfl (fun k hk => by cases hk; decide) ?_
    refine TL.skip rfl (fun k hk => by cases hk; decide) ?_
    refine TL.skip rfl (fun k hk => by cases hk; decide) ?_
    refine TL.skip rfl (fun k hk => by cases hk; decide) ?_
    refine TL.pure (PV.pickF rfl rfl) rfl (by decide) ?_
    refine TL.pure (PV.move rfl) rfl (by decide) ?_
    refine TL.skip rfl (fun k hk => by cases hk; decide) ?_
    refine TL.skip rfl (fun k hk => by cases hk; decide) ?_
    refine TL.skip rfl (fun k hk => by cases hk; decide) ?_
    refine TL.skip rfl (fun k hk => by cases hk; decide) ?_
    refine TL.skip rfl (fun k hk => by cases hk; decide) ?_
    refine TL.pure (PV.pickF rfl rfl) rfl (by decide) ?_
    refine TL.pure (PV.move rfl) rfl (by decide) ?_
    refine TL.skip rfl (fun k hk => by cases hk; decide) ?_
    refine TL.skip rfl (fun k hk => by cases hk; decide) ?_
    refine TL.skip rfl (fun k hk => by cases hk; decide) ?_
    refine TL.pure (PV.pickF rfl rfl) rfl (by decide) ?_
    refine TL.pure (PV.assign rfl) rfl (by decide) ?_
    refine TL.nil ?_
    refine TQ.thenC ?_
    refine TC.ret ?_
    refine TQ.retE1 rfl rfl ?_
    refine ⟨(), ?_, trivial, List.nil_sublist _⟩; unfold okB isLayerB isBoundB isWithinB; first | (simp_all; done) | (simp_all; omega) | (simp only [Value.bool.injEq]; rw [Bool.eq_iff_iff]; simp_all; omega)

set_option maxRecDepth 100000 in
set_option maxHeartbeats 1000000 in
theorem rvalidate_ok (w0 : World) (n : Int) (p : Option Addr) (cap : Nat) (rs : List Bd) (hr : BdsAt w0 p rs) :
    Calls Try.prog 22 #[cv n p rs.length cap] w0 (Post (X := Unit) (fun _ => .int .i64 (validateI n rs)) (fun _ => True) (fun _ => []) w0) := by
  refine calls Try.func22 rfl (n := 28) rfl (by simp) ?_
  refine TC.seq ?_
  refine TC.region ?_
  refine TL.box rfl rfl (by decide) (fun b0 hb0 => ?_)
  refine TL.pure (PV.assign rfl) rfl (by decide) ?_
  refine TL.nil ?_
  refine TQ.thenC ?_
  refine TC.seq ?_
  refine TC.seq ?_
  refine TC.region ?_
  refine TL.pure (PV.fieldAddr rfl Tb.fo_24_0) rfl (by decide) ?_
  refine TL.pure (PV.load rfl Tb.one_3 (by repeat (first | exact List.Mem.head _ | refine List.Mem.tail _ ?_ | refine List.mem_append_right _ ?_)) rfl) rfl (by decide) ?_
  refine TL.call rfl Tb.gofn_61 (fun a w hs => within_ok _ _ _ _) rfl (by decide) (fun _ _ => ?_)
  refine TL.pure ((by first | exact PV.notD rfl | exact PV.not rfl)) rfl (by decide) ?_
  refine TL.nil ?_
  refine TQ.thenC ?_
  first | refine TC.condD rfl (fun hw => ?_) (fun hw => ?_) | refine TC.cond rfl (fun hw => ?_) (fun hw => ?_)
  · skip
    refine TC.seq ?_
    refine TC.region ?_
    refine TL.pure (PV.assign rfl) rfl (by decide) ?_
    refine TL.nil ?_
    refine TQ.thenC ?_
    refine TC.ret ?_
    refine TQ.thenR ?_
    refine TQ.retE1 rfl rfl ?_
    first | exact ⟨(), by rw [validateI, if_pos (by omega)], trivial, List.nil_sublist _⟩ | exact ⟨(), by rw [validateI, if_neg (by omega), if_pos (by omega)], trivial, List.nil_sublist _⟩ | exact ⟨(), by rw [validateI, if_neg (by omega), if_neg (by omega), if_neg (fun h => by have h9 := all_at h (k := k) (by omega); simp_all)], trivial, List.nil_sublist _⟩ | exact ⟨(), by rw [validateI, if_neg (by omega), if_neg (by omega), if_pos (by rw [← hk.2, List.take_of_length_le (by omega)])], trivial, List.nil_sublist _⟩
  · skip
    refine TC.skip ?_
    refine TQ.thenC ?_
    refine TC.seq ?_
    refine TC.seq ?_
    refine TC.region ?_
    refine TL.pure (PV.fieldAddr rfl Tb.fo_24_1) rfl (by decide) ?_
    refine TL.pure (PV.load rfl Tb.one_22 (by repeat (first | exact List.Mem.head _ | refine List.Mem.tail _ ?_ | refine List.mem_append_right _ ?_)) rfl) rfl (by decide) ?_
    refine TL.pure (PV.len rfl Tb.sl_22) rfl (by decide) ?_
    refine TL.pure (PV.gtr rfl rfl) rfl (by decide) ?_
    refine TL.nil ?_
    refine TQ.thenC ?_
    first | refine TC.condD rfl (fun hlong => ?_) (fun hlong => ?_) | refine TC.cond rfl (fun hlong => ?_) (fun hlong => ?_)
    · skip
      refine TC.seq ?_
      refine TC.region ?_
      refine TL.pure (PV.assign rfl) rfl (by decide) ?_
      refine TL.nil ?_
      refine TQ.thenC ?_
      refine TC.ret ?_
      refine TQ.thenR ?_
      refine TQ.retE1 rfl rfl ?_
      first | exact ⟨(), by rw [validateI, if_pos (by omega)], trivial, List.nil_sublist _⟩ | exact ⟨(), by rw [validateI, if_neg (by omega), if_pos (by omega)], trivial, List.nil_sublist _⟩ | exact ⟨(), by rw [validateI, if_neg (by omega), if_neg (by omega), if_neg (fun h => by have h9 := all_at h (k := k) (by omega); simp_all)], trivial, List.nil_sublist _⟩ | exact ⟨(), by rw [validateI, if_neg (by omega), if_neg (by omega), if_pos (by rw [← hk.2, List.take_of_length_le (by omega)])], trivial, List.nil_sublist _⟩
    · skip
      refine TC.skip ?_
      refine TQ.thenC ?_
      refine TC.seq ?_
      refine TC.seq ?_
      refine TC.region ?_
      refine TL.pure (PV.assign rfl) rfl (by decide) ?_
      refine TL.nil ?_
      refine TQ.thenC ?_
      refine TC.block ?_
      -- live and written in the loop, not told: [2]
      refine TC.loopG [1] (X := Nat) (fun k => k ≤ rs.length ∧ (rs.take k).all (okB n) = true) (fun k => [(3, .int .i64 k)]) (fun k => rs.length - k) 0 ⟨Nat.zero_le _, by simp⟩ (by repeat (first | exact True.intro | refine And.intro rfl ?_)) ?_
      intro k hk
      refine TC.seq ?_
      refine TC.seq ?_
      refine TC.region ?_
      refine TL.pure (PV.move rfl) rfl (by decide) ?_
      refine TL.pure (PV.fieldAddr rfl Tb.fo_24_1) rfl (by decide) ?_
      refine TL.pure (PV.load rfl Tb.one_22 (by repeat (first | exact List.Mem.head _ | refine List.Mem.tail _ ?_ | refine List.mem_append_right _ ?_)) rfl) rfl (by decide) ?_
      refine TL.pure (PV.len rfl Tb.sl_22) rfl (by decide) ?_
      refine TL.pure (PV.lss rfl rfl) rfl (by decide) ?_
      refine TL.nil ?_
      refine TQ.thenC ?_
      first | refine TC.condD rfl (fun hlt => ?_) (fun hlt => ?_) | refine TC.cond rfl (fun hlt => ?_) (fun hlt => ?_)
      · skip
        refine TC.skip ?_
        refine TQ.thenC ?_
        refine TC.seq ?_
        refine TC.block ?_
        refine TC.seq ?_
        obtain ⟨q, hqp, hq⟩ := hr k (by omega)
        refine TC.any Tb.mixed rfl rfl ?_
        refine TA.op (OpOK.pure (PV.fieldAddr rfl Tb.fo_24_1) rfl (by decide)) (by decide) ?_
        refine TA.op (OpOK.pure (PV.load rfl Tb.one_22 (by repeat (first | exact List.Mem.head _ | refine List.Mem.tail _ ?_ | refine List.mem_append_right _ ?_)) rfl) rfl (by decide)) (by decide) ?_
        refine TA.op (OpOK.pure (PV.move rfl) rfl (by decide)) (by decide) ?_
        refine TA.op (OpOK.pure (PV.indexA rfl hqp rfl Tb.elm_22 rfl (by omega)) rfl (by decide)) (by decide) ?_
        refine TA.op (OpOK.pure (PV.loadAggA rfl Tb.agg_42 rfl hq) rfl (by decide)) (by decide) ?_
        refine TA.op (OpOK.pure (PV.fieldAddr rfl Tb.fo_24_0) rfl (by decide)) (by decide) ?_
        refine TA.op (OpOK.pure (PV.load rfl Tb.one_3 (by repeat (first | exact List.Mem.head _ | refine List.Mem.tail _ ?_ | refine List.mem_append_right _ ?_)) rfl) rfl (by decide)) (by decide) ?_
        refine TA.op (OpOK.call rfl Tb.gofn_62 (fun a w hs => risBound_ok _ (rs.getD k default) n (by omega)) rfl (by decide)) (by decide) ?_
        refine TA.op (OpOK.pure ((by first | exact PV.notD rfl | exact PV.not rfl)) rfl (by decide)) (by decide) ?_
        show TQ _ _ _ _ _
        refine TQ.thenC ?_
        first | refine TC.condD rfl (fun hbad => ?_) (fun hbad => ?_) | refine TC.cond rfl (fun hbad => ?_) (fun hbad => ?_)
        · skip
          refine TC.seq ?_
          refine TC.region ?_
          refine TL.pure (PV.assign rfl) rfl (by decide) ?_
          refine TL.nil ?_
          refine TQ.thenC ?_
          refine TC.ret ?_
          refine TQ.blkR ?_
          refine TQ.thenR ?_
          refine TQ.thenR ?_
          refine TQ.blkR ?_
          refine TQ.thenR ?_
          refine TQ.retE1 rfl rfl ?_
          first | exact ⟨(), by rw [validateI, if_pos (by omega)], trivial, List.nil_sublist _⟩ | exact ⟨(), by rw [validateI, if_neg (by omega), if_pos (by omega)], trivial, List.nil_sublist _⟩ | exact ⟨(), by rw [validateI, if_neg (by omega), if_neg (by omega), if_neg (fun h => by have h9 := all_at h (k := k) (by omega); simp_all)], trivial, List.nil_sublist _⟩ | exact ⟨(), by rw [validateI, if_neg (by omega), if_neg (by omega), if_pos (by rw [← hk.2, List.take_of_length_le (by omega)])], trivial, List.nil_sublist _⟩
        · skip
          have hall : okB n (rs.getD k default) = true := by simp_all
          refine TC.skip ?_
          refine TQ.blkN ?_
          refine TQ.thenC ?_
          refine TC.region ?_
          refine TL.pure (PV.move rfl) rfl (by decide) ?_
          refine TL.pure (PV.add rfl rfl (by omega)) rfl (by decide) ?_
          refine TL.pure (PV.assign rfl) rfl (by decide) ?_
          refine TL.nil ?_
          refine TQ.thenN ?_
          refine TQ.backK (k + 1) (by repeat (first | exact True.intro | refine And.intro rfl ?_)) (by repeat (first | exact True.intro | refine And.intro rfl ?_)) (by repeat (first | exact List.Sublist.slnil | exact List.nil_sublist _ | exact List.Sublist.refl _ | refine List.Sublist.cons_cons _ ?_ | refine List.Sublist.cons _ ?_ | refine List.Sublist.trans ?_ (List.sublist_append_right _ _))) ⟨by omega, take_all hk.2 (by omega) hall⟩ (by omega)
      · skip
        refine TC.exit ?_
        refine TQ.thenE ?_
        refine TQ.thenE ?_
        refine TQ.blkS ?_
        refine TQ.thenC ?_
        refine TC.seq ?_
        refine TC.region ?_
        refine TL.pure (PV.assign rfl) rfl (by decide) ?_
        refine TL.nil ?_
        refine TQ.thenC ?_
        refine TC.ret ?_
        refine TQ.retE1 rfl rfl ?_
        first | exact ⟨(), by rw [validateI, if_pos (by omega)], trivial, List.nil_sublist _⟩ | exact ⟨(), by rw [validateI, if_neg (by omega), if_pos (by omega)], trivial, List.nil_sublist _⟩ | exact ⟨(), by rw [validateI, if_neg (by omega), if_neg (by omega), if_neg (fun h => by have h9 := all_at h (k := k) (by omega); simp_all)], trivial, List.nil_sublist _⟩ | exact ⟨(), by rw [validateI, if_neg (by omega), if_neg (by omega), if_pos (by rw [← hk.2, List.take_of_length_le (by omega)])], trivial, List.nil_sublist _⟩

end Go.Proofs.Ytenalmddoljhoaa
