/- Which rounds prove a clash: contracts. -/
import Derived.Test.YtenalmddoljhoaaVN
import Derived.Test.YtenalmddoljhoaaVR
set_option linter.unusedVariables false
set_option linter.unusedSimpArgs false
namespace Go.Proofs.Ytenalmddoljhoaa
open Go.Sx Go.RowKit

def isK (rs : List Bd) (k : Int) : Bool := decide (0 ≤ k ∧ k < (rs.length : Int))
def kat (ls : List Int) (i : Nat) : Nat := (ls.getD i 0).toNat
def ring1 (rs : List Bd) (ls : List Int) (i : Nat) : Bool := decide ((rs.getD (kat ls i) default).b = (rs.getD (kat ls ((i + 1) % ls.length)) default).a)
def isRoundB (rs : List Bd) (ls : List Int) : Bool := (List.range ls.length).all (ring1 rs ls) && decide (0 < (ls.length : Int))
def sumK (rs : List Bd) (ls : List Int) : Nat → Int
  | 0 => 0
  | i + 1 => sumK rs ls i + eM rs (kat ls i)
def sumL (rs : List Bd) (ls : List Int) : Int := sumK rs ls ls.length
def clashI (n : Int) (rs : List Bd) (ls : List Int) : Int := if validateI n rs ≠ 0 then validateI n rs else if 20 < (ls.length : Int) then 3 else if ls.all (isK rs) = true then (if isRoundB rs ls = true ∧ sumL rs ls < 0 then 0 else 7) else 4
theorem tmod_nat (i L : Nat) : ((i : Int) + 1).tmod (L : Int) = (((i + 1) % L : Nat) : Int) := rfl
theorem round_no {rs : List Bd} {ls : List Int} {k : Nat} (hk : k < ls.length) (h : ¬ ring1 rs ls k = true) : isRoundB rs ls = false := by
  unfold isRoundB
  rw [Bool.and_eq_false_iff]
  left
  rw [Bool.eq_false_iff]
  intro h2
  exact h (List.all_eq_true.1 h2 k (List.mem_range.2 hk))
theorem round_yes {rs : List Bd} {ls : List Int} (h : ∀ i, i < ls.length → ring1 rs ls i = true) : isRoundB rs ls = decide (0 < (ls.length : Int)) := by
  unfold isRoundB
  rw [List.all_eq_true.2 (fun i hi => h i (List.mem_range.1 hi)), Bool.true_and]
theorem sumK_low {n : Int} {rs : List Bd} {ls : List Int} (hv : Valid n rs) (hls : ∀ i, i < ls.length → 0 ≤ ls.getD i 0 ∧ ls.getD i 0 < (rs.length : Int)) : ∀ i, i ≤ ls.length → -10000 * (i : Int) ≤ sumK rs ls i ∧ sumK rs ls i ≤ 10000 * (i : Int)
  | 0, _ => by simp [sumK]
  | i + 1, hi => by
    have ih := sumK_low hv hls i (by omega)
    have h1 := hls i (by omega)
    have h2 := hv.at (k := kat ls i) (by unfold kat; omega)
    simp only [sumK, eM]
    omega
theorem ks_of {rs : List Bd} {ls : List Int} (h : ∀ i, i < ls.length → isK rs (ls.getD i 0) = true) : ∀ i, i < ls.length → 0 ≤ ls.getD i 0 ∧ ls.getD i 0 < (rs.length : Int) := fun i hi => of_decide_eq_true (h i hi)


set_option maxRecDepth 100000 in
set_option maxHeartbeats 1000000 in
theorem isRound_ok (w0 : World) (n : Int) (p : Option Addr) (cap : Nat) (rs : List Bd) (hr : BdsAt w0 p rs) (pl : Option Addr) (cl : Nat) (ls : List Int) (hx : IntsAt w0 pl ls) (hv : Valid n rs) (hls : ∀ i, i < ls.length → 0 ≤ ls.getD i 0 ∧ ls.getD i 0 < (rs.length : Int)) (hll : ls.length ≤ 20) :
    Calls Try.prog 66 #[cv n p rs.length cap, .slice pl ls.length cl] w0 (Post (X := Unit) (fun _ => .bool (isRoundB rs ls)) (fun _ => True) (fun _ => []) w0) := by
  refine calls Try.func66 rfl (n := 40) rfl (by simp) ?_
  refine TC.seq ?_
  refine TC.region ?_
  refine TL.box rfl rfl (by decide) (fun b0 hb0 => ?_)
  refine TL.pure (PV.assign rfl) rfl (by decide) ?_
  refine TL.nil ?_
  refine TQ.thenC ?_
  refine TC.seq ?_
  refine TC.seq ?_
  refine TC.region ?_
  refine TL.pure (PV.move rfl) rfl (by decide) ?_
  refine TL.pure (PV.len rfl Tb.sl_25) rfl (by decide) ?_
  refine TL.pure (PV.move rfl) rfl (by decide) ?_
  refine TL.nil ?_
  refine TQ.thenC ?_
  refine TC.block ?_
  -- live and written in the loop, not told: [4]
  refine TC.loopG [1, 2, 8] (X := Nat) (fun k => k ≤ ls.length ∧ ∀ i, i < k → ring1 rs ls i = true) (fun k => [(9, .int .i64 k)]) (fun k => ls.length - k) 0 ⟨Nat.zero_le _, fun j hj => absurd hj (Nat.not_lt_zero _)⟩ (by repeat (first | exact True.intro | refine And.intro rfl ?_)) ?_
  intro k hk
  refine TC.seq ?_
  refine TC.region ?_
  refine TL.pure (PV.lss rfl rfl) rfl (by decide) ?_
  refine TL.nil ?_
  refine TQ.thenC ?_
  refine TC.seq ?_
  first | refine TC.condD rfl (fun hlt => ?_) (fun hlt => ?_) | refine TC.cond rfl (fun hlt => ?_) (fun hlt => ?_)
  · skip
    refine TC.skip ?_
    refine TQ.thenC ?_
    refine TC.seq ?_
    refine TC.block ?_
    refine TC.seq ?_
    refine TC.region ?_
    refine TL.pure (PV.move rfl) rfl (by decide) ?_
    refine TL.pure (PV.assign rfl) rfl (by decide) ?_
    refine TL.nil ?_
    refine TQ.thenC ?_
    refine TC.seq ?_
    have hL : 0 < ls.length := by omega
    have hml : (k + 1) % ls.length < ls.length := Nat.mod_lt _ hL
    have hrem : -9223372036854775808 ≤ ((k : Int) + 1).tmod (ls.length : Int) ∧ ((k : Int) + 1).tmod (ls.length : Int) ≤ 9223372036854775807 := by rw [tmod_nat]; omega
    obtain ⟨q1, hq1p, hq1⟩ := hx ((k + 1) % ls.length) hml
    obtain ⟨q2, hq2p, hq2⟩ := hx k (by omega)
    have hk1 := hls ((k + 1) % ls.length) hml
    have hk2 := hls k (by omega)
    obtain ⟨r1, hr1p, hr1⟩ := hr (kat ls ((k + 1) % ls.length)) (by unfold kat; omega)
    obtain ⟨r2, hr2p, hr2⟩ := hr (kat ls k) (by unfold kat; omega)
    have hr10 := hr1 0 _ rfl
    have hr21 := hr2 1 _ rfl
    have hring : (rs.getD (kat ls k) default).b = (rs.getD (kat ls ((k + 1) % ls.length)) default).a → ring1 rs ls k = true := fun e => decide_eq_true e
    have hring2 : ¬ (rs.getD (kat ls k) default).b = (rs.getD (kat ls ((k + 1) % ls.length)) default).a → ¬ ring1 rs ls k = true := fun e e2 => e (of_decide_eq_true e2)
    refine TC.region ?_
    refine TL.pure (PV.move rfl) rfl (by decide) ?_
    refine TL.pure (PV.move rfl) rfl (by decide) ?_
    refine TL.pure (PV.add rfl rfl (by omega)) rfl (by decide) ?_
    refine TL.pure (PV.move rfl) rfl (by decide) ?_
    refine TL.pure (PV.len rfl Tb.sl_25) rfl (by decide) ?_
    refine TL.pure (PV.rem rfl rfl (by omega) hrem) rfl (by decide) ?_
    refine TL.pure (PV.indexA (j := (k + 1) % ls.length) rfl hq1p rfl Tb.elm_25 (tmod_nat k ls.length) hml) rfl (by decide) ?_
    refine TL.pure (PV.loadOld rfl Tb.one_3 hq1) rfl (by decide) ?_
    refine TL.pure (PV.assign rfl) rfl (by decide) ?_
    refine TL.nil ?_
    refine TQ.thenC ?_
    refine TC.seq ?_
    refine TC.any Tb.mixed rfl rfl ?_
    refine TA.op (OpOK.pure (PV.fieldAddr rfl Tb.fo_24_1) rfl (by decide)) (by decide) ?_
    refine TA.op (OpOK.pure (PV.load rfl Tb.one_22 (by repeat (first | exact List.Mem.head _ | refine List.Mem.tail _ ?_ | refine List.mem_append_right _ ?_)) rfl) rfl (by decide)) (by decide) ?_
    refine TA.op (OpOK.pure (PV.move rfl) rfl (by decide)) (by decide) ?_
    refine TA.op (OpOK.pure (PV.move rfl) rfl (by decide)) (by decide) ?_
    refine TA.op (OpOK.pure (PV.indexA rfl hq2p rfl Tb.elm_25 rfl (by omega)) rfl (by decide)) (by decide) ?_
    refine TA.op (OpOK.pure (PV.loadOld rfl Tb.one_3 hq2) rfl (by decide)) (by decide) ?_
    refine TA.op (OpOK.pure (PV.indexA (j := kat ls k) rfl hr2p rfl Tb.elm_22 (by unfold kat; omega) (by unfold kat; omega)) rfl (by decide)) (by decide) ?_
    refine TA.op (OpOK.pure (PV.fieldAddrA rfl Tb.fo_42_1) rfl (by decide)) (by decide) ?_
    refine TA.op (OpOK.pure (PV.loadOld rfl Tb.one_3 hr21) rfl (by decide)) (by decide) ?_
    refine TA.op (OpOK.pure (PV.fieldAddr rfl Tb.fo_24_1) rfl (by decide)) (by decide) ?_
    refine TA.op (OpOK.pure (PV.load rfl Tb.one_22 (by repeat (first | exact List.Mem.head _ | refine List.Mem.tail _ ?_ | refine List.mem_append_right _ ?_)) rfl) rfl (by decide)) (by decide) ?_
    refine TA.op (OpOK.pure (PV.move rfl) rfl (by decide)) (by decide) ?_
    refine TA.op (OpOK.pure (PV.indexA (j := kat ls ((k + 1) % ls.length)) rfl hr1p rfl Tb.elm_22 (by unfold kat; omega) (by unfold kat; omega)) rfl (by decide)) (by decide) ?_
    refine TA.op (OpOK.pure (PV.fieldAddrA rfl Tb.fo_42_0) rfl (by decide)) (by decide) ?_
    refine TA.op (OpOK.pure (PV.loadOld rfl Tb.one_3 hr10) rfl (by decide)) (by decide) ?_
    refine TA.op (OpOK.pure (PV.neq rfl rfl) rfl (by decide)) (by decide) ?_
    show TQ _ _ _ _ _
    refine TQ.thenC ?_
    first | refine TC.condD rfl (fun hne => ?_) (fun hne => ?_) | refine TC.cond rfl (fun hne => ?_) (fun hne => ?_)
    · skip
      refine TC.seq ?_
      refine TC.region ?_
      refine TL.pure (PV.assign rfl) rfl (by decide) ?_
      refine TL.nil ?_
      refine TQ.thenC ?_
      refine TC.ret ?_
      refine TQ.blkR ?_
      refine TQ.thenR ?_
      refine TQ.thenR ?_
      refine TQ.blkR ?_
      refine TQ.thenR ?_
      refine TQ.retE1 rfl rfl ?_
      exact ⟨(), by rw [round_no (k := k) (by omega) (hring2 hne)], trivial, List.nil_sublist _⟩
    · skip
      refine TC.skip ?_
      refine TQ.blkN ?_
      refine TQ.thenC ?_
      refine TC.region ?_
      refine TL.pure (PV.add rfl rfl (by omega)) rfl (by decide) ?_
      refine TL.pure (PV.move rfl) rfl (by decide) ?_
      refine TL.nil ?_
      refine TQ.thenN ?_
      refine TQ.backK (k + 1) (by repeat (first | exact True.intro | refine And.intro rfl ?_)) (by repeat (first | exact True.intro | refine And.intro rfl ?_)) (by repeat (first | exact List.Sublist.slnil | exact List.nil_sublist _ | exact List.Sublist.refl _ | refine List.Sublist.cons_cons _ ?_ | refine List.Sublist.cons _ ?_ | refine List.Sublist.trans ?_ (List.sublist_append_right _ _))) ⟨by omega, fun j hj => if e : j < k then hk.2 j e else (show k = j by omega) ▸ hring (Decidable.of_not_not hne)⟩ (by omega)
  · skip
    refine TC.exit ?_
    refine TQ.thenE ?_
    refine TQ.thenE ?_
    refine TQ.blkS ?_
    refine TQ.thenC ?_
    refine TC.seq ?_
    refine TC.region ?_
    refine TL.pure (PV.move rfl) rfl (by decide) ?_
    refine TL.pure (PV.len rfl Tb.sl_25) rfl (by decide) ?_
    refine TL.pure (PV.gtr rfl rfl) rfl (by decide) ?_
    refine TL.pure (PV.assign rfl) rfl (by decide) ?_
    refine TL.nil ?_
    refine TQ.thenC ?_
    refine TC.ret ?_
    refine TQ.retE1 rfl rfl ?_
    exact ⟨(), by rw [round_yes (fun i hi => hk.2 i (by omega))], trivial, List.nil_sublist _⟩

set_option maxRecDepth 100000 in
set_option maxHeartbeats 1000000 in
theorem sumOf_ok (w0 : World) (n : Int) (p : Option Addr) (cap : Nat) (rs : List Bd) (hr : BdsAt w0 p rs) (pl : Option Addr) (cl : Nat) (ls : List Int) (hx : IntsAt w0 pl ls) (hv : Valid n rs) (hls : ∀ i, i < ls.length → 0 ≤ ls.getD i 0 ∧ ls.getD i 0 < (rs.length : Int)) (hll : ls.length ≤ 20) :
    Calls Try.prog 67 #[cv n p rs.length cap, .slice pl ls.length cl] w0 (Post (X := Unit) (fun _ => .int .i64 (sumL rs ls)) (fun _ => True) (fun _ => []) w0) := by
  refine calls Try.func67 rfl (n := 24) rfl (by simp) ?_
  refine TC.seq ?_
  refine TC.region ?_
  refine TL.box rfl rfl (by decide) (fun b0 hb0 => ?_)
  refine TL.pure (PV.assign rfl) rfl (by decide) ?_
  refine TL.nil ?_
  refine TQ.thenC ?_
  refine TC.seq ?_
  refine TC.region ?_
  refine TL.pure (PV.assign rfl) rfl (by decide) ?_
  refine TL.nil ?_
  refine TQ.thenC ?_
  refine TC.seq ?_
  refine TC.seq ?_
  refine TC.region ?_
  refine TL.pure (PV.move rfl) rfl (by decide) ?_
  refine TL.pure (PV.len rfl Tb.sl_25) rfl (by decide) ?_
  refine TL.pure (PV.move rfl) rfl (by decide) ?_
  refine TL.nil ?_
  refine TQ.thenC ?_
  refine TC.block ?_
  refine TC.loopG [2, 4, 8, 9] (X := Nat) (fun k => k ≤ ls.length) (fun k => [(10, .int .i64 k), (5, .int .i64 (sumK rs ls k))]) (fun k => ls.length - k) 0 (Nat.zero_le _) (by repeat (first | exact True.intro | refine And.intro rfl ?_)) ?_
  intro k hk
  refine TC.seq ?_
  refine TC.region ?_
  refine TL.pure (PV.lss rfl rfl) rfl (by decide) ?_
  refine TL.nil ?_
  refine TQ.thenC ?_
  refine TC.seq ?_
  first | refine TC.condD rfl (fun hlt => ?_) (fun hlt => ?_) | refine TC.cond rfl (fun hlt => ?_) (fun hlt => ?_)
  · skip
    refine TC.skip ?_
    refine TQ.thenC ?_
    refine TC.seq ?_
    refine TC.block ?_
    refine TC.seq ?_
    obtain ⟨q2, hq2p, hq2⟩ := hx k (by omega)
    have hk2 := hls k (by omega)
    have hkl : kat ls k < rs.length := by unfold kat; omega
    obtain ⟨r2, hr2p, hr2⟩ := hr (kat ls k) hkl
    have hr22 := hr2 2 _ rfl
    have hb := sumK_low hv hls k (by omega)
    have hm := hv.at hkl
    refine TC.region ?_
    refine TL.pure (PV.indexA rfl hq2p rfl Tb.elm_25 rfl (by omega)) rfl (by decide) ?_
    refine TL.pure (PV.loadOld rfl Tb.one_3 hq2) rfl (by decide) ?_
    refine TL.pure (PV.assign rfl) rfl (by decide) ?_
    refine TL.nil ?_
    refine TQ.thenC ?_
    refine TC.region ?_
    refine TL.pure (PV.move rfl) rfl (by decide) ?_
    refine TL.pure (PV.fieldAddr rfl Tb.fo_24_1) rfl (by decide) ?_
    refine TL.pure (PV.load rfl Tb.one_22 (by repeat (first | exact List.Mem.head _ | refine List.Mem.tail _ ?_ | refine List.mem_append_right _ ?_)) rfl) rfl (by decide) ?_
    refine TL.pure (PV.move rfl) rfl (by decide) ?_
    refine TL.pure (PV.indexA (j := kat ls k) rfl hr2p rfl Tb.elm_22 (by unfold kat; omega) hkl) rfl (by decide) ?_
    refine TL.pure (PV.fieldAddrA rfl Tb.fo_42_2) rfl (by decide) ?_
    refine TL.pure (PV.loadOld rfl Tb.one_3 hr22) rfl (by decide) ?_
    refine TL.pure (PV.add rfl rfl (by omega)) rfl (by decide) ?_
    refine TL.pure (PV.assign rfl) rfl (by decide) ?_
    refine TL.nil ?_
    refine TQ.blkN ?_
    refine TQ.thenC ?_
    refine TC.region ?_
    refine TL.pure (PV.add rfl rfl (by omega)) rfl (by decide) ?_
    refine TL.pure (PV.move rfl) rfl (by decide) ?_
    refine TL.nil ?_
    refine TQ.thenN ?_
    refine TQ.backK (k + 1) (by repeat (first | exact True.intro | refine And.intro rfl ?_)) (by repeat (first | exact True.intro | refine And.intro rfl ?_)) (by repeat (first | exact List.Sublist.slnil | exact List.nil_sublist _ | exact List.Sublist.refl _ | refine List.Sublist.cons_cons _ ?_ | refine List.Sublist.cons _ ?_ | refine List.Sublist.trans ?_ (List.sublist_append_right _ _))) (by omega) (by omega)
  · skip
    refine TC.exit ?_
    refine TQ.thenE ?_
    refine TQ.thenE ?_
    refine TQ.blkS ?_
    refine TQ.thenC ?_
    refine TC.seq ?_
    have e9 : k = ls.length := by omega
    refine TC.region ?_
    refine TL.pure (PV.move rfl) rfl (by decide) ?_
    refine TL.pure (PV.assign rfl) rfl (by decide) ?_
    refine TL.nil ?_
    refine TQ.thenC ?_
    refine TC.ret ?_
    refine TQ.retE1 rfl rfl ?_
    exact ⟨(), by rw [e9]; rfl, trivial, List.nil_sublist _⟩

set_option maxRecDepth 100000 in
set_option maxHeartbeats 1000000 in
theorem clash_ok (w0 : World) (n : Int) (p : Option Addr) (cap : Nat) (rs : List Bd) (hr : BdsAt w0 p rs) (pl : Option Addr) (cl : Nat) (ls : List Int) (hx : IntsAt w0 pl ls) :
    Calls Try.prog 26 #[cv n p rs.length cap, .slice pl ls.length cl] w0 (Post (X := Unit) (fun _ => .int .i64 (clashI n rs ls)) (fun _ => True) (fun _ => []) w0) := by
  refine calls Try.func26 rfl (n := 42) rfl (by simp) ?_
  refine TC.seq ?_
  refine TC.region ?_
  refine TL.box rfl rfl (by decide) (fun b0 hb0 => ?_)
  refine TL.pure (PV.assign rfl) rfl (by decide) ?_
  refine TL.nil ?_
  refine TQ.thenC ?_
  refine TC.seq ?_
  refine TC.seq ?_
  refine TC.region ?_
  refine TL.pure (PV.loadBox rfl Tb.agg_24 (by repeat (first | exact List.Mem.head _ | refine List.Mem.tail _ ?_ | refine List.mem_append_right _ ?_)) rfl) rfl (by decide) ?_
  refine TL.call rfl Tb.gofn_21 (fun a w hs => validate_ok w _ _ _ _ (hr.new hs.new)) rfl (by decide) (fun _ _ => ?_)
  refine TL.pure (PV.assign rfl) rfl (by decide) ?_
  refine TL.nil ?_
  refine TQ.thenC ?_
  refine TC.seq ?_
  refine TC.region ?_
  refine TL.pure (PV.move rfl) rfl (by decide) ?_
  refine TL.pure (PV.neq rfl rfl) rfl (by decide) ?_
  refine TL.nil ?_
  refine TQ.thenC ?_
  first | refine TC.condD rfl (fun hbad => ?_) (fun hbad => ?_) | refine TC.cond rfl (fun hbad => ?_) (fun hbad => ?_)
  · skip
    refine TC.seq ?_
    refine TC.region ?_
    refine TL.pure (PV.move rfl) rfl (by decide) ?_
    refine TL.pure (PV.assign rfl) rfl (by decide) ?_
    refine TL.nil ?_
    refine TQ.thenC ?_
    refine TC.ret ?_
    refine TQ.thenR ?_
    refine TQ.retE1 rfl rfl ?_
    first | exact ⟨(), by rw [clashI, if_pos hbad], trivial, List.nil_sublist _⟩ | exact ⟨(), by rw [clashI, if_neg hbad, if_pos hlong], trivial, List.nil_sublist _⟩ | exact ⟨(), by rw [clashI, if_neg hbad, if_neg hlong, if_neg (not_all (k := k) (by omega) (decide_eq_false (by omega)))], trivial, List.nil_sublist _⟩ | (refine ⟨(), ?_, trivial, List.nil_sublist _⟩; rw [clashI, if_neg hbad, if_neg hlong, if_pos hall]; simp_all; done) | (refine ⟨(), ?_, trivial, List.nil_sublist _⟩; rw [clashI, if_neg hbad, if_neg hlong, if_pos hall, if_pos ⟨by simpa using e2, by omega⟩]) | (refine ⟨(), ?_, trivial, List.nil_sublist _⟩; rw [clashI, if_neg hbad, if_neg hlong, if_pos hall, if_neg (fun h => by have h2 := h.2; omega)])
  · skip
    refine TC.skip ?_
    refine TQ.thenC ?_
    refine TC.seq ?_
    refine TC.seq ?_
    refine TC.region ?_
    refine TL.pure (PV.move rfl) rfl (by decide) ?_
    refine TL.pure (PV.len rfl Tb.sl_25) rfl (by decide) ?_
    refine TL.pure (PV.gtr rfl rfl) rfl (by decide) ?_
    refine TL.nil ?_
    refine TQ.thenC ?_
    first | refine TC.condD rfl (fun hlong => ?_) (fun hlong => ?_) | refine TC.cond rfl (fun hlong => ?_) (fun hlong => ?_)
    · skip
      refine TC.seq ?_
      refine TC.region ?_
      refine TL.pure (PV.assign rfl) rfl (by decide) ?_
      refine TL.nil ?_
      refine TQ.thenC ?_
      refine TC.ret ?_
      refine TQ.thenR ?_
      refine TQ.retE1 rfl rfl ?_
      first | exact ⟨(), by rw [clashI, if_pos hbad], trivial, List.nil_sublist _⟩ | exact ⟨(), by rw [clashI, if_neg hbad, if_pos hlong], trivial, List.nil_sublist _⟩ | exact ⟨(), by rw [clashI, if_neg hbad, if_neg hlong, if_neg (not_all (k := k) (by omega) (decide_eq_false (by omega)))], trivial, List.nil_sublist _⟩ | (refine ⟨(), ?_, trivial, List.nil_sublist _⟩; rw [clashI, if_neg hbad, if_neg hlong, if_pos hall]; simp_all; done) | (refine ⟨(), ?_, trivial, List.nil_sublist _⟩; rw [clashI, if_neg hbad, if_neg hlong, if_pos hall, if_pos ⟨by simpa using e2, by omega⟩]) | (refine ⟨(), ?_, trivial, List.nil_sublist _⟩; rw [clashI, if_neg hbad, if_neg hlong, if_pos hall, if_neg (fun h => by have h2 := h.2; omega)])
    · skip
      refine TC.skip ?_
      refine TQ.thenC ?_
      refine TC.seq ?_
      refine TC.seq ?_
      refine TC.region ?_
      refine TL.pure (PV.move rfl) rfl (by decide) ?_
      refine TL.pure (PV.len rfl Tb.sl_25) rfl (by decide) ?_
      refine TL.pure (PV.move rfl) rfl (by decide) ?_
      refine TL.nil ?_
      refine TQ.thenC ?_
      refine TC.block ?_
      -- live and written in the loop, not told: [4]
      refine TC.loopG [1, 2, 16, 17] (X := Nat) (fun k => k ≤ ls.length ∧ ∀ i, i < k → isK rs (ls.getD i 0) = true) (fun k => [(18, .int .i64 k)]) (fun k => ls.length - k) 0 ⟨Nat.zero_le _, fun j hj => absurd hj (Nat.not_lt_zero _)⟩ (by repeat (first | exact True.intro | refine And.intro rfl ?_)) ?_
      intro k hk
      refine TC.seq ?_
      refine TC.region ?_
      refine TL.pure (PV.lss rfl rfl) rfl (by decide) ?_
      refine TL.nil ?_
      refine TQ.thenC ?_
      refine TC.seq ?_
      first | refine TC.condD rfl (fun hlt => ?_) (fun hlt => ?_) | refine TC.cond rfl (fun hlt => ?_) (fun hlt => ?_)
      · skip
        refine TC.skip ?_
        refine TQ.thenC ?_
        refine TC.seq ?_
        refine TC.block ?_
        refine TC.seq ?_
        obtain ⟨q, hqp, hqa⟩ := hx k (by omega)
        refine TC.region ?_
        refine TL.pure (PV.indexA rfl hqp rfl Tb.elm_25 rfl (by omega)) rfl (by decide) ?_
        refine TL.pure (PV.loadOld rfl Tb.one_3 hqa) rfl (by decide) ?_
        refine TL.pure (PV.assign rfl) rfl (by decide) ?_
        refine TL.nil ?_
        refine TQ.thenC ?_
        refine TC.seq ?_
        refine TC.region ?_
        refine TL.pure (PV.move rfl) rfl (by decide) ?_
        refine TL.pure (PV.lss rfl rfl) rfl (by decide) ?_
        refine TL.pure (PV.move rfl) rfl (by decide) ?_
        first | refine TL.splitD 24 rfl (fun e1 => ?_) (fun e1 => ?_) | refine TL.split 24 rfl (fun e1 => ?_) (fun e1 => ?_)
        · skip
          refine TL.skip rfl (fun k hk => by cases hk; decide) ?_
          refine TL.skip rfl (fun k hk => by cases hk; decide) ?_
          refine TL.skip rfl (fun k hk => by cases hk; decide) ?_
          refine TL.skip rfl (fun k hk => by cases hk; decide) ?_
          refine TL.skip rfl (fun k hk => by cases hk; decide) ?_
          refine TL.pure (PV.pickT rfl rfl) rfl (by decide) ?_
          refine TL.nil ?_
          refine TQ.thenC ?_
          refine TC.condT rfl ?_
          refine TC.seq ?_
          refine TC.region ?_
          refine TL.pure (PV.assign rfl) rfl (by decide) ?_
          refine TL.nil ?_
          refine TQ.thenC ?_
          refine TC.ret ?_
          refine TQ.blkR ?_
          refine TQ.thenR ?_
          refine TQ.thenR ?_
          refine TQ.blkR ?_
          refine TQ.thenR ?_
          refine TQ.retE1 rfl rfl ?_
          first | exact ⟨(), by rw [clashI, if_pos hbad], trivial, List.nil_sublist _⟩ | exact ⟨(), by rw [clashI, if_neg hbad, if_pos hlong], trivial, List.nil_sublist _⟩ | exact ⟨(), by rw [clashI, if_neg hbad, if_neg hlong, if_neg (not_all (k := k) (by omega) (decide_eq_false (by omega)))], trivial, List.nil_sublist _⟩ | (refine ⟨(), ?_, trivial, List.nil_sublist _⟩; rw [clashI, if_neg hbad, if_neg hlong, if_pos hall]; simp_all; done) | (refine ⟨(), ?_, trivial, List.nil_sublist _⟩; rw [clashI, if_neg hbad, if_neg hlong, if_pos hall, if_pos ⟨by simpa using e2, by omega⟩]) | (refine ⟨(), ?_, trivial, List.nil_sublist _⟩; rw [clashI, if_neg hbad, if_neg hlong, if_pos hall, if_neg (fun h => by have h2 := h.2; omega)])
        · skip
          refine TL.pure (PV.move rfl) rfl (by decide) ?_
          refine TL.pure (PV.fieldAddr rfl Tb.fo_24_1) rfl (by decide) ?_
          refine TL.pure (PV.load rfl Tb.one_22 (by repeat (first | exact List.Mem.head _ | refine List.Mem.tail _ ?_ | refine List.mem_append_right _ ?_)) rfl) rfl (by decide) ?_
          refine TL.pure (PV.len rfl Tb.sl_22) rfl (by decide) ?_
          refine TL.pure (PV.geq rfl rfl) rfl (by decide) ?_
          refine TL.pure (PV.pickF rfl rfl) rfl (by decide) ?_
          refine TL.nil ?_
          refine TQ.thenC ?_
          first | refine TC.condD rfl (fun hnone => ?_) (fun hnone => ?_) | refine TC.cond rfl (fun hnone => ?_) (fun hnone => ?_)
          · skip
            refine TC.seq ?_
            refine TC.region ?_
            refine TL.pure (PV.assign rfl) rfl (by decide) ?_
            refine TL.nil ?_
            refine TQ.thenC ?_
            refine TC.ret ?_
            refine TQ.blkR ?_
            refine TQ.thenR ?_
            refine TQ.thenR ?_
            refine TQ.blkR ?_
            refine TQ.thenR ?_
            refine TQ.retE1 rfl rfl ?_
            first | exact ⟨(), by rw [clashI, if_pos hbad], trivial, List.nil_sublist _⟩ | exact ⟨(), by rw [clashI, if_neg hbad, if_pos hlong], trivial, List.nil_sublist _⟩ | exact ⟨(), by rw [clashI, if_neg hbad, if_neg hlong, if_neg (not_all (k := k) (by omega) (decide_eq_false (by omega)))], trivial, List.nil_sublist _⟩ | (refine ⟨(), ?_, trivial, List.nil_sublist _⟩; rw [clashI, if_neg hbad, if_neg hlong, if_pos hall]; simp_all; done) | (refine ⟨(), ?_, trivial, List.nil_sublist _⟩; rw [clashI, if_neg hbad, if_neg hlong, if_pos hall, if_pos ⟨by simpa using e2, by omega⟩]) | (refine ⟨(), ?_, trivial, List.nil_sublist _⟩; rw [clashI, if_neg hbad, if_neg hlong, if_pos hall, if_neg (fun h => by have h2 := h.2; omega)])
          · skip
            refine TC.skip ?_
            refine TQ.blkN ?_
            refine TQ.thenC ?_
            refine TC.region ?_
            refine TL.pure (PV.add rfl rfl (by omega)) rfl (by decide) ?_
            refine TL.pure (PV.move rfl) rfl (by decide) ?_
            refine TL.nil ?_
            refine TQ.thenN ?_
            refine TQ.backK (k + 1) (by repeat (first | exact True.intro | refine And.intro rfl ?_)) (by repeat (first | exact True.intro | refine And.intro rfl ?_)) (by repeat (first | exact List.Sublist.slnil | exact List.nil_sublist _ | exact List.Sublist.refl _ | refine List.Sublist.cons_cons _ ?_ | refine List.Sublist.cons _ ?_ | refine List.Sublist.trans ?_ (List.sublist_append_right _ _))) ⟨by omega, fun j hj => if e : j < k then hk.2 j e else (show k = j by omega) ▸ decide_eq_true (by omega)⟩ (by omega)
      · skip
        refine TC.exit ?_
        refine TQ.thenE ?_
        refine TQ.thenE ?_
        refine TQ.blkS ?_
        refine TQ.thenC ?_
        refine TC.seq ?_
        refine TC.seq ?_
        have hv := vof hbad
        have hka : ∀ i, i < ls.length → isK rs (ls.getD i 0) = true := fun i hi => hk.2 i (by omega)
        have hks := ks_of hka
        have hall := all_of hka
        refine TC.region ?_
        refine TL.pure (PV.loadBox rfl Tb.agg_24 (by repeat (first | exact List.Mem.head _ | refine List.Mem.tail _ ?_ | refine List.mem_append_right _ ?_)) rfl) rfl (by decide) ?_
        refine TL.pure (PV.move rfl) rfl (by decide) ?_
        refine TL.call rfl Tb.gofn_66 (fun a w hs => isRound_ok w _ _ _ _ (hr.new hs.new) _ _ _ (hx.new hs.new) hv hks (by omega)) rfl (by decide) (fun _ _ => ?_)
        refine TL.pure ((by first | exact PV.notD rfl | exact PV.not rfl)) rfl (by decide) ?_
        refine TL.pure (PV.move rfl) rfl (by decide) ?_
        first | refine TL.splitD 36 rfl (fun e2 => ?_) (fun e2 => ?_) | refine TL.split 36 rfl (fun e2 => ?_) (fun e2 => ?_)
        · skip
          refine TL.skip rfl (fun k hk => by cases hk; decide) ?_
          refine TL.skip rfl (fun k hk => by cases hk; decide) ?_
          refine TL.skip rfl (fun k hk => by cases hk; decide) ?_
          refine TL.skip rfl (fun k hk => by cases hk; decide) ?_
          refine TL.pure (PV.pickT rfl rfl) rfl (by decide) ?_
          refine TL.nil ?_
          refine TQ.thenC ?_
          refine TC.condT rfl ?_
          refine TC.seq ?_
          refine TC.region ?_
          refine TL.pure (PV.assign rfl) rfl (by decide) ?_
          refine TL.nil ?_
          refine TQ.thenC ?_
          refine TC.ret ?_
          refine TQ.thenR ?_
          refine TQ.retE1 rfl rfl ?_
          first | exact ⟨(), by rw [clashI, if_pos hbad], trivial, List.nil_sublist _⟩ | exact ⟨(), by rw [clashI, if_neg hbad, if_pos hlong], trivial, List.nil_sublist _⟩ | exact ⟨(), by rw [clashI, if_neg hbad, if_neg hlong, if_neg (not_all (k := k) (by omega) (decide_eq_false (by omega)))], trivial, List.nil_sublist _⟩ | (refine ⟨(), ?_, trivial, List.nil_sublist _⟩; rw [clashI, if_neg hbad, if_neg hlong, if_pos hall]; simp_all; done) | (refine ⟨(), ?_, trivial, List.nil_sublist _⟩; rw [clashI, if_neg hbad, if_neg hlong, if_pos hall, if_pos ⟨by simpa using e2, by omega⟩]) | (refine ⟨(), ?_, trivial, List.nil_sublist _⟩; rw [clashI, if_neg hbad, if_neg hlong, if_pos hall, if_neg (fun h => by have h2 := h.2; omega)])
        · skip
          refine TL.pure (PV.loadBox rfl Tb.agg_24 (by repeat (first | exact List.Mem.head _ | refine List.Mem.tail _ ?_ | refine List.mem_append_right _ ?_)) rfl) rfl (by decide) ?_
          refine TL.pure (PV.move rfl) rfl (by decide) ?_
          refine TL.call rfl Tb.gofn_67 (fun a w hs => sumOf_ok w _ _ _ _ (hr.new hs.new) _ _ _ (hx.new hs.new) hv hks (by omega)) rfl (by decide) (fun _ _ => ?_)
          refine TL.pure (PV.geq rfl rfl) rfl (by decide) ?_
          refine TL.pure (PV.pickF rfl rfl) rfl (by decide) ?_
          refine TL.nil ?_
          refine TQ.thenC ?_
          first | refine TC.condD rfl (fun hno => ?_) (fun hno => ?_) | refine TC.cond rfl (fun hno => ?_) (fun hno => ?_)
          · skip
            refine TC.seq ?_
            refine TC.region ?_
            refine TL.pure (PV.assign rfl) rfl (by decide) ?_
            refine TL.nil ?_
            refine TQ.thenC ?_
            refine TC.ret ?_
            refine TQ.thenR ?_
            refine TQ.retE1 rfl rfl ?_
            first | exact ⟨(), by rw [clashI, if_pos hbad], trivial, List.nil_sublist _⟩ | exact ⟨(), by rw [clashI, if_neg hbad, if_pos hlong], trivial, List.nil_sublist _⟩ | exact ⟨(), by rw [clashI, if_neg hbad, if_neg hlong, if_neg (not_all (k := k) (by omega) (decide_eq_false (by omega)))], trivial, List.nil_sublist _⟩ | (refine ⟨(), ?_, trivial, List.nil_sublist _⟩; rw [clashI, if_neg hbad, if_neg hlong, if_pos hall]; simp_all; done) | (refine ⟨(), ?_, trivial, List.nil_sublist _⟩; rw [clashI, if_neg hbad, if_neg hlong, if_pos hall, if_pos ⟨by simpa using e2, by omega⟩]) | (refine ⟨(), ?_, trivial, List.nil_sublist _⟩; rw [clashI, if_neg hbad, if_neg hlong, if_pos hall, if_neg (fun h => by have h2 := h.2; omega)])
          · skip
            refine TC.skip ?_
            refine TQ.thenC ?_
            refine TC.seq ?_
            refine TC.region ?_
            refine TL.pure (PV.assign rfl) rfl (by decide) ?_
            refine TL.nil ?_
            refine TQ.thenC ?_
            refine TC.ret ?_
            refine TQ.retE1 rfl rfl ?_
            first | exact ⟨(), by rw [clashI, if_pos hbad], trivial, List.nil_sublist _⟩ | exact ⟨(), by rw [clashI, if_neg hbad, if_pos hlong], trivial, List.nil_sublist _⟩ | exact ⟨(), by rw [clashI, if_neg hbad, if_neg hlong, if_neg (not_all (k := k) (by omega) (decide_eq_false (by omega)))], trivial, List.nil_sublist _⟩ | (refine ⟨(), ?_, trivial, List.nil_sublist _⟩; rw [clashI, if_neg hbad, if_neg hlong, if_pos hall]; simp_all; done) | (refine ⟨(), ?_, trivial, List.nil_sublist _⟩; rw [clashI, if_neg hbad, if_neg hlong, if_pos hall, if_pos ⟨by simpa using e2, by omega⟩]) | (refine ⟨(), ?_, trivial, List.nil_sublist _⟩; rw [clashI, if_neg hbad, if_neg hlong, if_pos hall, if_neg (fun h => by have h2 := h.2; omega)])

end Go.Proofs.Ytenalmddoljhoaa
