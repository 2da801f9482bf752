/- What clashes, what is tightest, fixed, or follows, by the document: contracts. -/
import Derived.Test.YtenalmddoljhoaaWC
set_option linter.unusedVariables false
set_option linter.unusedSimpArgs false
namespace Go.Proofs.Ytenalmddoljhoaa
open Go.Sx Go.RowKit

theorem walksN_ok (w0 : World) (N : Nat) (p : Option Addr) (cap : Nat) (rs : List Bd) (hr : BdsAt w0 p rs) (hv : Valid (N : Int) rs) (B : Nat) (hB : B ≤ 8) :
    Calls Try.prog 72 #[cv (N : Int) p rs.length cap, .int .i64 B] w0 (Post (X := Nat × Nat × List Row) (fun x => .tuple #[.slice (some ⟨x.1, 0, none⟩) N N, .slice (some ⟨x.2.1, 0, none⟩) N N]) (fun x => WR N rs B N x.2.2) (fun x => fB x.2.2 [(x.1, Obj.cells (fS N x.2.2).toArray 25 (0, 0)), (x.2.1, Obj.cells (fK N x.2.2).toArray 83 (0, 0))]) w0) := by
  have h := walks_ok w0 N p cap rs hr hv B hB
  simpa only [Int.toNat_natCast] using h
theorem any_yes {N k : Nat} {f : Nat → Bool} (hk : k < N) (h : f k = true) : (List.range N).any f = true := List.any_eq_true.2 ⟨k, List.mem_range.2 hk, h⟩
theorem any_no {N : Nat} {f : Nat → Bool} (h : ∀ k, k < N → f k = false) : (List.range N).any f = false := by
  rw [Bool.eq_false_iff]
  intro h1
  obtain ⟨k, hk, h2⟩ := List.any_eq_true.1 h1
  rw [h k (List.mem_range.1 hk)] at h2
  cases h2
theorem lay_rng2 {n : Int} {rs : List Bd} {a b : Int} (h : layI n rs [a, b] = 0) : (0 ≤ a ∧ a < n) ∧ (0 ≤ b ∧ b < n) := by
  unfold layI at h
  by_cases h1 : validateI n rs ≠ 0
  · rw [if_pos h1] at h; exact absurd h h1
  · rw [if_neg h1] at h
    by_cases h2 : [a, b].all (isLayerB n) = true
    · have h3 := List.all_eq_true.1 h2
      exact ⟨of_decide_eq_true (h3 a (by simp)), of_decide_eq_true (h3 b (by simp))⟩
    · rw [if_neg h2] at h; cases h
theorem pof_rng2 {n : Int} {rs : List Bd} {a b : Int} (h : pofI n rs [a, b] = 0) : (0 ≤ a ∧ a < n) ∧ (0 ≤ b ∧ b < n) := by
  unfold pofI at h
  by_cases h1 : layI n rs [a, b] ≠ 0
  · rw [if_pos h1] at h; exact absurd h h1
  · exact lay_rng2 (Decidable.of_not_not h1)
theorem pof_dok {n : Int} {rs : List Bd} {ls : List Int} (h : pofI n rs ls = 0) : dOk n rs = true := by
  unfold pofI at h
  by_cases h1 : layI n rs ls ≠ 0
  · rw [if_pos h1] at h; exact absurd h h1
  · rw [if_neg h1] at h
    by_cases h2 : dOk n rs = true
    · exact h2
    · rw [if_neg h2] at h; cases h
theorem dok_valid {n : Int} {rs : List Bd} (h : dOk n rs = true) : Valid n rs := (of_decide_eq_true h).1
theorem pofL_is {n : Int} {rs : List Bd} {ls : List Int} (h : pofI n rs ls = 0) : pofL n rs ls = plainB n.toNat rs := if_pos h
theorem pofL_bd {n : Int} {rs : List Bd} {ls : List Int} : ∀ r ∈ pofL n rs ls, -1000000000 ≤ r.m ∧ r.m ≤ 1000000000 := by
  intro r hr
  by_cases h : pofI n rs ls = 0
  · rw [pofL_is h] at hr
    exact (plain_pb (dok_valid (pof_dok h)) n.toNat (Nat.le_refl _)).2 r hr
  · unfold pofL at hr; rw [if_neg h] at hr; cases hr
theorem fndM_bd {l : List Bd} (h : ∀ r ∈ l, -1000000000 ≤ r.m ∧ r.m ≤ 1000000000) (a b : Int) : -1000000000 ≤ fndM l a b ∧ fndM l a b ≤ 1000000000 := by
  unfold fndM
  split
  · omega
  · cases h1 : findB a b l with
    | none => simp
    | some m => exact h _ (mem_of_find h1)
theorem pof_v {n : Int} {rs : List Bd} {a b : Int} (h : validateI n rs ≠ 0) : pofI n rs [a, b] = validateI n rs := by
  have e : layI n rs [a, b] = validateI n rs := if_pos h
  unfold pofI; rw [e, if_pos h]
theorem pof_l {n : Int} {rs : List Bd} {a b : Int} (h : ¬ validateI n rs ≠ 0) (h2 : ¬ ((0 ≤ a ∧ a ≤ n - 1) ∧ (0 ≤ b ∧ b ≤ n - 1))) : pofI n rs [a, b] = 4 := by
  have e : layI n rs [a, b] = 4 := by
    unfold layI
    rw [if_neg h, if_neg]
    intro h3
    have h4 := List.all_eq_true.1 h3
    have h5 := of_decide_eq_true (h4 a (by simp))
    have h6 := of_decide_eq_true (h4 b (by simp))
    omega
  unfold pofI; rw [e]; rfl
theorem pof_c {n : Int} {rs : List Bd} {a b : Int} (h : ¬ validateI n rs ≠ 0) (h2 : (0 ≤ a ∧ a ≤ n - 1) ∧ (0 ≤ b ∧ b ≤ n - 1)) : pofI n rs [a, b] = if dOk n rs = true then 0 else 10 := by
  have e : layI n rs [a, b] = 0 := by
    unfold layI
    rw [if_neg h, if_pos]
    refine List.all_eq_true.2 fun x hx => ?_
    simp only [List.mem_cons, List.not_mem_nil, or_false] at hx
    rcases hx with rfl | rfl <;> exact decide_eq_true (by omega)
  unfold pofI; rw [e, if_neg (by simp)]
theorem tg_pl {N : Nat} {rs : List Bd} {a b : Int} (h : pofI (N : Int) rs [a, b] = 0) : tgB N rs a b = wK N rs a.toNat b.toNat ∧ tgM N rs a b = if wK N rs a.toNat b.toNat = true then wS N rs a.toNat b.toNat else 0 := by
  obtain ⟨ha, hb⟩ := pof_rng2 h
  have h1 := fnd_pl (pof_dok h) ha hb
  rw [Int.toNat_natCast] at h1
  unfold tgB tgM
  rw [if_neg (by simp [h]), if_neg (by simp [h]), pofL_is h, Int.toNat_natCast]
  exact h1
def fxB (l : List Bd) (a b : Int) : Bool := fndB l a b && fndB l b a && decide (fndM l a b = -fndM l b a)
def fxM (l : List Bd) (a b : Int) : Int := if fxB l a b = true then fndM l a b else 0
def fiB (n : Int) (rs : List Bd) (a b : Int) : Bool := if pofI n rs [a, b] ≠ 0 then false else fxB (pofL n rs [a, b]) a b
def fiM (n : Int) (rs : List Bd) (a b : Int) : Int := if pofI n rs [a, b] ≠ 0 then 0 else fxM (pofL n rs [a, b]) a b
theorem fi_pl {N : Nat} {rs : List Bd} {a b : Int} (h : pofI (N : Int) rs [a, b] = 0) : (fiB N rs a b = true ↔ (wK N rs a.toNat b.toNat = true ∧ wK N rs b.toNat a.toNat = true ∧ wS N rs a.toNat b.toNat = -wS N rs b.toNat a.toNat)) ∧ (fiB N rs a b = true → fiM N rs a b = wS N rs a.toNat b.toNat) ∧ (¬ fiB N rs a b = true → fiM N rs a b = 0) := by
  obtain ⟨ha, hb⟩ := pof_rng2 h
  have h1 := fnd_pl (pof_dok h) ha hb
  have h2 := fnd_pl (pof_dok h) hb ha
  rw [Int.toNat_natCast] at h1 h2
  have e1 : fiB N rs a b = fxB (plainB N rs) a b := by unfold fiB; rw [if_neg (by simp [h]), pofL_is h, Int.toNat_natCast]
  have e2 : fiM N rs a b = fxM (plainB N rs) a b := by unfold fiM; rw [if_neg (by simp [h]), pofL_is h, Int.toNat_natCast]
  rw [e1, e2]
  unfold fxM fxB
  rw [h1.1, h1.2, h2.1, h2.2]
  by_cases k1 : wK N rs a.toNat b.toNat = true <;> by_cases k2 : wK N rs b.toNat a.toNat = true <;> simp [k1, k2]
  exact ⟨fun x y => absurd x y, fun x y => absurd y x⟩
theorem walk_sm {N : Nat} {rs : List Bd} (hv : Valid (N : Int) rs) (hN : N ≤ 8) (a b : Nat) : -1000000 ≤ (walkN N rs a N).sm.getD b 0 ∧ (walkN N rs a N).sm.getD b 0 ≤ 1000000 := by
  have := WBd.walk hv N a N b
  omega


set_option maxRecDepth 100000 in
set_option maxHeartbeats 1000000 in
theorem clashes_ok (w0 : World) (n : Int) (p : Option Addr) (cap : Nat) (rs : List Bd) (hr : BdsAt w0 p rs) (hv : Valid n rs) :
    Calls Try.prog 58 #[cv n p rs.length cap] w0 (Post (X := Unit) (fun _ => .bool (clashW n.toNat rs)) (fun _ => True) (fun _ => []) w0) := by
  have hp := hv.pts
  obtain ⟨N, rfl⟩ : ∃ N : Nat, n = N := ⟨n.toNat, by omega⟩
  simp only [Int.toNat_natCast]
  refine calls Try.func58 rfl (n := 27) rfl (by simp) ?_
  refine TC.seq ?_
  refine TC.region ?_
  refine TL.box rfl rfl (by decide) (fun b0 hb0 => ?_)
  refine TL.pure (PV.assign rfl) rfl (by decide) ?_
  refine TL.nil ?_
  refine TQ.thenC ?_
  refine TC.seq ?_
  refine TC.region ?_
  refine TL.pure (PV.loadBox rfl Tb.agg_24 (by repeat (first | exact List.Mem.head _ | refine fB_T ?_ _ | refine List.Mem.tail _ ?_ | refine List.mem_append_right _ ?_)) rfl) rfl (by decide) ?_
  refine TL.pure (PV.fieldAddr rfl Tb.fo_24_0) rfl (by decide) ?_
  refine TL.pure (PV.load rfl Tb.one_3 (by repeat (first | exact List.Mem.head _ | refine fB_T ?_ _ | refine List.Mem.tail _ ?_ | refine List.mem_append_right _ ?_)) rfl) rfl (by decide) ?_
  refine TL.call rfl Tb.gofn_72 (fun a w hs => walksN_ok w N p cap rs (hr.new hs.new) hv N (by omega)) rfl (by decide) (fun xw hxw => ?_)
  refine TL.pure (PV.move rfl) rfl (by decide) ?_
  refine TL.pure (PV.extract rfl rfl) rfl (by decide) ?_
  refine TL.pure (PV.extract rfl rfl) rfl (by decide) ?_
  refine TL.pure (PV.assign rfl) rfl (by decide) ?_
  refine TL.pure (PV.assign rfl) rfl (by decide) ?_
  refine TL.nil ?_
  refine TQ.thenC ?_
  refine TC.seq ?_
  refine TC.seq ?_
  refine TC.region ?_
  refine TL.pure (PV.assign rfl) rfl (by decide) ?_
  refine TL.nil ?_
  refine TQ.thenC ?_
  refine TC.block ?_
  -- live and written in the loop, not told: [2]
  refine TC.lit [(1, _), (2, _), (3, _), (5, _)] (by repeat (first | exact True.intro | refine And.intro rfl ?_)) ?_
  refine TC.loopK [1, 3] (X := Nat) (fun k => k ≤ N ∧ ∀ j, j < k → ¬ (walkN N rs j N).sm.getD j 0 < 0) (fun k => [(5, .int .i64 k)]) (fun k => fB xw.2.2 [(xw.1, Obj.cells (fS N xw.2.2).toArray 25 (0, 0)), (xw.2.1, Obj.cells (fK N xw.2.2).toArray 83 (0, 0))] ++ [(b0, Obj.cells #[.int .i64 N, .slice p rs.length cap] 24 (0, 0))]) (fun k => N - k) 0 ⟨Nat.zero_le _, fun j hj => absurd hj (Nat.not_lt_zero _)⟩ (by repeat (first | exact True.intro | refine And.intro rfl ?_)) (List.Sublist.refl _) ?_
  intro k hk
  refine TC.lit [(1, _), (3, _), (5, _)] (by repeat (first | exact True.intro | refine And.intro rfl ?_)) ?_
  refine TC.seq ?_
  refine TC.seq ?_
  refine TC.region ?_
  refine TL.pure (PV.move rfl) rfl (by decide) ?_
  refine TL.pure (PV.fieldAddr rfl Tb.fo_24_0) rfl (by decide) ?_
  refine TL.pure (PV.load rfl Tb.one_3 (by repeat (first | exact List.Mem.head _ | refine fB_T ?_ _ | refine List.Mem.tail _ ?_ | refine List.mem_append_right _ ?_)) rfl) rfl (by decide) ?_
  refine TL.pure (PV.lss rfl rfl) rfl (by decide) ?_
  refine TL.nil ?_
  refine TQ.thenC ?_
  first | refine TC.condD rfl (fun hlt => ?_) (fun hlt => ?_) | refine TC.cond rfl (fun hlt => ?_) (fun hlt => ?_)
  · skip
    refine TC.skip ?_
    refine TQ.thenC ?_
    refine TC.seq ?_
    refine TC.block ?_
    refine TC.seq ?_
    refine TC.region ?_
    refine TL.pure (PV.move rfl) rfl (by decide) ?_
    refine TL.pure (PV.move rfl) rfl (by decide) ?_
    refine TL.pure (PV.index1 (j := k) rfl rfl Tb.elm_51 rfl (by omega)) rfl (by decide) ?_
    refine TL.pure (PV.loadG' rfl Tb.one_25 (by repeat (first | exact List.mem_append_left _ (fB_T (.head _) _) | refine List.Mem.tail _ ?_ | refine List.mem_append_right _ ?_)) (hxw.getS (a := k) (by omega))) rfl (by decide) ?_
    refine TL.pure (PV.move rfl) rfl (by decide) ?_
    refine TL.pure (PV.indexG (j := k) rfl rfl (hxw.okS _ (hxw.mem (a := k) (by omega))) Tb.elm_25 rfl (by omega)) rfl (by decide) ?_
    refine TL.pure (PV.loadG' rfl Tb.one_3 (by repeat (first | exact List.mem_append_left _ (fB_S (hxw.mem (a := k) (by omega)) _ (mem_gblk (hxw.okS _ (hxw.mem (a := k) (by omega))) (by omega))) | refine List.Mem.tail _ ?_ | refine List.mem_append_right _ ?_)) (ival_at (xs := (walkN N rs (k) N).sm) (by rw [(hxw.at_ (k) (by omega)).1]) (by rw [(WOk.walk N rs (k) N).sl]; omega))) rfl (by decide) ?_
    refine TL.pure (PV.lss rfl rfl) rfl (by decide) ?_
    refine TL.nil ?_
    refine TQ.thenC ?_
    first | refine TC.condD rfl (fun hneg => ?_) (fun hneg => ?_) | refine TC.cond rfl (fun hneg => ?_) (fun hneg => ?_)
    · skip
      refine TC.seq ?_
      refine TC.region ?_
      refine TL.pure (PV.assign rfl) rfl (by decide) ?_
      refine TL.nil ?_
      refine TQ.thenC ?_
      refine TC.ret ?_
      refine TQ.blkR ?_
      refine TQ.thenR ?_
      refine TQ.thenR ?_
      refine TQ.blkR ?_
      refine TQ.thenR ?_
      refine TQ.retE1 rfl rfl ?_
      exact ⟨(), by rw [show clashW N rs = true from any_yes (k := k) (by omega) (decide_eq_true hneg)], trivial, List.nil_sublist _⟩
    · skip
      refine TC.skip ?_
      refine TQ.blkN ?_
      refine TQ.thenC ?_
      refine TC.region ?_
      refine TL.pure (PV.move rfl) rfl (by decide) ?_
      refine TL.pure (PV.add rfl rfl (by omega)) rfl (by decide) ?_
      refine TL.pure (PV.assign rfl) rfl (by decide) ?_
      refine TL.nil ?_
      refine TQ.thenN ?_
      refine TQ.backK (k + 1) (by repeat (first | exact True.intro | refine And.intro rfl ?_)) (by repeat (first | exact True.intro | refine And.intro rfl ?_)) (List.Sublist.refl _) ⟨by omega, fun j hj => if e : j < k then hk.2 j e else (show k = j by omega) ▸ hneg⟩ (by omega)
  · skip
    refine TC.exit ?_
    refine TQ.thenE ?_
    refine TQ.thenE ?_
    refine TQ.blkS ?_
    refine TQ.thenC ?_
    refine TC.seq ?_
    refine TC.region ?_
    refine TL.pure (PV.assign rfl) rfl (by decide) ?_
    refine TL.nil ?_
    refine TQ.thenC ?_
    refine TC.ret ?_
    refine TQ.retE1 rfl rfl ?_
    exact ⟨(), by rw [show clashW N rs = false from any_no fun j hj => decide_eq_false (hk.2 j (by omega))], trivial, List.nil_sublist _⟩

set_option maxRecDepth 100000 in
theorem rPossible_ok (w0 : World) (n : Int) (p : Option Addr) (cap : Nat) (rs : List Bd) (hr : BdsAt w0 p rs) :
    Calls Try.prog 20 #[cv n p rs.length cap] w0 (Post (X := Unit) (fun _ => .tuple #[.bool (dOk n rs), .int .i64 (validateI n rs)]) (fun _ => True) (fun _ => []) w0) := by
  refine calls Try.func20 rfl (n := 13) rfl (by simp) ?_
  refine TC.seq ?_
  refine TC.region ?_
  refine TL.box rfl rfl (by decide) (fun b0 hb0 => ?_)
  refine TL.pure (PV.assign rfl) rfl (by decide) ?_
  refine TL.pure (PV.assign rfl) rfl (by decide) ?_
  refine TL.nil ?_
  refine TQ.thenC ?_
  refine TC.seq ?_
  refine TC.seq ?_
  refine TC.region ?_
  refine TL.pure (PV.loadBox rfl Tb.agg_24 (by repeat (first | exact List.Mem.head _ | refine fB_T ?_ _ | refine List.Mem.tail _ ?_ | refine List.mem_append_right _ ?_)) rfl) rfl (by decide) ?_
  refine TL.call rfl Tb.gofn_22 (fun a w hs => rvalidate_ok w _ _ _ _ (hr.new hs.new)) rfl (by decide) (fun _ _ => ?_)
  refine TL.pure (PV.assign rfl) rfl (by decide) ?_
  refine TL.nil ?_
  refine TQ.thenC ?_
  refine TC.seq ?_
  refine TC.region ?_
  refine TL.pure (PV.move rfl) rfl (by decide) ?_
  refine TL.pure (PV.neq rfl rfl) rfl (by decide) ?_
  refine TL.nil ?_
  refine TQ.thenC ?_
  first | refine TC.condD rfl (fun hbad => ?_) (fun hbad => ?_) | refine TC.cond rfl (fun hbad => ?_) (fun hbad => ?_)
  · skip
    refine TC.seq ?_
    refine TC.region ?_
    refine TL.pure (PV.move rfl) rfl (by decide) ?_
    refine TL.pure (PV.assign rfl) rfl (by decide) ?_
    refine TL.pure (PV.assign rfl) rfl (by decide) ?_
    refine TL.nil ?_
    refine TQ.thenC ?_
    refine TC.ret ?_
    refine TQ.thenR ?_
    refine TQ.retE2 rfl rfl rfl ?_
    have hd : dOk n rs = false := decide_eq_false (fun h => hbad h.1)
    exact ⟨(), by rw [hd], trivial, List.nil_sublist _⟩
  · skip
    refine TC.skip ?_
    refine TQ.thenC ?_
    refine TC.seq ?_
    refine TC.region ?_
    refine TL.pure (PV.loadBox rfl Tb.agg_24 (by repeat (first | exact List.Mem.head _ | refine fB_T ?_ _ | refine List.Mem.tail _ ?_ | refine List.mem_append_right _ ?_)) rfl) rfl (by decide) ?_
    refine TL.call rfl Tb.gofn_58 (fun a w hs => clashes_ok w _ _ _ _ (hr.new hs.new) (vof hbad)) rfl (by decide) (fun _ _ => ?_)
    refine TL.pure ((by first | exact PV.notD rfl | exact PV.not rfl)) rfl (by decide) ?_
    refine TL.pure (PV.assign rfl) rfl (by decide) ?_
    refine TL.pure (PV.assign rfl) rfl (by decide) ?_
    refine TL.nil ?_
    refine TQ.thenC ?_
    refine TC.ret ?_
    refine TQ.retE2 rfl rfl rfl ?_
    exact ⟨(), by rw [clashW_dOk (vof hbad), show validateI n rs = 0 from vof hbad, Bool.not_not], trivial, List.nil_sublist _⟩

set_option maxRecDepth 100000 in
theorem layered_ok (w0 : World) (n : Int) (p : Option Addr) (cap : Nat) (rs : List Bd) (hr : BdsAt w0 p rs) (aa bb : Int) :
    Calls Try.prog 71 #[cv n p rs.length cap, .int .i64 aa, .int .i64 bb] w0 (Post (X := Unit) (fun _ => .int .i64 (pofI n rs [aa, bb])) (fun _ => True) (fun _ => []) w0) := by
  refine calls Try.func71 rfl (n := 29) rfl (by simp) ?_
  refine TC.seq ?_
  refine TC.region ?_
  refine TL.box rfl rfl (by decide) (fun b0 hb0 => ?_)
  refine TL.pure (PV.assign rfl) rfl (by decide) ?_
  refine TL.nil ?_
  refine TQ.thenC ?_
  refine TC.seq ?_
  refine TC.seq ?_
  refine TC.region ?_
  refine TL.pure (PV.loadBox rfl Tb.agg_24 (by repeat (first | exact List.Mem.head _ | refine fB_T ?_ _ | refine List.Mem.tail _ ?_ | refine List.mem_append_right _ ?_)) rfl) rfl (by decide) ?_
  refine TL.call rfl Tb.gofn_22 (fun a w hs => rvalidate_ok w _ _ _ _ (hr.new hs.new)) rfl (by decide) (fun _ _ => ?_)
  refine TL.pure (PV.assign rfl) rfl (by decide) ?_
  refine TL.nil ?_
  refine TQ.thenC ?_
  refine TC.seq ?_
  refine TC.region ?_
  refine TL.pure (PV.move rfl) rfl (by decide) ?_
  refine TL.pure (PV.neq rfl rfl) rfl (by decide) ?_
  refine TL.nil ?_
  refine TQ.thenC ?_
  first | refine TC.condD rfl (fun hbad => ?_) (fun hbad => ?_) | refine TC.cond rfl (fun hbad => ?_) (fun hbad => ?_)
  · skip
    refine TC.seq ?_
    refine TC.region ?_
    refine TL.pure (PV.move rfl) rfl (by decide) ?_
    refine TL.pure (PV.assign rfl) rfl (by decide) ?_
    refine TL.nil ?_
    refine TQ.thenC ?_
    refine TC.ret ?_
    refine TQ.thenR ?_
    refine TQ.retE1 rfl rfl ?_
    exact ⟨(), by rw [pof_v hbad], trivial, List.nil_sublist _⟩
  · skip
    refine TC.skip ?_
    refine TQ.thenC ?_
    refine TC.seq ?_
    refine TC.seq ?_
    have hv := vof hbad
    have hp := hv.pts
    refine TC.region ?_
    refine TL.pure (PV.move rfl) rfl (by decide) ?_
    refine TL.pure (PV.fieldAddr rfl Tb.fo_24_0) rfl (by decide) ?_
    refine TL.pure (PV.load rfl Tb.one_3 (by repeat (first | exact List.Mem.head _ | refine fB_T ?_ _ | refine List.Mem.tail _ ?_ | refine List.mem_append_right _ ?_)) rfl) rfl (by decide) ?_
    refine TL.pure (PV.sub rfl rfl (by omega)) rfl (by decide) ?_
    refine TL.call rfl Tb.gofn_61 (fun a w hs => within_ok _ _ _ _) rfl (by decide) (fun _ _ => ?_)
    refine TL.pure ((by first | exact PV.notD rfl | exact PV.not rfl)) rfl (by decide) ?_
    refine TL.pure (PV.move rfl) rfl (by decide) ?_
    first | refine TL.splitD 19 rfl (fun l1 => ?_) (fun l1 => ?_) | refine TL.split 19 rfl (fun l1 => ?_) (fun l1 => ?_)
    · skip
      refine TL.skip rfl (fun k hk => by cases hk; decide) ?_
      refine TL.skip rfl (fun k hk => by cases hk; decide) ?_
      refine TL.skip rfl (fun k hk => by cases hk; decide) ?_
      refine TL.skip rfl (fun k hk => by cases hk; decide) ?_
      refine TL.skip rfl (fun k hk => by cases hk; decide) ?_
      refine TL.skip rfl (fun k hk => by cases hk; decide) ?_
      refine TL.pure (PV.pickT rfl rfl) rfl (by decide) ?_
      refine TL.nil ?_
      refine TQ.thenC ?_
      refine TC.condT rfl ?_
      refine TC.seq ?_
      refine TC.region ?_
      refine TL.pure (PV.assign rfl) rfl (by decide) ?_
      refine TL.nil ?_
      refine TQ.thenC ?_
      refine TC.ret ?_
      refine TQ.thenR ?_
      refine TQ.retE1 rfl rfl ?_
      first | exact ⟨(), by rw [pof_l hbad (by first | (simp_all; done) | (simp_all; omega))], trivial, List.nil_sublist _⟩ | exact ⟨(), by rw [pof_l hbad (by simp_all)], trivial, List.nil_sublist _⟩
    · skip
      refine TL.pure (PV.move rfl) rfl (by decide) ?_
      refine TL.pure (PV.fieldAddr rfl Tb.fo_24_0) rfl (by decide) ?_
      refine TL.pure (PV.load rfl Tb.one_3 (by repeat (first | exact List.Mem.head _ | refine fB_T ?_ _ | refine List.Mem.tail _ ?_ | refine List.mem_append_right _ ?_)) rfl) rfl (by decide) ?_
      refine TL.pure (PV.sub rfl rfl (by omega)) rfl (by decide) ?_
      refine TL.call rfl Tb.gofn_61 (fun a w hs => within_ok _ _ _ _) rfl (by decide) (fun _ _ => ?_)
      refine TL.pure ((by first | exact PV.notD rfl | exact PV.not rfl)) rfl (by decide) ?_
      refine TL.pure (PV.pickF rfl rfl) rfl (by decide) ?_
      refine TL.nil ?_
      refine TQ.thenC ?_
      first | refine TC.condD rfl (fun l2 => ?_) (fun l2 => ?_) | refine TC.cond rfl (fun l2 => ?_) (fun l2 => ?_)
      · skip
        refine TC.seq ?_
        refine TC.region ?_
        refine TL.pure (PV.assign rfl) rfl (by decide) ?_
        refine TL.nil ?_
        refine TQ.thenC ?_
        refine TC.ret ?_
        refine TQ.thenR ?_
        refine TQ.retE1 rfl rfl ?_
        exact ⟨(), by rw [pof_l hbad (by first | (simp_all; done) | (simp_all; omega))], trivial, List.nil_sublist _⟩
      · skip
        refine TC.skip ?_
        refine TQ.thenC ?_
        refine TC.seq ?_
        refine TC.seq ?_
        refine TC.region ?_
        refine TL.pure (PV.loadBox rfl Tb.agg_24 (by repeat (first | exact List.Mem.head _ | refine fB_T ?_ _ | refine List.Mem.tail _ ?_ | refine List.mem_append_right _ ?_)) rfl) rfl (by decide) ?_
        refine TL.call rfl Tb.gofn_58 (fun a w hs => clashes_ok w _ _ _ _ (hr.new hs.new) (vof hbad)) rfl (by decide) (fun _ _ => ?_)
        refine TL.nil ?_
        refine TQ.thenC ?_
        first | refine TC.condD rfl (fun hcl => ?_) (fun hcl => ?_) | refine TC.cond rfl (fun hcl => ?_) (fun hcl => ?_)
        · skip
          refine TC.seq ?_
          refine TC.region ?_
          refine TL.pure (PV.assign rfl) rfl (by decide) ?_
          refine TL.nil ?_
          refine TQ.thenC ?_
          refine TC.ret ?_
          refine TQ.thenR ?_
          refine TQ.retE1 rfl rfl ?_
          exact ⟨(), by rw [pof_c hbad (by first | (simp_all; done) | (simp_all; omega)), if_neg (by rw [clashW_dOk hv] at hcl; simpa using hcl)], trivial, List.nil_sublist _⟩
        · skip
          refine TC.skip ?_
          refine TQ.thenC ?_
          refine TC.seq ?_
          refine TC.region ?_
          refine TL.pure (PV.assign rfl) rfl (by decide) ?_
          refine TL.nil ?_
          refine TQ.thenC ?_
          refine TC.ret ?_
          refine TQ.retE1 rfl rfl ?_
          exact ⟨(), by rw [pof_c hbad (by first | (simp_all; done) | (simp_all; omega)), if_pos (by rw [clashW_dOk hv] at hcl; simpa using hcl)], trivial, List.nil_sublist _⟩

set_option maxRecDepth 100000 in
set_option maxHeartbeats 1000000 in
theorem rTightest_ok (w0 : World) (n : Int) (p : Option Addr) (cap : Nat) (rs : List Bd) (hr : BdsAt w0 p rs) (aa bb : Int) :
    Calls Try.prog 30 #[cv n p rs.length cap, .int .i64 aa, .int .i64 bb] w0 (Post (X := Unit) (fun _ => .tuple #[.int .i64 (tgM n rs aa bb), .bool (tgB n rs aa bb), .int .i64 (pofI n rs [aa, bb])]) (fun _ => True) (fun _ => []) w0) := by
  refine calls Try.func30 rfl (n := 41) rfl (by simp) ?_
  refine TC.seq ?_
  refine TC.region ?_
  refine TL.box rfl rfl (by decide) (fun b0 hb0 => ?_)
  refine TL.pure (PV.assign rfl) rfl (by decide) ?_
  refine TL.pure (PV.assign rfl) rfl (by decide) ?_
  refine TL.pure (PV.assign rfl) rfl (by decide) ?_
  refine TL.nil ?_
  refine TQ.thenC ?_
  refine TC.seq ?_
  refine TC.seq ?_
  refine TC.region ?_
  refine TL.pure (PV.loadBox rfl Tb.agg_24 (by repeat (first | exact List.Mem.head _ | refine fB_T ?_ _ | refine List.Mem.tail _ ?_ | refine List.mem_append_right _ ?_)) rfl) rfl (by decide) ?_
  refine TL.pure (PV.move rfl) rfl (by decide) ?_
  refine TL.pure (PV.move rfl) rfl (by decide) ?_
  refine TL.call rfl Tb.gofn_71 (fun a w hs => layered_ok w _ _ _ _ (hr.new hs.new) aa bb) rfl (by decide) (fun _ _ => ?_)
  refine TL.pure (PV.assign rfl) rfl (by decide) ?_
  refine TL.nil ?_
  refine TQ.thenC ?_
  refine TC.seq ?_
  refine TC.region ?_
  refine TL.pure (PV.move rfl) rfl (by decide) ?_
  refine TL.pure (PV.neq rfl rfl) rfl (by decide) ?_
  refine TL.nil ?_
  refine TQ.thenC ?_
  first | refine TC.condD rfl (fun hbad => ?_) (fun hbad => ?_) | refine TC.cond rfl (fun hbad => ?_) (fun hbad => ?_)
  · skip
    refine TC.seq ?_
    refine TC.region ?_
    refine TL.pure (PV.move rfl) rfl (by decide) ?_
    refine TL.pure (PV.assign rfl) rfl (by decide) ?_
    refine TL.pure (PV.assign rfl) rfl (by decide) ?_
    refine TL.pure (PV.assign rfl) rfl (by decide) ?_
    refine TL.nil ?_
    refine TQ.thenC ?_
    refine TC.ret ?_
    refine TQ.thenR ?_
    refine TQ.retE3 rfl rfl rfl rfl ?_
    exact ⟨(), by rw [tgM, tgB, if_pos hbad, if_pos hbad], trivial, List.nil_sublist _⟩
  · skip
    refine TC.skip ?_
    refine TQ.thenC ?_
    refine TC.seq ?_
    have h0 := Decidable.of_not_not hbad
    obtain ⟨hra, hrb⟩ := pof_rng2 h0
    have hdk := pof_dok h0
    have hv := dok_valid hdk
    have hp := hv.pts
    obtain ⟨N, rfl⟩ : ∃ N : Nat, n = N := ⟨n.toNat, by omega⟩
    refine TC.region ?_
    refine TL.pure (PV.loadBox rfl Tb.agg_24 (by repeat (first | exact List.Mem.head _ | refine fB_T ?_ _ | refine List.Mem.tail _ ?_ | refine List.mem_append_right _ ?_)) rfl) rfl (by decide) ?_
    refine TL.pure (PV.fieldAddr rfl Tb.fo_24_0) rfl (by decide) ?_
    refine TL.pure (PV.load rfl Tb.one_3 (by repeat (first | exact List.Mem.head _ | refine fB_T ?_ _ | refine List.Mem.tail _ ?_ | refine List.mem_append_right _ ?_)) rfl) rfl (by decide) ?_
    refine TL.call rfl Tb.gofn_72 (fun a w hs => walksN_ok w N p cap rs (hr.new hs.new) hv N (by omega)) rfl (by decide) (fun xw hxw => ?_)
    refine TL.pure (PV.move rfl) rfl (by decide) ?_
    refine TL.pure (PV.extract rfl rfl) rfl (by decide) ?_
    refine TL.pure (PV.extract rfl rfl) rfl (by decide) ?_
    refine TL.pure (PV.assign rfl) rfl (by decide) ?_
    refine TL.pure (PV.assign rfl) rfl (by decide) ?_
    refine TL.nil ?_
    refine TQ.thenC ?_
    refine TC.seq ?_
    refine TC.seq ?_
    refine TC.region ?_
    refine TL.pure (PV.move rfl) rfl (by decide) ?_
    refine TL.pure (PV.move rfl) rfl (by decide) ?_
    refine TL.pure (PV.index1 (j := aa.toNat) rfl rfl Tb.elm_80 (Int.toNat_of_nonneg (by omega)).symm (by omega)) rfl (by decide) ?_
    refine TL.pure (PV.loadG' rfl Tb.one_83 (by repeat (first | exact List.mem_append_left _ (fB_T (.tail _ (.head _)) _) | refine List.Mem.tail _ ?_ | refine List.mem_append_right _ ?_)) (hxw.getK (a := aa.toNat) (by omega))) rfl (by decide) ?_
    refine TL.pure (PV.move rfl) rfl (by decide) ?_
    refine TL.pure (PV.indexG (j := bb.toNat) rfl rfl (hxw.okK _ (hxw.mem (a := aa.toNat) (by omega))) Tb.elm_83 (Int.toNat_of_nonneg (by omega)).symm (by omega)) rfl (by decide) ?_
    refine TL.pure (PV.loadG' rfl Tb.one_4 (by repeat (first | exact List.mem_append_left _ (fB_K (hxw.mem (a := aa.toNat) (by omega)) _ (mem_gblk (hxw.okK _ (hxw.mem (a := aa.toNat) (by omega))) (by omega))) | refine List.Mem.tail _ ?_ | refine List.mem_append_right _ ?_)) (bval_at (xs := (walkN N rs (aa.toNat) N).kn) (by rw [(hxw.at_ (aa.toNat) (by omega)).2]) (by rw [(WOk.walk N rs (aa.toNat) N).kl]; omega))) rfl (by decide) ?_
    refine TL.pure ((by first | exact PV.notD rfl | exact PV.not rfl)) rfl (by decide) ?_
    refine TL.nil ?_
    refine TQ.thenC ?_
    first | refine TC.condD rfl (fun hk => ?_) (fun hk => ?_) | refine TC.cond rfl (fun hk => ?_) (fun hk => ?_)
    · skip
      refine TC.seq ?_
      refine TC.region ?_
      refine TL.pure (PV.assign rfl) rfl (by decide) ?_
      refine TL.pure (PV.assign rfl) rfl (by decide) ?_
      refine TL.pure (PV.assign rfl) rfl (by decide) ?_
      refine TL.nil ?_
      refine TQ.thenC ?_
      refine TC.ret ?_
      refine TQ.thenR ?_
      refine TQ.retE3 rfl rfl rfl rfl ?_
      have hk2 : wK N rs aa.toNat bb.toNat = false := by show (walkN N rs aa.toNat N).kn.getD bb.toNat false = false; simpa using hk
      exact ⟨(), by rw [(tg_pl h0).1, (tg_pl h0).2, h0, hk2]; rfl, trivial, List.nil_sublist _⟩
    · skip
      refine TC.skip ?_
      refine TQ.thenC ?_
      refine TC.seq ?_
      refine TC.region ?_
      refine TL.pure (PV.move rfl) rfl (by decide) ?_
      refine TL.pure (PV.move rfl) rfl (by decide) ?_
      refine TL.pure (PV.index1 (j := aa.toNat) rfl rfl Tb.elm_51 (Int.toNat_of_nonneg (by omega)).symm (by omega)) rfl (by decide) ?_
      refine TL.pure (PV.loadG' rfl Tb.one_25 (by repeat (first | exact List.mem_append_left _ (fB_T (.head _) _) | refine List.Mem.tail _ ?_ | refine List.mem_append_right _ ?_)) (hxw.getS (a := aa.toNat) (by omega))) rfl (by decide) ?_
      refine TL.pure (PV.move rfl) rfl (by decide) ?_
      refine TL.pure (PV.indexG (j := bb.toNat) rfl rfl (hxw.okS _ (hxw.mem (a := aa.toNat) (by omega))) Tb.elm_25 (Int.toNat_of_nonneg (by omega)).symm (by omega)) rfl (by decide) ?_
      refine TL.pure (PV.loadG' rfl Tb.one_3 (by repeat (first | exact List.mem_append_left _ (fB_S (hxw.mem (a := aa.toNat) (by omega)) _ (mem_gblk (hxw.okS _ (hxw.mem (a := aa.toNat) (by omega))) (by omega))) | refine List.Mem.tail _ ?_ | refine List.mem_append_right _ ?_)) (ival_at (xs := (walkN N rs (aa.toNat) N).sm) (by rw [(hxw.at_ (aa.toNat) (by omega)).1]) (by rw [(WOk.walk N rs (aa.toNat) N).sl]; omega))) rfl (by decide) ?_
      refine TL.pure (PV.assign rfl) rfl (by decide) ?_
      refine TL.pure (PV.assign rfl) rfl (by decide) ?_
      refine TL.pure (PV.assign rfl) rfl (by decide) ?_
      refine TL.nil ?_
      refine TQ.thenC ?_
      refine TC.ret ?_
      refine TQ.retE3 rfl rfl rfl rfl ?_
      have hk2 : wK N rs aa.toNat bb.toNat = true := by show (walkN N rs aa.toNat N).kn.getD bb.toNat false = true; simpa using hk
      exact ⟨(), by rw [(tg_pl h0).1, (tg_pl h0).2, h0, if_pos hk2, hk2]; rfl, trivial, List.nil_sublist _⟩

set_option maxRecDepth 100000 in
theorem fixed_ok (w0 : World) (h : HD) (l : List Bd) (o : goB h l) (g : BdsAt w0 (gp h) l) (hl : l.length ≤ 1000000) (hm : ∀ r ∈ l, -1000000000 ≤ r.m ∧ r.m ≤ 1000000000) (aa bb : Int) :
    Calls Try.prog 73 #[gval h l.length, .int .i64 aa, .int .i64 bb] w0 (Post (X := Unit) (fun _ => .tuple #[.int .i64 (fxM l aa bb), .bool (fxB l aa bb)]) (fun _ => True) (fun _ => []) w0) := by
  refine calls Try.func73 rfl (n := 39) rfl (by simp) ?_
  refine TC.seq ?_
  refine TC.region ?_
  refine TL.pure (PV.assign rfl) rfl (by decide) ?_
  refine TL.pure (PV.assign rfl) rfl (by decide) ?_
  refine TL.nil ?_
  refine TQ.thenC ?_
  refine TC.seq ?_
  refine TC.region ?_
  refine TL.pure (PV.move rfl) rfl (by decide) ?_
  refine TL.pure (PV.move rfl) rfl (by decide) ?_
  refine TL.pure (PV.move rfl) rfl (by decide) ?_
  refine TL.call rfl Tb.gofn_70 (fun a w hs => find_g w h l o (g.new hs.new) hl aa bb) rfl (by decide) (fun _ _ => ?_)
  refine TL.pure (PV.move rfl) rfl (by decide) ?_
  refine TL.pure (PV.extract rfl rfl) rfl (by decide) ?_
  refine TL.pure (PV.extract rfl rfl) rfl (by decide) ?_
  refine TL.pure (PV.assign rfl) rfl (by decide) ?_
  refine TL.pure (PV.assign rfl) rfl (by decide) ?_
  refine TL.nil ?_
  refine TQ.thenC ?_
  refine TC.seq ?_
  refine TC.region ?_
  refine TL.pure (PV.move rfl) rfl (by decide) ?_
  refine TL.pure (PV.move rfl) rfl (by decide) ?_
  refine TL.pure (PV.move rfl) rfl (by decide) ?_
  refine TL.call rfl Tb.gofn_70 (fun a w hs => find_g w h l o (g.new hs.new) hl bb aa) rfl (by decide) (fun _ _ => ?_)
  refine TL.pure (PV.move rfl) rfl (by decide) ?_
  refine TL.pure (PV.extract rfl rfl) rfl (by decide) ?_
  refine TL.pure (PV.extract rfl rfl) rfl (by decide) ?_
  refine TL.pure (PV.assign rfl) rfl (by decide) ?_
  refine TL.pure (PV.assign rfl) rfl (by decide) ?_
  refine TL.nil ?_
  refine TQ.thenC ?_
  refine TC.seq ?_
  refine TC.seq ?_
  have m1 := fndM_bd hm bb aa
  refine TC.region ?_
  refine TL.pure (PV.move rfl) rfl (by decide) ?_
  refine TL.pure ((by first | exact PV.notD rfl | exact PV.not rfl)) rfl (by decide) ?_
  refine TL.pure (PV.move rfl) rfl (by decide) ?_
  first | refine TL.splitD 28 rfl (fun f1 => ?_) (fun f1 => ?_) | refine TL.split 28 rfl (fun f1 => ?_) (fun f1 => ?_)
  · skip
    refine TL.skip rfl (fun k hk => by cases hk; decide) ?_
    refine TL.skip rfl (fun k hk => by cases hk; decide) ?_
    refine TL.pure (PV.pickT rfl rfl) rfl (by decide) ?_
    refine TL.pure (PV.move rfl) rfl (by decide) ?_
    refine TL.skip rfl (fun k hk => by cases hk; decide) ?_
    refine TL.skip rfl (fun k hk => by cases hk; decide) ?_
    refine TL.skip rfl (fun k hk => by cases hk; decide) ?_
    refine TL.skip rfl (fun k hk => by cases hk; decide) ?_
    refine TL.pure (PV.pickT rfl rfl) rfl (by decide) ?_
    refine TL.nil ?_
    refine TQ.thenC ?_
    refine TC.condT rfl ?_
    refine TC.seq ?_
    refine TC.region ?_
    refine TL.pure (PV.assign rfl) rfl (by decide) ?_
    refine TL.pure (PV.assign rfl) rfl (by decide) ?_
    refine TL.nil ?_
    refine TQ.thenC ?_
    refine TC.ret ?_
    refine TQ.thenR ?_
    refine TQ.retE2 rfl rfl rfl ?_
    first | exact ⟨(), by simp_all [fxM, fxB], trivial, List.nil_sublist _⟩ | (exfalso; simp_all; done)
  · skip
    refine TL.pure (PV.move rfl) rfl (by decide) ?_
    refine TL.pure ((by first | exact PV.notD rfl | exact PV.not rfl)) rfl (by decide) ?_
    refine TL.pure (PV.pickF rfl rfl) rfl (by decide) ?_
    refine TL.pure (PV.move rfl) rfl (by decide) ?_
    first | refine TL.splitD 32 rfl (fun f2 => ?_) (fun f2 => ?_) | refine TL.split 32 rfl (fun f2 => ?_) (fun f2 => ?_)
    · skip
      refine TL.skip rfl (fun k hk => by cases hk; decide) ?_
      refine TL.skip rfl (fun k hk => by cases hk; decide) ?_
      refine TL.skip rfl (fun k hk => by cases hk; decide) ?_
      refine TL.skip rfl (fun k hk => by cases hk; decide) ?_
      refine TL.pure (PV.pickT rfl rfl) rfl (by decide) ?_
      refine TL.nil ?_
      refine TQ.thenC ?_
      refine TC.condT rfl ?_
      refine TC.seq ?_
      refine TC.region ?_
      refine TL.pure (PV.assign rfl) rfl (by decide) ?_
      refine TL.pure (PV.assign rfl) rfl (by decide) ?_
      refine TL.nil ?_
      refine TQ.thenC ?_
      refine TC.ret ?_
      refine TQ.thenR ?_
      refine TQ.retE2 rfl rfl rfl ?_
      first | exact ⟨(), by simp_all [fxM, fxB], trivial, List.nil_sublist _⟩ | (exfalso; simp_all; done)
    · skip
      refine TL.pure (PV.move rfl) rfl (by decide) ?_
      refine TL.pure (PV.move rfl) rfl (by decide) ?_
      refine TL.pure (PV.neg rfl (by omega)) rfl (by decide) ?_
      refine TL.pure (PV.neq rfl rfl) rfl (by decide) ?_
      refine TL.pure (PV.pickF rfl rfl) rfl (by decide) ?_
      refine TL.nil ?_
      refine TQ.thenC ?_
      first | refine TC.condD rfl (fun f3 => ?_) (fun f3 => ?_) | refine TC.cond rfl (fun f3 => ?_) (fun f3 => ?_)
      · skip
        refine TC.seq ?_
        refine TC.region ?_
        refine TL.pure (PV.assign rfl) rfl (by decide) ?_
        refine TL.pure (PV.assign rfl) rfl (by decide) ?_
        refine TL.nil ?_
        refine TQ.thenC ?_
        refine TC.ret ?_
        refine TQ.thenR ?_
        refine TQ.retE2 rfl rfl rfl ?_
        first | exact ⟨(), by simp_all [fxM, fxB], trivial, List.nil_sublist _⟩ | (exfalso; simp_all; done)
      · skip
        refine TC.skip ?_
        refine TQ.thenC ?_
        refine TC.seq ?_
        refine TC.region ?_
        refine TL.pure (PV.move rfl) rfl (by decide) ?_
        refine TL.pure (PV.assign rfl) rfl (by decide) ?_
        refine TL.pure (PV.assign rfl) rfl (by decide) ?_
        refine TL.nil ?_
        refine TQ.thenC ?_
        refine TC.ret ?_
        refine TQ.retE2 rfl rfl rfl ?_
        first | exact ⟨(), by simp_all [fxM, fxB], trivial, List.nil_sublist _⟩ | (exfalso; simp_all; done)

set_option maxRecDepth 100000 in
set_option maxHeartbeats 1000000 in
theorem Fixed_ok (w0 : World) (n : Int) (p : Option Addr) (cap : Nat) (rs : List Bd) (hr : BdsAt w0 p rs) (aa bb : Int) :
    Calls Try.prog 31 #[cv n p rs.length cap, .int .i64 aa, .int .i64 bb] w0 (Post (X := Unit) (fun _ => .tuple #[.int .i64 (fiM n rs aa bb), .bool (fiB n rs aa bb), .int .i64 (pofI n rs [aa, bb])]) (fun _ => True) (fun _ => []) w0) := by
  refine calls Try.func31 rfl (n := 33) rfl (by simp) ?_
  refine TC.seq ?_
  refine TC.region ?_
  refine TL.box rfl rfl (by decide) (fun b0 hb0 => ?_)
  refine TL.pure (PV.assign rfl) rfl (by decide) ?_
  refine TL.pure (PV.assign rfl) rfl (by decide) ?_
  refine TL.pure (PV.assign rfl) rfl (by decide) ?_
  refine TL.nil ?_
  refine TQ.thenC ?_
  refine TC.seq ?_
  refine TC.region ?_
  refine TL.pure (PV.loadBox rfl Tb.agg_24 (by repeat (first | exact List.Mem.head _ | refine fB_T ?_ _ | refine List.Mem.tail _ ?_ | refine List.mem_append_right _ ?_)) rfl) rfl (by decide) ?_
  refine TL.pure (PV.move rfl) rfl (by decide) ?_
  refine TL.pure (PV.move rfl) rfl (by decide) ?_
  refine TL.buildSlice (cs := #[.int .i64 aa, .int .i64 bb]) rfl Tb.sl_25 Tb.zi_3 (by decide) (fill_i2 _ _) (by decide) rfl (by decide) (fun bS hbS => ?_)
  refine TL.call rfl Tb.gofn_69 (fun a w hs => plainOfG_ok w _ _ _ _ (hr.new hs.new) _ 2 [aa, bb] (IntsAt.arr (xs := [aa, bb]) hs.new (by repeat (first | exact List.Mem.head _ | refine List.Mem.tail _ ?_ | refine List.mem_append_right _ ?_))) (show (2 : Nat) ≤ 1000 by decide)) rfl (by decide) (fun h9 hh9 => ?_)
  refine TL.pure (PV.move rfl) rfl (by decide) ?_
  refine TL.pure (PV.extract rfl rfl) rfl (by decide) ?_
  refine TL.pure (PV.extract rfl rfl) rfl (by decide) ?_
  refine TL.pure (PV.assign rfl) rfl (by decide) ?_
  refine TL.pure (PV.assign rfl) rfl (by decide) ?_
  refine TL.nil ?_
  refine TQ.thenC ?_
  refine TC.seq ?_
  refine TC.seq ?_
  refine TC.region ?_
  refine TL.pure (PV.move rfl) rfl (by decide) ?_
  refine TL.pure (PV.neq rfl rfl) rfl (by decide) ?_
  refine TL.nil ?_
  refine TQ.thenC ?_
  first | refine TC.condD rfl (fun hbad => ?_) (fun hbad => ?_) | refine TC.cond rfl (fun hbad => ?_) (fun hbad => ?_)
  · skip
    refine TC.seq ?_
    refine TC.region ?_
    refine TL.pure (PV.move rfl) rfl (by decide) ?_
    refine TL.pure (PV.assign rfl) rfl (by decide) ?_
    refine TL.pure (PV.assign rfl) rfl (by decide) ?_
    refine TL.pure (PV.assign rfl) rfl (by decide) ?_
    refine TL.nil ?_
    refine TQ.thenC ?_
    refine TC.ret ?_
    refine TQ.thenR ?_
    refine TQ.retE3 rfl rfl rfl rfl ?_
    exact ⟨(), by rw [fiM, fiB, if_pos hbad, if_pos hbad], trivial, List.nil_sublist _⟩
  · skip
    refine TC.skip ?_
    refine TQ.thenC ?_
    refine TC.seq ?_
    refine TC.region ?_
    refine TL.pure (PV.move rfl) rfl (by decide) ?_
    refine TL.pure (PV.move rfl) rfl (by decide) ?_
    refine TL.pure (PV.move rfl) rfl (by decide) ?_
    refine TL.call rfl Tb.gofn_73 (fun a w hs => fixed_ok w h9 _ hh9 (BdsAt.s hs.new (fun yy hyy => by repeat (first | exact List.mem_append_left _ hyy | refine List.mem_append_right _ ?_ | refine List.Mem.tail _ ?_)) hh9) pofL_few pofL_bd aa bb) rfl (by decide) (fun _ _ => ?_)
    refine TL.pure (PV.move rfl) rfl (by decide) ?_
    refine TL.pure (PV.extract rfl rfl) rfl (by decide) ?_
    refine TL.pure (PV.extract rfl rfl) rfl (by decide) ?_
    refine TL.pure (PV.assign rfl) rfl (by decide) ?_
    refine TL.pure (PV.assign rfl) rfl (by decide) ?_
    refine TL.nil ?_
    refine TQ.thenC ?_
    refine TC.seq ?_
    refine TC.region ?_
    refine TL.pure (PV.move rfl) rfl (by decide) ?_
    refine TL.pure (PV.move rfl) rfl (by decide) ?_
    refine TL.pure (PV.assign rfl) rfl (by decide) ?_
    refine TL.pure (PV.assign rfl) rfl (by decide) ?_
    refine TL.pure (PV.assign rfl) rfl (by decide) ?_
    refine TL.nil ?_
    refine TQ.thenC ?_
    refine TC.ret ?_
    refine TQ.retE3 rfl rfl rfl rfl ?_
    exact ⟨(), by rw [fiM, fiB, if_neg hbad, if_neg hbad, Decidable.of_not_not hbad], trivial, List.nil_sublist _⟩

set_option maxRecDepth 100000 in
set_option maxHeartbeats 2000000 in
theorem rFixed_ok (w0 : World) (n : Int) (p : Option Addr) (cap : Nat) (rs : List Bd) (hr : BdsAt w0 p rs) (aa bb : Int) :
    Calls Try.prog 32 #[cv n p rs.length cap, .int .i64 aa, .int .i64 bb] w0 (Post (X := Unit) (fun _ => .tuple #[.int .i64 (fiM n rs aa bb), .bool (fiB n rs aa bb), .int .i64 (pofI n rs [aa, bb])]) (fun _ => True) (fun _ => []) w0) := by
  refine calls Try.func32 rfl (n := 69) rfl (by simp) ?_
  refine TC.seq ?_
  refine TC.region ?_
  refine TL.box rfl rfl (by decide) (fun b0 hb0 => ?_)
  refine TL.pure (PV.assign rfl) rfl (by decide) ?_
  refine TL.pure (PV.assign rfl) rfl (by decide) ?_
  refine TL.pure (PV.assign rfl) rfl (by decide) ?_
  refine TL.nil ?_
  refine TQ.thenC ?_
  refine TC.seq ?_
  refine TC.seq ?_
  refine TC.region ?_
  refine TL.pure (PV.loadBox rfl Tb.agg_24 (by repeat (first | exact List.Mem.head _ | refine fB_T ?_ _ | refine List.Mem.tail _ ?_ | refine List.mem_append_right _ ?_)) rfl) rfl (by decide) ?_
  refine TL.pure (PV.move rfl) rfl (by decide) ?_
  refine TL.pure (PV.move rfl) rfl (by decide) ?_
  refine TL.call rfl Tb.gofn_71 (fun a w hs => layered_ok w _ _ _ _ (hr.new hs.new) aa bb) rfl (by decide) (fun _ _ => ?_)
  refine TL.pure (PV.assign rfl) rfl (by decide) ?_
  refine TL.nil ?_
  refine TQ.thenC ?_
  refine TC.seq ?_
  refine TC.region ?_
  refine TL.pure (PV.move rfl) rfl (by decide) ?_
  refine TL.pure (PV.neq rfl rfl) rfl (by decide) ?_
  refine TL.nil ?_
  refine TQ.thenC ?_
  first | refine TC.condD rfl (fun hbad => ?_) (fun hbad => ?_) | refine TC.cond rfl (fun hbad => ?_) (fun hbad => ?_)
  · skip
    refine TC.seq ?_
    refine TC.region ?_
    refine TL.pure (PV.move rfl) rfl (by decide) ?_
    refine TL.pure (PV.assign rfl) rfl (by decide) ?_
    refine TL.pure (PV.assign rfl) rfl (by decide) ?_
    refine TL.pure (PV.assign rfl) rfl (by decide) ?_
    refine TL.nil ?_
    refine TQ.thenC ?_
    refine TC.ret ?_
    refine TQ.thenR ?_
    refine TQ.retE3 rfl rfl rfl rfl ?_
    exact ⟨(), by rw [fiM, fiB, if_pos hbad, if_pos hbad], trivial, List.nil_sublist _⟩
  · skip
    refine TC.skip ?_
    refine TQ.thenC ?_
    refine TC.seq ?_
    have h0 := Decidable.of_not_not hbad
    obtain ⟨hra, hrb⟩ := pof_rng2 h0
    have hdk := pof_dok h0
    have hv := dok_valid hdk
    have hp := hv.pts
    obtain ⟨N, rfl⟩ : ∃ N : Nat, n = N := ⟨n.toNat, by omega⟩
    refine TC.region ?_
    refine TL.pure (PV.loadBox rfl Tb.agg_24 (by repeat (first | exact List.Mem.head _ | refine fB_T ?_ _ | refine List.Mem.tail _ ?_ | refine List.mem_append_right _ ?_)) rfl) rfl (by decide) ?_
    refine TL.pure (PV.fieldAddr rfl Tb.fo_24_0) rfl (by decide) ?_
    refine TL.pure (PV.load rfl Tb.one_3 (by repeat (first | exact List.Mem.head _ | refine fB_T ?_ _ | refine List.Mem.tail _ ?_ | refine List.mem_append_right _ ?_)) rfl) rfl (by decide) ?_
    refine TL.call rfl Tb.gofn_72 (fun a w hs => walksN_ok w N p cap rs (hr.new hs.new) hv N (by omega)) rfl (by decide) (fun xw hxw => ?_)
    refine TL.pure (PV.move rfl) rfl (by decide) ?_
    refine TL.pure (PV.extract rfl rfl) rfl (by decide) ?_
    refine TL.pure (PV.extract rfl rfl) rfl (by decide) ?_
    refine TL.pure (PV.assign rfl) rfl (by decide) ?_
    refine TL.pure (PV.assign rfl) rfl (by decide) ?_
    refine TL.nil ?_
    refine TQ.thenC ?_
    refine TC.seq ?_
    refine TC.seq ?_
    refine TC.lit [(1, _), (2, _), (6, _), (7, _), (8, _), (10, _), (11, _)] (by repeat (first | exact True.intro | refine And.intro rfl ?_)) ?_
    have m1 := walk_sm hv (by omega) bb.toNat aa.toNat
    have m2 := fi_pl h0
    refine TC.any Tb.mixed rfl rfl ?_
    refine TA.op (OpOK.pure (PV.move rfl) rfl (by decide)) (by decide) ?_
    refine TA.op (OpOK.pure (PV.move rfl) rfl (by decide)) (by decide) ?_
    refine TA.op (OpOK.pure (PV.index1 (j := aa.toNat) rfl rfl Tb.elm_80 (Int.toNat_of_nonneg (by omega)).symm (by omega)) rfl (by decide)) (by decide) ?_
    refine TA.op (OpOK.pure (PV.loadG' rfl Tb.one_83 (by repeat (first | exact List.mem_append_left _ (fB_T (.tail _ (.head _)) _) | refine List.Mem.tail _ ?_ | refine List.mem_append_right _ ?_)) (hxw.getK (a := aa.toNat) (by omega))) rfl (by decide)) (by decide) ?_
    refine TA.op (OpOK.pure (PV.move rfl) rfl (by decide)) (by decide) ?_
    refine TA.op (OpOK.pure (PV.indexG (j := bb.toNat) rfl rfl (hxw.okK _ (hxw.mem (a := aa.toNat) (by omega))) Tb.elm_83 (Int.toNat_of_nonneg (by omega)).symm (by omega)) rfl (by decide)) (by decide) ?_
    refine TA.op (OpOK.pure (PV.loadG' rfl Tb.one_4 (by repeat (first | exact List.mem_append_left _ (fB_K (hxw.mem (a := aa.toNat) (by omega)) _ (mem_gblk (hxw.okK _ (hxw.mem (a := aa.toNat) (by omega))) (by omega))) | refine List.Mem.tail _ ?_ | refine List.mem_append_right _ ?_)) (bval_at (xs := (walkN N rs (aa.toNat) N).kn) (by rw [(hxw.at_ (aa.toNat) (by omega)).2]) (by rw [(WOk.walk N rs (aa.toNat) N).kl]; omega))) rfl (by decide)) (by decide) ?_
    refine TA.op (OpOK.pure ((by first | exact PV.notD rfl | exact PV.not rfl)) rfl (by decide)) (by decide) ?_
    refine TA.op (OpOK.pure (PV.move rfl) rfl (by decide)) (by decide) ?_
    first | refine TA.splitD 34 rfl (fun g1 => ?_) (fun g1 => ?_) | refine TA.split 34 rfl (fun g1 => ?_) (fun g1 => ?_)
    · skip
      refine TA.op (OpOK.skip rfl) (by decide) ?_
      refine TA.op (OpOK.skip rfl) (by decide) ?_
      refine TA.op (OpOK.skip rfl) (by decide) ?_
      refine TA.op (OpOK.skip rfl) (by decide) ?_
      refine TA.op (OpOK.skip rfl) (by decide) ?_
      refine TA.op (OpOK.skip rfl) (by decide) ?_
      refine TA.op (OpOK.skip rfl) (by decide) ?_
      refine TA.op (OpOK.skip rfl) (by decide) ?_
      refine TA.op (OpOK.pure (PV.pickT rfl rfl) rfl (by decide)) (by decide) ?_
      refine TA.op (OpOK.pure (PV.move rfl) rfl (by decide)) (by decide) ?_
      refine TA.op (OpOK.skip rfl) (by decide) ?_
      refine TA.op (OpOK.skip rfl) (by decide) ?_
      refine TA.op (OpOK.skip rfl) (by decide) ?_
      refine TA.op (OpOK.skip rfl) (by decide) ?_
      refine TA.op (OpOK.skip rfl) (by decide) ?_
      refine TA.op (OpOK.skip rfl) (by decide) ?_
      refine TA.op (OpOK.skip rfl) (by decide) ?_
      refine TA.op (OpOK.skip rfl) (by decide) ?_
      refine TA.op (OpOK.skip rfl) (by decide) ?_
      refine TA.op (OpOK.skip rfl) (by decide) ?_
      refine TA.op (OpOK.skip rfl) (by decide) ?_
      refine TA.op (OpOK.skip rfl) (by decide) ?_
      refine TA.op (OpOK.skip rfl) (by decide) ?_
      refine TA.op (OpOK.skip rfl) (by decide) ?_
      refine TA.op (OpOK.skip rfl) (by decide) ?_
      refine TA.op (OpOK.skip rfl) (by decide) ?_
      refine TA.op (OpOK.pure (PV.pickT rfl rfl) rfl (by decide)) (by decide) ?_
      show TQ _ _ _ _ _
      refine TQ.thenC ?_
      refine TC.condT rfl ?_
      refine TC.seq ?_
      refine TC.region ?_
      refine TL.pure (PV.assign rfl) rfl (by decide) ?_
      refine TL.pure (PV.assign rfl) rfl (by decide) ?_
      refine TL.pure (PV.assign rfl) rfl (by decide) ?_
      refine TL.nil ?_
      refine TQ.thenC ?_
      refine TC.ret ?_
      refine TQ.thenR ?_
      refine TQ.retE3 rfl rfl rfl rfl ?_
      have hz : ¬ fiB (N : Int) rs aa bb = true := fun h => by have k : (walkN N rs aa.toNat N).kn.getD bb.toNat false = true := (m2.1.1 h).1; rw [k] at g1; cases g1
      exact ⟨(), by rw [m2.2.2 hz, h0, show fiB (N : Int) rs aa bb = false by simpa using hz], trivial, List.nil_sublist _⟩
    · skip
      refine TA.op (OpOK.pure (PV.move rfl) rfl (by decide)) (by decide) ?_
      refine TA.op (OpOK.pure (PV.move rfl) rfl (by decide)) (by decide) ?_
      refine TA.op (OpOK.pure (PV.index1 (j := bb.toNat) rfl rfl Tb.elm_80 (Int.toNat_of_nonneg (by omega)).symm (by omega)) rfl (by decide)) (by decide) ?_
      refine TA.op (OpOK.pure (PV.loadG' rfl Tb.one_83 (by repeat (first | exact List.mem_append_left _ (fB_T (.tail _ (.head _)) _) | refine List.Mem.tail _ ?_ | refine List.mem_append_right _ ?_)) (hxw.getK (a := bb.toNat) (by omega))) rfl (by decide)) (by decide) ?_
      refine TA.op (OpOK.pure (PV.move rfl) rfl (by decide)) (by decide) ?_
      refine TA.op (OpOK.pure (PV.indexG (j := aa.toNat) rfl rfl (hxw.okK _ (hxw.mem (a := bb.toNat) (by omega))) Tb.elm_83 (Int.toNat_of_nonneg (by omega)).symm (by omega)) rfl (by decide)) (by decide) ?_
      refine TA.op (OpOK.pure (PV.loadG' rfl Tb.one_4 (by repeat (first | exact List.mem_append_left _ (fB_K (hxw.mem (a := bb.toNat) (by omega)) _ (mem_gblk (hxw.okK _ (hxw.mem (a := bb.toNat) (by omega))) (by omega))) | refine List.Mem.tail _ ?_ | refine List.mem_append_right _ ?_)) (bval_at (xs := (walkN N rs (bb.toNat) N).kn) (by rw [(hxw.at_ (bb.toNat) (by omega)).2]) (by rw [(WOk.walk N rs (bb.toNat) N).kl]; omega))) rfl (by decide)) (by decide) ?_
      refine TA.op (OpOK.pure ((by first | exact PV.notD rfl | exact PV.not rfl)) rfl (by decide)) (by decide) ?_
      refine TA.op (OpOK.pure (PV.pickF rfl rfl) rfl (by decide)) (by decide) ?_
      refine TA.op (OpOK.pure (PV.move rfl) rfl (by decide)) (by decide) ?_
      first | refine TA.splitD 44 rfl (fun g2 => ?_) (fun g2 => ?_) | refine TA.split 44 rfl (fun g2 => ?_) (fun g2 => ?_)
      · skip
        refine TA.op (OpOK.skip rfl) (by decide) ?_
        refine TA.op (OpOK.skip rfl) (by decide) ?_
        refine TA.op (OpOK.skip rfl) (by decide) ?_
        refine TA.op (OpOK.skip rfl) (by decide) ?_
        refine TA.op (OpOK.skip rfl) (by decide) ?_
        refine TA.op (OpOK.skip rfl) (by decide) ?_
        refine TA.op (OpOK.skip rfl) (by decide) ?_
        refine TA.op (OpOK.skip rfl) (by decide) ?_
        refine TA.op (OpOK.skip rfl) (by decide) ?_
        refine TA.op (OpOK.skip rfl) (by decide) ?_
        refine TA.op (OpOK.skip rfl) (by decide) ?_
        refine TA.op (OpOK.skip rfl) (by decide) ?_
        refine TA.op (OpOK.skip rfl) (by decide) ?_
        refine TA.op (OpOK.skip rfl) (by decide) ?_
        refine TA.op (OpOK.skip rfl) (by decide) ?_
        refine TA.op (OpOK.skip rfl) (by decide) ?_
        refine TA.op (OpOK.pure (PV.pickT rfl rfl) rfl (by decide)) (by decide) ?_
        show TQ _ _ _ _ _
        refine TQ.thenC ?_
        refine TC.condT rfl ?_
        refine TC.seq ?_
        refine TC.region ?_
        refine TL.pure (PV.assign rfl) rfl (by decide) ?_
        refine TL.pure (PV.assign rfl) rfl (by decide) ?_
        refine TL.pure (PV.assign rfl) rfl (by decide) ?_
        refine TL.nil ?_
        refine TQ.thenC ?_
        refine TC.ret ?_
        refine TQ.thenR ?_
        refine TQ.retE3 rfl rfl rfl rfl ?_
        have hz : ¬ fiB (N : Int) rs aa bb = true := fun h => by have k : (walkN N rs bb.toNat N).kn.getD aa.toNat false = true := (m2.1.1 h).2.1; rw [k] at g2; cases g2
        exact ⟨(), by rw [m2.2.2 hz, h0, show fiB (N : Int) rs aa bb = false by simpa using hz], trivial, List.nil_sublist _⟩
      · skip
        refine TA.op (OpOK.pure (PV.move rfl) rfl (by decide)) (by decide) ?_
        refine TA.op (OpOK.pure (PV.move rfl) rfl (by decide)) (by decide) ?_
        refine TA.op (OpOK.pure (PV.index1 (j := aa.toNat) rfl rfl Tb.elm_51 (Int.toNat_of_nonneg (by omega)).symm (by omega)) rfl (by decide)) (by decide) ?_
        refine TA.op (OpOK.pure (PV.loadG' rfl Tb.one_25 (by repeat (first | exact List.mem_append_left _ (fB_T (.head _) _) | refine List.Mem.tail _ ?_ | refine List.mem_append_right _ ?_)) (hxw.getS (a := aa.toNat) (by omega))) rfl (by decide)) (by decide) ?_
        refine TA.op (OpOK.pure (PV.move rfl) rfl (by decide)) (by decide) ?_
        refine TA.op (OpOK.pure (PV.indexG (j := bb.toNat) rfl rfl (hxw.okS _ (hxw.mem (a := aa.toNat) (by omega))) Tb.elm_25 (Int.toNat_of_nonneg (by omega)).symm (by omega)) rfl (by decide)) (by decide) ?_
        refine TA.op (OpOK.pure (PV.loadG' rfl Tb.one_3 (by repeat (first | exact List.mem_append_left _ (fB_S (hxw.mem (a := aa.toNat) (by omega)) _ (mem_gblk (hxw.okS _ (hxw.mem (a := aa.toNat) (by omega))) (by omega))) | refine List.Mem.tail _ ?_ | refine List.mem_append_right _ ?_)) (ival_at (xs := (walkN N rs (aa.toNat) N).sm) (by rw [(hxw.at_ (aa.toNat) (by omega)).1]) (by rw [(WOk.walk N rs (aa.toNat) N).sl]; omega))) rfl (by decide)) (by decide) ?_
        refine TA.op (OpOK.pure (PV.move rfl) rfl (by decide)) (by decide) ?_
        refine TA.op (OpOK.pure (PV.move rfl) rfl (by decide)) (by decide) ?_
        refine TA.op (OpOK.pure (PV.index1 (j := bb.toNat) rfl rfl Tb.elm_51 (Int.toNat_of_nonneg (by omega)).symm (by omega)) rfl (by decide)) (by decide) ?_
        refine TA.op (OpOK.pure (PV.loadG' rfl Tb.one_25 (by repeat (first | exact List.mem_append_left _ (fB_T (.head _) _) | refine List.Mem.tail _ ?_ | refine List.mem_append_right _ ?_)) (hxw.getS (a := bb.toNat) (by omega))) rfl (by decide)) (by decide) ?_
        refine TA.op (OpOK.pure (PV.move rfl) rfl (by decide)) (by decide) ?_
        refine TA.op (OpOK.pure (PV.indexG (j := aa.toNat) rfl rfl (hxw.okS _ (hxw.mem (a := bb.toNat) (by omega))) Tb.elm_25 (Int.toNat_of_nonneg (by omega)).symm (by omega)) rfl (by decide)) (by decide) ?_
        refine TA.op (OpOK.pure (PV.loadG' rfl Tb.one_3 (by repeat (first | exact List.mem_append_left _ (fB_S (hxw.mem (a := bb.toNat) (by omega)) _ (mem_gblk (hxw.okS _ (hxw.mem (a := bb.toNat) (by omega))) (by omega))) | refine List.Mem.tail _ ?_ | refine List.mem_append_right _ ?_)) (ival_at (xs := (walkN N rs (bb.toNat) N).sm) (by rw [(hxw.at_ (bb.toNat) (by omega)).1]) (by rw [(WOk.walk N rs (bb.toNat) N).sl]; omega))) rfl (by decide)) (by decide) ?_
        refine TA.op (OpOK.pure (PV.neg rfl (by omega)) rfl (by decide)) (by decide) ?_
        refine TA.op (OpOK.pure (PV.neq rfl rfl) rfl (by decide)) (by decide) ?_
        refine TA.op (OpOK.pure (PV.pickF rfl rfl) rfl (by decide)) (by decide) ?_
        show TQ _ _ _ _ _
        refine TQ.thenC ?_
        first | refine TC.condD rfl (fun g3 => ?_) (fun g3 => ?_) | refine TC.cond rfl (fun g3 => ?_) (fun g3 => ?_)
        · skip
          refine TC.seq ?_
          refine TC.region ?_
          refine TL.pure (PV.assign rfl) rfl (by decide) ?_
          refine TL.pure (PV.assign rfl) rfl (by decide) ?_
          refine TL.pure (PV.assign rfl) rfl (by decide) ?_
          refine TL.nil ?_
          refine TQ.thenC ?_
          refine TC.ret ?_
          refine TQ.thenR ?_
          refine TQ.retE3 rfl rfl rfl rfl ?_
          have hz : ¬ fiB (N : Int) rs aa bb = true := fun h => g3 (m2.1.1 h).2.2
          exact ⟨(), by rw [m2.2.2 hz, h0, show fiB (N : Int) rs aa bb = false by simpa using hz], trivial, List.nil_sublist _⟩
        · skip
          refine TC.skip ?_
          refine TQ.thenC ?_
          refine TC.seq ?_
          refine TC.region ?_
          refine TL.pure (PV.move rfl) rfl (by decide) ?_
          refine TL.pure (PV.move rfl) rfl (by decide) ?_
          refine TL.pure (PV.index1 (j := aa.toNat) rfl rfl Tb.elm_51 (Int.toNat_of_nonneg (by omega)).symm (by omega)) rfl (by decide) ?_
          refine TL.pure (PV.loadG' rfl Tb.one_25 (by repeat (first | exact List.mem_append_left _ (fB_T (.head _) _) | refine List.Mem.tail _ ?_ | refine List.mem_append_right _ ?_)) (hxw.getS (a := aa.toNat) (by omega))) rfl (by decide) ?_
          refine TL.pure (PV.move rfl) rfl (by decide) ?_
          refine TL.pure (PV.indexG (j := bb.toNat) rfl rfl (hxw.okS _ (hxw.mem (a := aa.toNat) (by omega))) Tb.elm_25 (Int.toNat_of_nonneg (by omega)).symm (by omega)) rfl (by decide) ?_
          refine TL.pure (PV.loadG' rfl Tb.one_3 (by repeat (first | exact List.mem_append_left _ (fB_S (hxw.mem (a := aa.toNat) (by omega)) _ (mem_gblk (hxw.okS _ (hxw.mem (a := aa.toNat) (by omega))) (by omega))) | refine List.Mem.tail _ ?_ | refine List.mem_append_right _ ?_)) (ival_at (xs := (walkN N rs (aa.toNat) N).sm) (by rw [(hxw.at_ (aa.toNat) (by omega)).1]) (by rw [(WOk.walk N rs (aa.toNat) N).sl]; omega))) rfl (by decide) ?_
          refine TL.pure (PV.assign rfl) rfl (by decide) ?_
          refine TL.pure (PV.assign rfl) rfl (by decide) ?_
          refine TL.pure (PV.assign rfl) rfl (by decide) ?_
          refine TL.nil ?_
          refine TQ.thenC ?_
          refine TC.ret ?_
          refine TQ.retE3 rfl rfl rfl rfl ?_
          have hz : fiB (N : Int) rs aa bb = true := m2.1.2 ⟨by show (walkN N rs aa.toNat N).kn.getD bb.toNat false = true; simpa using g1, by show (walkN N rs bb.toNat N).kn.getD aa.toNat false = true; simpa using g2, Decidable.of_not_not g3⟩
          exact ⟨(), by rw [m2.2.1 hz, h0, hz]; rfl, trivial, List.nil_sublist _⟩

end Go.Proofs.Ytenalmddoljhoaa
