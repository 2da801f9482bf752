/- What follows, and how tightly, for any core: contracts without premises. -/
import Derived.Test.YtenalmddoljhoaaVPg
import Derived.Test.YtenalmddoljhoaaVN
set_option linter.unusedVariables false
set_option linter.unusedSimpArgs false
namespace Go.Proofs.Ytenalmddoljhoaa
open Go.Sx Go.RowKit

theorem pofL_few {n : Int} {rs : List Bd} {ls : List Int} : (pofL n rs ls).length ≤ 1000000 := by
  unfold pofL
  split
  · rename_i h
    have hv : Valid n rs := by
      unfold pofI at h
      by_cases h1 : layI n rs ls ≠ 0
      · rw [if_pos h1] at h; exact absurd h h1
      · exact lay_valid h1
    have := (plain_pb hv n.toNat (Nat.le_refl _)).1
    unfold plainB
    omega
  · simp
def flwB (l : List Bd) (r : Bd) : Bool := fndB l r.a r.b && decide (fndM l r.a r.b ≤ r.m)
def flwI (n : Int) (rs : List Bd) (r : Bd) : Int := if layI n rs [r.a, r.b] ≠ 0 then layI n rs [r.a, r.b] else if isBoundB r = true then pofI n rs [] else 1
def flwR (n : Int) (rs : List Bd) (r : Bd) : Bool := if flwI n rs r = 0 then flwB (pofL n rs []) r else false


set_option maxRecDepth 100000 in
set_option maxHeartbeats 1000000 in
theorem plainOfG_ok (w0 : World) (n : Int) (p : Option Addr) (cap : Nat) (rs : List Bd) (hr : BdsAt w0 p rs) (pl : Option Addr) (cl : Nat) (ls : List Int) (hx : IntsAt w0 pl ls) (hl : ls.length ≤ 1000) :
    Calls Try.prog 69 #[cv n p rs.length cap, .slice pl ls.length cl] w0 (Post (X := HD) (fun h => .tuple #[gval h (pofL n rs ls).length, .int .i64 (pofI n rs ls)]) (fun h => goB h (pofL n rs ls)) (fun h => gbB 88 h (pofL n rs ls)) w0) := by
  refine calls Try.func69 rfl (n := 24) rfl (by simp) ?_
  refine TC.seq ?_
  refine TC.region ?_
  refine TL.box rfl rfl (by decide) (fun b0 hb0 => ?_)
  refine TL.pure (PV.assign rfl) rfl (by decide) ?_
  refine TL.pure (PV.assign rfl) rfl (by decide) ?_
  refine TL.nil ?_
  refine TQ.thenC ?_
  refine TC.seq ?_
  refine TC.seq ?_
  refine TC.region ?_
  refine TL.pure (PV.loadBox rfl Tb.agg_24 (by repeat (first | exact List.Mem.head _ | refine List.Mem.tail _ ?_ | refine List.mem_append_right _ ?_)) rfl) rfl (by decide) ?_
  refine TL.pure (PV.move rfl) rfl (by decide) ?_
  refine TL.call rfl Tb.gofn_74 (fun a w hs => lays_ok w _ _ _ _ (hr.new hs.new) _ _ _ (hx.new hs.new) hl) rfl (by decide) (fun _ _ => ?_)
  refine TL.pure (PV.assign rfl) rfl (by decide) ?_
  refine TL.nil ?_
  refine TQ.thenC ?_
  refine TC.seq ?_
  refine TC.region ?_
  refine TL.pure (PV.move rfl) rfl (by decide) ?_
  refine TL.pure (PV.neq rfl rfl) rfl (by decide) ?_
  refine TL.nil ?_
  refine TQ.thenC ?_
  first | refine TC.condD rfl (fun hbad => ?_) (fun hbad => ?_) | refine TC.cond rfl (fun hbad => ?_) (fun hbad => ?_)
  · skip
    refine TC.seq ?_
    refine TC.region ?_
    refine TL.pure (PV.move rfl) rfl (by decide) ?_
    refine TL.pure (PV.assign rfl) rfl (by decide) ?_
    refine TL.pure (PV.assign rfl) rfl (by decide) ?_
    refine TL.nil ?_
    refine TQ.thenC ?_
    refine TC.ret ?_
    refine TQ.thenR ?_
    refine TQ.retE2 rfl rfl rfl ?_
    obtain ⟨e1, e2⟩ := pof_1 hbad
    exact ⟨none, by rw [e1, e2]; rfl, by rw [e2]; exact ⟨rfl, rfl⟩, by rw [e2]; exact List.nil_sublist _⟩
  · skip
    refine TC.skip ?_
    refine TQ.thenC ?_
    refine TC.seq ?_
    refine TC.seq ?_
    refine TC.region ?_
    refine TL.pure (PV.loadBox rfl Tb.agg_24 (by repeat (first | exact List.Mem.head _ | refine List.Mem.tail _ ?_ | refine List.mem_append_right _ ?_)) rfl) rfl (by decide) ?_
    refine TL.call rfl Tb.gofn_19 (fun a w hs => isPossible_ok w _ _ _ _ (hr.new hs.new)) rfl (by decide) (fun _ _ => ?_)
    refine TL.pure (PV.move rfl) rfl (by decide) ?_
    refine TL.pure (PV.extract rfl rfl) rfl (by decide) ?_
    refine TL.pure (PV.extract rfl rfl) rfl (by decide) ?_
    refine TL.pure (PV.assign rfl) rfl (by decide) ?_
    refine TL.pure (PV.assign rfl) rfl (by decide) ?_
    refine TL.nil ?_
    refine TQ.thenC ?_
    refine TC.seq ?_
    refine TC.region ?_
    refine TL.pure (PV.move rfl) rfl (by decide) ?_
    refine TL.pure ((by first | exact PV.notD rfl | exact PV.not rfl)) rfl (by decide) ?_
    refine TL.nil ?_
    refine TQ.thenC ?_
    first | refine TC.condD rfl (fun himp => ?_) (fun himp => ?_) | refine TC.cond rfl (fun himp => ?_) (fun himp => ?_)
    · skip
      have hq : ¬ dOk n rs = true := by unfold dOk; simpa using himp
      refine TC.seq ?_
      refine TC.region ?_
      refine TL.pure (PV.assign rfl) rfl (by decide) ?_
      refine TL.pure (PV.assign rfl) rfl (by decide) ?_
      refine TL.nil ?_
      refine TQ.thenC ?_
      refine TC.ret ?_
      refine TQ.thenR ?_
      refine TQ.retE2 rfl rfl rfl ?_
      obtain ⟨e1, e2⟩ := pof_2 hbad hq
      exact ⟨none, by rw [e1, e2]; rfl, by rw [e2]; exact ⟨rfl, rfl⟩, by rw [e2]; exact List.nil_sublist _⟩
    · skip
      have hq : dOk n rs = true := by unfold dOk; simpa using himp
      refine TC.skip ?_
      refine TQ.thenC ?_
      refine TC.seq ?_
      have hva := lay_valid hbad
      refine TC.region ?_
      refine TL.pure (PV.loadBox rfl Tb.agg_24 (by repeat (first | exact List.Mem.head _ | refine List.Mem.tail _ ?_ | refine List.mem_append_right _ ?_)) rfl) rfl (by decide) ?_
      refine TL.call rfl Tb.gofn_84 (fun a w hs => plainG_ok w _ _ _ _ (hr.new hs.new) hva) rfl (by decide) (fun h9 hh9 => ?_)
      refine TL.pure (PV.assign rfl) rfl (by decide) ?_
      refine TL.pure (PV.assign rfl) rfl (by decide) ?_
      refine TL.nil ?_
      refine TQ.thenC ?_
      refine TC.ret ?_
      refine TQ.retE2 rfl rfl rfl ?_
      obtain ⟨e1, e2⟩ := pof_3 hbad hq
      exact ⟨h9, by rw [e1, e2], by rw [e2]; exact hh9, by rw [e2]; exact List.sublist_append_left _ _⟩

set_option maxRecDepth 100000 in
set_option maxHeartbeats 1000000 in
theorem tightestG_ok (w0 : World) (n : Int) (p : Option Addr) (cap : Nat) (rs : List Bd) (hr : BdsAt w0 p rs) (aa bb : Int) :
    Calls Try.prog 29 #[cv n p rs.length cap, .int .i64 aa, .int .i64 bb] w0 (Post (X := Unit) (fun _ => .tuple #[.int .i64 (tgM n rs aa bb), .bool (tgB n rs aa bb), .int .i64 (pofI n rs [aa, bb])]) (fun _ => True) (fun _ => []) w0) := by
  refine calls Try.func29 rfl (n := 33) rfl (by simp) ?_
  refine TC.seq ?_
  refine TC.region ?_
  refine TL.box rfl rfl (by decide) (fun b0 hb0 => ?_)
  refine TL.pure (PV.assign rfl) rfl (by decide) ?_
  refine TL.pure (PV.assign rfl) rfl (by decide) ?_
  refine TL.pure (PV.assign rfl) rfl (by decide) ?_
  refine TL.nil ?_
  refine TQ.thenC ?_
  refine TC.seq ?_
  refine TC.region ?_
  refine TL.pure (PV.loadBox rfl Tb.agg_24 (by repeat (first | exact List.Mem.head _ | refine List.Mem.tail _ ?_ | refine List.mem_append_right _ ?_)) rfl) rfl (by decide) ?_
  refine TL.pure (PV.move rfl) rfl (by decide) ?_
  refine TL.pure (PV.move rfl) rfl (by decide) ?_
  refine TL.buildSlice (cs := #[.int .i64 aa, .int .i64 bb]) rfl Tb.sl_25 Tb.zi_3 (by decide) (fill_i2 _ _) (by decide) rfl (by decide) (fun bS hbS => ?_)
  refine TL.call rfl Tb.gofn_69 (fun a w hs => plainOfG_ok w _ _ _ _ (hr.new hs.new) _ 2 [aa, bb] (IntsAt.arr (xs := [aa, bb]) hs.new (by repeat (first | exact List.Mem.head _ | refine List.Mem.tail _ ?_ | refine List.mem_append_right _ ?_))) (show (2 : Nat) ≤ 1000 by decide)) rfl (by decide) (fun h9 hh9 => ?_)
  refine TL.pure (PV.move rfl) rfl (by decide) ?_
  refine TL.pure (PV.extract rfl rfl) rfl (by decide) ?_
  refine TL.pure (PV.extract rfl rfl) rfl (by decide) ?_
  refine TL.pure (PV.assign rfl) rfl (by decide) ?_
  refine TL.pure (PV.assign rfl) rfl (by decide) ?_
  refine TL.nil ?_
  refine TQ.thenC ?_
  refine TC.seq ?_
  refine TC.seq ?_
  refine TC.region ?_
  refine TL.pure (PV.move rfl) rfl (by decide) ?_
  refine TL.pure (PV.neq rfl rfl) rfl (by decide) ?_
  refine TL.nil ?_
  refine TQ.thenC ?_
  first | refine TC.condD rfl (fun hbad => ?_) (fun hbad => ?_) | refine TC.cond rfl (fun hbad => ?_) (fun hbad => ?_)
  · skip
    refine TC.seq ?_
    refine TC.region ?_
    refine TL.pure (PV.move rfl) rfl (by decide) ?_
    refine TL.pure (PV.assign rfl) rfl (by decide) ?_
    refine TL.pure (PV.assign rfl) rfl (by decide) ?_
    refine TL.pure (PV.assign rfl) rfl (by decide) ?_
    refine TL.nil ?_
    refine TQ.thenC ?_
    refine TC.ret ?_
    refine TQ.thenR ?_
    refine TQ.retE3 rfl rfl rfl rfl ?_
    exact ⟨(), by rw [tgM, tgB, if_pos hbad, if_pos hbad], trivial, List.nil_sublist _⟩
  · skip
    refine TC.skip ?_
    refine TQ.thenC ?_
    refine TC.seq ?_
    refine TC.region ?_
    refine TL.pure (PV.move rfl) rfl (by decide) ?_
    refine TL.pure (PV.move rfl) rfl (by decide) ?_
    refine TL.pure (PV.move rfl) rfl (by decide) ?_
    refine TL.call rfl Tb.gofn_70 (fun a w hs => find_g w h9 _ hh9 (BdsAt.s hs.new (fun yy hyy => by repeat (first | exact List.mem_append_left _ hyy | refine List.mem_append_right _ ?_ | refine List.Mem.tail _ ?_)) hh9) pofL_few aa bb) rfl (by decide) (fun _ _ => ?_)
    refine TL.pure (PV.move rfl) rfl (by decide) ?_
    refine TL.pure (PV.extract rfl rfl) rfl (by decide) ?_
    refine TL.pure (PV.extract rfl rfl) rfl (by decide) ?_
    refine TL.pure (PV.assign rfl) rfl (by decide) ?_
    refine TL.pure (PV.assign rfl) rfl (by decide) ?_
    refine TL.nil ?_
    refine TQ.thenC ?_
    refine TC.seq ?_
    refine TC.region ?_
    refine TL.pure (PV.move rfl) rfl (by decide) ?_
    refine TL.pure (PV.move rfl) rfl (by decide) ?_
    refine TL.pure (PV.assign rfl) rfl (by decide) ?_
    refine TL.pure (PV.assign rfl) rfl (by decide) ?_
    refine TL.pure (PV.assign rfl) rfl (by decide) ?_
    refine TL.nil ?_
    refine TQ.thenC ?_
    refine TC.ret ?_
    refine TQ.retE3 rfl rfl rfl rfl ?_
    exact ⟨(), by rw [tgM, tgB, if_neg hbad, if_neg hbad, Decidable.of_not_not hbad], trivial, List.nil_sublist _⟩

set_option maxRecDepth 100000 in
theorem follows_ok (w0 : World) (h : HD) (l : List Bd) (o : goB h l) (g : BdsAt w0 (gp h) l) (hl : l.length ≤ 1000000) (r : Bd) :
    Calls Try.prog 75 #[gval h l.length, r.val] w0 (Post (X := Unit) (fun _ => .bool (flwB l r)) (fun _ => True) (fun _ => []) w0) := by
  refine calls Try.func75 rfl (n := 23) rfl (by simp) ?_
  refine TC.seq ?_
  refine TC.region ?_
  refine TL.box rfl rfl (by decide) (fun b0 hb0 => ?_)
  refine TL.pure (PV.assign rfl) rfl (by decide) ?_
  refine TL.nil ?_
  refine TQ.thenC ?_
  refine TC.seq ?_
  refine TC.region ?_
  refine TL.pure (PV.move rfl) rfl (by decide) ?_
  refine TL.pure (PV.fieldAddr rfl Tb.fo_42_0) rfl (by decide) ?_
  refine TL.pure (PV.load rfl Tb.one_3 (by repeat (first | exact List.Mem.head _ | refine List.Mem.tail _ ?_ | refine List.mem_append_right _ ?_)) rfl) rfl (by decide) ?_
  refine TL.pure (PV.fieldAddr rfl Tb.fo_42_1) rfl (by decide) ?_
  refine TL.pure (PV.load rfl Tb.one_3 (by repeat (first | exact List.Mem.head _ | refine List.Mem.tail _ ?_ | refine List.mem_append_right _ ?_)) rfl) rfl (by decide) ?_
  refine TL.call rfl Tb.gofn_70 (fun a w hs => find_g w h l o (g.new hs.new) hl r.a r.b) rfl (by decide) (fun _ _ => ?_)
  refine TL.pure (PV.move rfl) rfl (by decide) ?_
  refine TL.pure (PV.extract rfl rfl) rfl (by decide) ?_
  refine TL.pure (PV.extract rfl rfl) rfl (by decide) ?_
  refine TL.pure (PV.assign rfl) rfl (by decide) ?_
  refine TL.pure (PV.assign rfl) rfl (by decide) ?_
  refine TL.nil ?_
  refine TQ.thenC ?_
  refine TC.seq ?_
  refine TC.region ?_
  refine TL.pure (PV.move rfl) rfl (by decide) ?_
  refine TL.pure (PV.move rfl) rfl (by decide) ?_
  first | refine TL.splitD 17 rfl (fun e1 => ?_) (fun e1 => ?_) | refine TL.split 17 rfl (fun e1 => ?_) (fun e1 => ?_)
  · skip
    refine TL.pure (PV.move rfl) rfl (by decide) ?_
    refine TL.pure (PV.fieldAddr rfl Tb.fo_42_2) rfl (by decide) ?_
    refine TL.pure (PV.load rfl Tb.one_3 (by repeat (first | exact List.Mem.head _ | refine List.Mem.tail _ ?_ | refine List.mem_append_right _ ?_)) rfl) rfl (by decide) ?_
    refine TL.pure (PV.leq rfl rfl) rfl (by decide) ?_
    refine TL.pure (PV.pickT rfl rfl) rfl (by decide) ?_
    refine TL.pure (PV.assign rfl) rfl (by decide) ?_
    refine TL.nil ?_
    refine TQ.thenC ?_
    refine TC.ret ?_
    refine TQ.retE1 rfl rfl ?_
    first | exact ⟨(), by simp [flwB, e1], trivial, List.nil_sublist _⟩ | exact ⟨(), by unfold flwB; simp_all, trivial, List.nil_sublist _⟩
  · skip
    refine TL.skip rfl (fun k hk => by cases hk; decide) ?_
    refine TL.skip rfl (fun k hk => by cases hk; decide) ?_
    refine TL.skip rfl (fun k hk => by cases hk; decide) ?_
    refine TL.skip rfl (fun k hk => by cases hk; decide) ?_
    refine TL.pure (PV.pickF rfl rfl) rfl (by decide) ?_
    refine TL.pure (PV.assign rfl) rfl (by decide) ?_
    refine TL.nil ?_
    refine TQ.thenC ?_
    refine TC.ret ?_
    refine TQ.retE1 rfl rfl ?_
    first | exact ⟨(), by simp [flwB, e1], trivial, List.nil_sublist _⟩ | exact ⟨(), by unfold flwB; simp_all, trivial, List.nil_sublist _⟩

set_option maxRecDepth 100000 in
set_option maxHeartbeats 1000000 in
theorem Follows_ok (w0 : World) (n : Int) (p : Option Addr) (cap : Nat) (rs : List Bd) (hr : BdsAt w0 p rs) (r : Bd) :
    Calls Try.prog 33 #[cv n p rs.length cap, r.val] w0 (Post (X := Unit) (fun _ => .tuple #[.bool (flwR n rs r), .int .i64 (flwI n rs r)]) (fun _ => True) (fun _ => []) w0) := by
  refine calls Try.func33 rfl (n := 33) rfl (by simp) ?_
  refine TC.seq ?_
  refine TC.region ?_
  refine TL.box rfl rfl (by decide) (fun b0 hb0 => ?_)
  refine TL.box rfl rfl (by decide) (fun b1 hb1 => ?_)
  refine TL.pure (PV.assign rfl) rfl (by decide) ?_
  refine TL.pure (PV.assign rfl) rfl (by decide) ?_
  refine TL.nil ?_
  refine TQ.thenC ?_
  refine TC.seq ?_
  refine TC.seq ?_
  refine TC.region ?_
  refine TL.pure (PV.loadBox rfl Tb.agg_24 (by repeat (first | exact List.Mem.head _ | refine List.Mem.tail _ ?_ | refine List.mem_append_right _ ?_)) rfl) rfl (by decide) ?_
  refine TL.pure (PV.fieldAddr rfl Tb.fo_42_0) rfl (by decide) ?_
  refine TL.pure (PV.load rfl Tb.one_3 (by repeat (first | exact List.Mem.head _ | refine List.Mem.tail _ ?_ | refine List.mem_append_right _ ?_)) rfl) rfl (by decide) ?_
  refine TL.pure (PV.fieldAddr rfl Tb.fo_42_1) rfl (by decide) ?_
  refine TL.pure (PV.load rfl Tb.one_3 (by repeat (first | exact List.Mem.head _ | refine List.Mem.tail _ ?_ | refine List.mem_append_right _ ?_)) rfl) rfl (by decide) ?_
  refine TL.buildSlice (cs := #[.int .i64 r.a, .int .i64 r.b]) rfl Tb.sl_25 Tb.zi_3 (by decide) (fill_i2 _ _) (by decide) rfl (by decide) (fun bS hbS => ?_)
  refine TL.call rfl Tb.gofn_74 (fun a w hs => lays_ok w _ _ _ _ (hr.new hs.new) _ 2 [r.a, r.b] (IntsAt.arr (xs := [r.a, r.b]) hs.new (by repeat (first | exact List.Mem.head _ | refine List.Mem.tail _ ?_ | refine List.mem_append_right _ ?_))) (show (2 : Nat) ≤ 1000 by decide)) rfl (by decide) (fun _ _ => ?_)
  refine TL.pure (PV.assign rfl) rfl (by decide) ?_
  refine TL.nil ?_
  refine TQ.thenC ?_
  refine TC.seq ?_
  refine TC.region ?_
  refine TL.pure (PV.move rfl) rfl (by decide) ?_
  refine TL.pure (PV.neq rfl rfl) rfl (by decide) ?_
  refine TL.nil ?_
  refine TQ.thenC ?_
  first | refine TC.condD rfl (fun hbad => ?_) (fun hbad => ?_) | refine TC.cond rfl (fun hbad => ?_) (fun hbad => ?_)
  · skip
    refine TC.seq ?_
    refine TC.region ?_
    refine TL.pure (PV.move rfl) rfl (by decide) ?_
    refine TL.pure (PV.assign rfl) rfl (by decide) ?_
    refine TL.pure (PV.assign rfl) rfl (by decide) ?_
    refine TL.nil ?_
    refine TQ.thenC ?_
    refine TC.ret ?_
    refine TQ.thenR ?_
    refine TQ.retE2 rfl rfl rfl ?_
    have e1 : flwI n rs r = layI n rs [r.a, r.b] := if_pos hbad
    exact ⟨(), by rw [flwR, e1, if_neg hbad], trivial, List.nil_sublist _⟩
  · skip
    refine TC.skip ?_
    refine TQ.thenC ?_
    refine TC.seq ?_
    refine TC.seq ?_
    refine TC.region ?_
    refine TL.pure (PV.loadBox rfl Tb.agg_42 (by repeat (first | exact List.Mem.head _ | refine List.Mem.tail _ ?_ | refine List.mem_append_right _ ?_)) rfl) rfl (by decide) ?_
    refine TL.call rfl Tb.gofn_60 (fun a w hs => isBound_ok w r) rfl (by decide) (fun _ _ => ?_)
    refine TL.pure ((by first | exact PV.notD rfl | exact PV.not rfl)) rfl (by decide) ?_
    refine TL.nil ?_
    refine TQ.thenC ?_
    first | refine TC.condD rfl (fun hnb => ?_) (fun hnb => ?_) | refine TC.cond rfl (fun hnb => ?_) (fun hnb => ?_)
    · skip
      refine TC.seq ?_
      refine TC.region ?_
      refine TL.pure (PV.assign rfl) rfl (by decide) ?_
      refine TL.pure (PV.assign rfl) rfl (by decide) ?_
      refine TL.nil ?_
      refine TQ.thenC ?_
      refine TC.ret ?_
      refine TQ.thenR ?_
      refine TQ.retE2 rfl rfl rfl ?_
      have e1 : flwI n rs r = 1 := by unfold flwI; rw [if_neg hbad, if_neg (by simpa using hnb)]
      exact ⟨(), by rw [flwR, e1, if_neg (by decide)], trivial, List.nil_sublist _⟩
    · skip
      refine TC.skip ?_
      refine TQ.thenC ?_
      refine TC.seq ?_
      refine TC.region ?_
      refine TL.pure (PV.loadBox rfl Tb.agg_24 (by repeat (first | exact List.Mem.head _ | refine List.Mem.tail _ ?_ | refine List.mem_append_right _ ?_)) rfl) rfl (by decide) ?_
      refine TL.call rfl Tb.gofn_69 (fun a w hs => plainOfG_ok w _ _ _ _ (hr.new hs.new) none 0 [] (fun j hj => absurd hj (Nat.not_lt_zero _)) (show (0 : Nat) ≤ 1000 by decide)) rfl (by decide) (fun h9 hh9 => ?_)
      refine TL.pure (PV.move rfl) rfl (by decide) ?_
      refine TL.pure (PV.extract rfl rfl) rfl (by decide) ?_
      refine TL.pure (PV.extract rfl rfl) rfl (by decide) ?_
      refine TL.pure (PV.assign rfl) rfl (by decide) ?_
      refine TL.pure (PV.assign rfl) rfl (by decide) ?_
      refine TL.nil ?_
      refine TQ.thenC ?_
      refine TC.seq ?_
      refine TC.seq ?_
      refine TC.region ?_
      refine TL.pure (PV.move rfl) rfl (by decide) ?_
      refine TL.pure (PV.neq rfl rfl) rfl (by decide) ?_
      refine TL.nil ?_
      refine TQ.thenC ?_
      first | refine TC.condD rfl (fun hbad2 => ?_) (fun hbad2 => ?_) | refine TC.cond rfl (fun hbad2 => ?_) (fun hbad2 => ?_)
      · skip
        refine TC.seq ?_
        refine TC.region ?_
        refine TL.pure (PV.move rfl) rfl (by decide) ?_
        refine TL.pure (PV.assign rfl) rfl (by decide) ?_
        refine TL.pure (PV.assign rfl) rfl (by decide) ?_
        refine TL.nil ?_
        refine TQ.thenC ?_
        refine TC.ret ?_
        refine TQ.thenR ?_
        refine TQ.retE2 rfl rfl rfl ?_
        have e1 : flwI n rs r = pofI n rs [] := by unfold flwI; rw [if_neg hbad, if_pos (by simpa using hnb)]
        exact ⟨(), by rw [flwR, e1, if_neg hbad2], trivial, List.nil_sublist _⟩
      · skip
        refine TC.skip ?_
        refine TQ.thenC ?_
        refine TC.seq ?_
        refine TC.region ?_
        refine TL.pure (PV.move rfl) rfl (by decide) ?_
        refine TL.pure (PV.loadBox rfl Tb.agg_42 (by repeat (first | exact List.Mem.head _ | refine List.Mem.tail _ ?_ | refine List.mem_append_right _ ?_)) rfl) rfl (by decide) ?_
        refine TL.call rfl Tb.gofn_75 (fun a w hs => follows_ok w h9 _ hh9 (BdsAt.s hs.new (fun yy hyy => by repeat (first | exact List.mem_append_left _ hyy | refine List.mem_append_right _ ?_ | refine List.Mem.tail _ ?_)) hh9) pofL_few r) rfl (by decide) (fun _ _ => ?_)
        refine TL.pure (PV.assign rfl) rfl (by decide) ?_
        refine TL.pure (PV.assign rfl) rfl (by decide) ?_
        refine TL.nil ?_
        refine TQ.thenC ?_
        refine TC.ret ?_
        refine TQ.retE2 rfl rfl rfl ?_
        have e1 : flwI n rs r = pofI n rs [] := by unfold flwI; rw [if_neg hbad, if_pos (by simpa using hnb)]
        exact ⟨(), by rw [flwR, e1, if_pos (Decidable.of_not_not hbad2), Decidable.of_not_not hbad2], trivial, List.nil_sublist _⟩

end Go.Proofs.Ytenalmddoljhoaa
