/- Whether the same dates keep two cores: the statement's own function. -/
import Derived.Test.YtenalmddoljhoaaWG
set_option linter.unusedVariables false
set_option linter.unusedSimpArgs false
namespace Go.Proofs.Ytenalmddoljhoaa
open Go.Sx Go.RowKit

theorem sm_0 {n1 : Int} {r1 : List Bd} {n2 : Int} {r2 : List Bd} (h : smI n1 r1 n2 r2 = 0) : pofI n1 r1 [] = 0 ∧ pofI n2 r2 [] = 0 ∧ smR n1 r1 n2 r2 = decide (pofL n1 r1 [] = pofL n2 r2 []) := by
  by_cases hb : pairI n1 r1 n2 r2 ≠ 0
  · rw [(sm_1 hb).1] at h; exact absurd h hb
  · by_cases hd : dOk n1 r1 = true ∧ dOk n2 r2 = true
    · obtain ⟨v1, v2, _⟩ := pairI_is (Decidable.of_not_not hb)
      have q1 : pofI n1 r1 [] = 0 := by rw [pof_nil v1, if_pos hd.1]
      have q2 : pofI n2 r2 [] = 0 := by rw [pof_nil v2, if_pos hd.2]
      exact ⟨q1, q2, by rw [(sm_3 hb hd.1 hd.2).2, pofL_is q1, pofL_is q2]⟩
    · rw [(sm_2 hb hd).1] at h; cases h
theorem plain_plN {N : Nat} {rs : List Bd} (hd : dOk (N : Int) rs = true) : plainB N rs = allP N rs N := by
  have h := plain_pl hd
  rw [Int.toNat_natCast] at h
  exact h


set_option maxRecDepth 100000 in
set_option maxHeartbeats 2000000 in
theorem rSame_ok (w0 : World) (n1 : Int) (p1 : Option Addr) (c1 : Nat) (r1 : List Bd) (hr1 : BdsAt w0 p1 r1) (n2 : Int) (p2 : Option Addr) (c2 : Nat) (r2 : List Bd) (hr2 : BdsAt w0 p2 r2) :
    Calls Try.prog 47 #[cv n1 p1 r1.length c1, cv n2 p2 r2.length c2] w0 (Post (X := Unit) (fun _ => .tuple #[.bool (smR n1 r1 n2 r2), .int .i64 (smI n1 r1 n2 r2)]) (fun _ => True) (fun _ => []) w0) := by
  refine calls Try.func47 rfl (n := 24) rfl (by simp) ?_
  refine TC.seq ?_
  refine TC.region ?_
  refine TL.box rfl rfl (by decide) (fun b0 hb0 => ?_)
  refine TL.box rfl rfl (by decide) (fun b1 hb1 => ?_)
  refine TL.pure (PV.assign rfl) rfl (by decide) ?_
  refine TL.pure (PV.assign rfl) rfl (by decide) ?_
  refine TL.nil ?_
  refine TQ.thenC ?_
  refine TC.seq ?_
  refine TC.seq ?_
  refine TC.region ?_
  refine TL.pure (PV.loadBox rfl Tb.agg_24 (by repeat (first | exact List.Mem.head _ | refine List.Mem.tail _ ?_ | refine List.mem_append_right _ ?_)) rfl) rfl (by decide) ?_
  refine TL.pure (PV.loadBox rfl Tb.agg_24 (by repeat (first | exact List.Mem.head _ | refine List.Mem.tail _ ?_ | refine List.mem_append_right _ ?_)) rfl) rfl (by decide) ?_
  refine TL.call rfl Tb.gofn_80 (fun a w hs => rpair_ok w _ _ _ _ (hr1.new hs.new) _ _ _ _ (hr2.new hs.new)) rfl (by decide) (fun _ _ => ?_)
  refine TL.pure (PV.assign rfl) rfl (by decide) ?_
  refine TL.nil ?_
  refine TQ.thenC ?_
  refine TC.seq ?_
  refine TC.region ?_
  refine TL.pure (PV.move rfl) rfl (by decide) ?_
  refine TL.pure (PV.neq rfl rfl) rfl (by decide) ?_
  refine TL.nil ?_
  refine TQ.thenC ?_
  first | refine TC.condD rfl (fun hbad => ?_) (fun hbad => ?_) | refine TC.cond rfl (fun hbad => ?_) (fun hbad => ?_)
  · skip
    refine TC.seq ?_
    refine TC.region ?_
    refine TL.pure (PV.move rfl) rfl (by decide) ?_
    refine TL.pure (PV.assign rfl) rfl (by decide) ?_
    refine TL.pure (PV.assign rfl) rfl (by decide) ?_
    refine TL.nil ?_
    refine TQ.thenC ?_
    refine TC.ret ?_
    refine TQ.thenR ?_
    refine TQ.retE2 rfl rfl rfl ?_
    exact ⟨(), by rw [(sm_1 hbad).1, (sm_1 hbad).2], trivial, List.nil_sublist _⟩
  · skip
    refine TC.skip ?_
    refine TQ.thenC ?_
    refine TC.seq ?_
    refine TC.seq ?_
    obtain ⟨v1, v2, _⟩ := pairI_is (Decidable.of_not_not hbad)
    have e1 := clashW_dOk v1
    have e2 := clashW_dOk v2
    have pt1 := v1.pts
    have pt2 := v2.pts
    refine TC.region ?_
    refine TL.pure (PV.loadBox rfl Tb.agg_24 (by repeat (first | exact List.Mem.head _ | refine List.Mem.tail _ ?_ | refine List.mem_append_right _ ?_)) rfl) rfl (by decide) ?_
    refine TL.call rfl Tb.gofn_58 (fun a w hs => clashes_ok w _ _ _ _ (hr1.new hs.new) v1) rfl (by decide) (fun _ _ => ?_)
    refine TL.pure (PV.move rfl) rfl (by decide) ?_
    first | refine TL.splitD 15 rfl (fun k1 => ?_) (fun k1 => ?_) | refine TL.split 15 rfl (fun k1 => ?_) (fun k1 => ?_)
    · skip
      refine TL.skip rfl (fun k hk => by cases hk; decide) ?_
      refine TL.skip rfl (fun k hk => by cases hk; decide) ?_
      refine TL.pure (PV.pickT rfl rfl) rfl (by decide) ?_
      refine TL.nil ?_
      refine TQ.thenC ?_
      refine TC.condT rfl ?_
      refine TC.seq ?_
      refine TC.region ?_
      refine TL.pure (PV.assign rfl) rfl (by decide) ?_
      refine TL.pure (PV.assign rfl) rfl (by decide) ?_
      refine TL.nil ?_
      refine TQ.thenC ?_
      refine TC.ret ?_
      refine TQ.thenR ?_
      refine TQ.retE2 rfl rfl rfl ?_
      have hd : ¬ (dOk n1 r1 = true ∧ dOk n2 r2 = true) := fun h => by simp_all
      exact ⟨(), by rw [(sm_2 hbad hd).1, (sm_2 hbad hd).2], trivial, List.nil_sublist _⟩
    · skip
      refine TL.pure (PV.loadBox rfl Tb.agg_24 (by repeat (first | exact List.Mem.head _ | refine List.Mem.tail _ ?_ | refine List.mem_append_right _ ?_)) rfl) rfl (by decide) ?_
      refine TL.call rfl Tb.gofn_58 (fun a w hs => clashes_ok w _ _ _ _ (hr2.new hs.new) v2) rfl (by decide) (fun _ _ => ?_)
      refine TL.pure (PV.pickF rfl rfl) rfl (by decide) ?_
      refine TL.nil ?_
      refine TQ.thenC ?_
      first | refine TC.condD rfl (fun k2 => ?_) (fun k2 => ?_) | refine TC.cond rfl (fun k2 => ?_) (fun k2 => ?_)
      · skip
        refine TC.seq ?_
        refine TC.region ?_
        refine TL.pure (PV.assign rfl) rfl (by decide) ?_
        refine TL.pure (PV.assign rfl) rfl (by decide) ?_
        refine TL.nil ?_
        refine TQ.thenC ?_
        refine TC.ret ?_
        refine TQ.thenR ?_
        refine TQ.retE2 rfl rfl rfl ?_
        have hd : ¬ (dOk n1 r1 = true ∧ dOk n2 r2 = true) := fun h => by simp_all
        exact ⟨(), by rw [(sm_2 hbad hd).1, (sm_2 hbad hd).2], trivial, List.nil_sublist _⟩
      · skip
        refine TC.skip ?_
        refine TQ.thenC ?_
        refine TC.seq ?_
        have d1 : dOk n1 r1 = true := by simp_all
        have d2 : dOk n2 r2 = true := by simp_all
        obtain ⟨N1, rfl⟩ : ∃ N1 : Nat, n1 = N1 := ⟨n1.toNat, by omega⟩
        obtain ⟨N2, rfl⟩ : ∃ N2 : Nat, n2 = N2 := ⟨n2.toNat, by omega⟩
        refine TC.mix [true, false, true, false, false, false, false] _ 5 Tb.mixed rfl (by kernel_rfl) (by kernel_rfl) (by kernel_rfl) (by kernel_rfl) (List.Sublist.refl _) ?_
        refine TB.op (SOK.pure (PV.loadBox rfl Tb.agg_24 (by repeat (first | exact List.Mem.head _ | refine List.Mem.tail _ ?_ | refine List.mem_append_right _ ?_)) rfl) rfl) (by decide) ?_
        refine TB.no ?_
        refine TB.op (SOK.pure (PV.loadBox rfl Tb.agg_24 (by repeat (first | exact List.Mem.head _ | refine List.Mem.tail _ ?_ | refine List.mem_append_right _ ?_)) rfl) rfl) (by decide) ?_
        refine TB.no ?_
        refine TB.no ?_
        refine TB.no ?_
        refine TB.no ?_
        refine TB.fin ?_
        refine TX.step [1] (by kernel_rfl) (by decide) ⟨⟨_, rfl, ?_⟩, trivial⟩
        refine TL.call rfl Tb.gofn_76 (fun a w hs => rplain_ok w N1 p1 c1 r1 (hr1.new hs.new) v1 d1) rfl (by decide) (fun h8 hh8 => ?_)
        refine TL.nil ?_
        refine TX.next (.inl (by repeat (first | exact List.Sublist.slnil | exact List.nil_sublist _ | exact List.Sublist.refl _ | refine List.Sublist.cons_cons _ ?_ | refine List.Sublist.cons _ ?_ | refine List.Sublist.trans ?_ (List.sublist_append_right _ _)))) ?_
        refine TX.step [3] (by kernel_rfl) (by decide) ⟨⟨_, rfl, ?_⟩, trivial⟩
        refine TL.call rfl Tb.gofn_76 (fun a w hs => rplain_ok w N2 p2 c2 r2 (hr2.new hs.new) v2 d2) rfl (by decide) (fun h9 hh9 => ?_)
        refine TL.nil ?_
        refine TX.next (.inl (by repeat (first | exact List.Sublist.slnil | exact List.nil_sublist _ | exact List.Sublist.refl _ | refine List.Sublist.cons_cons _ ?_ | refine List.Sublist.cons _ ?_ | refine List.Sublist.trans ?_ (List.sublist_append_right _ _)))) ?_
        refine TX.step [4] (by kernel_rfl) (by decide) ⟨⟨_, rfl, ?_⟩, trivial⟩
        refine TL.call rfl Tb.gofn_45 (fun a w hs => sameG hh8 hh9 (BdsAt.s hs.new (fun yy hyy => by repeat (first | exact hyy | exact List.mem_append_left _ hyy | refine List.mem_append_right _ ?_ | refine List.Mem.tail _ ?_)) hh8) (BdsAt.s hs.new (fun yy hyy => by repeat (first | exact hyy | exact List.mem_append_left _ hyy | refine List.mem_append_right _ ?_ | refine List.Mem.tail _ ?_)) hh9) (Nat.le_trans (allP_sm v1 d1) (by decide)) (Nat.le_trans (allP_sm v2 d2) (by decide))) rfl (by decide) (fun _ _ => ?_)
        refine TL.nil ?_
        refine TX.next (.inl (by repeat (first | exact List.Sublist.slnil | exact List.nil_sublist _ | exact List.Sublist.refl _ | refine List.Sublist.cons_cons _ ?_ | refine List.Sublist.cons _ ?_ | refine List.Sublist.trans ?_ (List.sublist_append_right _ _)))) ?_
        refine TX.step [5] (by kernel_rfl) (by decide) ⟨⟨_, rfl, ?_⟩, trivial⟩
        refine TL.pure (PV.assign rfl) rfl (by decide) ?_
        refine TL.nil ?_
        refine TX.next (.inr (by kernel_rfl)) ?_
        refine TX.step [6] (by kernel_rfl) (by decide) ⟨⟨_, rfl, ?_⟩, trivial⟩
        refine TL.pure (PV.assign rfl) rfl (by decide) ?_
        refine TL.nil ?_
        refine TX.next (.inr (by kernel_rfl)) ?_
        refine TX.done (by kernel_rfl) ?_
        refine TQ.thenC ?_
        refine TC.ret ?_
        refine TQ.retE2 rfl rfl rfl ?_
        have z := sm_3 hbad d1 d2
        rw [Int.toNat_natCast, Int.toNat_natCast, plain_plN d1, plain_plN d2] at z
        exact ⟨(), by rw [z.1, z.2], trivial, List.nil_sublist _⟩

set_option maxRecDepth 100000 in
set_option maxHeartbeats 2000000 in
theorem rPlain_ok (w0 : World) (n : Int) (p : Option Addr) (cap : Nat) (rs : List Bd) (hr : BdsAt w0 p rs) :
    Calls Try.prog 43 #[cv n p rs.length cap] w0 (Post (X := HD) (fun h => .tuple #[gval h (pofL n rs []).length, .int .i64 (pofI n rs [])]) (fun h => goB h (pofL n rs [])) (fun h => gbB 42 h (pofL n rs [])) w0) := by
  refine calls Try.func43 rfl (n := 14) rfl (by simp) ?_
  refine TC.seq ?_
  refine TC.region ?_
  refine TL.box rfl rfl (by decide) (fun b0 hb0 => ?_)
  refine TL.pure (PV.assign rfl) rfl (by decide) ?_
  refine TL.pure (PV.assign rfl) rfl (by decide) ?_
  refine TL.nil ?_
  refine TQ.thenC ?_
  refine TC.seq ?_
  refine TC.seq ?_
  refine TC.region ?_
  refine TL.pure (PV.loadBox rfl Tb.agg_24 (by repeat (first | exact List.Mem.head _ | refine List.Mem.tail _ ?_ | refine List.mem_append_right _ ?_)) rfl) rfl (by decide) ?_
  refine TL.call rfl Tb.gofn_22 (fun a w hs => rvalidate_ok w _ _ _ _ (hr.new hs.new)) rfl (by decide) (fun _ _ => ?_)
  refine TL.pure (PV.assign rfl) rfl (by decide) ?_
  refine TL.nil ?_
  refine TQ.thenC ?_
  refine TC.seq ?_
  refine TC.region ?_
  refine TL.pure (PV.move rfl) rfl (by decide) ?_
  refine TL.pure (PV.neq rfl rfl) rfl (by decide) ?_
  refine TL.nil ?_
  refine TQ.thenC ?_
  first | refine TC.condD rfl (fun hbad => ?_) (fun hbad => ?_) | refine TC.cond rfl (fun hbad => ?_) (fun hbad => ?_)
  · skip
    refine TC.seq ?_
    refine TC.region ?_
    refine TL.pure (PV.move rfl) rfl (by decide) ?_
    refine TL.pure (PV.assign rfl) rfl (by decide) ?_
    refine TL.pure (PV.assign rfl) rfl (by decide) ?_
    refine TL.nil ?_
    refine TQ.thenC ?_
    refine TC.ret ?_
    refine TQ.thenR ?_
    refine TQ.retE2 rfl rfl rfl ?_
    have hq : pofI n rs [] = validateI n rs := pof_inv hbad
    have hq2 : pofI n rs [] ≠ 0 := by rw [hq]; exact hbad
    exact ⟨none, by rw [pofL_no hq2, hq]; rfl, by rw [pofL_no hq2]; exact ⟨rfl, rfl⟩, List.nil_sublist _⟩
  · skip
    refine TC.skip ?_
    refine TQ.thenC ?_
    refine TC.seq ?_
    refine TC.seq ?_
    have hv := vof hbad
    have hp := hv.pts
    have e1 := clashW_dOk hv
    have q1 := pof_nil hv
    refine TC.region ?_
    refine TL.pure (PV.loadBox rfl Tb.agg_24 (by repeat (first | exact List.Mem.head _ | refine List.Mem.tail _ ?_ | refine List.mem_append_right _ ?_)) rfl) rfl (by decide) ?_
    refine TL.call rfl Tb.gofn_58 (fun a w hs => clashes_ok w _ _ _ _ (hr.new hs.new) hv) rfl (by decide) (fun _ _ => ?_)
    refine TL.nil ?_
    refine TQ.thenC ?_
    first | refine TC.condD rfl (fun hcl => ?_) (fun hcl => ?_) | refine TC.cond rfl (fun hcl => ?_) (fun hcl => ?_)
    · skip
      refine TC.seq ?_
      refine TC.region ?_
      refine TL.pure (PV.assign rfl) rfl (by decide) ?_
      refine TL.pure (PV.assign rfl) rfl (by decide) ?_
      refine TL.nil ?_
      refine TQ.thenC ?_
      refine TC.ret ?_
      refine TQ.thenR ?_
      refine TQ.retE2 rfl rfl rfl ?_
      have hd : ¬ dOk n rs = true := fun h => by simp_all
      rw [if_neg hd] at q1
      have hq2 : pofI n rs [] ≠ 0 := by rw [q1]; decide
      exact ⟨none, by rw [pofL_no hq2, q1]; rfl, by rw [pofL_no hq2]; exact ⟨rfl, rfl⟩, List.nil_sublist _⟩
    · skip
      refine TC.skip ?_
      refine TQ.thenC ?_
      refine TC.seq ?_
      have hd : dOk n rs = true := by simp_all
      obtain ⟨N, rfl⟩ : ∃ N : Nat, n = N := ⟨n.toNat, by omega⟩
      refine TC.region ?_
      refine TL.pure (PV.loadBox rfl Tb.agg_24 (by repeat (first | exact List.Mem.head _ | refine List.Mem.tail _ ?_ | refine List.mem_append_right _ ?_)) rfl) rfl (by decide) ?_
      refine TL.call rfl Tb.gofn_76 (fun a w hs => rplain_ok w N p cap rs (hr.new hs.new) hv hd) rfl (by decide) (fun h9 hh9 => ?_)
      refine TL.pure (PV.assign rfl) rfl (by decide) ?_
      refine TL.pure (PV.assign rfl) rfl (by decide) ?_
      refine TL.nil ?_
      refine TQ.thenC ?_
      refine TC.ret ?_
      refine TQ.retE2 rfl rfl rfl ?_
      rw [if_pos hd] at q1
      exact ⟨h9, by rw [pofL_all q1, q1], by rw [pofL_all q1]; exact hh9, by rw [pofL_all q1]; exact List.sublist_append_left _ _⟩

set_option maxRecDepth 100000 in
set_option maxHeartbeats 4000000 in
theorem coreSames_ok (w0 : World) (n1 : Int) (p1 : Option Addr) (c1 : Nat) (r1 : List Bd) (hr1 : BdsAt w0 p1 r1) (n2 : Int) (p2 : Option Addr) (c2 : Nat) (r2 : List Bd) (hr2 : BdsAt w0 p2 r2) :
    Calls Try.prog 11 #[cv n1 p1 r1.length c1, cv n2 p2 r2.length c2] w0 (Post (X := Unit) (fun _ => .bool true) (fun _ => True) (fun _ => []) w0) := by
  refine calls Try.func11 rfl (n := 70) rfl (by simp) ?_
  refine TC.seq ?_
  refine TC.region ?_
  refine TL.box rfl rfl (by decide) (fun b0 hb0 => ?_)
  refine TL.box rfl rfl (by decide) (fun b1 hb1 => ?_)
  refine TL.pure (PV.assign rfl) rfl (by decide) ?_
  refine TL.nil ?_
  refine TQ.thenC ?_
  refine TC.seq ?_
  refine TC.seq ?_
  refine TC.region ?_
  refine TL.pure (PV.loadBox rfl Tb.agg_24 (by repeat (first | exact List.Mem.head _ | refine List.Mem.tail _ ?_ | refine List.mem_append_right _ ?_)) rfl) rfl (by decide) ?_
  refine TL.call rfl Tb.gofn_17 (fun a w hs => long_ok w _ _ _ _ (hr1.new hs.new)) rfl (by decide) (fun _ _ => ?_)
  refine TL.pure (PV.move rfl) rfl (by decide) ?_
  first | refine TL.splitD 15 rfl (fun h0 => ?_) (fun h0 => ?_) | refine TL.split 15 rfl (fun h0 => ?_) (fun h0 => ?_)
  · skip
    refine TL.skip rfl (fun k hk => by cases hk; decide) ?_
    refine TL.skip rfl (fun k hk => by cases hk; decide) ?_
    refine TL.pure (PV.pickT rfl rfl) rfl (by decide) ?_
    refine TL.nil ?_
    refine TQ.thenC ?_
    refine TC.condT rfl ?_
    refine TC.seq ?_
    refine TC.region ?_
    refine TL.call rfl Tb.gofn_18 (fun a w hs => knownOk w) rfl (by decide) (fun _ _ => ?_)
    refine TL.pure (PV.assign rfl) rfl (by decide) ?_
    refine TL.nil ?_
    refine TQ.thenC ?_
    refine TC.ret ?_
    refine TQ.thenR ?_
    refine TQ.retE1 rfl rfl ?_
    first | exact ⟨(), rfl, trivial, List.nil_sublist _⟩ | (exfalso; simp_all; done)
  · skip
    refine TL.pure (PV.loadBox rfl Tb.agg_24 (by repeat (first | exact List.Mem.head _ | refine List.Mem.tail _ ?_ | refine List.mem_append_right _ ?_)) rfl) rfl (by decide) ?_
    refine TL.call rfl Tb.gofn_17 (fun a w hs => long_ok w _ _ _ _ (hr2.new hs.new)) rfl (by decide) (fun _ _ => ?_)
    refine TL.pure (PV.pickF rfl rfl) rfl (by decide) ?_
    refine TL.nil ?_
    refine TQ.thenC ?_
    first | refine TC.condD rfl (fun h1 => ?_) (fun h1 => ?_) | refine TC.cond rfl (fun h1 => ?_) (fun h1 => ?_)
    · skip
      refine TC.seq ?_
      refine TC.region ?_
      refine TL.call rfl Tb.gofn_18 (fun a w hs => knownOk w) rfl (by decide) (fun _ _ => ?_)
      refine TL.pure (PV.assign rfl) rfl (by decide) ?_
      refine TL.nil ?_
      refine TQ.thenC ?_
      refine TC.ret ?_
      refine TQ.thenR ?_
      refine TQ.retE1 rfl rfl ?_
      first | exact ⟨(), rfl, trivial, List.nil_sublist _⟩ | (exfalso; simp_all; done)
    · skip
      refine TC.skip ?_
      refine TQ.thenC ?_
      refine TC.seq ?_
      refine TC.region ?_
      refine TL.pure (PV.loadBox rfl Tb.agg_24 (by repeat (first | exact List.Mem.head _ | refine List.Mem.tail _ ?_ | refine List.mem_append_right _ ?_)) rfl) rfl (by decide) ?_
      refine TL.pure (PV.loadBox rfl Tb.agg_24 (by repeat (first | exact List.Mem.head _ | refine List.Mem.tail _ ?_ | refine List.mem_append_right _ ?_)) rfl) rfl (by decide) ?_
      refine TL.call rfl Tb.gofn_46 (fun a w hs => Same_ok w _ _ _ _ (hr1.new hs.new) _ _ _ _ (hr2.new hs.new)) rfl (by decide) (fun _ _ => ?_)
      refine TL.pure (PV.move rfl) rfl (by decide) ?_
      refine TL.pure (PV.extract rfl rfl) rfl (by decide) ?_
      refine TL.pure (PV.extract rfl rfl) rfl (by decide) ?_
      refine TL.pure (PV.assign rfl) rfl (by decide) ?_
      refine TL.pure (PV.assign rfl) rfl (by decide) ?_
      refine TL.nil ?_
      refine TQ.thenC ?_
      refine TC.seq ?_
      refine TC.region ?_
      refine TL.pure (PV.loadBox rfl Tb.agg_24 (by repeat (first | exact List.Mem.head _ | refine List.Mem.tail _ ?_ | refine List.mem_append_right _ ?_)) rfl) rfl (by decide) ?_
      refine TL.pure (PV.loadBox rfl Tb.agg_24 (by repeat (first | exact List.Mem.head _ | refine List.Mem.tail _ ?_ | refine List.mem_append_right _ ?_)) rfl) rfl (by decide) ?_
      refine TL.call rfl Tb.gofn_47 (fun a w hs => rSame_ok w _ _ _ _ (hr1.new hs.new) _ _ _ _ (hr2.new hs.new)) rfl (by decide) (fun _ _ => ?_)
      refine TL.pure (PV.move rfl) rfl (by decide) ?_
      refine TL.pure (PV.extract rfl rfl) rfl (by decide) ?_
      refine TL.pure (PV.extract rfl rfl) rfl (by decide) ?_
      refine TL.pure (PV.assign rfl) rfl (by decide) ?_
      refine TL.pure (PV.assign rfl) rfl (by decide) ?_
      refine TL.nil ?_
      refine TQ.thenC ?_
      refine TC.seq ?_
      refine TC.seq ?_
      refine TC.region ?_
      refine TL.pure (PV.move rfl) rfl (by decide) ?_
      refine TL.pure (PV.move rfl) rfl (by decide) ?_
      refine TL.pure (PV.neqB rfl rfl Tb.bool_4) rfl (by decide) ?_
      refine TL.pure (PV.move rfl) rfl (by decide) ?_
      first | refine TL.splitD 35 rfl (fun h2 => ?_) (fun h2 => ?_) | refine TL.split 35 rfl (fun h2 => ?_) (fun h2 => ?_)
      · skip
        refine TL.skip rfl (fun k hk => by cases hk; decide) ?_
        refine TL.skip rfl (fun k hk => by cases hk; decide) ?_
        refine TL.skip rfl (fun k hk => by cases hk; decide) ?_
        refine TL.pure (PV.pickT rfl rfl) rfl (by decide) ?_
        refine TL.nil ?_
        refine TQ.thenC ?_
        refine TC.condT rfl ?_
        refine TC.seq ?_
        refine TC.region ?_
        refine TL.pure (PV.assign rfl) rfl (by decide) ?_
        refine TL.nil ?_
        refine TQ.thenC ?_
        refine TC.ret ?_
        refine TQ.thenR ?_
        refine TQ.retE1 rfl rfl ?_
        first | exact ⟨(), rfl, trivial, List.nil_sublist _⟩ | (exfalso; simp_all; done)
      · skip
        refine TL.pure (PV.move rfl) rfl (by decide) ?_
        refine TL.pure (PV.move rfl) rfl (by decide) ?_
        refine TL.pure (PV.neq rfl rfl) rfl (by decide) ?_
        refine TL.pure (PV.pickF rfl rfl) rfl (by decide) ?_
        refine TL.nil ?_
        refine TQ.thenC ?_
        first | refine TC.condD rfl (fun h3 => ?_) (fun h3 => ?_) | refine TC.cond rfl (fun h3 => ?_) (fun h3 => ?_)
        · skip
          refine TC.seq ?_
          refine TC.region ?_
          refine TL.pure (PV.assign rfl) rfl (by decide) ?_
          refine TL.nil ?_
          refine TQ.thenC ?_
          refine TC.ret ?_
          refine TQ.thenR ?_
          refine TQ.retE1 rfl rfl ?_
          first | exact ⟨(), rfl, trivial, List.nil_sublist _⟩ | (exfalso; simp_all; done)
        · skip
          refine TC.skip ?_
          refine TQ.thenC ?_
          refine TC.seq ?_
          refine TC.region ?_
          refine TL.pure (PV.loadBox rfl Tb.agg_24 (by repeat (first | exact List.Mem.head _ | refine List.Mem.tail _ ?_ | refine List.mem_append_right _ ?_)) rfl) rfl (by decide) ?_
          refine TL.call rfl Tb.gofn_42 (fun a w hs => Plain_ok w _ _ _ _ (hr1.new hs.new)) rfl (by decide) (fun h8 hh8 => ?_)
          refine TL.pure (PV.move rfl) rfl (by decide) ?_
          refine TL.pure (PV.extract rfl rfl) rfl (by decide) ?_
          refine TL.pure (PV.extract rfl rfl) rfl (by decide) ?_
          refine TL.pure (PV.assign rfl) rfl (by decide) ?_
          refine TL.pure (PV.assign rfl) rfl (by decide) ?_
          refine TL.nil ?_
          refine TQ.thenC ?_
          refine TC.seq ?_
          refine TC.region ?_
          refine TL.pure (PV.loadBox rfl Tb.agg_24 (by repeat (first | exact List.Mem.head _ | refine List.Mem.tail _ ?_ | refine List.mem_append_right _ ?_)) rfl) rfl (by decide) ?_
          refine TL.call rfl Tb.gofn_42 (fun a w hs => Plain_ok w _ _ _ _ (hr2.new hs.new)) rfl (by decide) (fun h9 hh9 => ?_)
          refine TL.pure (PV.move rfl) rfl (by decide) ?_
          refine TL.pure (PV.extract rfl rfl) rfl (by decide) ?_
          refine TL.pure (PV.extract rfl rfl) rfl (by decide) ?_
          refine TL.pure (PV.assign rfl) rfl (by decide) ?_
          refine TL.pure (PV.assign rfl) rfl (by decide) ?_
          refine TL.nil ?_
          refine TQ.thenC ?_
          refine TC.seq ?_
          have hs0 : smI n1 r1 n2 r2 = 0 → pofI n1 r1 [] = 0 ∧ pofI n2 r2 [] = 0 ∧ smR n1 r1 n2 r2 = decide (pofL n1 r1 [] = pofL n2 r2 []) := sm_0
          refine TC.region ?_
          refine TL.pure (PV.move rfl) rfl (by decide) ?_
          refine TL.pure (PV.neq rfl rfl) rfl (by decide) ?_
          refine TL.pure (PV.move rfl) rfl (by decide) ?_
          first | refine TL.splitD 52 rfl (fun h4 => ?_) (fun h4 => ?_) | refine TL.split 52 rfl (fun h4 => ?_) (fun h4 => ?_)
          · skip
            refine TL.skip rfl (fun k hk => by cases hk; decide) ?_
            refine TL.skip rfl (fun k hk => by cases hk; decide) ?_
            refine TL.skip rfl (fun k hk => by cases hk; decide) ?_
            refine TL.skipU rfl (fun k hk => by cases hk; decide) ?_
            refine TL.skipU rfl (fun k hk => by cases hk; decide) ?_
            refine TL.skip rfl (fun k hk => by cases hk; decide) ?_
            refine TL.skip rfl (fun k hk => by cases hk; decide) ?_
            refine TL.skipU rfl (fun k hk => by cases hk; decide) ?_
            refine TL.skipU rfl (fun k hk => by cases hk; decide) ?_
            refine TL.skipU rfl (fun k hk => by cases hk; decide) ?_
            refine TL.skipU rfl (fun k hk => by cases hk; decide) ?_
            refine TL.skipU rfl (fun k hk => by cases hk; decide) ?_
            refine TL.skip rfl (fun k hk => by cases hk; decide) ?_
            refine TL.pure (PV.pickT rfl rfl) rfl (by decide) ?_
            refine TL.pure (PV.move rfl) rfl (by decide) ?_
            refine TL.call rfl Tb.gofn_18 (fun a w hs => knownOk w) rfl (by decide) (fun _ _ => ?_)
            refine TL.pure (PV.pickT rfl rfl) rfl (by decide) ?_
            refine TL.pure (PV.assign rfl) rfl (by decide) ?_
            refine TL.nil ?_
            refine TQ.thenC ?_
            refine TC.ret ?_
            refine TQ.retE1 rfl rfl ?_
            first | exact ⟨(), rfl, trivial, List.nil_sublist _⟩ | (exfalso; simp_all; done)
          · skip
            refine TL.pure (PV.move rfl) rfl (by decide) ?_
            refine TL.pure (PV.eql rfl rfl) rfl (by decide) ?_
            refine TL.pure (PV.move rfl) rfl (by decide) ?_
            first | refine TL.splitD 55 rfl (fun h5 => ?_) (fun h5 => ?_) | refine TL.split 55 rfl (fun h5 => ?_) (fun h5 => ?_)
            · skip
              refine TL.pure (PV.move rfl) rfl (by decide) ?_
              refine TL.pure (PV.eql rfl rfl) rfl (by decide) ?_
              refine TL.pure (PV.pickT rfl rfl) rfl (by decide) ?_
              refine TL.pure (PV.move rfl) rfl (by decide) ?_
              first | refine TL.splitD 59 rfl (fun h6 => ?_) (fun h6 => ?_) | refine TL.split 59 rfl (fun h6 => ?_) (fun h6 => ?_)
              · skip
                refine TL.pure (PV.move rfl) rfl (by decide) ?_
                refine TL.pure (PV.move rfl) rfl (by decide) ?_
                refine TL.pure (PV.move rfl) rfl (by decide) ?_
                refine TL.call rfl Tb.gofn_45 (fun a w hs => sameG hh8 hh9 (BdsAt.s hs.new (fun yy hyy => by repeat (first | exact hyy | exact List.mem_append_left _ hyy | refine List.mem_append_right _ ?_ | refine List.Mem.tail _ ?_)) hh8) (BdsAt.s hs.new (fun yy hyy => by repeat (first | exact hyy | exact List.mem_append_left _ hyy | refine List.mem_append_right _ ?_ | refine List.Mem.tail _ ?_)) hh9) (Nat.le_trans pofL_sm (by decide)) (Nat.le_trans pofL_sm (by decide))) rfl (by decide) (fun _ _ => ?_)
                refine TL.pure (PV.eqlB rfl rfl Tb.bool_4) rfl (by decide) ?_
                refine TL.pure (PV.pickT rfl rfl) rfl (by decide) ?_
                refine TL.pure (PV.pickF rfl rfl) rfl (by decide) ?_
                refine TL.pure (PV.move rfl) rfl (by decide) ?_
                first | refine TL.splitD 67 rfl (fun h7 => ?_) (fun h7 => ?_) | refine TL.split 67 rfl (fun h7 => ?_) (fun h7 => ?_)
                · skip
                  refine TL.call rfl Tb.gofn_18 (fun a w hs => knownOk w) rfl (by decide) (fun _ _ => ?_)
                  refine TL.pure (PV.pickT rfl rfl) rfl (by decide) ?_
                  refine TL.pure (PV.assign rfl) rfl (by decide) ?_
                  refine TL.nil ?_
                  refine TQ.thenC ?_
                  refine TC.ret ?_
                  refine TQ.retE1 rfl rfl ?_
                  first | exact ⟨(), rfl, trivial, List.nil_sublist _⟩ | (exfalso; simp_all; done)
                · skip
                  refine TL.skip rfl (fun k hk => by cases hk; decide) ?_
                  refine TL.pure (PV.pickF rfl rfl) rfl (by decide) ?_
                  refine TL.pure (PV.assign rfl) rfl (by decide) ?_
                  refine TL.nil ?_
                  refine TQ.thenC ?_
                  refine TC.ret ?_
                  refine TQ.retE1 rfl rfl ?_
                  first | exact ⟨(), rfl, trivial, List.nil_sublist _⟩ | (exfalso; simp_all; done)
              · skip
                refine TL.skip rfl (fun k hk => by cases hk; decide) ?_
                refine TL.skip rfl (fun k hk => by cases hk; decide) ?_
                refine TL.skip rfl (fun k hk => by cases hk; decide) ?_
                refine TL.skip rfl (fun k hk => by cases hk; decide) ?_
                refine TL.skip rfl (fun k hk => by cases hk; decide) ?_
                refine TL.pure (PV.pickF rfl rfl) rfl (by decide) ?_
                refine TL.pure (PV.pickF rfl rfl) rfl (by decide) ?_
                refine TL.pure (PV.move rfl) rfl (by decide) ?_
                refine TL.skip rfl (fun k hk => by cases hk; decide) ?_
                refine TL.pure (PV.pickF rfl rfl) rfl (by decide) ?_
                refine TL.pure (PV.assign rfl) rfl (by decide) ?_
                refine TL.nil ?_
                refine TQ.thenC ?_
                refine TC.ret ?_
                refine TQ.retE1 rfl rfl ?_
                first | exact ⟨(), rfl, trivial, List.nil_sublist _⟩ | (exfalso; simp_all; done)
            · skip
              refine TL.skip rfl (fun k hk => by cases hk; decide) ?_
              refine TL.skip rfl (fun k hk => by cases hk; decide) ?_
              refine TL.pure (PV.pickF rfl rfl) rfl (by decide) ?_
              refine TL.pure (PV.move rfl) rfl (by decide) ?_
              refine TL.skip rfl (fun k hk => by cases hk; decide) ?_
              refine TL.skip rfl (fun k hk => by cases hk; decide) ?_
              refine TL.skip rfl (fun k hk => by cases hk; decide) ?_
              refine TL.skip rfl (fun k hk => by cases hk; decide) ?_
              refine TL.skip rfl (fun k hk => by cases hk; decide) ?_
              refine TL.pure (PV.pickF rfl rfl) rfl (by decide) ?_
              refine TL.pure (PV.pickF rfl rfl) rfl (by decide) ?_
              refine TL.pure (PV.move rfl) rfl (by decide) ?_
              refine TL.skip rfl (fun k hk => by cases hk; decide) ?_
              refine TL.pure (PV.pickF rfl rfl) rfl (by decide) ?_
              refine TL.pure (PV.assign rfl) rfl (by decide) ?_
              refine TL.nil ?_
              refine TQ.thenC ?_
              refine TC.ret ?_
              refine TQ.retE1 rfl rfl ?_
              first | exact ⟨(), rfl, trivial, List.nil_sublist _⟩ | (exfalso; simp_all; done)

theorem coreSames_all (W : World) (n1 : Int) (p1 : Option Addr) (c1 : Nat) (r1 : List Bd) (hr1 : BdsAt W p1 r1) (_ : r1.length ≤ c1) (_ : I64 n1) (n2 : Int) (p2 : Option Addr) (c2 : Nat) (r2 : List Bd) (hr2 : BdsAt W p2 r2) (_ : r2.length ≤ c2) (_ : I64 n2) :
    Calls Try.prog 11 #[cv n1 p1 r1.length c1, cv n2 p2 r2.length c2] W (Post (X := Unit) (fun _ => .bool true) (fun _ => True) (fun _ => []) W) := coreSames_ok W n1 p1 c1 r1 hr1 n2 p2 c2 r2 hr2

end Go.Proofs.Ytenalmddoljhoaa
