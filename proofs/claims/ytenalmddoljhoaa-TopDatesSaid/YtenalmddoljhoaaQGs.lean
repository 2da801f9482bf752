/- Dates or a clash, what follows, and what is left when it is left out: the contract of the theorem of the whole. -/
import Derived.Test.YtenalmddoljhoaaQFs
import Derived.Test.YtenalmddoljhoaaVJ
set_option linter.unusedVariables false
set_option linter.unusedSimpArgs false
namespace Go.Proofs.Ytenalmddoljhoaa
open Go.Sx Go.RowKit

theorem both_fin {n : Int} {rs : List Bd} {r : Bd} {x : Int × HD × List Bd} (hx : CF (bothI n rs n [⟨r.b, r.a, -r.m - 1⟩]) n (rs ++ [⟨r.b, r.a, -r.m - 1⟩]) x) (h : flwI n rs r = 0) (hb : bothI n rs n [⟨r.b, r.a, -r.m - 1⟩] = 0) : validateI x.1 x.2.2 = 0 ∧ dOk x.1 x.2.2 = !flwR n rs r := by
  rw [hx.num, hx.eq, if_pos hb, if_pos hb]
  refine ⟨?_, both_opp h hb⟩
  obtain ⟨v1, v2, _, hl⟩ := bothI_is hb
  have hp := v1.pts
  have h3 : (rs ++ [(⟨r.b, r.a, -r.m - 1⟩ : Bd)]).all (okB n) = true := by rw [List.all_append, v1.all, v2.all]; rfl
  unfold validateI
  rw [if_neg (by omega), if_neg (by rw [List.length_append]; simp only [List.length_singleton] at hl ⊢; omega), if_pos h3]
def kpK (ds : List Int) (l : List Bd) (k : Nat) : Bool := (List.range k).all fun j => keepB ds (l.getD j default)
theorem kpK_next (ds : List Int) (l : List Bd) (k : Nat) : kpK ds l (k + 1) = (kpK ds l k && keepB ds (l.getD k default)) := by simp [kpK, List.range_succ, List.all_append]
theorem kpK_all {n : Int} {rs : List Bd} {ds : List Int} (hd : dOk n rs = true) (hc : checkI n rs ds = 0 ∨ checkI n rs ds = 7) : kpK ds (plainB n.toNat rs) (plainB n.toNat rs).length = decide (checkI n rs ds = 0) := by
  rw [Bool.eq_iff_iff, decide_eq_true_eq, ← keep_pl hd hc]
  unfold kpK
  rw [List.all_eq_true]
  constructor
  · intro h r hr
    obtain ⟨j, hj, rfl⟩ := rs_idx hr
    have h9 : keepB ds ((plainB n.toNat rs).getD j default) = true := h j (List.mem_range.2 hj)
    exact (show ds.getD _ 0 - ds.getD _ 0 ≤ _ from of_decide_eq_true h9)
  · intro h j hj
    have h9 := h _ (idx_mem (List.mem_range.1 hj))
    unfold KpB at h9
    exact decide_eq_true h9
theorem flw_m {n : Int} {rs : List Bd} {r : Bd} (h : flwI n rs r = 0) : -10000 ≤ r.m ∧ r.m ≤ 10000 := by
  unfold flwI at h
  by_cases h1 : layI n rs [r.a, r.b] ≠ 0
  · rw [if_pos h1] at h; exact absurd h h1
  · rw [if_neg h1] at h
    by_cases h2 : isBoundB r = true
    · unfold isBoundB at h2
      rw [Bool.and_eq_true] at h2
      have := h2.2
      unfold isWithinB at this
      simpa using this
    · rw [if_neg h2] at h; cases h


set_option maxRecDepth 100000 in
set_option maxHeartbeats 4000000 in
theorem topDates_ok (w0 : World) (n : Int) (p : Option Addr) (cap : Nat) (rs : List Bd) (hr : BdsAt w0 p rs) (pd : Option Addr) (cd : Nat) (ds : List Int) (hx : IntsAt w0 pd ds) (r : Bd) :
    Calls Try.prog 16 #[cv n p rs.length cap, .slice pd ds.length cd, r.val] w0 (Post (X := Unit) (fun _ => .bool true) (fun _ => True) (fun _ => []) w0) := by
  refine calls Try.func16 rfl (n := 259) rfl (by simp) ?_
  refine TC.seq ?_
  refine TC.region ?_
  refine TL.box rfl rfl (by decide) (fun b0 hb0 => ?_)
  refine TL.box rfl rfl (by decide) (fun b1 hb1 => ?_)
  refine TL.pure (PV.assign rfl) rfl (by decide) ?_
  refine TL.nil ?_
  refine TQ.thenC ?_
  refine TC.seq ?_
  refine TC.seq ?_
  refine TC.region ?_
  refine TL.pure (PV.build (cs := (Bd.mk 0 1 7).cells.toArray) rfl Tb.zero_42 Tb.pl_42 rfl) rfl (by decide) ?_
  refine TL.pure (PV.build (cs := (Bd.mk 1 0 (-7)).cells.toArray) rfl Tb.zero_42 Tb.pl_42 rfl) rfl (by decide) ?_
  refine TL.buildSlice (cs := (bdc rs2).toArray) rfl Tb.sl_22 Tb.zi_42 (by decide) rs2_fill (by decide) rfl (by decide) (fun bS hbS => ?_)
  refine TL.pure (PV.build rfl Tb.zero_24 Tb.pl_24 rfl) rfl (by decide) ?_
  refine TL.call rfl Tb.gofn_31 (fun a w hs => Fixed_ok w 2 (some ⟨bS, 0, none⟩) 2 rs2 (BdsAt.s (h := some (bS, 2, [])) (e := 42) hs.new (fun yy hyy => by rw [List.mem_singleton.1 (show yy ∈ [(bS, Obj.cells (bdc rs2 ++ ([] : List Value)).toArray 42 (0, 0))] from hyy), List.append_nil];  repeat (first | exact List.Mem.head _ | refine List.Mem.tail _ ?_ | refine List.mem_append_right _ ?_)) (rs2_go bS)) 0 1) rfl (by decide) (fun _ _ => ?_)
  refine TL.pure (PV.move rfl) rfl (by decide) ?_
  refine TL.pure (PV.extract rfl rfl) rfl (by decide) ?_
  refine TL.pure (PV.extract rfl rfl) rfl (by decide) ?_
  refine TL.pure (PV.extract rfl rfl) rfl (by decide) ?_
  refine TL.pure (PV.assign rfl) rfl (by decide) ?_
  refine TL.pure (PV.assign rfl) rfl (by decide) ?_
  refine TL.pure (PV.assign rfl) rfl (by decide) ?_
  refine TL.nil ?_
  refine TQ.thenC ?_
  refine TC.seq ?_
  rw [rs2_e, rs2_b, rs2_m]
  refine TC.region ?_
  refine TL.pure (PV.move rfl) rfl (by decide) ?_
  refine TL.pure (PV.neq rfl rfl) rfl (by decide) ?_
  refine TL.pure (PV.move rfl) rfl (by decide) ?_
  first | refine TL.splitD 36 rfl (fun h0 => ?_) (fun h0 => ?_) | refine TL.split 36 rfl (fun h0 => ?_) (fun h0 => ?_)
  · skip
    refine TL.skip rfl (fun k hk => by cases hk; decide) ?_
    refine TL.skip rfl (fun k hk => by cases hk; decide) ?_
    refine TL.pure (PV.pickT rfl rfl) rfl (by decide) ?_
    refine TL.pure (PV.move rfl) rfl (by decide) ?_
    refine TL.skip rfl (fun k hk => by cases hk; decide) ?_
    refine TL.skip rfl (fun k hk => by cases hk; decide) ?_
    refine TL.pure (PV.pickT rfl rfl) rfl (by decide) ?_
    refine TL.nil ?_
    refine TQ.thenC ?_
    refine TC.condT rfl ?_
    refine TC.seq ?_
    refine TC.region ?_
    refine TL.pure (PV.assign rfl) rfl (by decide) ?_
    refine TL.nil ?_
    refine TQ.thenC ?_
    refine TC.ret ?_
    refine TQ.thenR ?_
    refine TQ.retE1 rfl rfl ?_
    first | exact ⟨(), rfl, trivial, List.nil_sublist _⟩ | exact ⟨(), by rw [decide_eq_true rfl], trivial, List.nil_sublist _⟩ | exact ⟨(), by rw [hp10]; rfl, trivial, List.nil_sublist _⟩ | exact ⟨(), by rw [hfin.2]; simp, trivial, List.nil_sublist _⟩ | exact absurd (of_decide_eq_true hsm.2) f3 | exact absurd hsm.2 f3 | contradiction | (exfalso; omega) | (exfalso; simp_all; done)
  · skip
    refine TL.pure (PV.move rfl) rfl (by decide) ?_
    refine TL.pure ((by first | exact PV.notD rfl | exact PV.not rfl)) rfl (by decide) ?_
    refine TL.pure (PV.pickF rfl rfl) rfl (by decide) ?_
    refine TL.pure (PV.move rfl) rfl (by decide) ?_
    first | refine TL.splitD 40 rfl (fun h1 => ?_) (fun h1 => ?_) | refine TL.split 40 rfl (fun h1 => ?_) (fun h1 => ?_)
    · skip
      refine TL.skip rfl (fun k hk => by cases hk; decide) ?_
      refine TL.skip rfl (fun k hk => by cases hk; decide) ?_
      refine TL.pure (PV.pickT rfl rfl) rfl (by decide) ?_
      refine TL.nil ?_
      refine TQ.thenC ?_
      refine TC.condT rfl ?_
      refine TC.seq ?_
      refine TC.region ?_
      refine TL.pure (PV.assign rfl) rfl (by decide) ?_
      refine TL.nil ?_
      refine TQ.thenC ?_
      refine TC.ret ?_
      refine TQ.thenR ?_
      refine TQ.retE1 rfl rfl ?_
      first | exact ⟨(), rfl, trivial, List.nil_sublist _⟩ | exact ⟨(), by rw [decide_eq_true rfl], trivial, List.nil_sublist _⟩ | exact ⟨(), by rw [hp10]; rfl, trivial, List.nil_sublist _⟩ | exact ⟨(), by rw [hfin.2]; simp, trivial, List.nil_sublist _⟩ | exact absurd (of_decide_eq_true hsm.2) f3 | exact absurd hsm.2 f3 | contradiction | (exfalso; omega) | (exfalso; simp_all; done)
    · skip
      refine TL.pure (PV.move rfl) rfl (by decide) ?_
      refine TL.pure (PV.neq rfl rfl) rfl (by decide) ?_
      refine TL.pure (PV.pickF rfl rfl) rfl (by decide) ?_
      refine TL.nil ?_
      refine TQ.thenC ?_
      first | refine TC.condD rfl (fun hk0 => ?_) (fun hk0 => ?_) | refine TC.cond rfl (fun hk0 => ?_) (fun hk0 => ?_)
      · skip
        first | contradiction | (exfalso; simp_all; done)
      · skip
        refine TC.skip ?_
        refine TQ.thenC ?_
        refine TC.seq ?_
        refine TC.seq ?_
        refine TC.region ?_
        refine TL.pure (PV.loadBox rfl Tb.agg_24 (by repeat (first | exact List.Mem.head _ | refine List.Mem.tail _ ?_ | refine List.mem_append_right _ ?_)) rfl) rfl (by decide) ?_
        refine TL.call rfl Tb.gofn_17 (fun a w hs => long_ok w _ _ _ _ (hr.new hs.new)) rfl (by decide) (fun _ _ => ?_)
        refine TL.pure (PV.move rfl) rfl (by decide) ?_
        first | refine TL.splitD 46 rfl (fun h3 => ?_) (fun h3 => ?_) | refine TL.split 46 rfl (fun h3 => ?_) (fun h3 => ?_)
        · skip
          refine TL.skip rfl (fun k hk => by cases hk; decide) ?_
          refine TL.skip rfl (fun k hk => by cases hk; decide) ?_
          refine TL.skip rfl (fun k hk => by cases hk; decide) ?_
          refine TL.pure (PV.pickT rfl rfl) rfl (by decide) ?_
          refine TL.nil ?_
          refine TQ.thenC ?_
          refine TC.condT rfl ?_
          refine TC.seq ?_
          refine TC.region ?_
          refine TL.pure (PV.assign rfl) rfl (by decide) ?_
          refine TL.nil ?_
          refine TQ.thenC ?_
          refine TC.ret ?_
          refine TQ.thenR ?_
          refine TQ.retE1 rfl rfl ?_
          first | exact ⟨(), rfl, trivial, List.nil_sublist _⟩ | exact ⟨(), by rw [decide_eq_true rfl], trivial, List.nil_sublist _⟩ | exact ⟨(), by rw [hp10]; rfl, trivial, List.nil_sublist _⟩ | exact ⟨(), by rw [hfin.2]; simp, trivial, List.nil_sublist _⟩ | exact absurd (of_decide_eq_true hsm.2) f3 | exact absurd hsm.2 f3 | contradiction | (exfalso; omega) | (exfalso; simp_all; done)
        · skip
          refine TL.pure (PV.move rfl) rfl (by decide) ?_
          refine TL.pure (PV.len rfl Tb.sl_25) rfl (by decide) ?_
          refine TL.pure (PV.gtr rfl rfl) rfl (by decide) ?_
          refine TL.pure (PV.pickF rfl rfl) rfl (by decide) ?_
          refine TL.nil ?_
          refine TQ.thenC ?_
          first | refine TC.condD rfl (fun hlong => ?_) (fun hlong => ?_) | refine TC.cond rfl (fun hlong => ?_) (fun hlong => ?_)
          · skip
            refine TC.seq ?_
            refine TC.region ?_
            refine TL.pure (PV.assign rfl) rfl (by decide) ?_
            refine TL.nil ?_
            refine TQ.thenC ?_
            refine TC.ret ?_
            refine TQ.thenR ?_
            refine TQ.retE1 rfl rfl ?_
            first | exact ⟨(), rfl, trivial, List.nil_sublist _⟩ | exact ⟨(), by rw [decide_eq_true rfl], trivial, List.nil_sublist _⟩ | exact ⟨(), by rw [hp10]; rfl, trivial, List.nil_sublist _⟩ | exact ⟨(), by rw [hfin.2]; simp, trivial, List.nil_sublist _⟩ | exact absurd (of_decide_eq_true hsm.2) f3 | exact absurd hsm.2 f3 | contradiction | (exfalso; omega) | (exfalso; simp_all; done)
          · skip
            refine TC.skip ?_
            refine TQ.thenC ?_
            refine TC.seq ?_
            refine TC.region ?_
            refine TL.pure (PV.loadBox rfl Tb.agg_24 (by repeat (first | exact List.Mem.head _ | refine List.Mem.tail _ ?_ | refine List.mem_append_right _ ?_)) rfl) rfl (by decide) ?_
            refine TL.call rfl Tb.gofn_25 (fun a w hs => dates_ok w n p cap rs (hr.new hs.new)) rfl (by decide) (fun bD hbD => ?_)
            refine TL.pure (PV.move rfl) rfl (by decide) ?_
            refine TL.pure (PV.extract rfl rfl) rfl (by decide) ?_
            refine TL.pure (PV.extract rfl rfl) rfl (by decide) ?_
            refine TL.pure (PV.extract rfl rfl) rfl (by decide) ?_
            refine TL.pure (PV.assign rfl) rfl (by decide) ?_
            refine TL.pure (PV.assign rfl) rfl (by decide) ?_
            refine TL.pure (PV.assign rfl) rfl (by decide) ?_
            refine TL.nil ?_
            refine TQ.thenC ?_
            refine TC.seq ?_
            refine TC.region ?_
            refine TL.pure (PV.loadBox rfl Tb.agg_24 (by repeat (first | exact List.Mem.head _ | refine List.Mem.tail _ ?_ | refine List.mem_append_right _ ?_)) rfl) rfl (by decide) ?_
            refine TL.call rfl Tb.gofn_28 (fun a w hs => Clash_ok w n p cap rs (hr.new hs.new)) rfl (by decide) (fun xa hxa => ?_)
            refine TL.pure (PV.move rfl) rfl (by decide) ?_
            refine TL.pure (PV.extract rfl rfl) rfl (by decide) ?_
            refine TL.pure (PV.extract rfl rfl) rfl (by decide) ?_
            refine TL.pure (PV.extract rfl rfl) rfl (by decide) ?_
            refine TL.pure (PV.assign rfl) rfl (by decide) ?_
            refine TL.pure (PV.assign rfl) rfl (by decide) ?_
            refine TL.pure (PV.assign rfl) rfl (by decide) ?_
            refine TL.nil ?_
            refine TQ.thenC ?_
            refine TC.seq ?_
            refine TC.seq ?_
            refine TC.region ?_
            refine TL.pure (PV.move rfl) rfl (by decide) ?_
            refine TL.pure (PV.neq rfl rfl) rfl (by decide) ?_
            refine TL.pure (PV.move rfl) rfl (by decide) ?_
            first | refine TL.splitD 65 rfl (fun h5 => ?_) (fun h5 => ?_) | refine TL.split 65 rfl (fun h5 => ?_) (fun h5 => ?_)
            · skip
              refine TL.skip rfl (fun k hk => by cases hk; decide) ?_
              refine TL.skip rfl (fun k hk => by cases hk; decide) ?_
              refine TL.pure (PV.pickT rfl rfl) rfl (by decide) ?_
              refine TL.nil ?_
              refine TQ.thenC ?_
              refine TC.condT rfl ?_
              refine TC.seq ?_
              refine TC.region ?_
              refine TL.pure (PV.move rfl) rfl (by decide) ?_
              refine TL.pure (PV.move rfl) rfl (by decide) ?_
              refine TL.pure (PV.eql rfl rfl) rfl (by decide) ?_
              refine TL.pure (PV.assign rfl) rfl (by decide) ?_
              refine TL.nil ?_
              refine TQ.thenC ?_
              refine TC.ret ?_
              refine TQ.thenR ?_
              refine TQ.retE1 rfl rfl ?_
              first | exact ⟨(), rfl, trivial, List.nil_sublist _⟩ | exact ⟨(), by rw [decide_eq_true rfl], trivial, List.nil_sublist _⟩ | exact ⟨(), by rw [hp10]; rfl, trivial, List.nil_sublist _⟩ | exact ⟨(), by rw [hfin.2]; simp, trivial, List.nil_sublist _⟩ | exact absurd (of_decide_eq_true hsm.2) f3 | exact absurd hsm.2 f3 | contradiction | (exfalso; omega) | (exfalso; simp_all; done)
            · skip
              refine TL.pure (PV.move rfl) rfl (by decide) ?_
              refine TL.pure (PV.neq rfl rfl) rfl (by decide) ?_
              refine TL.pure (PV.pickF rfl rfl) rfl (by decide) ?_
              refine TL.nil ?_
              refine TQ.thenC ?_
              first | refine TC.condD rfl (fun hbad => ?_) (fun hbad => ?_) | refine TC.cond rfl (fun hbad => ?_) (fun hbad => ?_)
              · skip
                refine TC.seq ?_
                refine TC.region ?_
                refine TL.pure (PV.move rfl) rfl (by decide) ?_
                refine TL.pure (PV.move rfl) rfl (by decide) ?_
                refine TL.pure (PV.eql rfl rfl) rfl (by decide) ?_
                refine TL.pure (PV.assign rfl) rfl (by decide) ?_
                refine TL.nil ?_
                refine TQ.thenC ?_
                refine TC.ret ?_
                refine TQ.thenR ?_
                refine TQ.retE1 rfl rfl ?_
                first | exact ⟨(), rfl, trivial, List.nil_sublist _⟩ | exact ⟨(), by rw [decide_eq_true rfl], trivial, List.nil_sublist _⟩ | exact ⟨(), by rw [hp10]; rfl, trivial, List.nil_sublist _⟩ | exact ⟨(), by rw [hfin.2]; simp, trivial, List.nil_sublist _⟩ | exact absurd (of_decide_eq_true hsm.2) f3 | exact absurd hsm.2 f3 | contradiction | (exfalso; omega) | (exfalso; simp_all; done)
              · skip
                refine TC.skip ?_
                refine TQ.thenC ?_
                refine TC.seq ?_
                refine TC.seqK [1, 3, 5, 6, 11] (X := Unit) (fun x => True) (fun x => [(92, .bool false)]) (fun x => [(b1, Obj.cells r.cells.toArray 42 (0, 0)), (b0, Obj.cells #[.int .i64 n, .slice p rs.length cap] 24 (0, 0))]) ?_ ?_
                · skip
                  have hz : Valid n rs := by unfold Valid; omega
                  have hxx : dOk n rs = !clB n rs := dok_cl hz
                  have hpz := pof_nil hz
                  refine TC.region ?_
                  refine TL.pure (PV.move rfl) rfl (by decide) ?_
                  refine TL.pure (PV.move rfl) rfl (by decide) ?_
                  refine TL.pure (PV.eqlB rfl rfl Tb.bool_4) rfl (by decide) ?_
                  refine TL.pure (PV.move rfl) rfl (by decide) ?_
                  first | refine TL.splitD 75 rfl (fun g1 => ?_) (fun g1 => ?_) | refine TL.split 75 rfl (fun g1 => ?_) (fun g1 => ?_)
                  · skip
                    exfalso; rw [hxx] at g1; revert g1; cases clB n rs <;> simp
                  · skip
                    refine TL.pure (PV.move rfl) rfl (by decide) ?_
                    refine TL.pure (PV.move rfl) rfl (by decide) ?_
                    first | refine TL.splitD 77 rfl (fun g2 => ?_) (fun g2 => ?_) | refine TL.split 77 rfl (fun g2 => ?_) (fun g2 => ?_)
                    · skip
                      refine TL.pure (PV.loadBox rfl Tb.agg_24 (by repeat (first | exact List.Mem.head _ | refine List.Mem.tail _ ?_ | refine List.mem_append_right _ ?_)) rfl) rfl (by decide) ?_
                      refine TL.pure (PV.move rfl) rfl (by decide) ?_
                      try have hd1 : dOk n rs = true := decide_eq_true g2
                      refine TL.call rfl Tb.gofn_23 (fun a w hs => datesCk hs.new (fun yy hyy => by simp only [List.mem_append, List.mem_cons]; simp [hyy]) (hr.new hs.new) hd1) rfl (by decide) (fun _ _ => ?_)
                      refine TL.pure (PV.neq rfl rfl) rfl (by decide) ?_
                      refine TL.pure (PV.pickT rfl rfl) rfl (by decide) ?_
                      refine TL.pure (PV.pickF rfl rfl) rfl (by decide) ?_
                      refine TL.pure (PV.move rfl) rfl (by decide) ?_
                      first | refine TL.splitD 84 rfl (fun g3 => ?_) (fun g3 => ?_) | refine TL.split 84 rfl (fun g3 => ?_) (fun g3 => ?_)
                      · skip
                        first | contradiction | (exfalso; simp_all; done)
                      · skip
                        refine TL.pure (PV.move rfl) rfl (by decide) ?_
                        refine TL.pure (PV.move rfl) rfl (by decide) ?_
                        first | refine TL.splitD 86 rfl (fun g4 => ?_) (fun g4 => ?_) | refine TL.split 86 rfl (fun g4 => ?_) (fun g4 => ?_)
                        · skip
                          refine TL.pure (PV.loadBox rfl Tb.agg_24 (by repeat (first | exact List.Mem.head _ | refine List.Mem.tail _ ?_ | refine List.mem_append_right _ ?_)) rfl) rfl (by decide) ?_
                          refine TL.pure (PV.move rfl) rfl (by decide) ?_
                          try have hcl1 : clB n rs = true := decide_eq_true g4
                          refine TL.call rfl Tb.gofn_26 (fun a w hs => clashCk hs.new (fun yy hyy => by simp only [List.mem_append, List.mem_cons]; simp [hyy]) (hr.new hs.new) hxa hcl1) rfl (by decide) (fun _ _ => ?_)
                          refine TL.pure (PV.neq rfl rfl) rfl (by decide) ?_
                          refine TL.pure (PV.pickT rfl rfl) rfl (by decide) ?_
                          refine TL.pure (PV.pickF rfl rfl) rfl (by decide) ?_
                          refine TL.nil ?_
                          refine TQ.thenN ?_
                          refine TQ.midK () (by repeat (first | exact True.intro | refine And.intro rfl ?_)) (by repeat (first | exact True.intro | refine And.intro rfl ?_)) (by repeat (first | exact List.Sublist.slnil | exact List.nil_sublist _ | exact List.Sublist.refl _ | refine List.Sublist.cons_cons _ ?_ | refine List.Sublist.cons _ ?_ | refine List.Sublist.trans ?_ (List.sublist_append_right _ _))) (by first | trivial | omega)
                        · skip
                          refine TL.skip rfl (fun k hk => by cases hk; decide) ?_
                          refine TL.skip rfl (fun k hk => by cases hk; decide) ?_
                          try have hcl1 : clB n rs = true := decide_eq_true g4
                          refine TL.skip rfl (fun k hk => by cases hk; decide) ?_
                          refine TL.skip rfl (fun k hk => by cases hk; decide) ?_
                          refine TL.pure (PV.pickF rfl rfl) rfl (by decide) ?_
                          refine TL.pure (PV.pickF rfl rfl) rfl (by decide) ?_
                          refine TL.nil ?_
                          refine TQ.thenN ?_
                          refine TQ.midK () (by repeat (first | exact True.intro | refine And.intro rfl ?_)) (by repeat (first | exact True.intro | refine And.intro rfl ?_)) (by repeat (first | exact List.Sublist.slnil | exact List.nil_sublist _ | exact List.Sublist.refl _ | refine List.Sublist.cons_cons _ ?_ | refine List.Sublist.cons _ ?_ | refine List.Sublist.trans ?_ (List.sublist_append_right _ _))) (by first | trivial | omega)
                    · skip
                      refine TL.skip rfl (fun k hk => by cases hk; decide) ?_
                      refine TL.skip rfl (fun k hk => by cases hk; decide) ?_
                      try have hd1 : dOk n rs = true := decide_eq_true g2
                      refine TL.skip rfl (fun k hk => by cases hk; decide) ?_
                      refine TL.skip rfl (fun k hk => by cases hk; decide) ?_
                      refine TL.pure (PV.pickF rfl rfl) rfl (by decide) ?_
                      refine TL.pure (PV.pickF rfl rfl) rfl (by decide) ?_
                      refine TL.pure (PV.move rfl) rfl (by decide) ?_
                      refine TL.pure (PV.move rfl) rfl (by decide) ?_
                      refine TL.pure (PV.move rfl) rfl (by decide) ?_
                      first | refine TL.splitD 86 rfl (fun g4 => ?_) (fun g4 => ?_) | refine TL.split 86 rfl (fun g4 => ?_) (fun g4 => ?_)
                      · skip
                        refine TL.pure (PV.loadBox rfl Tb.agg_24 (by repeat (first | exact List.Mem.head _ | refine List.Mem.tail _ ?_ | refine List.mem_append_right _ ?_)) rfl) rfl (by decide) ?_
                        refine TL.pure (PV.move rfl) rfl (by decide) ?_
                        try have hcl1 : clB n rs = true := decide_eq_true g4
                        refine TL.call rfl Tb.gofn_26 (fun a w hs => clashCk hs.new (fun yy hyy => by simp only [List.mem_append, List.mem_cons]; simp [hyy]) (hr.new hs.new) hxa hcl1) rfl (by decide) (fun _ _ => ?_)
                        refine TL.pure (PV.neq rfl rfl) rfl (by decide) ?_
                        refine TL.pure (PV.pickT rfl rfl) rfl (by decide) ?_
                        refine TL.pure (PV.pickF rfl rfl) rfl (by decide) ?_
                        refine TL.nil ?_
                        refine TQ.thenN ?_
                        refine TQ.midK () (by repeat (first | exact True.intro | refine And.intro rfl ?_)) (by repeat (first | exact True.intro | refine And.intro rfl ?_)) (by repeat (first | exact List.Sublist.slnil | exact List.nil_sublist _ | exact List.Sublist.refl _ | refine List.Sublist.cons_cons _ ?_ | refine List.Sublist.cons _ ?_ | refine List.Sublist.trans ?_ (List.sublist_append_right _ _))) (by first | trivial | omega)
                      · skip
                        refine TL.skip rfl (fun k hk => by cases hk; decide) ?_
                        refine TL.skip rfl (fun k hk => by cases hk; decide) ?_
                        try have hcl1 : clB n rs = true := decide_eq_true g4
                        refine TL.skip rfl (fun k hk => by cases hk; decide) ?_
                        refine TL.skip rfl (fun k hk => by cases hk; decide) ?_
                        refine TL.pure (PV.pickF rfl rfl) rfl (by decide) ?_
                        refine TL.pure (PV.pickF rfl rfl) rfl (by decide) ?_
                        refine TL.nil ?_
                        refine TQ.thenN ?_
                        refine TQ.midK () (by repeat (first | exact True.intro | refine And.intro rfl ?_)) (by repeat (first | exact True.intro | refine And.intro rfl ?_)) (by repeat (first | exact List.Sublist.slnil | exact List.nil_sublist _ | exact List.Sublist.refl _ | refine List.Sublist.cons_cons _ ?_ | refine List.Sublist.cons _ ?_ | refine List.Sublist.trans ?_ (List.sublist_append_right _ _))) (by first | trivial | omega)
                · skip
                  intro _ _
                  first | refine TC.condD rfl (fun g5 => ?_) (fun g5 => ?_) | refine TC.cond rfl (fun g5 => ?_) (fun g5 => ?_)
                  · skip
                    refine TC.seq ?_
                    refine TC.region ?_
                    refine TL.pure (PV.assign rfl) rfl (by decide) ?_
                    refine TL.nil ?_
                    refine TQ.thenC ?_
                    refine TC.ret ?_
                    refine TQ.thenR ?_
                    refine TQ.retE1 rfl rfl ?_
                    first | exact ⟨(), rfl, trivial, List.nil_sublist _⟩ | exact ⟨(), by rw [decide_eq_true rfl], trivial, List.nil_sublist _⟩ | exact ⟨(), by rw [hp10]; rfl, trivial, List.nil_sublist _⟩ | exact ⟨(), by rw [hfin.2]; simp, trivial, List.nil_sublist _⟩ | exact absurd (of_decide_eq_true hsm.2) f3 | exact absurd hsm.2 f3 | contradiction | (exfalso; omega) | (exfalso; simp_all; done)
                  · skip
                    refine TC.skip ?_
                    refine TQ.thenC ?_
                    refine TC.seq ?_
                    have hz : Valid n rs := by unfold Valid; omega
                    have hpz := pof_nil hz
                    refine TC.region ?_
                    refine TL.pure (PV.loadBox rfl Tb.agg_24 (by repeat (first | exact List.Mem.head _ | refine List.Mem.tail _ ?_ | refine List.mem_append_right _ ?_)) rfl) rfl (by decide) ?_
                    refine TL.call rfl Tb.gofn_42 (fun a w hs => Plain_ok w n p cap rs (hr.new hs.new)) rfl (by decide) (fun h8 hh8 => ?_)
                    refine TL.pure (PV.move rfl) rfl (by decide) ?_
                    refine TL.pure (PV.extract rfl rfl) rfl (by decide) ?_
                    refine TL.pure (PV.extract rfl rfl) rfl (by decide) ?_
                    refine TL.pure (PV.assign rfl) rfl (by decide) ?_
                    refine TL.pure (PV.assign rfl) rfl (by decide) ?_
                    refine TL.nil ?_
                    refine TQ.thenC ?_
                    refine TC.seq ?_
                    refine TC.seq ?_
                    refine TC.region ?_
                    refine TL.pure (PV.move rfl) rfl (by decide) ?_
                    refine TL.pure ((by first | exact PV.notD rfl | exact PV.not rfl)) rfl (by decide) ?_
                    refine TL.nil ?_
                    refine TQ.thenC ?_
                    first | refine TC.condD rfl (fun hnd => ?_) (fun hnd => ?_) | refine TC.cond rfl (fun hnd => ?_) (fun hnd => ?_)
                    · skip
                      refine TC.seq ?_
                      have hp10 : pofI n rs [] = 10 := by rw [hpz, if_neg (fun h => by first | exact hnd (of_decide_eq_true h) | simp_all)]
                      refine TC.region ?_
                      refine TL.pure (PV.move rfl) rfl (by decide) ?_
                      refine TL.pure (PV.eql rfl rfl) rfl (by decide) ?_
                      refine TL.pure (PV.assign rfl) rfl (by decide) ?_
                      refine TL.nil ?_
                      refine TQ.thenC ?_
                      refine TC.ret ?_
                      refine TQ.thenR ?_
                      refine TQ.retE1 rfl rfl ?_
                      first | exact ⟨(), rfl, trivial, List.nil_sublist _⟩ | exact ⟨(), by rw [decide_eq_true rfl], trivial, List.nil_sublist _⟩ | exact ⟨(), by rw [hp10]; rfl, trivial, List.nil_sublist _⟩ | exact ⟨(), by rw [hfin.2]; simp, trivial, List.nil_sublist _⟩ | exact absurd (of_decide_eq_true hsm.2) f3 | exact absurd hsm.2 f3 | contradiction | (exfalso; omega) | (exfalso; simp_all; done)
                    · skip
                      refine TC.skip ?_
                      refine TQ.thenC ?_
                      refine TC.seq ?_
                      refine TC.seq ?_
                      have hd : dOk n rs = true := by first | exact decide_eq_true (Decidable.of_not_not hnd) | simpa using hnd
                      have hp0 : pofI n rs [] = 0 := by rw [hpz, if_pos hd]
                      have hg8 : goB h8 (plainB n.toNat rs) := by unfold pofL at hh8; rw [if_pos hp0] at hh8; exact hh8
                      have hpb := (plain_pb hz n.toNat (Nat.le_refl _)).1
                      have hpb2 : (plainB n.toNat rs).length ≤ 300 := hpb
                      refine TC.region ?_
                      refine TL.pure (PV.move rfl) rfl (by decide) ?_
                      refine TL.pure (PV.neq rfl rfl) rfl (by decide) ?_
                      refine TL.nil ?_
                      refine TQ.thenC ?_
                      first | refine TC.condD rfl (fun hpn => ?_) (fun hpn => ?_) | refine TC.cond rfl (fun hpn => ?_) (fun hpn => ?_)
                      · skip
                        exfalso; omega
                      · skip
                        refine TC.skip ?_
                        refine TQ.thenC ?_
                        refine TC.seqK [3, 5] (X := Unit) (fun x => True) (fun x => []) (fun x => [(b1, Obj.cells r.cells.toArray 42 (0, 0)), (b0, Obj.cells #[.int .i64 n, .slice p rs.length cap] 24 (0, 0))]) ?_ ?_
                        · skip
                          refine TC.seq ?_
                          rw [show pofL n rs [] = plainB n.toNat rs from by unfold pofL; rw [if_pos hp0]]
                          refine TC.region ?_
                          refine TL.pure (PV.loadBox rfl Tb.agg_24 (by repeat (first | exact List.Mem.head _ | refine List.Mem.tail _ ?_ | refine List.mem_append_right _ ?_)) rfl) rfl (by decide) ?_
                          refine TL.pure (PV.move rfl) rfl (by decide) ?_
                          refine TL.call rfl Tb.gofn_23 (fun a w hs => check_ok w _ _ _ _ (hr.new hs.new) pd cd ds.length ds rfl (hx.new hs.new) (by omega)) rfl (by decide) (fun _ _ => ?_)
                          refine TL.pure (PV.assign rfl) rfl (by decide) ?_
                          refine TL.nil ?_
                          refine TQ.thenC ?_
                          refine TC.seq ?_
                          refine TC.region ?_
                          refine TL.pure (PV.move rfl) rfl (by decide) ?_
                          refine TL.pure (PV.eql rfl rfl) rfl (by decide) ?_
                          refine TL.pure (PV.move rfl) rfl (by decide) ?_
                          first | refine TL.splitD 109 rfl (fun c1 => ?_) (fun c1 => ?_) | refine TL.split 109 rfl (fun c1 => ?_) (fun c1 => ?_)
                          · skip
                            refine TL.skip rfl (fun k hk => by cases hk; decide) ?_
                            refine TL.skip rfl (fun k hk => by cases hk; decide) ?_
                            refine TL.pure (PV.pickT rfl rfl) rfl (by decide) ?_
                            refine TL.nil ?_
                            refine TQ.thenC ?_
                            refine TC.condT rfl ?_
                            refine TC.seq ?_
                            refine TC.region ?_
                            refine TL.pure (PV.assign rfl) rfl (by decide) ?_
                            refine TL.nil ?_
                            refine TQ.thenC ?_
                            refine TC.seq ?_
                            refine TC.seq ?_
                            have hck9 : checkI n rs ds = 0 ∨ checkI n rs ds = 7 := by omega
                            have hds := datesOk_spec (vdI_is (check_vd hck9)).2
                            refine TC.region ?_
                            refine TL.pure (PV.assign rfl) rfl (by decide) ?_
                            refine TL.nil ?_
                            refine TQ.thenC ?_
                            refine TC.block ?_
                            -- live and written in the loop, not told: [6]
                            refine TC.loopG [1, 3, 5, 16, 17] (X := Nat) (fun k => k ≤ (plainB n.toNat rs).length) (fun k => [(19, .int .i64 k), (18, .bool (kpK ds (plainB n.toNat rs) k))]) (fun k => (plainB n.toNat rs).length - k) 0 (Nat.zero_le _) (by repeat (first | exact True.intro | refine And.intro rfl ?_)) ?_
                            intro k hk
                            refine TC.seq ?_
                            refine TC.seq ?_
                            refine TC.region ?_
                            refine TL.pure (PV.move rfl) rfl (by decide) ?_
                            refine TL.pure (PV.move rfl) rfl (by decide) ?_
                            refine TL.pure (PV.lenG rfl hg8 Tb.sl_22) rfl (by decide) ?_
                            refine TL.pure (PV.lss rfl rfl) rfl (by decide) ?_
                            refine TL.nil ?_
                            refine TQ.thenC ?_
                            first | refine TC.condD rfl (fun hlt => ?_) (fun hlt => ?_) | refine TC.cond rfl (fun hlt => ?_) (fun hlt => ?_)
                            · skip
                              refine TC.skip ?_
                              refine TQ.thenC ?_
                              refine TC.seq ?_
                              refine TC.block ?_
                              refine TC.seq ?_
                              refine TC.seq ?_
                              have hrg := pl_rng hd (j := k) (by omega)
                              refine TC.region ?_
                              refine TL.pure (PV.move rfl) rfl (by decide) ?_
                              refine TL.pure (PV.move rfl) rfl (by decide) ?_
                              refine TL.pure (PV.indexG (j := k) rfl rfl hg8 Tb.elm_22 rfl (by omega)) rfl (by decide) ?_
                              refine TL.pure (PV.fieldAddr rfl Tb.fo_42_0) rfl (by decide) ?_
                              refine TL.pure (PV.loadF (h := h8) (l := (plainB n.toNat rs)) (j := k) (f := 0) (e := 42) rfl Tb.one_3 (fun yy hyy => by simp only [List.mem_append, List.mem_cons]; simp [hyy]) hg8 (by omega) (by decide) rfl) rfl (by decide) ?_
                              refine TL.pure (PV.lss rfl rfl) rfl (by decide) ?_
                              refine TL.pure (PV.move rfl) rfl (by decide) ?_
                              first | refine TL.splitD 125 rfl (fun h17 => ?_) (fun h17 => ?_) | refine TL.split 125 rfl (fun h17 => ?_) (fun h17 => ?_)
                              · skip
                                refine TL.skip rfl (fun k hk => by cases hk; decide) ?_
                                refine TL.skip rfl (fun k hk => by cases hk; decide) ?_
                                refine TL.skip rfl (fun k hk => by cases hk; decide) ?_
                                refine TL.skip rfl (fun k hk => by cases hk; decide) ?_
                                refine TL.skip rfl (fun k hk => by cases hk; decide) ?_
                                refine TL.skip rfl (fun k hk => by cases hk; decide) ?_
                                refine TL.skip rfl (fun k hk => by cases hk; decide) ?_
                                refine TL.skip rfl (fun k hk => by cases hk; decide) ?_
                                refine TL.pure (PV.pickT rfl rfl) rfl (by decide) ?_
                                refine TL.pure (PV.move rfl) rfl (by decide) ?_
                                refine TL.skip rfl (fun k hk => by cases hk; decide) ?_
                                refine TL.skip rfl (fun k hk => by cases hk; decide) ?_
                                refine TL.skip rfl (fun k hk => by cases hk; decide) ?_
                                refine TL.skip rfl (fun k hk => by cases hk; decide) ?_
                                refine TL.skip rfl (fun k hk => by cases hk; decide) ?_
                                refine TL.skip rfl (fun k hk => by cases hk; decide) ?_
                                refine TL.pure (PV.pickT rfl rfl) rfl (by decide) ?_
                                refine TL.pure (PV.move rfl) rfl (by decide) ?_
                                refine TL.skip rfl (fun k hk => by cases hk; decide) ?_
                                refine TL.skip rfl (fun k hk => by cases hk; decide) ?_
                                refine TL.skip rfl (fun k hk => by cases hk; decide) ?_
                                refine TL.skip rfl (fun k hk => by cases hk; decide) ?_
                                refine TL.skip rfl (fun k hk => by cases hk; decide) ?_
                                refine TL.skip rfl (fun k hk => by cases hk; decide) ?_
                                refine TL.skip rfl (fun k hk => by cases hk; decide) ?_
                                refine TL.skip rfl (fun k hk => by cases hk; decide) ?_
                                refine TL.pure (PV.pickT rfl rfl) rfl (by decide) ?_
                                refine TL.nil ?_
                                refine TQ.thenC ?_
                                refine TC.condT rfl ?_
                                refine TC.seq ?_
                                refine TC.region ?_
                                refine TL.pure (PV.assign rfl) rfl (by decide) ?_
                                refine TL.nil ?_
                                refine TQ.thenC ?_
                                refine TC.ret ?_
                                refine TQ.thenR ?_
                                refine TQ.blkR ?_
                                refine TQ.thenR ?_
                                refine TQ.thenR ?_
                                refine TQ.blkR ?_
                                refine TQ.thenR ?_
                                refine TQ.thenR ?_
                                refine TQ.retE1 rfl rfl ?_
                                first | exact ⟨(), rfl, trivial, List.nil_sublist _⟩ | exact ⟨(), by rw [decide_eq_true rfl], trivial, List.nil_sublist _⟩ | exact ⟨(), by rw [hp10]; rfl, trivial, List.nil_sublist _⟩ | exact ⟨(), by rw [hfin.2]; simp, trivial, List.nil_sublist _⟩ | exact absurd (of_decide_eq_true hsm.2) f3 | exact absurd hsm.2 f3 | contradiction | (exfalso; omega) | (exfalso; simp_all; done)
                              · skip
                                refine TL.pure (PV.move rfl) rfl (by decide) ?_
                                refine TL.pure (PV.move rfl) rfl (by decide) ?_
                                refine TL.pure (PV.indexG (j := k) rfl rfl hg8 Tb.elm_22 rfl (by omega)) rfl (by decide) ?_
                                refine TL.pure (PV.fieldAddr rfl Tb.fo_42_0) rfl (by decide) ?_
                                refine TL.pure (PV.loadF (h := h8) (l := (plainB n.toNat rs)) (j := k) (f := 0) (e := 42) rfl Tb.one_3 (fun yy hyy => by simp only [List.mem_append, List.mem_cons]; simp [hyy]) hg8 (by omega) (by decide) rfl) rfl (by decide) ?_
                                refine TL.pure (PV.move rfl) rfl (by decide) ?_
                                refine TL.pure (PV.len rfl Tb.sl_25) rfl (by decide) ?_
                                refine TL.pure (PV.geq rfl rfl) rfl (by decide) ?_
                                refine TL.pure (PV.pickF rfl rfl) rfl (by decide) ?_
                                refine TL.pure (PV.move rfl) rfl (by decide) ?_
                                first | refine TL.splitD 135 rfl (fun h18 => ?_) (fun h18 => ?_) | refine TL.split 135 rfl (fun h18 => ?_) (fun h18 => ?_)
                                · skip
                                  refine TL.skip rfl (fun k hk => by cases hk; decide) ?_
                                  refine TL.skip rfl (fun k hk => by cases hk; decide) ?_
                                  refine TL.skip rfl (fun k hk => by cases hk; decide) ?_
                                  refine TL.skip rfl (fun k hk => by cases hk; decide) ?_
                                  refine TL.skip rfl (fun k hk => by cases hk; decide) ?_
                                  refine TL.skip rfl (fun k hk => by cases hk; decide) ?_
                                  refine TL.pure (PV.pickT rfl rfl) rfl (by decide) ?_
                                  refine TL.pure (PV.move rfl) rfl (by decide) ?_
                                  refine TL.skip rfl (fun k hk => by cases hk; decide) ?_
                                  refine TL.skip rfl (fun k hk => by cases hk; decide) ?_
                                  refine TL.skip rfl (fun k hk => by cases hk; decide) ?_
                                  refine TL.skip rfl (fun k hk => by cases hk; decide) ?_
                                  refine TL.skip rfl (fun k hk => by cases hk; decide) ?_
                                  refine TL.skip rfl (fun k hk => by cases hk; decide) ?_
                                  refine TL.skip rfl (fun k hk => by cases hk; decide) ?_
                                  refine TL.skip rfl (fun k hk => by cases hk; decide) ?_
                                  refine TL.pure (PV.pickT rfl rfl) rfl (by decide) ?_
                                  refine TL.nil ?_
                                  refine TQ.thenC ?_
                                  refine TC.condT rfl ?_
                                  refine TC.seq ?_
                                  refine TC.region ?_
                                  refine TL.pure (PV.assign rfl) rfl (by decide) ?_
                                  refine TL.nil ?_
                                  refine TQ.thenC ?_
                                  refine TC.ret ?_
                                  refine TQ.thenR ?_
                                  refine TQ.blkR ?_
                                  refine TQ.thenR ?_
                                  refine TQ.thenR ?_
                                  refine TQ.blkR ?_
                                  refine TQ.thenR ?_
                                  refine TQ.thenR ?_
                                  refine TQ.retE1 rfl rfl ?_
                                  first | exact ⟨(), rfl, trivial, List.nil_sublist _⟩ | exact ⟨(), by rw [decide_eq_true rfl], trivial, List.nil_sublist _⟩ | exact ⟨(), by rw [hp10]; rfl, trivial, List.nil_sublist _⟩ | exact ⟨(), by rw [hfin.2]; simp, trivial, List.nil_sublist _⟩ | exact absurd (of_decide_eq_true hsm.2) f3 | exact absurd hsm.2 f3 | contradiction | (exfalso; omega) | (exfalso; simp_all; done)
                                · skip
                                  refine TL.pure (PV.move rfl) rfl (by decide) ?_
                                  refine TL.pure (PV.move rfl) rfl (by decide) ?_
                                  refine TL.pure (PV.indexG (j := k) rfl rfl hg8 Tb.elm_22 rfl (by omega)) rfl (by decide) ?_
                                  refine TL.pure (PV.fieldAddr rfl Tb.fo_42_1) rfl (by decide) ?_
                                  refine TL.pure (PV.loadF (h := h8) (l := (plainB n.toNat rs)) (j := k) (f := 1) (e := 42) rfl Tb.one_3 (fun yy hyy => by simp only [List.mem_append, List.mem_cons]; simp [hyy]) hg8 (by omega) (by decide) rfl) rfl (by decide) ?_
                                  refine TL.pure (PV.lss rfl rfl) rfl (by decide) ?_
                                  refine TL.pure (PV.pickF rfl rfl) rfl (by decide) ?_
                                  refine TL.pure (PV.move rfl) rfl (by decide) ?_
                                  first | refine TL.splitD 143 rfl (fun h19 => ?_) (fun h19 => ?_) | refine TL.split 143 rfl (fun h19 => ?_) (fun h19 => ?_)
                                  · skip
                                    refine TL.skip rfl (fun k hk => by cases hk; decide) ?_
                                    refine TL.skip rfl (fun k hk => by cases hk; decide) ?_
                                    refine TL.skip rfl (fun k hk => by cases hk; decide) ?_
                                    refine TL.skip rfl (fun k hk => by cases hk; decide) ?_
                                    refine TL.skip rfl (fun k hk => by cases hk; decide) ?_
                                    refine TL.skip rfl (fun k hk => by cases hk; decide) ?_
                                    refine TL.skip rfl (fun k hk => by cases hk; decide) ?_
                                    refine TL.skip rfl (fun k hk => by cases hk; decide) ?_
                                    refine TL.pure (PV.pickT rfl rfl) rfl (by decide) ?_
                                    refine TL.nil ?_
                                    refine TQ.thenC ?_
                                    refine TC.condT rfl ?_
                                    refine TC.seq ?_
                                    refine TC.region ?_
                                    refine TL.pure (PV.assign rfl) rfl (by decide) ?_
                                    refine TL.nil ?_
                                    refine TQ.thenC ?_
                                    refine TC.ret ?_
                                    refine TQ.thenR ?_
                                    refine TQ.blkR ?_
                                    refine TQ.thenR ?_
                                    refine TQ.thenR ?_
                                    refine TQ.blkR ?_
                                    refine TQ.thenR ?_
                                    refine TQ.thenR ?_
                                    refine TQ.retE1 rfl rfl ?_
                                    first | exact ⟨(), rfl, trivial, List.nil_sublist _⟩ | exact ⟨(), by rw [decide_eq_true rfl], trivial, List.nil_sublist _⟩ | exact ⟨(), by rw [hp10]; rfl, trivial, List.nil_sublist _⟩ | exact ⟨(), by rw [hfin.2]; simp, trivial, List.nil_sublist _⟩ | exact absurd (of_decide_eq_true hsm.2) f3 | exact absurd hsm.2 f3 | contradiction | (exfalso; omega) | (exfalso; simp_all; done)
                                  · skip
                                    refine TL.pure (PV.move rfl) rfl (by decide) ?_
                                    refine TL.pure (PV.move rfl) rfl (by decide) ?_
                                    refine TL.pure (PV.indexG (j := k) rfl rfl hg8 Tb.elm_22 rfl (by omega)) rfl (by decide) ?_
                                    refine TL.pure (PV.fieldAddr rfl Tb.fo_42_1) rfl (by decide) ?_
                                    refine TL.pure (PV.loadF (h := h8) (l := (plainB n.toNat rs)) (j := k) (f := 1) (e := 42) rfl Tb.one_3 (fun yy hyy => by simp only [List.mem_append, List.mem_cons]; simp [hyy]) hg8 (by omega) (by decide) rfl) rfl (by decide) ?_
                                    refine TL.pure (PV.move rfl) rfl (by decide) ?_
                                    refine TL.pure (PV.len rfl Tb.sl_25) rfl (by decide) ?_
                                    refine TL.pure (PV.geq rfl rfl) rfl (by decide) ?_
                                    refine TL.pure (PV.pickF rfl rfl) rfl (by decide) ?_
                                    refine TL.nil ?_
                                    refine TQ.thenC ?_
                                    first | refine TC.condD rfl (fun e4 => ?_) (fun e4 => ?_) | refine TC.cond rfl (fun e4 => ?_) (fun e4 => ?_)
                                    · skip
                                      refine TC.seq ?_
                                      refine TC.region ?_
                                      refine TL.pure (PV.assign rfl) rfl (by decide) ?_
                                      refine TL.nil ?_
                                      refine TQ.thenC ?_
                                      refine TC.ret ?_
                                      refine TQ.thenR ?_
                                      refine TQ.blkR ?_
                                      refine TQ.thenR ?_
                                      refine TQ.thenR ?_
                                      refine TQ.blkR ?_
                                      refine TQ.thenR ?_
                                      refine TQ.thenR ?_
                                      refine TQ.retE1 rfl rfl ?_
                                      first | exact ⟨(), rfl, trivial, List.nil_sublist _⟩ | exact ⟨(), by rw [decide_eq_true rfl], trivial, List.nil_sublist _⟩ | exact ⟨(), by rw [hp10]; rfl, trivial, List.nil_sublist _⟩ | exact ⟨(), by rw [hfin.2]; simp, trivial, List.nil_sublist _⟩ | exact absurd (of_decide_eq_true hsm.2) f3 | exact absurd hsm.2 f3 | contradiction | (exfalso; omega) | (exfalso; simp_all; done)
                                    · skip
                                      refine TC.skip ?_
                                      refine TQ.thenC ?_
                                      obtain ⟨qb, hqb, hqb2⟩ := hx ((plainB n.toNat rs).getD k default).b.toNat (by omega)
                                      obtain ⟨qa, hqa, hqa2⟩ := hx ((plainB n.toNat rs).getD k default).a.toNat (by omega)
                                      have z1 := hds.2 ((plainB n.toNat rs).getD k default).b.toNat
                                      have z2 := hds.2 ((plainB n.toNat rs).getD k default).a.toNat
                                      refine TC.draw 26 Tb.mixed (by kernel_rfl) ?_
                                      simp only [List.take_succ_cons, List.take_zero, List.drop_succ_cons, List.drop_zero]
                                      refine TS.pure (PV.move rfl) rfl (by decide) ?_
                                      refine TS.pure (PV.move rfl) rfl (by decide) ?_
                                      first | refine TS.splitD 154 rfl (fun hkk => ?_) (fun hkk => ?_) | refine TS.split 154 rfl (fun hkk => ?_) (fun hkk => ?_)
                                      · skip
                                        refine TS.pure (PV.move rfl) rfl (by decide) ?_
                                        refine TS.pure (PV.move rfl) rfl (by decide) ?_
                                        refine TS.pure (PV.move rfl) rfl (by decide) ?_
                                        refine TS.pure (PV.indexG (j := k) rfl rfl hg8 Tb.elm_22 rfl (by omega)) rfl (by decide) ?_
                                        refine TS.pure (PV.fieldAddr rfl Tb.fo_42_1) rfl (by decide) ?_
                                        refine TS.pure (PV.loadF (h := h8) (l := (plainB n.toNat rs)) (j := k) (f := 1) (e := 42) rfl Tb.one_3 (fun yy hyy => by simp only [List.mem_append, List.mem_cons]; simp [hyy]) hg8 (by omega) (by decide) rfl) rfl (by decide) ?_
                                        refine TS.pure (PV.indexA (j := ((plainB n.toNat rs).getD k default).b.toNat) rfl hqb rfl Tb.elm_25 (by omega) (by omega)) rfl (by decide) ?_
                                        refine TS.pure (PV.loadOld rfl Tb.one_3 hqb2) rfl (by decide) ?_
                                        refine TS.pure (PV.move rfl) rfl (by decide) ?_
                                        refine TS.pure (PV.move rfl) rfl (by decide) ?_
                                        refine TS.pure (PV.move rfl) rfl (by decide) ?_
                                        refine TS.pure (PV.indexG (j := k) rfl rfl hg8 Tb.elm_22 rfl (by omega)) rfl (by decide) ?_
                                        refine TS.pure (PV.fieldAddr rfl Tb.fo_42_0) rfl (by decide) ?_
                                        refine TS.pure (PV.loadF (h := h8) (l := (plainB n.toNat rs)) (j := k) (f := 0) (e := 42) rfl Tb.one_3 (fun yy hyy => by simp only [List.mem_append, List.mem_cons]; simp [hyy]) hg8 (by omega) (by decide) rfl) rfl (by decide) ?_
                                        refine TS.pure (PV.indexA (j := ((plainB n.toNat rs).getD k default).a.toNat) rfl hqa rfl Tb.elm_25 (by omega) (by omega)) rfl (by decide) ?_
                                        refine TS.pure (PV.loadOld rfl Tb.one_3 hqa2) rfl (by decide) ?_
                                        refine TS.pure (PV.sub rfl rfl (by omega)) rfl (by decide) ?_
                                        refine TS.pure (PV.move rfl) rfl (by decide) ?_
                                        refine TS.pure (PV.move rfl) rfl (by decide) ?_
                                        refine TS.pure (PV.indexG (j := k) rfl rfl hg8 Tb.elm_22 rfl (by omega)) rfl (by decide) ?_
                                        refine TS.pure (PV.fieldAddr rfl Tb.fo_42_2) rfl (by decide) ?_
                                        refine TS.pure (PV.loadF (h := h8) (l := (plainB n.toNat rs)) (j := k) (f := 2) (e := 42) rfl Tb.one_3 (fun yy hyy => by simp only [List.mem_append, List.mem_cons]; simp [hyy]) hg8 (by omega) (by decide) rfl) rfl (by decide) ?_
                                        refine TS.pure (PV.leq rfl rfl) rfl (by decide) ?_
                                        refine TS.pure (PV.pickT rfl rfl) rfl (by decide) ?_
                                        refine TS.nil ?_
                                        refine TL.pure (PV.assign rfl) rfl (by decide) ?_
                                        refine TL.nil ?_
                                        refine TQ.blkN ?_
                                        refine TQ.thenC ?_
                                        refine TC.region ?_
                                        refine TL.pure (PV.move rfl) rfl (by decide) ?_
                                        refine TL.pure (PV.add rfl rfl (by omega)) rfl (by decide) ?_
                                        refine TL.pure (PV.assign rfl) rfl (by decide) ?_
                                        refine TL.nil ?_
                                        refine TQ.thenN ?_
                                        refine TQ.backK (k + 1) (by refine ⟨rfl, ?_, trivial⟩; show _ = some (Value.bool (kpK ds (plainB n.toNat rs) (k + 1))); first | (rw [kpK_next, hkk, Bool.true_and]; rfl) | (rw [kpK_next, hkk, Bool.false_and]; rfl) | (rw [kpK_next, Bool.eq_false_iff.2 hkk, Bool.false_and]; rfl)) (by repeat (first | exact True.intro | refine And.intro rfl ?_)) (by repeat (first | exact List.Sublist.slnil | exact List.nil_sublist _ | exact List.Sublist.refl _ | refine List.Sublist.cons_cons _ ?_ | refine List.Sublist.cons _ ?_ | refine List.Sublist.trans ?_ (List.sublist_append_right _ _))) (by omega) (by omega)
                                      · skip
                                        refine TS.skip rfl (by decide) ?_
                                        refine TS.skip rfl (by decide) ?_
                                        refine TS.skip rfl (by decide) ?_
                                        refine TS.skip rfl (by decide) ?_
                                        refine TS.skip rfl (by decide) ?_
                                        refine TS.skip rfl (by decide) ?_
                                        refine TS.skip rfl (by decide) ?_
                                        refine TS.skip rfl (by decide) ?_
                                        refine TS.skip rfl (by decide) ?_
                                        refine TS.skip rfl (by decide) ?_
                                        refine TS.skip rfl (by decide) ?_
                                        refine TS.skip rfl (by decide) ?_
                                        refine TS.skip rfl (by decide) ?_
                                        refine TS.skip rfl (by decide) ?_
                                        refine TS.skip rfl (by decide) ?_
                                        refine TS.skip rfl (by decide) ?_
                                        refine TS.skip rfl (by decide) ?_
                                        refine TS.skip rfl (by decide) ?_
                                        refine TS.skip rfl (by decide) ?_
                                        refine TS.skip rfl (by decide) ?_
                                        refine TS.skip rfl (by decide) ?_
                                        refine TS.skip rfl (by decide) ?_
                                        refine TS.skip rfl (by decide) ?_
                                        refine TS.pure (PV.pickF rfl rfl) rfl (by decide) ?_
                                        refine TS.nil ?_
                                        refine TL.pure (PV.assign rfl) rfl (by decide) ?_
                                        refine TL.nil ?_
                                        refine TQ.blkN ?_
                                        refine TQ.thenC ?_
                                        refine TC.region ?_
                                        refine TL.pure (PV.move rfl) rfl (by decide) ?_
                                        refine TL.pure (PV.add rfl rfl (by omega)) rfl (by decide) ?_
                                        refine TL.pure (PV.assign rfl) rfl (by decide) ?_
                                        refine TL.nil ?_
                                        refine TQ.thenN ?_
                                        refine TQ.backK (k + 1) (by refine ⟨rfl, ?_, trivial⟩; show _ = some (Value.bool (kpK ds (plainB n.toNat rs) (k + 1))); first | (rw [kpK_next, hkk, Bool.true_and]; rfl) | (rw [kpK_next, hkk, Bool.false_and]; rfl) | (rw [kpK_next, Bool.eq_false_iff.2 hkk, Bool.false_and]; rfl)) (by repeat (first | exact True.intro | refine And.intro rfl ?_)) (by repeat (first | exact List.Sublist.slnil | exact List.nil_sublist _ | exact List.Sublist.refl _ | refine List.Sublist.cons_cons _ ?_ | refine List.Sublist.cons _ ?_ | refine List.Sublist.trans ?_ (List.sublist_append_right _ _))) (by omega) (by omega)
                            · skip
                              refine TC.exit ?_
                              refine TQ.thenE ?_
                              refine TQ.thenE ?_
                              refine TQ.blkS ?_
                              refine TQ.thenC ?_
                              refine TC.seq ?_
                              have hka := kpK_all hd hck9
                              have hkl : k = (plainB n.toNat rs).length := by omega
                              rw [← hkl] at hka
                              refine TC.region ?_
                              refine TL.pure (PV.move rfl) rfl (by decide) ?_
                              refine TL.pure (PV.move rfl) rfl (by decide) ?_
                              refine TL.pure (PV.eql rfl rfl) rfl (by decide) ?_
                              refine TL.pure (PV.neqB rfl rfl Tb.bool_4) rfl (by decide) ?_
                              refine TL.nil ?_
                              refine TQ.thenC ?_
                              first | refine TC.condD rfl (fun hke => ?_) (fun hke => ?_) | refine TC.cond rfl (fun hke => ?_) (fun hke => ?_)
                              · skip
                                refine TC.seq ?_
                                refine TC.region ?_
                                refine TL.pure (PV.assign rfl) rfl (by decide) ?_
                                refine TL.nil ?_
                                refine TQ.thenC ?_
                                refine TC.ret ?_
                                refine TQ.thenR ?_
                                refine TQ.retE1 rfl rfl ?_
                                first | exact ⟨(), rfl, trivial, List.nil_sublist _⟩ | exact ⟨(), by rw [decide_eq_true rfl], trivial, List.nil_sublist _⟩ | exact ⟨(), by rw [hp10]; rfl, trivial, List.nil_sublist _⟩ | exact ⟨(), by rw [hfin.2]; simp, trivial, List.nil_sublist _⟩ | exact absurd (of_decide_eq_true hsm.2) f3 | exact absurd hsm.2 f3 | contradiction | (exfalso; omega) | (exfalso; simp_all; done)
                              · skip
                                refine TC.skip ?_
                                refine TQ.thenN ?_
                                refine TQ.midK () (by repeat (first | exact True.intro | refine And.intro rfl ?_)) (by repeat (first | exact True.intro | refine And.intro rfl ?_)) (by repeat (first | exact List.Sublist.slnil | exact List.nil_sublist _ | exact List.Sublist.refl _ | refine List.Sublist.cons_cons _ ?_ | refine List.Sublist.cons _ ?_ | refine List.Sublist.trans ?_ (List.sublist_append_right _ _))) (by first | trivial | omega)
                          · skip
                            refine TL.pure (PV.move rfl) rfl (by decide) ?_
                            refine TL.pure (PV.eql rfl rfl) rfl (by decide) ?_
                            refine TL.pure (PV.pickF rfl rfl) rfl (by decide) ?_
                            refine TL.nil ?_
                            refine TQ.thenC ?_
                            first | refine TC.condD rfl (fun hck => ?_) (fun hck => ?_) | refine TC.cond rfl (fun hck => ?_) (fun hck => ?_)
                            · skip
                              refine TC.seq ?_
                              refine TC.region ?_
                              refine TL.pure (PV.assign rfl) rfl (by decide) ?_
                              refine TL.nil ?_
                              refine TQ.thenC ?_
                              refine TC.seq ?_
                              refine TC.seq ?_
                              have hck9 : checkI n rs ds = 0 ∨ checkI n rs ds = 7 := by omega
                              have hds := datesOk_spec (vdI_is (check_vd hck9)).2
                              refine TC.region ?_
                              refine TL.pure (PV.assign rfl) rfl (by decide) ?_
                              refine TL.nil ?_
                              refine TQ.thenC ?_
                              refine TC.block ?_
                              -- live and written in the loop, not told: [6]
                              refine TC.loopG [1, 3, 5, 16, 17] (X := Nat) (fun k => k ≤ (plainB n.toNat rs).length) (fun k => [(19, .int .i64 k), (18, .bool (kpK ds (plainB n.toNat rs) k))]) (fun k => (plainB n.toNat rs).length - k) 0 (Nat.zero_le _) (by repeat (first | exact True.intro | refine And.intro rfl ?_)) ?_
                              intro k hk
                              refine TC.seq ?_
                              refine TC.seq ?_
                              refine TC.region ?_
                              refine TL.pure (PV.move rfl) rfl (by decide) ?_
                              refine TL.pure (PV.move rfl) rfl (by decide) ?_
                              refine TL.pure (PV.lenG rfl hg8 Tb.sl_22) rfl (by decide) ?_
                              refine TL.pure (PV.lss rfl rfl) rfl (by decide) ?_
                              refine TL.nil ?_
                              refine TQ.thenC ?_
                              first | refine TC.condD rfl (fun hlt => ?_) (fun hlt => ?_) | refine TC.cond rfl (fun hlt => ?_) (fun hlt => ?_)
                              · skip
                                refine TC.skip ?_
                                refine TQ.thenC ?_
                                refine TC.seq ?_
                                refine TC.block ?_
                                refine TC.seq ?_
                                refine TC.seq ?_
                                have hrg := pl_rng hd (j := k) (by omega)
                                refine TC.region ?_
                                refine TL.pure (PV.move rfl) rfl (by decide) ?_
                                refine TL.pure (PV.move rfl) rfl (by decide) ?_
                                refine TL.pure (PV.indexG (j := k) rfl rfl hg8 Tb.elm_22 rfl (by omega)) rfl (by decide) ?_
                                refine TL.pure (PV.fieldAddr rfl Tb.fo_42_0) rfl (by decide) ?_
                                refine TL.pure (PV.loadF (h := h8) (l := (plainB n.toNat rs)) (j := k) (f := 0) (e := 42) rfl Tb.one_3 (fun yy hyy => by simp only [List.mem_append, List.mem_cons]; simp [hyy]) hg8 (by omega) (by decide) rfl) rfl (by decide) ?_
                                refine TL.pure (PV.lss rfl rfl) rfl (by decide) ?_
                                refine TL.pure (PV.move rfl) rfl (by decide) ?_
                                first | refine TL.splitD 125 rfl (fun h25 => ?_) (fun h25 => ?_) | refine TL.split 125 rfl (fun h25 => ?_) (fun h25 => ?_)
                                · skip
                                  refine TL.skip rfl (fun k hk => by cases hk; decide) ?_
                                  refine TL.skip rfl (fun k hk => by cases hk; decide) ?_
                                  refine TL.skip rfl (fun k hk => by cases hk; decide) ?_
                                  refine TL.skip rfl (fun k hk => by cases hk; decide) ?_
                                  refine TL.skip rfl (fun k hk => by cases hk; decide) ?_
                                  refine TL.skip rfl (fun k hk => by cases hk; decide) ?_
                                  refine TL.skip rfl (fun k hk => by cases hk; decide) ?_
                                  refine TL.skip rfl (fun k hk => by cases hk; decide) ?_
                                  refine TL.pure (PV.pickT rfl rfl) rfl (by decide) ?_
                                  refine TL.pure (PV.move rfl) rfl (by decide) ?_
                                  refine TL.skip rfl (fun k hk => by cases hk; decide) ?_
                                  refine TL.skip rfl (fun k hk => by cases hk; decide) ?_
                                  refine TL.skip rfl (fun k hk => by cases hk; decide) ?_
                                  refine TL.skip rfl (fun k hk => by cases hk; decide) ?_
                                  refine TL.skip rfl (fun k hk => by cases hk; decide) ?_
                                  refine TL.skip rfl (fun k hk => by cases hk; decide) ?_
                                  refine TL.pure (PV.pickT rfl rfl) rfl (by decide) ?_
                                  refine TL.pure (PV.move rfl) rfl (by decide) ?_
                                  refine TL.skip rfl (fun k hk => by cases hk; decide) ?_
                                  refine TL.skip rfl (fun k hk => by cases hk; decide) ?_
                                  refine TL.skip rfl (fun k hk => by cases hk; decide) ?_
                                  refine TL.skip rfl (fun k hk => by cases hk; decide) ?_
                                  refine TL.skip rfl (fun k hk => by cases hk; decide) ?_
                                  refine TL.skip rfl (fun k hk => by cases hk; decide) ?_
                                  refine TL.skip rfl (fun k hk => by cases hk; decide) ?_
                                  refine TL.skip rfl (fun k hk => by cases hk; decide) ?_
                                  refine TL.pure (PV.pickT rfl rfl) rfl (by decide) ?_
                                  refine TL.nil ?_
                                  refine TQ.thenC ?_
                                  refine TC.condT rfl ?_
                                  refine TC.seq ?_
                                  refine TC.region ?_
                                  refine TL.pure (PV.assign rfl) rfl (by decide) ?_
                                  refine TL.nil ?_
                                  refine TQ.thenC ?_
                                  refine TC.ret ?_
                                  refine TQ.thenR ?_
                                  refine TQ.blkR ?_
                                  refine TQ.thenR ?_
                                  refine TQ.thenR ?_
                                  refine TQ.blkR ?_
                                  refine TQ.thenR ?_
                                  refine TQ.thenR ?_
                                  refine TQ.retE1 rfl rfl ?_
                                  first | exact ⟨(), rfl, trivial, List.nil_sublist _⟩ | exact ⟨(), by rw [decide_eq_true rfl], trivial, List.nil_sublist _⟩ | exact ⟨(), by rw [hp10]; rfl, trivial, List.nil_sublist _⟩ | exact ⟨(), by rw [hfin.2]; simp, trivial, List.nil_sublist _⟩ | exact absurd (of_decide_eq_true hsm.2) f3 | exact absurd hsm.2 f3 | contradiction | (exfalso; omega) | (exfalso; simp_all; done)
                                · skip
                                  refine TL.pure (PV.move rfl) rfl (by decide) ?_
                                  refine TL.pure (PV.move rfl) rfl (by decide) ?_
                                  refine TL.pure (PV.indexG (j := k) rfl rfl hg8 Tb.elm_22 rfl (by omega)) rfl (by decide) ?_
                                  refine TL.pure (PV.fieldAddr rfl Tb.fo_42_0) rfl (by decide) ?_
                                  refine TL.pure (PV.loadF (h := h8) (l := (plainB n.toNat rs)) (j := k) (f := 0) (e := 42) rfl Tb.one_3 (fun yy hyy => by simp only [List.mem_append, List.mem_cons]; simp [hyy]) hg8 (by omega) (by decide) rfl) rfl (by decide) ?_
                                  refine TL.pure (PV.move rfl) rfl (by decide) ?_
                                  refine TL.pure (PV.len rfl Tb.sl_25) rfl (by decide) ?_
                                  refine TL.pure (PV.geq rfl rfl) rfl (by decide) ?_
                                  refine TL.pure (PV.pickF rfl rfl) rfl (by decide) ?_
                                  refine TL.pure (PV.move rfl) rfl (by decide) ?_
                                  first | refine TL.splitD 135 rfl (fun h26 => ?_) (fun h26 => ?_) | refine TL.split 135 rfl (fun h26 => ?_) (fun h26 => ?_)
                                  · skip
                                    refine TL.skip rfl (fun k hk => by cases hk; decide) ?_
                                    refine TL.skip rfl (fun k hk => by cases hk; decide) ?_
                                    refine TL.skip rfl (fun k hk => by cases hk; decide) ?_
                                    refine TL.skip rfl (fun k hk => by cases hk; decide) ?_
                                    refine TL.skip rfl (fun k hk => by cases hk; decide) ?_
                                    refine TL.skip rfl (fun k hk => by cases hk; decide) ?_
                                    refine TL.pure (PV.pickT rfl rfl) rfl (by decide) ?_
                                    refine TL.pure (PV.move rfl) rfl (by decide) ?_
                                    refine TL.skip rfl (fun k hk => by cases hk; decide) ?_
                                    refine TL.skip rfl (fun k hk => by cases hk; decide) ?_
                                    refine TL.skip rfl (fun k hk => by cases hk; decide) ?_
                                    refine TL.skip rfl (fun k hk => by cases hk; decide) ?_
                                    refine TL.skip rfl (fun k hk => by cases hk; decide) ?_
                                    refine TL.skip rfl (fun k hk => by cases hk; decide) ?_
                                    refine TL.skip rfl (fun k hk => by cases hk; decide) ?_
                                    refine TL.skip rfl (fun k hk => by cases hk; decide) ?_
                                    refine TL.pure (PV.pickT rfl rfl) rfl (by decide) ?_
                                    refine TL.nil ?_
                                    refine TQ.thenC ?_
                                    refine TC.condT rfl ?_
                                    refine TC.seq ?_
                                    refine TC.region ?_
                                    refine TL.pure (PV.assign rfl) rfl (by decide) ?_
                                    refine TL.nil ?_
                                    refine TQ.thenC ?_
                                    refine TC.ret ?_
                                    refine TQ.thenR ?_
                                    refine TQ.blkR ?_
                                    refine TQ.thenR ?_
                                    refine TQ.thenR ?_
                                    refine TQ.blkR ?_
                                    refine TQ.thenR ?_
                                    refine TQ.thenR ?_
                                    refine TQ.retE1 rfl rfl ?_
                                    first | exact ⟨(), rfl, trivial, List.nil_sublist _⟩ | exact ⟨(), by rw [decide_eq_true rfl], trivial, List.nil_sublist _⟩ | exact ⟨(), by rw [hp10]; rfl, trivial, List.nil_sublist _⟩ | exact ⟨(), by rw [hfin.2]; simp, trivial, List.nil_sublist _⟩ | exact absurd (of_decide_eq_true hsm.2) f3 | exact absurd hsm.2 f3 | contradiction | (exfalso; omega) | (exfalso; simp_all; done)
                                  · skip
                                    refine TL.pure (PV.move rfl) rfl (by decide) ?_
                                    refine TL.pure (PV.move rfl) rfl (by decide) ?_
                                    refine TL.pure (PV.indexG (j := k) rfl rfl hg8 Tb.elm_22 rfl (by omega)) rfl (by decide) ?_
                                    refine TL.pure (PV.fieldAddr rfl Tb.fo_42_1) rfl (by decide) ?_
                                    refine TL.pure (PV.loadF (h := h8) (l := (plainB n.toNat rs)) (j := k) (f := 1) (e := 42) rfl Tb.one_3 (fun yy hyy => by simp only [List.mem_append, List.mem_cons]; simp [hyy]) hg8 (by omega) (by decide) rfl) rfl (by decide) ?_
                                    refine TL.pure (PV.lss rfl rfl) rfl (by decide) ?_
                                    refine TL.pure (PV.pickF rfl rfl) rfl (by decide) ?_
                                    refine TL.pure (PV.move rfl) rfl (by decide) ?_
                                    first | refine TL.splitD 143 rfl (fun h27 => ?_) (fun h27 => ?_) | refine TL.split 143 rfl (fun h27 => ?_) (fun h27 => ?_)
                                    · skip
                                      refine TL.skip rfl (fun k hk => by cases hk; decide) ?_
                                      refine TL.skip rfl (fun k hk => by cases hk; decide) ?_
                                      refine TL.skip rfl (fun k hk => by cases hk; decide) ?_
                                      refine TL.skip rfl (fun k hk => by cases hk; decide) ?_
                                      refine TL.skip rfl (fun k hk => by cases hk; decide) ?_
                                      refine TL.skip rfl (fun k hk => by cases hk; decide) ?_
                                      refine TL.skip rfl (fun k hk => by cases hk; decide) ?_
                                      refine TL.skip rfl (fun k hk => by cases hk; decide) ?_
                                      refine TL.pure (PV.pickT rfl rfl) rfl (by decide) ?_
                                      refine TL.nil ?_
                                      refine TQ.thenC ?_
                                      refine TC.condT rfl ?_
                                      refine TC.seq ?_
                                      refine TC.region ?_
                                      refine TL.pure (PV.assign rfl) rfl (by decide) ?_
                                      refine TL.nil ?_
                                      refine TQ.thenC ?_
                                      refine TC.ret ?_
                                      refine TQ.thenR ?_
                                      refine TQ.blkR ?_
                                      refine TQ.thenR ?_
                                      refine TQ.thenR ?_
                                      refine TQ.blkR ?_
                                      refine TQ.thenR ?_
                                      refine TQ.thenR ?_
                                      refine TQ.retE1 rfl rfl ?_
                                      first | exact ⟨(), rfl, trivial, List.nil_sublist _⟩ | exact ⟨(), by rw [decide_eq_true rfl], trivial, List.nil_sublist _⟩ | exact ⟨(), by rw [hp10]; rfl, trivial, List.nil_sublist _⟩ | exact ⟨(), by rw [hfin.2]; simp, trivial, List.nil_sublist _⟩ | exact absurd (of_decide_eq_true hsm.2) f3 | exact absurd hsm.2 f3 | contradiction | (exfalso; omega) | (exfalso; simp_all; done)
                                    · skip
                                      refine TL.pure (PV.move rfl) rfl (by decide) ?_
                                      refine TL.pure (PV.move rfl) rfl (by decide) ?_
                                      refine TL.pure (PV.indexG (j := k) rfl rfl hg8 Tb.elm_22 rfl (by omega)) rfl (by decide) ?_
                                      refine TL.pure (PV.fieldAddr rfl Tb.fo_42_1) rfl (by decide) ?_
                                      refine TL.pure (PV.loadF (h := h8) (l := (plainB n.toNat rs)) (j := k) (f := 1) (e := 42) rfl Tb.one_3 (fun yy hyy => by simp only [List.mem_append, List.mem_cons]; simp [hyy]) hg8 (by omega) (by decide) rfl) rfl (by decide) ?_
                                      refine TL.pure (PV.move rfl) rfl (by decide) ?_
                                      refine TL.pure (PV.len rfl Tb.sl_25) rfl (by decide) ?_
                                      refine TL.pure (PV.geq rfl rfl) rfl (by decide) ?_
                                      refine TL.pure (PV.pickF rfl rfl) rfl (by decide) ?_
                                      refine TL.nil ?_
                                      refine TQ.thenC ?_
                                      first | refine TC.condD rfl (fun e4 => ?_) (fun e4 => ?_) | refine TC.cond rfl (fun e4 => ?_) (fun e4 => ?_)
                                      · skip
                                        refine TC.seq ?_
                                        refine TC.region ?_
                                        refine TL.pure (PV.assign rfl) rfl (by decide) ?_
                                        refine TL.nil ?_
                                        refine TQ.thenC ?_
                                        refine TC.ret ?_
                                        refine TQ.thenR ?_
                                        refine TQ.blkR ?_
                                        refine TQ.thenR ?_
                                        refine TQ.thenR ?_
                                        refine TQ.blkR ?_
                                        refine TQ.thenR ?_
                                        refine TQ.thenR ?_
                                        refine TQ.retE1 rfl rfl ?_
                                        first | exact ⟨(), rfl, trivial, List.nil_sublist _⟩ | exact ⟨(), by rw [decide_eq_true rfl], trivial, List.nil_sublist _⟩ | exact ⟨(), by rw [hp10]; rfl, trivial, List.nil_sublist _⟩ | exact ⟨(), by rw [hfin.2]; simp, trivial, List.nil_sublist _⟩ | exact absurd (of_decide_eq_true hsm.2) f3 | exact absurd hsm.2 f3 | contradiction | (exfalso; omega) | (exfalso; simp_all; done)
                                      · skip
                                        refine TC.skip ?_
                                        refine TQ.thenC ?_
                                        obtain ⟨qb, hqb, hqb2⟩ := hx ((plainB n.toNat rs).getD k default).b.toNat (by omega)
                                        obtain ⟨qa, hqa, hqa2⟩ := hx ((plainB n.toNat rs).getD k default).a.toNat (by omega)
                                        have z1 := hds.2 ((plainB n.toNat rs).getD k default).b.toNat
                                        have z2 := hds.2 ((plainB n.toNat rs).getD k default).a.toNat
                                        refine TC.draw 26 Tb.mixed (by kernel_rfl) ?_
                                        simp only [List.take_succ_cons, List.take_zero, List.drop_succ_cons, List.drop_zero]
                                        refine TS.pure (PV.move rfl) rfl (by decide) ?_
                                        refine TS.pure (PV.move rfl) rfl (by decide) ?_
                                        first | refine TS.splitD 154 rfl (fun hkk => ?_) (fun hkk => ?_) | refine TS.split 154 rfl (fun hkk => ?_) (fun hkk => ?_)
                                        · skip
                                          refine TS.pure (PV.move rfl) rfl (by decide) ?_
                                          refine TS.pure (PV.move rfl) rfl (by decide) ?_
                                          refine TS.pure (PV.move rfl) rfl (by decide) ?_
                                          refine TS.pure (PV.indexG (j := k) rfl rfl hg8 Tb.elm_22 rfl (by omega)) rfl (by decide) ?_
                                          refine TS.pure (PV.fieldAddr rfl Tb.fo_42_1) rfl (by decide) ?_
                                          refine TS.pure (PV.loadF (h := h8) (l := (plainB n.toNat rs)) (j := k) (f := 1) (e := 42) rfl Tb.one_3 (fun yy hyy => by simp only [List.mem_append, List.mem_cons]; simp [hyy]) hg8 (by omega) (by decide) rfl) rfl (by decide) ?_
                                          refine TS.pure (PV.indexA (j := ((plainB n.toNat rs).getD k default).b.toNat) rfl hqb rfl Tb.elm_25 (by omega) (by omega)) rfl (by decide) ?_
                                          refine TS.pure (PV.loadOld rfl Tb.one_3 hqb2) rfl (by decide) ?_
                                          refine TS.pure (PV.move rfl) rfl (by decide) ?_
                                          refine TS.pure (PV.move rfl) rfl (by decide) ?_
                                          refine TS.pure (PV.move rfl) rfl (by decide) ?_
                                          refine TS.pure (PV.indexG (j := k) rfl rfl hg8 Tb.elm_22 rfl (by omega)) rfl (by decide) ?_
                                          refine TS.pure (PV.fieldAddr rfl Tb.fo_42_0) rfl (by decide) ?_
                                          refine TS.pure (PV.loadF (h := h8) (l := (plainB n.toNat rs)) (j := k) (f := 0) (e := 42) rfl Tb.one_3 (fun yy hyy => by simp only [List.mem_append, List.mem_cons]; simp [hyy]) hg8 (by omega) (by decide) rfl) rfl (by decide) ?_
                                          refine TS.pure (PV.indexA (j := ((plainB n.toNat rs).getD k default).a.toNat) rfl hqa rfl Tb.elm_25 (by omega) (by omega)) rfl (by decide) ?_
                                          refine TS.pure (PV.loadOld rfl Tb.one_3 hqa2) rfl (by decide) ?_
                                          refine TS.pure (PV.sub rfl rfl (by omega)) rfl (by decide) ?_
                                          refine TS.pure (PV.move rfl) rfl (by decide) ?_
                                          refine TS.pure (PV.move rfl) rfl (by decide) ?_
                                          refine TS.pure (PV.indexG (j := k) rfl rfl hg8 Tb.elm_22 rfl (by omega)) rfl (by decide) ?_
                                          refine TS.pure (PV.fieldAddr rfl Tb.fo_42_2) rfl (by decide) ?_
                                          refine TS.pure (PV.loadF (h := h8) (l := (plainB n.toNat rs)) (j := k) (f := 2) (e := 42) rfl Tb.one_3 (fun yy hyy => by simp only [List.mem_append, List.mem_cons]; simp [hyy]) hg8 (by omega) (by decide) rfl) rfl (by decide) ?_
                                          refine TS.pure (PV.leq rfl rfl) rfl (by decide) ?_
                                          refine TS.pure (PV.pickT rfl rfl) rfl (by decide) ?_
                                          refine TS.nil ?_
                                          refine TL.pure (PV.assign rfl) rfl (by decide) ?_
                                          refine TL.nil ?_
                                          refine TQ.blkN ?_
                                          refine TQ.thenC ?_
                                          refine TC.region ?_
                                          refine TL.pure (PV.move rfl) rfl (by decide) ?_
                                          refine TL.pure (PV.add rfl rfl (by omega)) rfl (by decide) ?_
                                          refine TL.pure (PV.assign rfl) rfl (by decide) ?_
                                          refine TL.nil ?_
                                          refine TQ.thenN ?_
                                          refine TQ.backK (k + 1) (by refine ⟨rfl, ?_, trivial⟩; show _ = some (Value.bool (kpK ds (plainB n.toNat rs) (k + 1))); first | (rw [kpK_next, hkk, Bool.true_and]; rfl) | (rw [kpK_next, hkk, Bool.false_and]; rfl) | (rw [kpK_next, Bool.eq_false_iff.2 hkk, Bool.false_and]; rfl)) (by repeat (first | exact True.intro | refine And.intro rfl ?_)) (by repeat (first | exact List.Sublist.slnil | exact List.nil_sublist _ | exact List.Sublist.refl _ | refine List.Sublist.cons_cons _ ?_ | refine List.Sublist.cons _ ?_ | refine List.Sublist.trans ?_ (List.sublist_append_right _ _))) (by omega) (by omega)
                                        · skip
                                          refine TS.skip rfl (by decide) ?_
                                          refine TS.skip rfl (by decide) ?_
                                          refine TS.skip rfl (by decide) ?_
                                          refine TS.skip rfl (by decide) ?_
                                          refine TS.skip rfl (by decide) ?_
                                          refine TS.skip rfl (by decide) ?_
                                          refine TS.skip rfl (by decide) ?_
                                          refine TS.skip rfl (by decide) ?_
                                          refine TS.skip rfl (by decide) ?_
                                          refine TS.skip rfl (by decide) ?_
                                          refine TS.skip rfl (by decide) ?_
                                          refine TS.skip rfl (by decide) ?_
                                          refine TS.skip rfl (by decide) ?_
                                          refine TS.skip rfl (by decide) ?_
                                          refine TS.skip rfl (by decide) ?_
                                          refine TS.skip rfl (by decide) ?_
                                          refine TS.skip rfl (by decide) ?_
                                          refine TS.skip rfl (by decide) ?_
                                          refine TS.skip rfl (by decide) ?_
                                          refine TS.skip rfl (by decide) ?_
                                          refine TS.skip rfl (by decide) ?_
                                          refine TS.skip rfl (by decide) ?_
                                          refine TS.skip rfl (by decide) ?_
                                          refine TS.pure (PV.pickF rfl rfl) rfl (by decide) ?_
                                          refine TS.nil ?_
                                          refine TL.pure (PV.assign rfl) rfl (by decide) ?_
                                          refine TL.nil ?_
                                          refine TQ.blkN ?_
                                          refine TQ.thenC ?_
                                          refine TC.region ?_
                                          refine TL.pure (PV.move rfl) rfl (by decide) ?_
                                          refine TL.pure (PV.add rfl rfl (by omega)) rfl (by decide) ?_
                                          refine TL.pure (PV.assign rfl) rfl (by decide) ?_
                                          refine TL.nil ?_
                                          refine TQ.thenN ?_
                                          refine TQ.backK (k + 1) (by refine ⟨rfl, ?_, trivial⟩; show _ = some (Value.bool (kpK ds (plainB n.toNat rs) (k + 1))); first | (rw [kpK_next, hkk, Bool.true_and]; rfl) | (rw [kpK_next, hkk, Bool.false_and]; rfl) | (rw [kpK_next, Bool.eq_false_iff.2 hkk, Bool.false_and]; rfl)) (by repeat (first | exact True.intro | refine And.intro rfl ?_)) (by repeat (first | exact List.Sublist.slnil | exact List.nil_sublist _ | exact List.Sublist.refl _ | refine List.Sublist.cons_cons _ ?_ | refine List.Sublist.cons _ ?_ | refine List.Sublist.trans ?_ (List.sublist_append_right _ _))) (by omega) (by omega)
                              · skip
                                refine TC.exit ?_
                                refine TQ.thenE ?_
                                refine TQ.thenE ?_
                                refine TQ.blkS ?_
                                refine TQ.thenC ?_
                                refine TC.seq ?_
                                have hka := kpK_all hd hck9
                                have hkl : k = (plainB n.toNat rs).length := by omega
                                rw [← hkl] at hka
                                refine TC.region ?_
                                refine TL.pure (PV.move rfl) rfl (by decide) ?_
                                refine TL.pure (PV.move rfl) rfl (by decide) ?_
                                refine TL.pure (PV.eql rfl rfl) rfl (by decide) ?_
                                refine TL.pure (PV.neqB rfl rfl Tb.bool_4) rfl (by decide) ?_
                                refine TL.nil ?_
                                refine TQ.thenC ?_
                                first | refine TC.condD rfl (fun hke => ?_) (fun hke => ?_) | refine TC.cond rfl (fun hke => ?_) (fun hke => ?_)
                                · skip
                                  refine TC.seq ?_
                                  refine TC.region ?_
                                  refine TL.pure (PV.assign rfl) rfl (by decide) ?_
                                  refine TL.nil ?_
                                  refine TQ.thenC ?_
                                  refine TC.ret ?_
                                  refine TQ.thenR ?_
                                  refine TQ.retE1 rfl rfl ?_
                                  first | exact ⟨(), rfl, trivial, List.nil_sublist _⟩ | exact ⟨(), by rw [decide_eq_true rfl], trivial, List.nil_sublist _⟩ | exact ⟨(), by rw [hp10]; rfl, trivial, List.nil_sublist _⟩ | exact ⟨(), by rw [hfin.2]; simp, trivial, List.nil_sublist _⟩ | exact absurd (of_decide_eq_true hsm.2) f3 | exact absurd hsm.2 f3 | contradiction | (exfalso; omega) | (exfalso; simp_all; done)
                                · skip
                                  refine TC.skip ?_
                                  refine TQ.thenN ?_
                                  refine TQ.midK () (by repeat (first | exact True.intro | refine And.intro rfl ?_)) (by repeat (first | exact True.intro | refine And.intro rfl ?_)) (by repeat (first | exact List.Sublist.slnil | exact List.nil_sublist _ | exact List.Sublist.refl _ | refine List.Sublist.cons_cons _ ?_ | refine List.Sublist.cons _ ?_ | refine List.Sublist.trans ?_ (List.sublist_append_right _ _))) (by first | trivial | omega)
                            · skip
                              refine TC.skip ?_
                              refine TQ.thenN ?_
                              refine TQ.midK () (by repeat (first | exact True.intro | refine And.intro rfl ?_)) (by repeat (first | exact True.intro | refine And.intro rfl ?_)) (by repeat (first | exact List.Sublist.slnil | exact List.nil_sublist _ | exact List.Sublist.refl _ | refine List.Sublist.cons_cons _ ?_ | refine List.Sublist.cons _ ?_ | refine List.Sublist.trans ?_ (List.sublist_append_right _ _))) (by first | trivial | omega)
                        · skip
                          intro _ _
                          refine TC.seq ?_
                          refine TC.region ?_
                          refine TL.pure (PV.loadBox rfl Tb.agg_24 (by repeat (first | exact List.Mem.head _ | refine List.Mem.tail _ ?_ | refine List.mem_append_right _ ?_)) rfl) rfl (by decide) ?_
                          refine TL.call rfl Tb.gofn_49 (fun a w hs => Reduce_ok w n p cap rs (hr.new hs.new)) rfl (by decide) (fun xr hxr => ?_)
                          refine TL.pure (PV.move rfl) rfl (by decide) ?_
                          refine TL.pure (PV.extract rfl rfl) rfl (by decide) ?_
                          refine TL.pure (PV.extract rfl rfl) rfl (by decide) ?_
                          refine TL.alloc Tb.zero_24 rfl (by decide) (fun b2 hb2 => ?_)
                          refine TL.storeAgg rfl rfl Tb.cells_24 (by repeat (first | exact Upd.head _ | apply Upd.tail | apply Upd.appR)) rfl rfl (by first | rfl | exact sv_one _ _ _) rfl rfl ?_
                          refine TL.pure (PV.assign rfl) rfl (by decide) ?_
                          refine TL.nil ?_
                          refine TQ.thenC ?_
                          refine TC.seq ?_
                          refine TC.region ?_
                          refine TL.pure (PV.loadBox rfl Tb.agg_24 (by repeat (first | exact List.Mem.head _ | refine List.Mem.tail _ ?_ | refine List.mem_append_right _ ?_)) rfl) rfl (by decide) ?_
                          refine TL.pure (PV.loadBox rfl Tb.agg_24 (by repeat (first | exact List.Mem.head _ | refine List.Mem.tail _ ?_ | refine List.mem_append_right _ ?_)) rfl) rfl (by decide) ?_
                          refine TL.call rfl Tb.gofn_46 (fun a w hs => sameS hxr.ok (BdsAt.s (e := 42) hs.new (fun yy hyy => by simp only [List.mem_append, List.mem_cons]; simp [hyy]) hxr.ok) (hr.new hs.new)) rfl (by decide) (fun _ _ => ?_)
                          refine TL.pure (PV.move rfl) rfl (by decide) ?_
                          refine TL.pure (PV.extract rfl rfl) rfl (by decide) ?_
                          refine TL.pure (PV.extract rfl rfl) rfl (by decide) ?_
                          refine TL.pure (PV.assign rfl) rfl (by decide) ?_
                          refine TL.pure (PV.assign rfl) rfl (by decide) ?_
                          refine TL.nil ?_
                          refine TQ.thenC ?_
                          refine TC.seq ?_
                          refine TC.seq ?_
                          have lx := hxr.len
                          have lr := redK_len n.toNat rs rs.length
                          have hsm : smI xr.1 xr.2.2 n rs = 0 ∧ smR xr.1 xr.2.2 n rs = true := by rw [hxr.num, hxr.eq, if_pos hp0, if_pos hp0]; exact red_same hp0
                          refine TC.region ?_
                          refine TL.pure (PV.move rfl) rfl (by decide) ?_
                          refine TL.pure (PV.neq rfl rfl) rfl (by decide) ?_
                          refine TL.pure (PV.move rfl) rfl (by decide) ?_
                          first | refine TL.splitD 196 rfl (fun f1 => ?_) (fun f1 => ?_) | refine TL.split 196 rfl (fun f1 => ?_) (fun f1 => ?_)
                          · skip
                            refine TL.skip rfl (fun k hk => by cases hk; decide) ?_
                            refine TL.skip rfl (fun k hk => by cases hk; decide) ?_
                            refine TL.pure (PV.pickT rfl rfl) rfl (by decide) ?_
                            refine TL.pure (PV.move rfl) rfl (by decide) ?_
                            refine TL.skip rfl (fun k hk => by cases hk; decide) ?_
                            refine TL.skip rfl (fun k hk => by cases hk; decide) ?_
                            refine TL.pure (PV.pickT rfl rfl) rfl (by decide) ?_
                            refine TL.pure (PV.move rfl) rfl (by decide) ?_
                            refine TL.skip rfl (fun k hk => by cases hk; decide) ?_
                            refine TL.skip rfl (fun k hk => by cases hk; decide) ?_
                            refine TL.skip rfl (fun k hk => by cases hk; decide) ?_
                            refine TL.skip rfl (fun k hk => by cases hk; decide) ?_
                            refine TL.skip rfl (fun k hk => by cases hk; decide) ?_
                            refine TL.skip rfl (fun k hk => by cases hk; decide) ?_
                            refine TL.skip rfl (fun k hk => by cases hk; decide) ?_
                            refine TL.pure (PV.pickT rfl rfl) rfl (by decide) ?_
                            refine TL.nil ?_
                            refine TQ.thenC ?_
                            refine TC.condT rfl ?_
                            refine TC.seq ?_
                            refine TC.region ?_
                            refine TL.pure (PV.assign rfl) rfl (by decide) ?_
                            refine TL.nil ?_
                            refine TQ.thenC ?_
                            refine TC.ret ?_
                            refine TQ.thenR ?_
                            refine TQ.retE1 rfl rfl ?_
                            first | exact ⟨(), rfl, trivial, List.nil_sublist _⟩ | exact ⟨(), by rw [decide_eq_true rfl], trivial, List.nil_sublist _⟩ | exact ⟨(), by rw [hp10]; rfl, trivial, List.nil_sublist _⟩ | exact ⟨(), by rw [hfin.2]; simp, trivial, List.nil_sublist _⟩ | exact absurd (of_decide_eq_true hsm.2) f3 | exact absurd hsm.2 f3 | contradiction | (exfalso; omega) | (exfalso; simp_all; done)
                          · skip
                            refine TL.pure (PV.move rfl) rfl (by decide) ?_
                            refine TL.pure (PV.neq rfl rfl) rfl (by decide) ?_
                            refine TL.pure (PV.pickF rfl rfl) rfl (by decide) ?_
                            refine TL.pure (PV.move rfl) rfl (by decide) ?_
                            first | refine TL.splitD 200 rfl (fun f2 => ?_) (fun f2 => ?_) | refine TL.split 200 rfl (fun f2 => ?_) (fun f2 => ?_)
                            · skip
                              refine TL.skip rfl (fun k hk => by cases hk; decide) ?_
                              refine TL.skip rfl (fun k hk => by cases hk; decide) ?_
                              refine TL.pure (PV.pickT rfl rfl) rfl (by decide) ?_
                              refine TL.pure (PV.move rfl) rfl (by decide) ?_
                              refine TL.skip rfl (fun k hk => by cases hk; decide) ?_
                              refine TL.skip rfl (fun k hk => by cases hk; decide) ?_
                              refine TL.skip rfl (fun k hk => by cases hk; decide) ?_
                              refine TL.skip rfl (fun k hk => by cases hk; decide) ?_
                              refine TL.skip rfl (fun k hk => by cases hk; decide) ?_
                              refine TL.skip rfl (fun k hk => by cases hk; decide) ?_
                              refine TL.skip rfl (fun k hk => by cases hk; decide) ?_
                              refine TL.pure (PV.pickT rfl rfl) rfl (by decide) ?_
                              refine TL.nil ?_
                              refine TQ.thenC ?_
                              refine TC.condT rfl ?_
                              refine TC.seq ?_
                              refine TC.region ?_
                              refine TL.pure (PV.assign rfl) rfl (by decide) ?_
                              refine TL.nil ?_
                              refine TQ.thenC ?_
                              refine TC.ret ?_
                              refine TQ.thenR ?_
                              refine TQ.retE1 rfl rfl ?_
                              first | exact ⟨(), rfl, trivial, List.nil_sublist _⟩ | exact ⟨(), by rw [decide_eq_true rfl], trivial, List.nil_sublist _⟩ | exact ⟨(), by rw [hp10]; rfl, trivial, List.nil_sublist _⟩ | exact ⟨(), by rw [hfin.2]; simp, trivial, List.nil_sublist _⟩ | exact absurd (of_decide_eq_true hsm.2) f3 | exact absurd hsm.2 f3 | contradiction | (exfalso; omega) | (exfalso; simp_all; done)
                            · skip
                              refine TL.pure (PV.move rfl) rfl (by decide) ?_
                              refine TL.pure ((by first | exact PV.notD rfl | exact PV.not rfl)) rfl (by decide) ?_
                              refine TL.pure (PV.pickF rfl rfl) rfl (by decide) ?_
                              refine TL.pure (PV.move rfl) rfl (by decide) ?_
                              first | refine TL.splitD 204 rfl (fun f3 => ?_) (fun f3 => ?_) | refine TL.split 204 rfl (fun f3 => ?_) (fun f3 => ?_)
                              · skip
                                refine TL.skip rfl (fun k hk => by cases hk; decide) ?_
                                refine TL.skip rfl (fun k hk => by cases hk; decide) ?_
                                refine TL.skip rfl (fun k hk => by cases hk; decide) ?_
                                refine TL.skip rfl (fun k hk => by cases hk; decide) ?_
                                refine TL.skip rfl (fun k hk => by cases hk; decide) ?_
                                refine TL.skip rfl (fun k hk => by cases hk; decide) ?_
                                refine TL.skip rfl (fun k hk => by cases hk; decide) ?_
                                refine TL.pure (PV.pickT rfl rfl) rfl (by decide) ?_
                                refine TL.nil ?_
                                refine TQ.thenC ?_
                                refine TC.condT rfl ?_
                                refine TC.seq ?_
                                refine TC.region ?_
                                refine TL.pure (PV.assign rfl) rfl (by decide) ?_
                                refine TL.nil ?_
                                refine TQ.thenC ?_
                                refine TC.ret ?_
                                refine TQ.thenR ?_
                                refine TQ.retE1 rfl rfl ?_
                                first | exact ⟨(), rfl, trivial, List.nil_sublist _⟩ | exact ⟨(), by rw [decide_eq_true rfl], trivial, List.nil_sublist _⟩ | exact ⟨(), by rw [hp10]; rfl, trivial, List.nil_sublist _⟩ | exact ⟨(), by rw [hfin.2]; simp, trivial, List.nil_sublist _⟩ | exact absurd (of_decide_eq_true hsm.2) f3 | exact absurd hsm.2 f3 | contradiction | (exfalso; omega) | (exfalso; simp_all; done)
                              · skip
                                refine TL.pure (PV.fieldAddr rfl Tb.fo_24_1) rfl (by decide) ?_
                                refine TL.pure (PV.load rfl Tb.one_22 (by repeat (first | exact List.Mem.head _ | refine List.Mem.tail _ ?_ | refine List.mem_append_right _ ?_)) rfl) rfl (by decide) ?_
                                refine TL.pure (PV.lenG rfl hxr.ok Tb.sl_22) rfl (by decide) ?_
                                refine TL.pure (PV.fieldAddr rfl Tb.fo_24_1) rfl (by decide) ?_
                                refine TL.pure (PV.load rfl Tb.one_22 (by repeat (first | exact List.Mem.head _ | refine List.Mem.tail _ ?_ | refine List.mem_append_right _ ?_)) rfl) rfl (by decide) ?_
                                refine TL.pure (PV.len rfl Tb.sl_22) rfl (by decide) ?_
                                refine TL.pure (PV.gtr rfl rfl) rfl (by decide) ?_
                                refine TL.pure (PV.pickF rfl rfl) rfl (by decide) ?_
                                refine TL.nil ?_
                                refine TQ.thenC ?_
                                first | refine TC.condD rfl (fun f4 => ?_) (fun f4 => ?_) | refine TC.cond rfl (fun f4 => ?_) (fun f4 => ?_)
                                · skip
                                  refine TC.seq ?_
                                  refine TC.region ?_
                                  refine TL.pure (PV.assign rfl) rfl (by decide) ?_
                                  refine TL.nil ?_
                                  refine TQ.thenC ?_
                                  refine TC.ret ?_
                                  refine TQ.thenR ?_
                                  refine TQ.retE1 rfl rfl ?_
                                  first | exact ⟨(), rfl, trivial, List.nil_sublist _⟩ | exact ⟨(), by rw [decide_eq_true rfl], trivial, List.nil_sublist _⟩ | exact ⟨(), by rw [hp10]; rfl, trivial, List.nil_sublist _⟩ | exact ⟨(), by rw [hfin.2]; simp, trivial, List.nil_sublist _⟩ | exact absurd (of_decide_eq_true hsm.2) f3 | exact absurd hsm.2 f3 | contradiction | (exfalso; omega) | (exfalso; simp_all; done)
                                · skip
                                  refine TC.skip ?_
                                  refine TQ.thenC ?_
                                  refine TC.seq ?_
                                  refine TC.region ?_
                                  refine TL.pure (PV.loadBox rfl Tb.agg_24 (by repeat (first | exact List.Mem.head _ | refine List.Mem.tail _ ?_ | refine List.mem_append_right _ ?_)) rfl) rfl (by decide) ?_
                                  refine TL.pure (PV.loadBox rfl Tb.agg_42 (by repeat (first | exact List.Mem.head _ | refine List.Mem.tail _ ?_ | refine List.mem_append_right _ ?_)) rfl) rfl (by decide) ?_
                                  refine TL.call rfl Tb.gofn_33 (fun a w hs => Follows_ok w n p cap rs (hr.new hs.new) r) rfl (by decide) (fun _ _ => ?_)
                                  refine TL.pure (PV.move rfl) rfl (by decide) ?_
                                  refine TL.pure (PV.extract rfl rfl) rfl (by decide) ?_
                                  refine TL.pure (PV.extract rfl rfl) rfl (by decide) ?_
                                  refine TL.pure (PV.assign rfl) rfl (by decide) ?_
                                  refine TL.pure (PV.assign rfl) rfl (by decide) ?_
                                  refine TL.nil ?_
                                  refine TQ.thenC ?_
                                  refine TC.seq ?_
                                  refine TC.seq ?_
                                  refine TC.region ?_
                                  refine TL.pure (PV.move rfl) rfl (by decide) ?_
                                  refine TL.pure (PV.neq rfl rfl) rfl (by decide) ?_
                                  refine TL.pure (PV.move rfl) rfl (by decide) ?_
                                  first | refine TL.splitD 221 rfl (fun q1 => ?_) (fun q1 => ?_) | refine TL.split 221 rfl (fun q1 => ?_) (fun q1 => ?_)
                                  · skip
                                    refine TL.skip rfl (fun k hk => by cases hk; decide) ?_
                                    refine TL.skip rfl (fun k hk => by cases hk; decide) ?_
                                    refine TL.skip rfl (fun k hk => by cases hk; decide) ?_
                                    refine TL.pure (PV.pickT rfl rfl) rfl (by decide) ?_
                                    refine TL.nil ?_
                                    refine TQ.thenC ?_
                                    refine TC.condT rfl ?_
                                    refine TC.seq ?_
                                    refine TC.region ?_
                                    refine TL.pure (PV.assign rfl) rfl (by decide) ?_
                                    refine TL.nil ?_
                                    refine TQ.thenC ?_
                                    refine TC.ret ?_
                                    refine TQ.thenR ?_
                                    refine TQ.retE1 rfl rfl ?_
                                    first | exact ⟨(), rfl, trivial, List.nil_sublist _⟩ | exact ⟨(), by rw [decide_eq_true rfl], trivial, List.nil_sublist _⟩ | exact ⟨(), by rw [hp10]; rfl, trivial, List.nil_sublist _⟩ | exact ⟨(), by rw [hfin.2]; simp, trivial, List.nil_sublist _⟩ | exact absurd (of_decide_eq_true hsm.2) f3 | exact absurd hsm.2 f3 | contradiction | (exfalso; omega) | (exfalso; simp_all; done)
                                  · skip
                                    refine TL.pure (PV.fieldAddr rfl Tb.fo_42_2) rfl (by decide) ?_
                                    refine TL.pure (PV.load rfl Tb.one_3 (by repeat (first | exact List.Mem.head _ | refine List.Mem.tail _ ?_ | refine List.mem_append_right _ ?_)) rfl) rfl (by decide) ?_
                                    refine TL.pure (PV.eql rfl rfl) rfl (by decide) ?_
                                    refine TL.pure (PV.pickF rfl rfl) rfl (by decide) ?_
                                    refine TL.nil ?_
                                    refine TQ.thenC ?_
                                    first | refine TC.condD rfl (fun hq => ?_) (fun hq => ?_) | refine TC.cond rfl (fun hq => ?_) (fun hq => ?_)
                                    · skip
                                      refine TC.seq ?_
                                      refine TC.region ?_
                                      refine TL.pure (PV.assign rfl) rfl (by decide) ?_
                                      refine TL.nil ?_
                                      refine TQ.thenC ?_
                                      refine TC.ret ?_
                                      refine TQ.thenR ?_
                                      refine TQ.retE1 rfl rfl ?_
                                      first | exact ⟨(), rfl, trivial, List.nil_sublist _⟩ | exact ⟨(), by rw [decide_eq_true rfl], trivial, List.nil_sublist _⟩ | exact ⟨(), by rw [hp10]; rfl, trivial, List.nil_sublist _⟩ | exact ⟨(), by rw [hfin.2]; simp, trivial, List.nil_sublist _⟩ | exact absurd (of_decide_eq_true hsm.2) f3 | exact absurd hsm.2 f3 | contradiction | (exfalso; omega) | (exfalso; simp_all; done)
                                    · skip
                                      refine TC.skip ?_
                                      refine TQ.thenC ?_
                                      refine TC.seq ?_
                                      have hfm := flw_m (n := n) (rs := rs) (r := r) (by omega)
                                      refine TC.region ?_
                                      refine TL.pure (PV.loadBox rfl Tb.agg_24 (by repeat (first | exact List.Mem.head _ | refine List.Mem.tail _ ?_ | refine List.mem_append_right _ ?_)) rfl) rfl (by decide) ?_
                                      refine TL.pure (PV.fieldAddr rfl Tb.fo_24_0) rfl (by decide) ?_
                                      refine TL.pure (PV.load rfl Tb.one_3 (by repeat (first | exact List.Mem.head _ | refine List.Mem.tail _ ?_ | refine List.mem_append_right _ ?_)) rfl) rfl (by decide) ?_
                                      refine TL.pure (PV.fieldAddr rfl Tb.fo_42_1) rfl (by decide) ?_
                                      refine TL.pure (PV.load rfl Tb.one_3 (by repeat (first | exact List.Mem.head _ | refine List.Mem.tail _ ?_ | refine List.mem_append_right _ ?_)) rfl) rfl (by decide) ?_
                                      refine TL.pure (PV.fieldAddr rfl Tb.fo_42_0) rfl (by decide) ?_
                                      refine TL.pure (PV.load rfl Tb.one_3 (by repeat (first | exact List.Mem.head _ | refine List.Mem.tail _ ?_ | refine List.mem_append_right _ ?_)) rfl) rfl (by decide) ?_
                                      refine TL.pure (PV.fieldAddr rfl Tb.fo_42_2) rfl (by decide) ?_
                                      refine TL.pure (PV.load rfl Tb.one_3 (by repeat (first | exact List.Mem.head _ | refine List.Mem.tail _ ?_ | refine List.mem_append_right _ ?_)) rfl) rfl (by decide) ?_
                                      refine TL.pure (PV.neg rfl (by omega)) rfl (by decide) ?_
                                      refine TL.pure (PV.sub rfl rfl (by omega)) rfl (by decide) ?_
                                      refine TL.pure (PV.build (cs := (⟨r.b, r.a, -r.m - 1⟩ : Bd).cells.toArray) rfl Tb.zero_42 Tb.pl_42 rfl) rfl (by decide) ?_
                                      refine TL.buildSlice (cs := (bdc [⟨r.b, r.a, -r.m - 1⟩]).toArray) rfl Tb.sl_22 Tb.zi_42 (by decide) (one_fill ⟨r.b, r.a, -r.m - 1⟩) (by decide) rfl (by decide) (fun bV hbV => ?_)
                                      refine TL.pure (PV.build rfl Tb.zero_24 Tb.pl_24 rfl) rfl (by decide) ?_
                                      refine TL.call rfl Tb.gofn_52 (fun a w hs => both_ok w n p cap rs (hr.new hs.new) n (some ⟨bV, 0, none⟩) 1 [⟨r.b, r.a, -r.m - 1⟩] (BdsAt.s (h := some (bV, 1, [])) (e := 42) hs.new (fun yy hyy => by rw [List.mem_singleton.1 (show yy ∈ [(bV, Obj.cells (bdc [(⟨r.b, r.a, -r.m - 1⟩ : Bd)] ++ ([] : List Value)).toArray 42 (0, 0))] from hyy), List.append_nil];  repeat (first | exact List.Mem.head _ | refine List.Mem.tail _ ?_ | refine List.mem_append_right _ ?_)) (one_go bV _)) (by omega) (by simp)) rfl (by decide) (fun xb hxb => ?_)
                                      refine TL.pure (PV.move rfl) rfl (by decide) ?_
                                      refine TL.pure (PV.extract rfl rfl) rfl (by decide) ?_
                                      refine TL.pure (PV.extract rfl rfl) rfl (by decide) ?_
                                      refine TL.alloc Tb.zero_24 rfl (by decide) (fun b3 hb3 => ?_)
                                      refine TL.storeAgg rfl rfl Tb.cells_24 (by repeat (first | exact Upd.head _ | apply Upd.tail | apply Upd.appR)) rfl rfl (by first | rfl | exact sv_one _ _ _) rfl rfl ?_
                                      refine TL.pure (PV.assign rfl) rfl (by decide) ?_
                                      refine TL.nil ?_
                                      refine TQ.thenC ?_
                                      refine TC.seq ?_
                                      refine TC.seq ?_
                                      refine TC.region ?_
                                      refine TL.pure (PV.move rfl) rfl (by decide) ?_
                                      refine TL.pure (PV.neq rfl rfl) rfl (by decide) ?_
                                      refine TL.nil ?_
                                      refine TQ.thenC ?_
                                      first | refine TC.condD rfl (fun hbo => ?_) (fun hbo => ?_) | refine TC.cond rfl (fun hbo => ?_) (fun hbo => ?_)
                                      · skip
                                        refine TC.seq ?_
                                        refine TC.region ?_
                                        refine TL.pure (PV.assign rfl) rfl (by decide) ?_
                                        refine TL.nil ?_
                                        refine TQ.thenC ?_
                                        refine TC.ret ?_
                                        refine TQ.thenR ?_
                                        refine TQ.retE1 rfl rfl ?_
                                        first | exact ⟨(), rfl, trivial, List.nil_sublist _⟩ | exact ⟨(), by rw [decide_eq_true rfl], trivial, List.nil_sublist _⟩ | exact ⟨(), by rw [hp10]; rfl, trivial, List.nil_sublist _⟩ | exact ⟨(), by rw [hfin.2]; simp, trivial, List.nil_sublist _⟩ | exact absurd (of_decide_eq_true hsm.2) f3 | exact absurd hsm.2 f3 | contradiction | (exfalso; omega) | (exfalso; simp_all; done)
                                      · skip
                                        refine TC.skip ?_
                                        refine TQ.thenC ?_
                                        refine TC.seq ?_
                                        refine TC.region ?_
                                        refine TL.pure (PV.loadBox rfl Tb.agg_24 (by repeat (first | exact List.Mem.head _ | refine List.Mem.tail _ ?_ | refine List.mem_append_right _ ?_)) rfl) rfl (by decide) ?_
                                        refine TL.call rfl Tb.gofn_19 (fun a w hs => possS w xb.1 xb.2.1 _ xb.2.2 rfl hxb.ok (BdsAt.s (e := 42) hs.new (fun yy hyy => by simp only [List.mem_append, List.mem_cons]; simp [hyy]) hxb.ok)) rfl (by decide) (fun _ _ => ?_)
                                        refine TL.pure (PV.move rfl) rfl (by decide) ?_
                                        refine TL.pure (PV.extract rfl rfl) rfl (by decide) ?_
                                        refine TL.pure (PV.extract rfl rfl) rfl (by decide) ?_
                                        refine TL.pure (PV.assign rfl) rfl (by decide) ?_
                                        refine TL.pure (PV.assign rfl) rfl (by decide) ?_
                                        refine TL.nil ?_
                                        refine TQ.thenC ?_
                                        refine TC.seq ?_
                                        have hfin := both_fin hxb (by omega) (by omega)
                                        refine TC.region ?_
                                        refine TL.pure (PV.move rfl) rfl (by decide) ?_
                                        refine TL.pure (PV.eql rfl rfl) rfl (by decide) ?_
                                        refine TL.pure (PV.move rfl) rfl (by decide) ?_
                                        first | refine TL.splitD 253 rfl (fun h38 => ?_) (fun h38 => ?_) | refine TL.split 253 rfl (fun h38 => ?_) (fun h38 => ?_)
                                        · skip
                                          refine TL.pure (PV.move rfl) rfl (by decide) ?_
                                          refine TL.pure (PV.move rfl) rfl (by decide) ?_
                                          refine TL.pure ((by first | exact PV.notD rfl | exact PV.not rfl)) rfl (by decide) ?_
                                          refine TL.pure (PV.eqlB rfl rfl Tb.bool_4) rfl (by decide) ?_
                                          refine TL.pure (PV.pickT rfl rfl) rfl (by decide) ?_
                                          refine TL.pure (PV.assign rfl) rfl (by decide) ?_
                                          refine TL.nil ?_
                                          refine TQ.thenC ?_
                                          refine TC.ret ?_
                                          refine TQ.retE1 rfl rfl ?_
                                          first | exact ⟨(), rfl, trivial, List.nil_sublist _⟩ | exact ⟨(), by rw [decide_eq_true rfl], trivial, List.nil_sublist _⟩ | exact ⟨(), by rw [hp10]; rfl, trivial, List.nil_sublist _⟩ | exact ⟨(), by rw [hfin.2]; simp, trivial, List.nil_sublist _⟩ | exact absurd (of_decide_eq_true hsm.2) f3 | exact absurd hsm.2 f3 | contradiction | (exfalso; omega) | (exfalso; simp_all; done)
                                        · skip
                                          refine TL.skip rfl (fun k hk => by cases hk; decide) ?_
                                          refine TL.skip rfl (fun k hk => by cases hk; decide) ?_
                                          refine TL.skip rfl (fun k hk => by cases hk; decide) ?_
                                          refine TL.skip rfl (fun k hk => by cases hk; decide) ?_
                                          refine TL.pure (PV.pickF rfl rfl) rfl (by decide) ?_
                                          refine TL.pure (PV.assign rfl) rfl (by decide) ?_
                                          refine TL.nil ?_
                                          refine TQ.thenC ?_
                                          refine TC.ret ?_
                                          refine TQ.retE1 rfl rfl ?_
                                          first | exact ⟨(), rfl, trivial, List.nil_sublist _⟩ | exact ⟨(), by rw [decide_eq_true rfl], trivial, List.nil_sublist _⟩ | exact ⟨(), by rw [hp10]; rfl, trivial, List.nil_sublist _⟩ | exact ⟨(), by rw [hfin.2]; simp, trivial, List.nil_sublist _⟩ | exact absurd (of_decide_eq_true hsm.2) f3 | exact absurd hsm.2 f3 | contradiction | (exfalso; omega) | (exfalso; simp_all; done)

theorem topDates_all (W : World) (n : Int) (p : Option Addr) (cap : Nat) (rs : List Bd) (hr : BdsAt W p rs) (_ : rs.length ≤ cap) (_ : I64 n) (pd : Option Addr) (cd : Nat) (ds : List Int) (hx : IntsAt W pd ds) (_ : ∀ x ∈ ds, I64 x) (r : Bd) (_ : I64 r.a) (_ : I64 r.b) (_ : I64 r.m) :
    Calls Try.prog 16 #[cv n p rs.length cap, .slice pd ds.length cd, r.val] W (Post (X := Unit) (fun _ => .bool true) (fun _ => True) (fun _ => []) W) := topDates_ok W n p cap rs hr pd cd ds hx r

end Go.Proofs.Ytenalmddoljhoaa
