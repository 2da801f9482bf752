/- Which rounds prove a clash, by the document: contract. -/
import Derived.Test.YtenalmddoljhoaaVE
namespace Go.Proofs.Ytenalmddoljhoaa
open Go.Sx Go.RowKit

theorem clash_7a {n : Int} {rs : List Bd} {ls : List Int} (h1 : ¬ validateI n rs ≠ 0) (h2 : ¬ 20 < (ls.length : Int)) (h3 : ls.all (isK rs) = true) (h : isRoundB rs ls = false ∨ 0 ≤ sumL rs ls) : clashI n rs ls = 7 := by
  unfold clashI
  rw [if_neg h1, if_neg h2, if_pos h3, if_neg]
  rintro ⟨h4, h5⟩
  rcases h with h | h
  · rw [h] at h4; cases h4
  · omega
theorem clash_0a {n : Int} {rs : List Bd} {ls : List Int} (h1 : ¬ validateI n rs ≠ 0) (h2 : ¬ 20 < (ls.length : Int)) (h3 : ls.all (isK rs) = true) (h4 : isRoundB rs ls = true) (h5 : sumL rs ls < 0) : clashI n rs ls = 0 := by
  unfold clashI
  rw [if_neg h1, if_neg h2, if_pos h3, if_pos ⟨h4, h5⟩]


set_option maxRecDepth 100000 in
set_option maxHeartbeats 2000000 in
theorem rClash_ok (w0 : World) (n : Int) (p : Option Addr) (cap : Nat) (rs : List Bd) (hr : BdsAt w0 p rs) (pl : Option Addr) (cl : Nat) (ls : List Int) (hx : IntsAt w0 pl ls) :
    Calls Try.prog 27 #[cv n p rs.length cap, .slice pl ls.length cl] w0 (Post (X := Unit) (fun _ => .int .i64 (clashI n rs ls)) (fun _ => True) (fun _ => []) w0) := by
  refine calls Try.func27 rfl (n := 80) rfl (by simp) ?_
  refine TC.seq ?_
  refine TC.region ?_
  refine TL.box rfl rfl (by decide) (fun b0 hb0 => ?_)
  refine TL.pure (PV.assign rfl) rfl (by decide) ?_
  refine TL.nil ?_
  refine TQ.thenC ?_
  refine TC.seq ?_
  refine TC.seq ?_
  refine TC.region ?_
  refine TL.pure (PV.loadBox rfl Tb.agg_24 (by repeat (first | exact List.Mem.head _ | refine List.Mem.tail _ ?_ | refine List.mem_append_right _ ?_)) rfl) rfl (by decide) ?_
  refine TL.call rfl Tb.gofn_22 (fun a w hs => rvalidate_ok w _ _ _ _ (hr.new hs.new)) rfl (by decide) (fun _ _ => ?_)
  refine TL.pure (PV.assign rfl) rfl (by decide) ?_
  refine TL.nil ?_
  refine TQ.thenC ?_
  refine TC.seq ?_
  refine TC.region ?_
  refine TL.pure (PV.move rfl) rfl (by decide) ?_
  refine TL.pure (PV.neq rfl rfl) rfl (by decide) ?_
  refine TL.nil ?_
  refine TQ.thenC ?_
  first | refine TC.condD rfl (fun cbad => ?_) (fun cbad => ?_) | refine TC.cond rfl (fun cbad => ?_) (fun cbad => ?_)
  · skip
    refine TC.seq ?_
    refine TC.region ?_
    refine TL.pure (PV.move rfl) rfl (by decide) ?_
    refine TL.pure (PV.assign rfl) rfl (by decide) ?_
    refine TL.nil ?_
    refine TQ.thenC ?_
    refine TC.ret ?_
    refine TQ.thenR ?_
    refine TQ.retE1 rfl rfl ?_
    exact ⟨(), by rw [clashI, if_pos cbad], trivial, List.nil_sublist _⟩
  · skip
    refine TC.skip ?_
    refine TQ.thenC ?_
    refine TC.seq ?_
    refine TC.seq ?_
    have hv := vof cbad
    refine TC.region ?_
    refine TL.pure (PV.move rfl) rfl (by decide) ?_
    refine TL.pure (PV.len rfl Tb.sl_25) rfl (by decide) ?_
    refine TL.pure (PV.gtr rfl rfl) rfl (by decide) ?_
    refine TL.nil ?_
    refine TQ.thenC ?_
    first | refine TC.condD rfl (fun hlong => ?_) (fun hlong => ?_) | refine TC.cond rfl (fun hlong => ?_) (fun hlong => ?_)
    · skip
      refine TC.seq ?_
      refine TC.region ?_
      refine TL.pure (PV.assign rfl) rfl (by decide) ?_
      refine TL.nil ?_
      refine TQ.thenC ?_
      refine TC.ret ?_
      refine TQ.thenR ?_
      refine TQ.retE1 rfl rfl ?_
      exact ⟨(), by rw [clashI, if_neg cbad, if_pos hlong], trivial, List.nil_sublist _⟩
    · skip
      refine TC.skip ?_
      refine TQ.thenC ?_
      refine TC.seq ?_
      refine TC.seq ?_
      refine TC.region ?_
      refine TL.pure (PV.assign rfl) rfl (by decide) ?_
      refine TL.nil ?_
      refine TQ.thenC ?_
      refine TC.block ?_
      -- live and written in the loop, not told: [4]
      refine TC.loopG [1, 2] (X := Nat) (fun k => k ≤ ls.length ∧ ∀ i, i < k → isK rs (ls.getD i 0) = true) (fun k => [(6, .int .i64 k)]) (fun k => ls.length - k) 0 ⟨Nat.zero_le _, fun j hj => absurd hj (Nat.not_lt_zero _)⟩ (by repeat (first | exact True.intro | refine And.intro rfl ?_)) ?_
      intro k hk
      refine TC.seq ?_
      refine TC.seq ?_
      refine TC.region ?_
      refine TL.pure (PV.move rfl) rfl (by decide) ?_
      refine TL.pure (PV.move rfl) rfl (by decide) ?_
      refine TL.pure (PV.len rfl Tb.sl_25) rfl (by decide) ?_
      refine TL.pure (PV.lss rfl rfl) rfl (by decide) ?_
      refine TL.nil ?_
      refine TQ.thenC ?_
      first | refine TC.condD rfl (fun hlt => ?_) (fun hlt => ?_) | refine TC.cond rfl (fun hlt => ?_) (fun hlt => ?_)
      · skip
        refine TC.skip ?_
        refine TQ.thenC ?_
        refine TC.seq ?_
        refine TC.block ?_
        refine TC.seq ?_
        obtain ⟨q, hqp, hqa⟩ := hx k (by omega)
        have hvl := hv.len
        refine TC.any Tb.mixed rfl rfl ?_
        refine TA.op (OpOK.pure (PV.move rfl) rfl (by decide)) (by decide) ?_
        refine TA.op (OpOK.pure (PV.move rfl) rfl (by decide)) (by decide) ?_
        refine TA.op (OpOK.pure (PV.indexA rfl hqp rfl Tb.elm_25 rfl (by omega)) rfl (by decide)) (by decide) ?_
        refine TA.op (OpOK.pure (PV.loadOld rfl Tb.one_3 hqa) rfl (by decide)) (by decide) ?_
        refine TA.op (OpOK.pure (PV.fieldAddr rfl Tb.fo_24_1) rfl (by decide)) (by decide) ?_
        refine TA.op (OpOK.pure (PV.load rfl Tb.one_22 (by repeat (first | exact List.Mem.head _ | refine List.Mem.tail _ ?_ | refine List.mem_append_right _ ?_)) rfl) rfl (by decide)) (by decide) ?_
        refine TA.op (OpOK.pure (PV.len rfl Tb.sl_22) rfl (by decide)) (by decide) ?_
        refine TA.op (OpOK.pure (PV.sub rfl rfl (by omega)) rfl (by decide)) (by decide) ?_
        refine TA.op (OpOK.call rfl Tb.gofn_61 (fun a w hs => within_ok _ _ _ _) rfl (by decide)) (by decide) ?_
        refine TA.op (OpOK.pure ((by first | exact PV.notD rfl | exact PV.not rfl)) rfl (by decide)) (by decide) ?_
        show TQ _ _ _ _ _
        refine TQ.thenC ?_
        first | refine TC.condD rfl (fun hnone => ?_) (fun hnone => ?_) | refine TC.cond rfl (fun hnone => ?_) (fun hnone => ?_)
        · skip
          refine TC.seq ?_
          refine TC.region ?_
          refine TL.pure (PV.assign rfl) rfl (by decide) ?_
          refine TL.nil ?_
          refine TQ.thenC ?_
          refine TC.ret ?_
          refine TQ.blkR ?_
          refine TQ.thenR ?_
          refine TQ.thenR ?_
          refine TQ.blkR ?_
          refine TQ.thenR ?_
          refine TQ.retE1 rfl rfl ?_
          exact ⟨(), by rw [clashI, if_neg cbad, if_neg hlong, if_neg (not_all (k := k) (by omega) (decide_eq_false (fun h8 => hnone (by omega))))], trivial, List.nil_sublist _⟩
        · skip
          refine TC.skip ?_
          refine TQ.blkN ?_
          refine TQ.thenC ?_
          refine TC.region ?_
          refine TL.pure (PV.move rfl) rfl (by decide) ?_
          refine TL.pure (PV.add rfl rfl (by omega)) rfl (by decide) ?_
          refine TL.pure (PV.assign rfl) rfl (by decide) ?_
          refine TL.nil ?_
          refine TQ.thenN ?_
          refine TQ.backK (k + 1) (by repeat (first | exact True.intro | refine And.intro rfl ?_)) (by repeat (first | exact True.intro | refine And.intro rfl ?_)) (by repeat (first | exact List.Sublist.slnil | exact List.nil_sublist _ | exact List.Sublist.refl _ | refine List.Sublist.cons_cons _ ?_ | refine List.Sublist.cons _ ?_ | refine List.Sublist.trans ?_ (List.sublist_append_right _ _))) ⟨by omega, fun j hj => if e : j < k then hk.2 j e else (show k = j by omega) ▸ decide_eq_true (by have h8 := Decidable.of_not_not hnone; omega)⟩ (by omega)
      · skip
        refine TC.exit ?_
        refine TQ.thenE ?_
        refine TQ.thenE ?_
        refine TQ.blkS ?_
        refine TQ.thenC ?_
        refine TC.seq ?_
        have hka : ∀ i, i < ls.length → isK rs (ls.getD i 0) = true := fun i hi => hk.2 i (by omega)
        have hls := ks_of hka
        have hall := all_of hka
        clear hk
        refine TC.region ?_
        refine TL.pure (PV.assign rfl) rfl (by decide) ?_
        refine TL.nil ?_
        refine TQ.thenC ?_
        refine TC.seq ?_
        refine TC.seq ?_
        refine TC.region ?_
        refine TL.pure (PV.assign rfl) rfl (by decide) ?_
        refine TL.nil ?_
        refine TQ.thenC ?_
        refine TC.block ?_
        -- live and written in the loop, not told: [4]
        refine TC.loopG [1, 2] (X := Nat) (fun k => k ≤ ls.length ∧ ∀ i, i < k → ring1 rs ls i = true) (fun k => [(8, .int .i64 k), (7, .int .i64 (sumK rs ls k))]) (fun k => ls.length - k) 0 ⟨Nat.zero_le _, fun j hj => absurd hj (Nat.not_lt_zero _)⟩ (by repeat (first | exact True.intro | refine And.intro rfl ?_)) ?_
        intro k hk
        refine TC.seq ?_
        refine TC.seq ?_
        refine TC.region ?_
        refine TL.pure (PV.move rfl) rfl (by decide) ?_
        refine TL.pure (PV.move rfl) rfl (by decide) ?_
        refine TL.pure (PV.len rfl Tb.sl_25) rfl (by decide) ?_
        refine TL.pure (PV.lss rfl rfl) rfl (by decide) ?_
        refine TL.nil ?_
        refine TQ.thenC ?_
        first | refine TC.condD rfl (fun hlt2 => ?_) (fun hlt2 => ?_) | refine TC.cond rfl (fun hlt2 => ?_) (fun hlt2 => ?_)
        · skip
          refine TC.skip ?_
          refine TQ.thenC ?_
          refine TC.seq ?_
          refine TC.block ?_
          refine TC.seq ?_
          refine TC.seq ?_
          have hL : 0 < ls.length := by omega
          have hml : (k + 1) % ls.length < ls.length := Nat.mod_lt _ hL
          have hrem : -9223372036854775808 ≤ ((k : Int) + 1).tmod (ls.length : Int) ∧ ((k : Int) + 1).tmod (ls.length : Int) ≤ 9223372036854775807 := by rw [tmod_nat]; omega
          obtain ⟨q1, hq1p, hq1⟩ := hx ((k + 1) % ls.length) hml
          obtain ⟨q2, hq2p, hq2⟩ := hx k (by omega)
          have hk1 := hls ((k + 1) % ls.length) hml
          have hk2 := hls k (by omega)
          have hkl : kat ls k < rs.length := by unfold kat; omega
          obtain ⟨r1, hr1p, hr1⟩ := hr (kat ls ((k + 1) % ls.length)) (by unfold kat; omega)
          obtain ⟨r2, hr2p, hr2⟩ := hr (kat ls k) hkl
          have hr10 := hr1 0 _ rfl
          have hr21 := hr2 1 _ rfl
          have hr22 := hr2 2 _ rfl
          have hb9 := sumK_low hv hls k (by omega)
          have hm9 := hv.at hkl
          have hring : (rs.getD (kat ls k) default).b = (rs.getD (kat ls ((k + 1) % ls.length)) default).a → ring1 rs ls k = true := fun e => decide_eq_true e
          have hring2 : ¬ (rs.getD (kat ls k) default).b = (rs.getD (kat ls ((k + 1) % ls.length)) default).a → ¬ ring1 rs ls k = true := fun e e2 => e (of_decide_eq_true e2)
          refine TC.any Tb.mixed rfl rfl ?_
          refine TA.op (OpOK.pure (PV.fieldAddr rfl Tb.fo_24_1) rfl (by decide)) (by decide) ?_
          refine TA.op (OpOK.pure (PV.load rfl Tb.one_22 (by repeat (first | exact List.Mem.head _ | refine List.Mem.tail _ ?_ | refine List.mem_append_right _ ?_)) rfl) rfl (by decide)) (by decide) ?_
          refine TA.op (OpOK.pure (PV.move rfl) rfl (by decide)) (by decide) ?_
          refine TA.op (OpOK.pure (PV.move rfl) rfl (by decide)) (by decide) ?_
          refine TA.op (OpOK.pure (PV.indexA rfl hq2p rfl Tb.elm_25 rfl (by omega)) rfl (by decide)) (by decide) ?_
          refine TA.op (OpOK.pure (PV.loadOld rfl Tb.one_3 hq2) rfl (by decide)) (by decide) ?_
          refine TA.op (OpOK.pure (PV.indexA (j := kat ls k) rfl hr2p rfl Tb.elm_22 (by unfold kat; omega) hkl) rfl (by decide)) (by decide) ?_
          refine TA.op (OpOK.pure (PV.fieldAddrA rfl Tb.fo_42_1) rfl (by decide)) (by decide) ?_
          refine TA.op (OpOK.pure (PV.loadOld rfl Tb.one_3 hr21) rfl (by decide)) (by decide) ?_
          refine TA.op (OpOK.pure (PV.fieldAddr rfl Tb.fo_24_1) rfl (by decide)) (by decide) ?_
          refine TA.op (OpOK.pure (PV.load rfl Tb.one_22 (by repeat (first | exact List.Mem.head _ | refine List.Mem.tail _ ?_ | refine List.mem_append_right _ ?_)) rfl) rfl (by decide)) (by decide) ?_
          refine TA.op (OpOK.pure (PV.move rfl) rfl (by decide)) (by decide) ?_
          refine TA.op (OpOK.pure (PV.move rfl) rfl (by decide)) (by decide) ?_
          refine TA.op (OpOK.pure (PV.add rfl rfl (by omega)) rfl (by decide)) (by decide) ?_
          refine TA.op (OpOK.pure (PV.move rfl) rfl (by decide)) (by decide) ?_
          refine TA.op (OpOK.pure (PV.len rfl Tb.sl_25) rfl (by decide)) (by decide) ?_
          refine TA.op (OpOK.pure (PV.rem rfl rfl (by omega) hrem) rfl (by decide)) (by decide) ?_
          refine TA.op (OpOK.pure (PV.indexA (j := (k + 1) % ls.length) rfl hq1p rfl Tb.elm_25 (tmod_nat k ls.length) hml) rfl (by decide)) (by decide) ?_
          refine TA.op (OpOK.pure (PV.loadOld rfl Tb.one_3 hq1) rfl (by decide)) (by decide) ?_
          refine TA.op (OpOK.pure (PV.indexA (j := kat ls ((k + 1) % ls.length)) rfl hr1p rfl Tb.elm_22 (by unfold kat; omega) (by unfold kat; omega)) rfl (by decide)) (by decide) ?_
          refine TA.op (OpOK.pure (PV.fieldAddrA rfl Tb.fo_42_0) rfl (by decide)) (by decide) ?_
          refine TA.op (OpOK.pure (PV.loadOld rfl Tb.one_3 hr10) rfl (by decide)) (by decide) ?_
          refine TA.op (OpOK.pure (PV.neq rfl rfl) rfl (by decide)) (by decide) ?_
          show TQ _ _ _ _ _
          refine TQ.thenC ?_
          first | refine TC.condD rfl (fun hne => ?_) (fun hne => ?_) | refine TC.cond rfl (fun hne => ?_) (fun hne => ?_)
          · skip
            refine TC.seq ?_
            refine TC.region ?_
            refine TL.pure (PV.assign rfl) rfl (by decide) ?_
            refine TL.nil ?_
            refine TQ.thenC ?_
            refine TC.ret ?_
            refine TQ.thenR ?_
            refine TQ.blkR ?_
            refine TQ.thenR ?_
            refine TQ.thenR ?_
            refine TQ.blkR ?_
            refine TQ.thenR ?_
            refine TQ.retE1 rfl rfl ?_
            refine ⟨(), ?_, trivial, List.nil_sublist _⟩
            rw [clash_7a cbad hlong hall (.inl (round_no (k := k) (by omega) (hring2 hne)))]
          · skip
            refine TC.skip ?_
            refine TQ.thenC ?_
            refine TC.draw 11 Tb.mixed (by kernel_rfl) ?_
            simp only [List.take_succ_cons, List.take_zero, List.drop_succ_cons, List.drop_zero]
            refine TS.pure (PV.move rfl) rfl (by decide) ?_
            refine TS.pure (PV.fieldAddr rfl Tb.fo_24_1) rfl (by decide) ?_
            refine TS.pure (PV.load rfl Tb.one_22 (by repeat (first | exact List.Mem.head _ | refine List.Mem.tail _ ?_ | refine List.mem_append_right _ ?_)) rfl) rfl (by decide) ?_
            refine TS.pure (PV.move rfl) rfl (by decide) ?_
            refine TS.pure (PV.move rfl) rfl (by decide) ?_
            refine TS.pure (PV.indexA rfl hq2p rfl Tb.elm_25 rfl (by omega)) rfl (by decide) ?_
            refine TS.pure (PV.loadOld rfl Tb.one_3 hq2) rfl (by decide) ?_
            refine TS.pure (PV.indexA (j := kat ls k) rfl hr2p rfl Tb.elm_22 (by unfold kat; omega) hkl) rfl (by decide) ?_
            refine TS.pure (PV.fieldAddrA rfl Tb.fo_42_2) rfl (by decide) ?_
            refine TS.pure (PV.loadOld rfl Tb.one_3 hr22) rfl (by decide) ?_
            refine TS.pure (PV.add rfl rfl (by omega)) rfl (by decide) ?_
            refine TS.nil ?_
            refine TL.pure (PV.assign rfl) rfl (by decide) ?_
            refine TL.nil ?_
            refine TQ.blkN ?_
            refine TQ.thenC ?_
            refine TC.region ?_
            refine TL.pure (PV.move rfl) rfl (by decide) ?_
            refine TL.pure (PV.add rfl rfl (by omega)) rfl (by decide) ?_
            refine TL.pure (PV.assign rfl) rfl (by decide) ?_
            refine TL.nil ?_
            refine TQ.thenN ?_
            refine TQ.backK (k + 1) (by repeat (first | exact True.intro | refine And.intro rfl ?_)) (by repeat (first | exact True.intro | refine And.intro rfl ?_)) (by repeat (first | exact List.Sublist.slnil | exact List.nil_sublist _ | exact List.Sublist.refl _ | refine List.Sublist.cons_cons _ ?_ | refine List.Sublist.cons _ ?_ | refine List.Sublist.trans ?_ (List.sublist_append_right _ _))) ⟨by omega, fun j hj => if e : j < k then hk.2 j e else (show k = j by omega) ▸ hring (Decidable.of_not_not hne)⟩ (by omega)
        · skip
          refine TC.exit ?_
          refine TQ.thenE ?_
          refine TQ.thenE ?_
          refine TQ.blkS ?_
          refine TQ.thenC ?_
          refine TC.seq ?_
          refine TC.seq ?_
          have e9 : k = ls.length := by omega
          have hry := round_yes (fun i hi => hk.2 i (by omega))
          refine TC.region ?_
          refine TL.pure (PV.move rfl) rfl (by decide) ?_
          refine TL.pure (PV.len rfl Tb.sl_25) rfl (by decide) ?_
          refine TL.pure (PV.eql rfl rfl) rfl (by decide) ?_
          refine TL.pure (PV.move rfl) rfl (by decide) ?_
          first | refine TL.splitD 76 rfl (fun e2 => ?_) (fun e2 => ?_) | refine TL.split 76 rfl (fun e2 => ?_) (fun e2 => ?_)
          · skip
            refine TL.skip rfl (fun k hk => by cases hk; decide) ?_
            refine TL.skip rfl (fun k hk => by cases hk; decide) ?_
            refine TL.pure (PV.pickT rfl rfl) rfl (by decide) ?_
            refine TL.nil ?_
            refine TQ.thenC ?_
            refine TC.condT rfl ?_
            refine TC.seq ?_
            refine TC.region ?_
            refine TL.pure (PV.assign rfl) rfl (by decide) ?_
            refine TL.nil ?_
            refine TQ.thenC ?_
            refine TC.ret ?_
            refine TQ.thenR ?_
            refine TQ.retE1 rfl rfl ?_
            refine ⟨(), ?_, trivial, List.nil_sublist _⟩
            rw [clash_7a cbad hlong hall (.inl (by rw [hry]; exact decide_eq_false (by omega)))]
          · skip
            refine TL.pure (PV.move rfl) rfl (by decide) ?_
            refine TL.pure (PV.geq rfl rfl) rfl (by decide) ?_
            refine TL.pure (PV.pickF rfl rfl) rfl (by decide) ?_
            refine TL.nil ?_
            refine TQ.thenC ?_
            first | refine TC.condD rfl (fun hno => ?_) (fun hno => ?_) | refine TC.cond rfl (fun hno => ?_) (fun hno => ?_)
            · skip
              refine TC.seq ?_
              refine TC.region ?_
              refine TL.pure (PV.assign rfl) rfl (by decide) ?_
              refine TL.nil ?_
              refine TQ.thenC ?_
              refine TC.ret ?_
              refine TQ.thenR ?_
              refine TQ.retE1 rfl rfl ?_
              rw [e9] at hno
              refine ⟨(), ?_, trivial, List.nil_sublist _⟩
              rw [clash_7a cbad hlong hall (.inr (by unfold sumL; omega))]
            · skip
              refine TC.skip ?_
              refine TQ.thenC ?_
              refine TC.seq ?_
              refine TC.region ?_
              refine TL.pure (PV.assign rfl) rfl (by decide) ?_
              refine TL.nil ?_
              refine TQ.thenC ?_
              refine TC.ret ?_
              refine TQ.retE1 rfl rfl ?_
              rw [e9] at hno
              refine ⟨(), ?_, trivial, List.nil_sublist _⟩
              rw [clash_0a cbad hlong hall (by rw [hry]; exact decide_eq_true (by omega)) (by unfold sumL; omega)]

end Go.Proofs.Ytenalmddoljhoaa
