/- Prices, and costs that do not cross: contracts. -/
import Derived.Test.YtghlkndanpegbaaBm
set_option linter.unusedVariables false
set_option linter.unusedSimpArgs false
namespace Go.Proofs.Ytghlkndanpegbaa
open Go.Sx Go.RowKit Go.Sand Go.Tp

open Classical in
noncomputable def chkP (t : Td) (us vs : List Int) : Int := if validI t ≠ 0 then validI t else if (numB t.s.length (-1000) 1000 us && numB t.d.length (-1000) 1000 vs) = true then (if Hon t.s.length t.d.length (getM t.c) (fun i => us.getD i 0) (fun j => vs.getD j 0) then 0 else 6) else 1
theorem chk_v {t : Td} {us vs : List Int} (h : validI t ≠ 0) : chkP t us vs = validI t := if_pos h
theorem chk_1 {t : Td} {us vs : List Int} (h : ¬ validI t ≠ 0) (h2 : numB t.s.length (-1000) 1000 us = false ∨ numB t.d.length (-1000) 1000 vs = false) : chkP t us vs = 1 := by
  unfold chkP
  rw [if_neg h, if_neg]
  rcases h2 with h2 | h2 <;> rw [h2] <;> simp
theorem chk_6 {t : Td} {us vs : List Int} (h : ¬ validI t ≠ 0) (h1 : numB t.s.length (-1000) 1000 us = true) (h2 : numB t.d.length (-1000) 1000 vs = true) {i j : Nat} (hi : i < t.s.length) (hj : j < t.d.length) (h3 : (t.c.getD i []).getD j 0 < us.getD i 0 + vs.getD j 0) : chkP t us vs = 6 := by
  unfold chkP
  rw [if_neg h, if_pos (by rw [h1, h2]; rfl), if_neg]
  intro hh
  have : us.getD i 0 + vs.getD j 0 ≤ (t.c.getD i []).getD j 0 := hh i j hi hj
  omega
theorem chk_0 {t : Td} {us vs : List Int} (h : ¬ validI t ≠ 0) (h1 : numB t.s.length (-1000) 1000 us = true) (h2 : numB t.d.length (-1000) 1000 vs = true) (h3 : ∀ i, i < t.s.length → ∀ j, j < t.d.length → us.getD i 0 + vs.getD j 0 ≤ (t.c.getD i []).getD j 0) : chkP t us vs = 0 := by
  unfold chkP
  have h4 : Hon t.s.length t.d.length (getM t.c) (fun i => us.getD i 0) (fun j => vs.getD j 0) := fun i j hi hj => h3 i hi j hj
  rw [if_neg h, if_pos (by rw [h1, h2]; rfl), if_pos h4]
/-- Honest prices of a valid trade. -/
structure VPr (t : Td) (us vs : List Int) : Prop extends VT t where
  nu : numB t.s.length (-1000) 1000 us = true
  nv : numB t.d.length (-1000) 1000 vs = true
  hon : Hon t.s.length t.d.length (getM t.c) (fun i => us.getD i 0) (fun j => vs.getD j 0)
theorem vpr_of {t : Td} {us vs : List Int} (h : ¬ chkP t us vs ≠ 0) : VPr t us vs := by
  have h0 := Decidable.of_not_not h
  unfold chkP at h0
  split at h0
  · rename_i h1; exact absurd h0 h1
  · rename_i h1
    split at h0
    · rename_i h2
      rw [Bool.and_eq_true] at h2
      split at h0
      · rename_i h3; exact ⟨vt_of h1, h2.1, h2.2, h3⟩
      · cases h0
    · cases h0
noncomputable def wthR (t : Td) (us vs : List Int) : Int × Int := if chkP t us vs ≠ 0 then (0, chkP t us vs) else (prodI us t.s + prodI vs t.d, 0)
theorem num_sm3 {n : Int} {xs : List Int} (h : numB n (-1000) 1000 xs = true) : Sm3 xs := fun j hj => num_in h hj
theorem VT.s3 {t : Td} (h : VT t) : Sm3 t.s := fun j hj => by have := h.s j hj; omega
theorem VT.d3 {t : Td} (h : VT t) : Sm3 t.d := fun j hj => by have := h.d j hj; omega
theorem wth_eq {t : Td} {us vs : List Int} (h1 : us.length = t.s.length) (h2 : vs.length = t.d.length) : prodI us t.s + prodI vs t.d = wth t.s.length t.d.length (fS t) (fD t) (fun i => us.getD i 0) (fun j => vs.getD j 0) := by
  unfold prodI wth
  rw [h1, h2]
open Classical in
noncomputable def sqR (t : Td) : Bool × Int := if validI t ≠ 0 then (false, validI t) else (decide (Sq t.s.length t.d.length (getM t.c)), 0)
theorem sq_1 {t : Td} (h : validI t ≠ 0) : sqR t = (false, validI t) := if_pos h
open Classical in
theorem sq_n {t : Td} (h : ¬ validI t ≠ 0) (h2 : ¬ Sq t.s.length t.d.length (getM t.c)) : sqR t = (false, 0) := by unfold sqR; rw [if_neg h]; exact Prod.ext (@decide_eq_false _ _ h2) rfl
open Classical in
theorem sq_y {t : Td} (h : ¬ validI t ≠ 0) (h2 : Sq t.s.length t.d.length (getM t.c)) : sqR t = (true, 0) := by unfold sqR; rw [if_neg h]; exact Prod.ext (@decide_eq_true _ _ h2) rfl


set_option maxRecDepth 100000 in
theorem arePrices_ok (w0 : World) (pl : Option Addr) (cl : Nat) (xs : List Int) (hx : IntsAt w0 pl xs) (hl : xs.length ≤ 1000000) (n : Int) :
    Calls Try.prog 72 #[.slice pl xs.length cl, .int .i64 n] w0 (Post (X := Unit) (fun _ => .bool (numB n (-1000) 1000 xs)) (fun _ => True) (fun _ => []) w0) := by
  refine calls Try.func72 rfl (n := 8) rfl (by simp) ?_
  refine TC.seq ?_
  refine TC.region ?_
  refine TL.pure (PV.assign rfl) rfl (by decide) ?_
  refine TL.nil ?_
  refine TQ.thenC ?_
  refine TC.seq ?_
  refine TC.region ?_
  refine TL.pure (PV.move rfl) rfl (by decide) ?_
  refine TL.pure (PV.move rfl) rfl (by decide) ?_
  refine TL.call rfl Tb.gofn_87 (fun a w hs => areNumbers_ok w _ _ _ (hx.new hs.new) hl _ _ _) rfl (by decide) (fun _ _ => ?_)
  refine TL.pure (PV.assign rfl) rfl (by decide) ?_
  refine TL.nil ?_
  refine TQ.thenC ?_
  refine TC.ret ?_
  refine TQ.retE1 rfl rfl ?_
  exact ⟨(), rfl, trivial, List.nil_sublist _⟩

set_option maxRecDepth 100000 in
set_option maxHeartbeats 2000000 in
theorem checkPrices_ok (w0 : World) (vt : Value) (t : Td) (ht : IsT w0 vt t) (hT : SmT t) (vp : Value) (us vs : List Int) (hp : IsP w0 vp us vs) (hu : us.length ≤ 1000000) (hv : vs.length ≤ 1000000) :
    Calls Try.prog 37 #[vt, vp] w0 (Post (X := Unit) (fun _ => .int .i64 (chkP t us vs)) (fun _ => True) (fun _ => []) w0) := by
  obtain ⟨p1, c1, p2, c2, p3, c3, rfl, t1, t2, t3⟩ := ht
  obtain ⟨pu, cu, pv, cv, rfl, hpu, hpv⟩ := hp
  refine calls Try.func37 rfl (n := 61) rfl (by simp) ?_
  refine TC.seq ?_
  refine TC.region ?_
  refine TL.box rfl rfl (by decide) (fun b0 hb0 => ?_)
  refine TL.box rfl rfl (by decide) (fun b1 hb1 => ?_)
  refine TL.pure (PV.assign rfl) rfl (by decide) ?_
  refine TL.nil ?_
  refine TQ.thenC ?_
  refine TC.seq ?_
  refine TC.seq ?_
  refine TC.region ?_
  refine TL.pure (PV.loadBox rfl Tb.agg_25 (by repeat (first | exact List.Mem.head _ | refine List.Mem.tail _ ?_ | refine List.mem_append_right _ ?_)) rfl) rfl (by decide) ?_
  refine TL.call rfl Tb.gofn_21 (fun a w hs => validate_ok w _ t (IsT.mk (t1.new hs.new) (t2.new hs.new) (t3.new hs.new)) hT) rfl (by decide) (fun _ _ => ?_)
  refine TL.pure (PV.assign rfl) rfl (by decide) ?_
  refine TL.nil ?_
  refine TQ.thenC ?_
  refine TC.seq ?_
  refine TC.region ?_
  refine TL.pure (PV.move rfl) rfl (by decide) ?_
  refine TL.pure (PV.neq rfl rfl) rfl (by decide) ?_
  refine TL.nil ?_
  refine TQ.thenC ?_
  first | refine TC.condD rfl (fun a1 => ?_) (fun a1 => ?_) | refine TC.cond rfl (fun a1 => ?_) (fun a1 => ?_)
  · skip
    refine TC.seq ?_
    refine TC.region ?_
    refine TL.pure (PV.move rfl) rfl (by decide) ?_
    refine TL.pure (PV.assign rfl) rfl (by decide) ?_
    refine TL.nil ?_
    refine TQ.thenC ?_
    refine TC.ret ?_
    refine TQ.thenR ?_
    refine TQ.retE1 rfl rfl ?_
    exact ⟨(), by rw [chk_v a1], trivial, List.nil_sublist _⟩
  · skip
    refine TC.skip ?_
    refine TQ.thenC ?_
    refine TC.seq ?_
    refine TC.seq ?_
    refine TC.region ?_
    refine TL.pure (PV.fieldAddr rfl Tb.fo_43_0) rfl (by decide) ?_
    refine TL.pure (PV.load rfl Tb.one_22 (by repeat (first | exact List.Mem.head _ | refine List.Mem.tail _ ?_ | refine List.mem_append_right _ ?_)) rfl) rfl (by decide) ?_
    refine TL.pure (PV.fieldAddr rfl Tb.fo_25_0) rfl (by decide) ?_
    refine TL.pure (PV.load rfl Tb.one_22 (by repeat (first | exact List.Mem.head _ | refine List.Mem.tail _ ?_ | refine List.mem_append_right _ ?_)) rfl) rfl (by decide) ?_
    refine TL.pure (PV.len rfl Tb.sl_22) rfl (by decide) ?_
    refine TL.call rfl Tb.gofn_72 (fun a w hs => arePrices_ok w _ _ _ (hpu.new hs.new) hu _) rfl (by decide) (fun _ _ => ?_)
    refine TL.pure ((by first | exact PV.notD rfl | exact PV.not rfl)) rfl (by decide) ?_
    refine TL.pure (PV.move rfl) rfl (by decide) ?_
    first | refine TL.splitD 22 rfl (fun e1 => ?_) (fun e1 => ?_) | refine TL.split 22 rfl (fun e1 => ?_) (fun e1 => ?_)
    · skip
      refine TL.skip rfl (fun k hk => by cases hk; decide) ?_
      refine TL.skip rfl (fun k hk => by cases hk; decide) ?_
      refine TL.skip rfl (fun k hk => by cases hk; decide) ?_
      refine TL.skip rfl (fun k hk => by cases hk; decide) ?_
      refine TL.skip rfl (fun k hk => by cases hk; decide) ?_
      refine TL.skip rfl (fun k hk => by cases hk; decide) ?_
      refine TL.skip rfl (fun k hk => by cases hk; decide) ?_
      refine TL.pure (PV.pickT rfl rfl) rfl (by decide) ?_
      refine TL.nil ?_
      refine TQ.thenC ?_
      refine TC.condT rfl ?_
      refine TC.seq ?_
      refine TC.region ?_
      refine TL.pure (PV.assign rfl) rfl (by decide) ?_
      refine TL.nil ?_
      refine TQ.thenC ?_
      refine TC.ret ?_
      refine TQ.thenR ?_
      refine TQ.retE1 rfl rfl ?_
      exact ⟨(), by rw [chk_1 a1 (.inl (by simpa using e1))], trivial, List.nil_sublist _⟩
    · skip
      refine TL.pure (PV.fieldAddr rfl Tb.fo_43_1) rfl (by decide) ?_
      refine TL.pure (PV.load rfl Tb.one_22 (by repeat (first | exact List.Mem.head _ | refine List.Mem.tail _ ?_ | refine List.mem_append_right _ ?_)) rfl) rfl (by decide) ?_
      refine TL.pure (PV.fieldAddr rfl Tb.fo_25_1) rfl (by decide) ?_
      refine TL.pure (PV.load rfl Tb.one_22 (by repeat (first | exact List.Mem.head _ | refine List.Mem.tail _ ?_ | refine List.mem_append_right _ ?_)) rfl) rfl (by decide) ?_
      refine TL.pure (PV.len rfl Tb.sl_22) rfl (by decide) ?_
      refine TL.call rfl Tb.gofn_72 (fun a w hs => arePrices_ok w _ _ _ (hpv.new hs.new) hv _) rfl (by decide) (fun _ _ => ?_)
      refine TL.pure ((by first | exact PV.notD rfl | exact PV.not rfl)) rfl (by decide) ?_
      refine TL.pure (PV.pickF rfl rfl) rfl (by decide) ?_
      refine TL.nil ?_
      refine TQ.thenC ?_
      first | refine TC.condD rfl (fun e2 => ?_) (fun e2 => ?_) | refine TC.cond rfl (fun e2 => ?_) (fun e2 => ?_)
      · skip
        refine TC.seq ?_
        refine TC.region ?_
        refine TL.pure (PV.assign rfl) rfl (by decide) ?_
        refine TL.nil ?_
        refine TQ.thenC ?_
        refine TC.ret ?_
        refine TQ.thenR ?_
        refine TQ.retE1 rfl rfl ?_
        exact ⟨(), by rw [chk_1 a1 (.inr (by simpa using e2))], trivial, List.nil_sublist _⟩
      · skip
        refine TC.skip ?_
        refine TQ.thenC ?_
        refine TC.seq ?_
        refine TC.seq ?_
        have hV := vt_of a1
        have hns := hV.ns
        have hnd := hV.nd
        have e1 : numB t.s.length (-1000) 1000 us = true := by simpa using e1
        have e2 : numB t.d.length (-1000) 1000 vs = true := by simpa using e2
        have hul := num_len e1
        have hvl := num_len e2
        have hcl := hV.c.len
        refine TC.region ?_
        refine TL.pure (PV.fieldAddr rfl Tb.fo_25_2) rfl (by decide) ?_
        refine TL.pure (PV.load rfl Tb.one_23 (by repeat (first | exact List.Mem.head _ | refine List.Mem.tail _ ?_ | refine List.mem_append_right _ ?_)) rfl) rfl (by decide) ?_
        refine TL.pure (PV.len rfl Tb.sl_23) rfl (by decide) ?_
        refine TL.pure (PV.move rfl) rfl (by decide) ?_
        refine TL.nil ?_
        refine TQ.thenC ?_
        refine TC.block ?_
        -- live and written in the loop, not told: [4]
        refine TC.loopG [3, 32, 33] (X := Nat) (fun k => k ≤ t.s.length ∧ ∀ p, p < k → ∀ q, q < t.d.length → us.getD p 0 + vs.getD q 0 ≤ ((t.c.getD p []).getD q 0)) (fun k => [(34, .int .i64 k)]) (fun k => t.s.length - k) 0 ⟨Nat.zero_le _, fun p hp => absurd hp (Nat.not_lt_zero _)⟩ (by repeat (first | exact True.intro | refine And.intro rfl ?_)) ?_
        intro k hk
        refine TC.seq ?_
        refine TC.region ?_
        refine TL.pure (PV.lss rfl rfl) rfl (by decide) ?_
        refine TL.nil ?_
        refine TQ.thenC ?_
        refine TC.seq ?_
        first | refine TC.condD rfl (fun hlt => ?_) (fun hlt => ?_) | refine TC.cond rfl (fun hlt => ?_) (fun hlt => ?_)
        · skip
          refine TC.skip ?_
          refine TQ.thenC ?_
          refine TC.seq ?_
          refine TC.block ?_
          refine TC.seq ?_
          obtain ⟨q1, hq1p, q1p, q1c, hq1, hq1r⟩ := t3 k (by omega)
          have hr1 := hV.c.row k (by omega)
          obtain ⟨q3, hq3p, hq3⟩ := hpu k (by omega)
          refine TC.region ?_
          refine TL.pure (PV.move rfl) rfl (by decide) ?_
          refine TL.pure (PV.indexA rfl hq1p rfl Tb.elm_23 rfl (by omega)) rfl (by decide) ?_
          refine TL.pure (PV.loadOld rfl Tb.one_22 hq1) rfl (by decide) ?_
          refine TL.pure (PV.assign rfl) rfl (by decide) ?_
          refine TL.pure (PV.assign rfl) rfl (by decide) ?_
          refine TL.nil ?_
          refine TQ.thenC ?_
          refine TC.seq ?_
          refine TC.region ?_
          refine TL.pure (PV.move rfl) rfl (by decide) ?_
          refine TL.pure (PV.len rfl Tb.sl_22) rfl (by decide) ?_
          refine TL.pure (PV.move rfl) rfl (by decide) ?_
          refine TL.nil ?_
          refine TQ.thenC ?_
          refine TC.block ?_
          -- live and written in the loop, not told: [4]
          refine TC.loopG [3, 6, 32, 33, 34, 39, 40] (X := Nat) (fun q => q ≤ t.d.length ∧ ∀ p, p < q → us.getD k 0 + vs.getD p 0 ≤ ((t.c.getD k []).getD p 0)) (fun q => [(41, .int .i64 q)]) (fun q => t.d.length - q) 0 ⟨Nat.zero_le _, fun p hp => absurd hp (Nat.not_lt_zero _)⟩ (by repeat (first | exact True.intro | refine And.intro rfl ?_)) ?_
          intro q hq9
          refine TC.seq ?_
          refine TC.region ?_
          refine TL.pure (PV.lss rfl rfl) rfl (by decide) ?_
          refine TL.nil ?_
          refine TQ.thenC ?_
          refine TC.seq ?_
          first | refine TC.condD rfl (fun hlt2 => ?_) (fun hlt2 => ?_) | refine TC.cond rfl (fun hlt2 => ?_) (fun hlt2 => ?_)
          · skip
            refine TC.skip ?_
            refine TQ.thenC ?_
            refine TC.seq ?_
            refine TC.block ?_
            refine TC.seq ?_
            obtain ⟨q2, hq2p, hq2⟩ := hq1r q (by omega)
            obtain ⟨q4, hq4p, hq4⟩ := hpv q (by omega)
            have hb1 := num_in e1 (k := k) (by omega)
            have hb2 := num_in e2 (k := q) (by omega)
            refine TC.region ?_
            refine TL.pure (PV.move rfl) rfl (by decide) ?_
            refine TL.pure (PV.indexA rfl hq2p rfl Tb.elm_22 rfl (by omega)) rfl (by decide) ?_
            refine TL.pure (PV.loadOld rfl Tb.one_3 hq2) rfl (by decide) ?_
            refine TL.pure (PV.assign rfl) rfl (by decide) ?_
            refine TL.pure (PV.assign rfl) rfl (by decide) ?_
            refine TL.nil ?_
            refine TQ.thenC ?_
            refine TC.seq ?_
            refine TC.any Tb.mixed rfl rfl ?_
            refine TA.op (OpOK.pure (PV.fieldAddr rfl Tb.fo_43_0) rfl (by decide)) (by decide) ?_
            refine TA.op (OpOK.pure (PV.load rfl Tb.one_22 (by repeat (first | exact List.Mem.head _ | refine List.Mem.tail _ ?_ | refine List.mem_append_right _ ?_)) rfl) rfl (by decide)) (by decide) ?_
            refine TA.op (OpOK.pure (PV.move rfl) rfl (by decide)) (by decide) ?_
            refine TA.op (OpOK.pure (PV.indexA rfl hq3p rfl Tb.elm_22 rfl (by omega)) rfl (by decide)) (by decide) ?_
            refine TA.op (OpOK.pure (PV.loadOld rfl Tb.one_3 hq3) rfl (by decide)) (by decide) ?_
            refine TA.op (OpOK.pure (PV.fieldAddr rfl Tb.fo_43_1) rfl (by decide)) (by decide) ?_
            refine TA.op (OpOK.pure (PV.load rfl Tb.one_22 (by repeat (first | exact List.Mem.head _ | refine List.Mem.tail _ ?_ | refine List.mem_append_right _ ?_)) rfl) rfl (by decide)) (by decide) ?_
            refine TA.op (OpOK.pure (PV.move rfl) rfl (by decide)) (by decide) ?_
            refine TA.op (OpOK.pure (PV.indexA rfl hq4p rfl Tb.elm_22 rfl (by omega)) rfl (by decide)) (by decide) ?_
            refine TA.op (OpOK.pure (PV.loadOld rfl Tb.one_3 hq4) rfl (by decide)) (by decide) ?_
            refine TA.op (OpOK.pure (PV.add rfl rfl (by omega)) rfl (by decide)) (by decide) ?_
            refine TA.op (OpOK.pure (PV.move rfl) rfl (by decide)) (by decide) ?_
            refine TA.op (OpOK.pure (PV.gtr rfl rfl) rfl (by decide)) (by decide) ?_
            show TQ _ _ _ _ _
            refine TQ.thenC ?_
            first | refine TC.condD rfl (fun hno => ?_) (fun hno => ?_) | refine TC.cond rfl (fun hno => ?_) (fun hno => ?_)
            · skip
              refine TC.seq ?_
              refine TC.region ?_
              refine TL.pure (PV.assign rfl) rfl (by decide) ?_
              refine TL.nil ?_
              refine TQ.thenC ?_
              refine TC.ret ?_
              refine TQ.blkR ?_
              refine TQ.thenR ?_
              refine TQ.thenR ?_
              refine TQ.blkR ?_
              refine TQ.blkR ?_
              refine TQ.thenR ?_
              refine TQ.thenR ?_
              refine TQ.blkR ?_
              refine TQ.thenR ?_
              refine TQ.retE1 rfl rfl ?_
              exact ⟨(), by rw [chk_6 a1 e1 e2 (i := k) (j := q) (by omega) (by omega) (by omega)], trivial, List.nil_sublist _⟩
            · skip
              refine TC.skip ?_
              refine TQ.blkN ?_
              refine TQ.thenC ?_
              refine TC.region ?_
              refine TL.pure (PV.add rfl rfl (by omega)) rfl (by decide) ?_
              refine TL.pure (PV.move rfl) rfl (by decide) ?_
              refine TL.nil ?_
              refine TQ.thenN ?_
              refine TQ.backK (q + 1) (by repeat (first | exact True.intro | refine And.intro rfl ?_)) (by repeat (first | exact True.intro | refine And.intro rfl ?_)) (by repeat (first | exact List.Sublist.slnil | exact List.nil_sublist _ | exact List.Sublist.refl _ | refine List.Sublist.cons_cons _ ?_ | refine List.Sublist.cons _ ?_ | refine List.Sublist.trans ?_ (List.sublist_append_right _ _))) ⟨by omega, fun p hp => if e : p < q then hq9.2 p e else by obtain rfl : p = q := (by omega); omega⟩ (by omega)
          · skip
            refine TC.exit ?_
            refine TQ.thenE ?_
            refine TQ.thenE ?_
            refine TQ.blkS ?_
            refine TQ.blkN ?_
            refine TQ.thenC ?_
            refine TC.region ?_
            refine TL.pure (PV.add rfl rfl (by omega)) rfl (by decide) ?_
            refine TL.pure (PV.move rfl) rfl (by decide) ?_
            refine TL.nil ?_
            refine TQ.thenN ?_
            refine TQ.backK (k + 1) (by repeat (first | exact True.intro | refine And.intro rfl ?_)) (by repeat (first | exact True.intro | refine And.intro rfl ?_)) (by repeat (first | exact List.Sublist.slnil | exact List.nil_sublist _ | exact List.Sublist.refl _ | refine List.Sublist.cons_cons _ ?_ | refine List.Sublist.cons _ ?_ | refine List.Sublist.trans ?_ (List.sublist_append_right _ _))) ⟨by omega, fun p hp => if e : p < k then hk.2 p e else by obtain rfl : p = k := (by omega); exact fun r hr => hq9.2 r (by omega)⟩ (by omega)
        · skip
          refine TC.exit ?_
          refine TQ.thenE ?_
          refine TQ.thenE ?_
          refine TQ.blkS ?_
          refine TQ.thenC ?_
          refine TC.seq ?_
          refine TC.region ?_
          refine TL.pure (PV.assign rfl) rfl (by decide) ?_
          refine TL.nil ?_
          refine TQ.thenC ?_
          refine TC.ret ?_
          refine TQ.retE1 rfl rfl ?_
          exact ⟨(), by rw [chk_0 a1 e1 e2 (fun i hi => hk.2 i (by omega))], trivial, List.nil_sublist _⟩

set_option maxRecDepth 100000 in
set_option maxHeartbeats 2000000 in
theorem rcheckPrices_ok (w0 : World) (vt : Value) (t : Td) (ht : IsT w0 vt t) (hT : SmT t) (vp : Value) (us vs : List Int) (hp : IsP w0 vp us vs) (hu : us.length ≤ 1000000) (hv : vs.length ≤ 1000000) :
    Calls Try.prog 38 #[vt, vp] w0 (Post (X := Unit) (fun _ => .int .i64 (chkP t us vs)) (fun _ => True) (fun _ => []) w0) := by
  obtain ⟨p1, c1, p2, c2, p3, c3, rfl, t1, t2, t3⟩ := ht
  obtain ⟨pu, cu, pv, cv, rfl, hpu, hpv⟩ := hp
  refine calls Try.func38 rfl (n := 93) rfl (by simp) ?_
  refine TC.seq ?_
  refine TC.region ?_
  refine TL.box rfl rfl (by decide) (fun b0 hb0 => ?_)
  refine TL.box rfl rfl (by decide) (fun b1 hb1 => ?_)
  refine TL.pure (PV.assign rfl) rfl (by decide) ?_
  refine TL.nil ?_
  refine TQ.thenC ?_
  refine TC.seq ?_
  refine TC.region ?_
  refine TL.pure (PV.loadBox rfl Tb.agg_25 (by repeat (first | exact List.Mem.head _ | refine List.Mem.tail _ ?_ | refine List.mem_append_right _ ?_)) rfl) rfl (by decide) ?_
  refine TL.call rfl Tb.gofn_22 (fun a w hs => rvalidate_ok w _ t (IsT.mk (t1.new hs.new) (t2.new hs.new) (t3.new hs.new)) hT) rfl (by decide) (fun _ _ => ?_)
  refine TL.pure (PV.assign rfl) rfl (by decide) ?_
  refine TL.nil ?_
  refine TQ.thenC ?_
  refine TC.seq ?_
  refine TC.seq ?_
  refine TC.region ?_
  refine TL.pure (PV.move rfl) rfl (by decide) ?_
  refine TL.pure (PV.neq rfl rfl) rfl (by decide) ?_
  refine TL.nil ?_
  refine TQ.thenC ?_
  first | refine TC.condD rfl (fun a1 => ?_) (fun a1 => ?_) | refine TC.cond rfl (fun a1 => ?_) (fun a1 => ?_)
  · skip
    refine TC.seq ?_
    refine TC.region ?_
    refine TL.pure (PV.move rfl) rfl (by decide) ?_
    refine TL.pure (PV.assign rfl) rfl (by decide) ?_
    refine TL.nil ?_
    refine TQ.thenC ?_
    refine TC.ret ?_
    refine TQ.thenR ?_
    refine TQ.retE1 rfl rfl ?_
    exact ⟨(), by rw [chk_v a1], trivial, List.nil_sublist _⟩
  · skip
    refine TC.skip ?_
    refine TQ.thenC ?_
    refine TC.seq ?_
    refine TC.seq ?_
    refine TC.region ?_
    refine TL.pure (PV.fieldAddr rfl Tb.fo_43_0) rfl (by decide) ?_
    refine TL.pure (PV.load rfl Tb.one_22 (by repeat (first | exact List.Mem.head _ | refine List.Mem.tail _ ?_ | refine List.mem_append_right _ ?_)) rfl) rfl (by decide) ?_
    refine TL.pure (PV.len rfl Tb.sl_22) rfl (by decide) ?_
    refine TL.pure (PV.fieldAddr rfl Tb.fo_25_0) rfl (by decide) ?_
    refine TL.pure (PV.load rfl Tb.one_22 (by repeat (first | exact List.Mem.head _ | refine List.Mem.tail _ ?_ | refine List.mem_append_right _ ?_)) rfl) rfl (by decide) ?_
    refine TL.pure (PV.len rfl Tb.sl_22) rfl (by decide) ?_
    refine TL.pure (PV.neq rfl rfl) rfl (by decide) ?_
    refine TL.pure (PV.move rfl) rfl (by decide) ?_
    first | refine TL.splitD 22 rfl (fun e1 => ?_) (fun e1 => ?_) | refine TL.split 22 rfl (fun e1 => ?_) (fun e1 => ?_)
    · skip
      refine TL.skip rfl (fun k hk => by cases hk; decide) ?_
      refine TL.skip rfl (fun k hk => by cases hk; decide) ?_
      refine TL.skip rfl (fun k hk => by cases hk; decide) ?_
      refine TL.skip rfl (fun k hk => by cases hk; decide) ?_
      refine TL.skip rfl (fun k hk => by cases hk; decide) ?_
      refine TL.skip rfl (fun k hk => by cases hk; decide) ?_
      refine TL.skip rfl (fun k hk => by cases hk; decide) ?_
      refine TL.pure (PV.pickT rfl rfl) rfl (by decide) ?_
      refine TL.nil ?_
      refine TQ.thenC ?_
      refine TC.condT rfl ?_
      refine TC.seq ?_
      refine TC.region ?_
      refine TL.pure (PV.assign rfl) rfl (by decide) ?_
      refine TL.nil ?_
      refine TQ.thenC ?_
      refine TC.ret ?_
      refine TQ.thenR ?_
      refine TQ.retE1 rfl rfl ?_
      exact ⟨(), by rw [chk_1 a1 (.inl (num_1 (by omega)))], trivial, List.nil_sublist _⟩
    · skip
      refine TL.pure (PV.fieldAddr rfl Tb.fo_43_1) rfl (by decide) ?_
      refine TL.pure (PV.load rfl Tb.one_22 (by repeat (first | exact List.Mem.head _ | refine List.Mem.tail _ ?_ | refine List.mem_append_right _ ?_)) rfl) rfl (by decide) ?_
      refine TL.pure (PV.len rfl Tb.sl_22) rfl (by decide) ?_
      refine TL.pure (PV.fieldAddr rfl Tb.fo_25_1) rfl (by decide) ?_
      refine TL.pure (PV.load rfl Tb.one_22 (by repeat (first | exact List.Mem.head _ | refine List.Mem.tail _ ?_ | refine List.mem_append_right _ ?_)) rfl) rfl (by decide) ?_
      refine TL.pure (PV.len rfl Tb.sl_22) rfl (by decide) ?_
      refine TL.pure (PV.neq rfl rfl) rfl (by decide) ?_
      refine TL.pure (PV.pickF rfl rfl) rfl (by decide) ?_
      refine TL.nil ?_
      refine TQ.thenC ?_
      first | refine TC.condD rfl (fun e2 => ?_) (fun e2 => ?_) | refine TC.cond rfl (fun e2 => ?_) (fun e2 => ?_)
      · skip
        refine TC.seq ?_
        refine TC.region ?_
        refine TL.pure (PV.assign rfl) rfl (by decide) ?_
        refine TL.nil ?_
        refine TQ.thenC ?_
        refine TC.ret ?_
        refine TQ.thenR ?_
        refine TQ.retE1 rfl rfl ?_
        exact ⟨(), by rw [chk_1 a1 (.inr (num_1 (by omega)))], trivial, List.nil_sublist _⟩
      · skip
        refine TC.skip ?_
        refine TQ.thenC ?_
        refine TC.seq ?_
        refine TC.seq ?_
        have hV := vt_of a1
        have hns := hV.ns
        have hnd := hV.nd
        have hcl := hV.c.len
        refine TC.region ?_
        refine TL.pure (PV.assign rfl) rfl (by decide) ?_
        refine TL.nil ?_
        refine TQ.thenC ?_
        refine TC.block ?_
        -- live and written in the loop, not told: [4]
        refine TC.loopG [2, 3] (X := Nat) (fun k => k ≤ us.length ∧ ∀ j, j < k → wiB (us.getD j 0) (-1000) 1000 = true) (fun k => [(6, .int .i64 k)]) (fun k => us.length - k) 0 ⟨Nat.zero_le _, fun j hj => absurd hj (Nat.not_lt_zero _)⟩ (by repeat (first | exact True.intro | refine And.intro rfl ?_)) ?_
        intro k hk
        refine TC.seq ?_
        refine TC.seq ?_
        refine TC.region ?_
        refine TL.pure (PV.move rfl) rfl (by decide) ?_
        refine TL.pure (PV.fieldAddr rfl Tb.fo_43_0) rfl (by decide) ?_
        refine TL.pure (PV.load rfl Tb.one_22 (by repeat (first | exact List.Mem.head _ | refine List.Mem.tail _ ?_ | refine List.mem_append_right _ ?_)) rfl) rfl (by decide) ?_
        refine TL.pure (PV.len rfl Tb.sl_22) rfl (by decide) ?_
        refine TL.pure (PV.lss rfl rfl) rfl (by decide) ?_
        refine TL.nil ?_
        refine TQ.thenC ?_
        first | refine TC.condD rfl (fun hlt1 => ?_) (fun hlt1 => ?_) | refine TC.cond rfl (fun hlt1 => ?_) (fun hlt1 => ?_)
        · skip
          refine TC.skip ?_
          refine TQ.thenC ?_
          refine TC.seq ?_
          refine TC.block ?_
          refine TC.seq ?_
          obtain ⟨q3, hq3p, hq3⟩ := hpu k (by omega)
          refine TC.region ?_
          refine TL.pure (PV.fieldAddr rfl Tb.fo_43_0) rfl (by decide) ?_
          refine TL.pure (PV.load rfl Tb.one_22 (by repeat (first | exact List.Mem.head _ | refine List.Mem.tail _ ?_ | refine List.mem_append_right _ ?_)) rfl) rfl (by decide) ?_
          refine TL.pure (PV.move rfl) rfl (by decide) ?_
          refine TL.pure (PV.indexA rfl hq3p rfl Tb.elm_22 rfl (by omega)) rfl (by decide) ?_
          refine TL.pure (PV.loadOld rfl Tb.one_3 hq3) rfl (by decide) ?_
          refine TL.call rfl Tb.gofn_73 (fun a w hs => within_ok w _ _ _) rfl (by decide) (fun _ _ => ?_)
          refine TL.pure ((by first | exact PV.notD rfl | exact PV.not rfl)) rfl (by decide) ?_
          refine TL.nil ?_
          refine TQ.thenC ?_
          first | refine TC.condD rfl (fun hw1 => ?_) (fun hw1 => ?_) | refine TC.cond rfl (fun hw1 => ?_) (fun hw1 => ?_)
          · skip
            refine TC.seq ?_
            refine TC.region ?_
            refine TL.pure (PV.assign rfl) rfl (by decide) ?_
            refine TL.nil ?_
            refine TQ.thenC ?_
            refine TC.ret ?_
            refine TQ.blkR ?_
            refine TQ.thenR ?_
            refine TQ.thenR ?_
            refine TQ.blkR ?_
            refine TQ.thenR ?_
            refine TQ.retE1 rfl rfl ?_
            exact ⟨(), by rw [chk_1 a1 (.inl (num_2 (k := k) (by omega) (by first | exact hw1 | simpa [wiB] using hw1)))], trivial, List.nil_sublist _⟩
          · skip
            refine TC.skip ?_
            refine TQ.blkN ?_
            refine TQ.thenC ?_
            refine TC.region ?_
            refine TL.pure (PV.move rfl) rfl (by decide) ?_
            refine TL.pure (PV.add rfl rfl (by omega)) rfl (by decide) ?_
            refine TL.pure (PV.assign rfl) rfl (by decide) ?_
            refine TL.nil ?_
            refine TQ.thenN ?_
            refine TQ.backK (k + 1) (by repeat (first | exact True.intro | refine And.intro rfl ?_)) (by repeat (first | exact True.intro | refine And.intro rfl ?_)) (by repeat (first | exact List.Sublist.slnil | exact List.nil_sublist _ | exact List.Sublist.refl _ | refine List.Sublist.cons_cons _ ?_ | refine List.Sublist.cons _ ?_ | refine List.Sublist.trans ?_ (List.sublist_append_right _ _))) ⟨by omega, fun j hj => if e : j < k then hk.2 j e else (show k = j by omega) ▸ (by unfold wiB; simpa using hw1)⟩ (by omega)
        · skip
          refine TC.exit ?_
          refine TQ.thenE ?_
          refine TQ.thenE ?_
          refine TQ.blkS ?_
          refine TQ.thenC ?_
          refine TC.seq ?_
          refine TC.seq ?_
          have n1 : numB t.s.length (-1000) 1000 us = true := num_3 (by omega) (fun p hp => of_decide_eq_true (hk.2 p (by omega)))
          refine TC.region ?_
          refine TL.pure (PV.assign rfl) rfl (by decide) ?_
          refine TL.nil ?_
          refine TQ.thenC ?_
          refine TC.block ?_
          -- live and written in the loop, not told: [4]
          refine TC.loopG [2, 3] (X := Nat) (fun k => k ≤ vs.length ∧ ∀ j, j < k → wiB (vs.getD j 0) (-1000) 1000 = true) (fun k => [(7, .int .i64 k)]) (fun k => vs.length - k) 0 ⟨Nat.zero_le _, fun j hj => absurd hj (Nat.not_lt_zero _)⟩ (by repeat (first | exact True.intro | refine And.intro rfl ?_)) ?_
          intro k hk
          refine TC.seq ?_
          refine TC.seq ?_
          refine TC.region ?_
          refine TL.pure (PV.move rfl) rfl (by decide) ?_
          refine TL.pure (PV.fieldAddr rfl Tb.fo_43_1) rfl (by decide) ?_
          refine TL.pure (PV.load rfl Tb.one_22 (by repeat (first | exact List.Mem.head _ | refine List.Mem.tail _ ?_ | refine List.mem_append_right _ ?_)) rfl) rfl (by decide) ?_
          refine TL.pure (PV.len rfl Tb.sl_22) rfl (by decide) ?_
          refine TL.pure (PV.lss rfl rfl) rfl (by decide) ?_
          refine TL.nil ?_
          refine TQ.thenC ?_
          first | refine TC.condD rfl (fun hlt3 => ?_) (fun hlt3 => ?_) | refine TC.cond rfl (fun hlt3 => ?_) (fun hlt3 => ?_)
          · skip
            refine TC.skip ?_
            refine TQ.thenC ?_
            refine TC.seq ?_
            refine TC.block ?_
            refine TC.seq ?_
            obtain ⟨q3, hq3p, hq3⟩ := hpv k (by omega)
            refine TC.region ?_
            refine TL.pure (PV.fieldAddr rfl Tb.fo_43_1) rfl (by decide) ?_
            refine TL.pure (PV.load rfl Tb.one_22 (by repeat (first | exact List.Mem.head _ | refine List.Mem.tail _ ?_ | refine List.mem_append_right _ ?_)) rfl) rfl (by decide) ?_
            refine TL.pure (PV.move rfl) rfl (by decide) ?_
            refine TL.pure (PV.indexA rfl hq3p rfl Tb.elm_22 rfl (by omega)) rfl (by decide) ?_
            refine TL.pure (PV.loadOld rfl Tb.one_3 hq3) rfl (by decide) ?_
            refine TL.call rfl Tb.gofn_73 (fun a w hs => within_ok w _ _ _) rfl (by decide) (fun _ _ => ?_)
            refine TL.pure ((by first | exact PV.notD rfl | exact PV.not rfl)) rfl (by decide) ?_
            refine TL.nil ?_
            refine TQ.thenC ?_
            first | refine TC.condD rfl (fun hw2 => ?_) (fun hw2 => ?_) | refine TC.cond rfl (fun hw2 => ?_) (fun hw2 => ?_)
            · skip
              refine TC.seq ?_
              refine TC.region ?_
              refine TL.pure (PV.assign rfl) rfl (by decide) ?_
              refine TL.nil ?_
              refine TQ.thenC ?_
              refine TC.ret ?_
              refine TQ.blkR ?_
              refine TQ.thenR ?_
              refine TQ.thenR ?_
              refine TQ.blkR ?_
              refine TQ.thenR ?_
              refine TQ.retE1 rfl rfl ?_
              exact ⟨(), by rw [chk_1 a1 (.inr (num_2 (k := k) (by omega) (by first | exact hw2 | simpa [wiB] using hw2)))], trivial, List.nil_sublist _⟩
            · skip
              refine TC.skip ?_
              refine TQ.blkN ?_
              refine TQ.thenC ?_
              refine TC.region ?_
              refine TL.pure (PV.move rfl) rfl (by decide) ?_
              refine TL.pure (PV.add rfl rfl (by omega)) rfl (by decide) ?_
              refine TL.pure (PV.assign rfl) rfl (by decide) ?_
              refine TL.nil ?_
              refine TQ.thenN ?_
              refine TQ.backK (k + 1) (by repeat (first | exact True.intro | refine And.intro rfl ?_)) (by repeat (first | exact True.intro | refine And.intro rfl ?_)) (by repeat (first | exact List.Sublist.slnil | exact List.nil_sublist _ | exact List.Sublist.refl _ | refine List.Sublist.cons_cons _ ?_ | refine List.Sublist.cons _ ?_ | refine List.Sublist.trans ?_ (List.sublist_append_right _ _))) ⟨by omega, fun j hj => if e : j < k then hk.2 j e else (show k = j by omega) ▸ (by unfold wiB; simpa using hw2)⟩ (by omega)
          · skip
            refine TC.exit ?_
            refine TQ.thenE ?_
            refine TQ.thenE ?_
            refine TQ.blkS ?_
            refine TQ.thenC ?_
            refine TC.seq ?_
            refine TC.seq ?_
            have n2 : numB t.d.length (-1000) 1000 vs = true := num_3 (by omega) (fun p hp => of_decide_eq_true (hk.2 p (by omega)))
            refine TC.region ?_
            refine TL.pure (PV.assign rfl) rfl (by decide) ?_
            refine TL.nil ?_
            refine TQ.thenC ?_
            refine TC.block ?_
            -- live and written in the loop, not told: [4]
            refine TC.loopG [2, 3] (X := Nat) (fun k => k ≤ t.s.length ∧ ∀ p, p < k → ∀ q, q < t.d.length → us.getD p 0 + vs.getD q 0 ≤ ((t.c.getD p []).getD q 0)) (fun k => [(8, .int .i64 k)]) (fun k => t.s.length - k) 0 ⟨Nat.zero_le _, fun p hp => absurd hp (Nat.not_lt_zero _)⟩ (by repeat (first | exact True.intro | refine And.intro rfl ?_)) ?_
            intro k hk
            refine TC.seq ?_
            refine TC.seq ?_
            refine TC.region ?_
            refine TL.pure (PV.move rfl) rfl (by decide) ?_
            refine TL.pure (PV.fieldAddr rfl Tb.fo_43_0) rfl (by decide) ?_
            refine TL.pure (PV.load rfl Tb.one_22 (by repeat (first | exact List.Mem.head _ | refine List.Mem.tail _ ?_ | refine List.mem_append_right _ ?_)) rfl) rfl (by decide) ?_
            refine TL.pure (PV.len rfl Tb.sl_22) rfl (by decide) ?_
            refine TL.pure (PV.lss rfl rfl) rfl (by decide) ?_
            refine TL.nil ?_
            refine TQ.thenC ?_
            first | refine TC.condD rfl (fun hlt => ?_) (fun hlt => ?_) | refine TC.cond rfl (fun hlt => ?_) (fun hlt => ?_)
            · skip
              refine TC.skip ?_
              refine TQ.thenC ?_
              refine TC.seq ?_
              refine TC.block ?_
              refine TC.seq ?_
              refine TC.region ?_
              refine TL.pure (PV.assign rfl) rfl (by decide) ?_
              refine TL.nil ?_
              refine TQ.thenC ?_
              refine TC.block ?_
              -- live and written in the loop, not told: [4]
              refine TC.loopG [2, 3, 8] (X := Nat) (fun q => q ≤ t.d.length ∧ ∀ p, p < q → us.getD k 0 + vs.getD p 0 ≤ ((t.c.getD k []).getD p 0)) (fun q => [(9, .int .i64 q)]) (fun q => t.d.length - q) 0 ⟨Nat.zero_le _, fun p hp => absurd hp (Nat.not_lt_zero _)⟩ (by repeat (first | exact True.intro | refine And.intro rfl ?_)) ?_
              intro q hq9
              refine TC.seq ?_
              refine TC.seq ?_
              refine TC.region ?_
              refine TL.pure (PV.move rfl) rfl (by decide) ?_
              refine TL.pure (PV.fieldAddr rfl Tb.fo_43_1) rfl (by decide) ?_
              refine TL.pure (PV.load rfl Tb.one_22 (by repeat (first | exact List.Mem.head _ | refine List.Mem.tail _ ?_ | refine List.mem_append_right _ ?_)) rfl) rfl (by decide) ?_
              refine TL.pure (PV.len rfl Tb.sl_22) rfl (by decide) ?_
              refine TL.pure (PV.lss rfl rfl) rfl (by decide) ?_
              refine TL.nil ?_
              refine TQ.thenC ?_
              first | refine TC.condD rfl (fun hlt2 => ?_) (fun hlt2 => ?_) | refine TC.cond rfl (fun hlt2 => ?_) (fun hlt2 => ?_)
              · skip
                refine TC.skip ?_
                refine TQ.thenC ?_
                refine TC.seq ?_
                refine TC.block ?_
                refine TC.seq ?_
                obtain ⟨q1, hq1p, q1p, q1c, hq1, hq1r⟩ := t3 k (by omega)
                have hr1 := hV.c.row k (by omega)
                obtain ⟨q3, hq3p, hq3⟩ := hpu k (by omega)
                obtain ⟨q2, hq2p, hq2⟩ := hq1r q (by omega)
                obtain ⟨q4, hq4p, hq4⟩ := hpv q (by omega)
                have hb1 := num_in n1 (k := k) (by omega)
                have hb2 := num_in n2 (k := q) (by omega)
                refine TC.any Tb.mixed rfl rfl ?_
                refine TA.op (OpOK.pure (PV.fieldAddr rfl Tb.fo_43_0) rfl (by decide)) (by decide) ?_
                refine TA.op (OpOK.pure (PV.load rfl Tb.one_22 (by repeat (first | exact List.Mem.head _ | refine List.Mem.tail _ ?_ | refine List.mem_append_right _ ?_)) rfl) rfl (by decide)) (by decide) ?_
                refine TA.op (OpOK.pure (PV.move rfl) rfl (by decide)) (by decide) ?_
                refine TA.op (OpOK.pure (PV.indexA rfl hq3p rfl Tb.elm_22 rfl (by omega)) rfl (by decide)) (by decide) ?_
                refine TA.op (OpOK.pure (PV.loadOld rfl Tb.one_3 hq3) rfl (by decide)) (by decide) ?_
                refine TA.op (OpOK.pure (PV.fieldAddr rfl Tb.fo_43_1) rfl (by decide)) (by decide) ?_
                refine TA.op (OpOK.pure (PV.load rfl Tb.one_22 (by repeat (first | exact List.Mem.head _ | refine List.Mem.tail _ ?_ | refine List.mem_append_right _ ?_)) rfl) rfl (by decide)) (by decide) ?_
                refine TA.op (OpOK.pure (PV.move rfl) rfl (by decide)) (by decide) ?_
                refine TA.op (OpOK.pure (PV.indexA rfl hq4p rfl Tb.elm_22 rfl (by omega)) rfl (by decide)) (by decide) ?_
                refine TA.op (OpOK.pure (PV.loadOld rfl Tb.one_3 hq4) rfl (by decide)) (by decide) ?_
                refine TA.op (OpOK.pure (PV.add rfl rfl (by omega)) rfl (by decide)) (by decide) ?_
                refine TA.op (OpOK.pure (PV.fieldAddr rfl Tb.fo_25_2) rfl (by decide)) (by decide) ?_
                refine TA.op (OpOK.pure (PV.load rfl Tb.one_23 (by repeat (first | exact List.Mem.head _ | refine List.Mem.tail _ ?_ | refine List.mem_append_right _ ?_)) rfl) rfl (by decide)) (by decide) ?_
                refine TA.op (OpOK.pure (PV.move rfl) rfl (by decide)) (by decide) ?_
                refine TA.op (OpOK.pure (PV.indexA rfl hq1p rfl Tb.elm_23 rfl (by omega)) rfl (by decide)) (by decide) ?_
                refine TA.op (OpOK.pure (PV.loadOld rfl Tb.one_22 hq1) rfl (by decide)) (by decide) ?_
                refine TA.op (OpOK.pure (PV.move rfl) rfl (by decide)) (by decide) ?_
                refine TA.op (OpOK.pure (PV.indexA rfl hq2p rfl Tb.elm_22 rfl (by omega)) rfl (by decide)) (by decide) ?_
                refine TA.op (OpOK.pure (PV.loadOld rfl Tb.one_3 hq2) rfl (by decide)) (by decide) ?_
                refine TA.op (OpOK.pure (PV.gtr rfl rfl) rfl (by decide)) (by decide) ?_
                show TQ _ _ _ _ _
                refine TQ.thenC ?_
                first | refine TC.condD rfl (fun hno => ?_) (fun hno => ?_) | refine TC.cond rfl (fun hno => ?_) (fun hno => ?_)
                · skip
                  refine TC.seq ?_
                  refine TC.region ?_
                  refine TL.pure (PV.assign rfl) rfl (by decide) ?_
                  refine TL.nil ?_
                  refine TQ.thenC ?_
                  refine TC.ret ?_
                  refine TQ.blkR ?_
                  refine TQ.thenR ?_
                  refine TQ.thenR ?_
                  refine TQ.blkR ?_
                  refine TQ.blkR ?_
                  refine TQ.thenR ?_
                  refine TQ.thenR ?_
                  refine TQ.blkR ?_
                  refine TQ.thenR ?_
                  refine TQ.retE1 rfl rfl ?_
                  exact ⟨(), by rw [chk_6 a1 n1 n2 (i := k) (j := q) (by omega) (by omega) (by omega)], trivial, List.nil_sublist _⟩
                · skip
                  refine TC.skip ?_
                  refine TQ.blkN ?_
                  refine TQ.thenC ?_
                  refine TC.region ?_
                  refine TL.pure (PV.move rfl) rfl (by decide) ?_
                  refine TL.pure (PV.add rfl rfl (by omega)) rfl (by decide) ?_
                  refine TL.pure (PV.assign rfl) rfl (by decide) ?_
                  refine TL.nil ?_
                  refine TQ.thenN ?_
                  refine TQ.backK (q + 1) (by repeat (first | exact True.intro | refine And.intro rfl ?_)) (by repeat (first | exact True.intro | refine And.intro rfl ?_)) (by repeat (first | exact List.Sublist.slnil | exact List.nil_sublist _ | exact List.Sublist.refl _ | refine List.Sublist.cons_cons _ ?_ | refine List.Sublist.cons _ ?_ | refine List.Sublist.trans ?_ (List.sublist_append_right _ _))) ⟨by omega, fun p hp => if e : p < q then hq9.2 p e else by obtain rfl : p = q := (by omega); omega⟩ (by omega)
              · skip
                refine TC.exit ?_
                refine TQ.thenE ?_
                refine TQ.thenE ?_
                refine TQ.blkS ?_
                refine TQ.blkN ?_
                refine TQ.thenC ?_
                refine TC.region ?_
                refine TL.pure (PV.move rfl) rfl (by decide) ?_
                refine TL.pure (PV.add rfl rfl (by omega)) rfl (by decide) ?_
                refine TL.pure (PV.assign rfl) rfl (by decide) ?_
                refine TL.nil ?_
                refine TQ.thenN ?_
                refine TQ.backK (k + 1) (by repeat (first | exact True.intro | refine And.intro rfl ?_)) (by repeat (first | exact True.intro | refine And.intro rfl ?_)) (by repeat (first | exact List.Sublist.slnil | exact List.nil_sublist _ | exact List.Sublist.refl _ | refine List.Sublist.cons_cons _ ?_ | refine List.Sublist.cons _ ?_ | refine List.Sublist.trans ?_ (List.sublist_append_right _ _))) ⟨by omega, fun p hp => if e : p < k then hk.2 p e else by obtain rfl : p = k := (by omega); exact fun r hr => hq9.2 r (by omega)⟩ (by omega)
            · skip
              refine TC.exit ?_
              refine TQ.thenE ?_
              refine TQ.thenE ?_
              refine TQ.blkS ?_
              refine TQ.thenC ?_
              refine TC.seq ?_
              refine TC.region ?_
              refine TL.pure (PV.assign rfl) rfl (by decide) ?_
              refine TL.nil ?_
              refine TQ.thenC ?_
              refine TC.ret ?_
              refine TQ.retE1 rfl rfl ?_
              exact ⟨(), by rw [chk_0 a1 n1 n2 (fun i hi => hk.2 i (by omega))], trivial, List.nil_sublist _⟩

set_option maxRecDepth 100000 in
set_option maxHeartbeats 1000000 in
theorem Worth_ok (w0 : World) (vt : Value) (t : Td) (ht : IsT w0 vt t) (hT : SmT t) (vp : Value) (us vs : List Int) (hp : IsP w0 vp us vs) (hu : us.length ≤ 1000000) (hv : vs.length ≤ 1000000) :
    Calls Try.prog 35 #[vt, vp] w0 (Post (X := Unit) (fun _ => .tuple #[.int .i64 (wthR t us vs).1, .int .i64 (wthR t us vs).2]) (fun _ => True) (fun _ => []) w0) := by
  obtain ⟨p1, c1, p2, c2, p3, c3, rfl, t1, t2, t3⟩ := ht
  obtain ⟨pu, cu, pv, cv, rfl, hpu, hpv⟩ := hp
  refine calls Try.func35 rfl (n := 24) rfl (by simp) ?_
  refine TC.seq ?_
  refine TC.region ?_
  refine TL.box rfl rfl (by decide) (fun b0 hb0 => ?_)
  refine TL.box rfl rfl (by decide) (fun b1 hb1 => ?_)
  refine TL.pure (PV.assign rfl) rfl (by decide) ?_
  refine TL.pure (PV.assign rfl) rfl (by decide) ?_
  refine TL.nil ?_
  refine TQ.thenC ?_
  refine TC.seq ?_
  refine TC.seq ?_
  refine TC.region ?_
  refine TL.pure (PV.loadBox rfl Tb.agg_25 (by repeat (first | exact List.Mem.head _ | refine List.Mem.tail _ ?_ | refine List.mem_append_right _ ?_)) rfl) rfl (by decide) ?_
  refine TL.pure (PV.loadBox rfl Tb.agg_43 (by repeat (first | exact List.Mem.head _ | refine List.Mem.tail _ ?_ | refine List.mem_append_right _ ?_)) rfl) rfl (by decide) ?_
  refine TL.call rfl Tb.gofn_37 (fun a w hs => checkPrices_ok w _ t (IsT.mk (t1.new hs.new) (t2.new hs.new) (t3.new hs.new)) hT _ us vs (IsP.mk (hpu.new hs.new) (hpv.new hs.new)) hu hv) rfl (by decide) (fun _ _ => ?_)
  refine TL.pure (PV.assign rfl) rfl (by decide) ?_
  refine TL.nil ?_
  refine TQ.thenC ?_
  refine TC.seq ?_
  refine TC.region ?_
  refine TL.pure (PV.move rfl) rfl (by decide) ?_
  refine TL.pure (PV.neq rfl rfl) rfl (by decide) ?_
  refine TL.nil ?_
  refine TQ.thenC ?_
  first | refine TC.condD rfl (fun a1 => ?_) (fun a1 => ?_) | refine TC.cond rfl (fun a1 => ?_) (fun a1 => ?_)
  · skip
    refine TC.seq ?_
    refine TC.region ?_
    refine TL.pure (PV.move rfl) rfl (by decide) ?_
    refine TL.pure (PV.assign rfl) rfl (by decide) ?_
    refine TL.pure (PV.assign rfl) rfl (by decide) ?_
    refine TL.nil ?_
    refine TQ.thenC ?_
    refine TC.ret ?_
    refine TQ.thenR ?_
    refine TQ.retE2 rfl rfl rfl ?_
    exact ⟨(), by unfold wthR; rw [if_pos a1], trivial, List.nil_sublist _⟩
  · skip
    refine TC.skip ?_
    refine TQ.thenC ?_
    refine TC.seq ?_
    have hV := vpr_of a1
    have hns := hV.ns
    have hnd := hV.nd
    have hul := num_len hV.nu
    have hvl := num_len hV.nv
    have hb1 := prod_bd (num_sm3 hV.nu) hV.toVT.s3 (by omega) (Nat.le_refl _)
    have hb2 := prod_bd (num_sm3 hV.nv) hV.toVT.d3 (by omega) (Nat.le_refl _)
    have hb3 : -(1000000 * (us.length : Int)) ≤ prodI us t.s ∧ prodI us t.s ≤ 1000000 * (us.length : Int) := hb1
    have hb4 : -(1000000 * (vs.length : Int)) ≤ prodI vs t.d ∧ prodI vs t.d ≤ 1000000 * (vs.length : Int) := hb2
    refine TC.any Tb.mixed rfl rfl ?_
    refine TA.op (OpOK.pure (PV.fieldAddr rfl Tb.fo_43_0) rfl (by decide)) (by decide) ?_
    refine TA.op (OpOK.pure (PV.load rfl Tb.one_22 (by repeat (first | exact List.Mem.head _ | refine List.Mem.tail _ ?_ | refine List.mem_append_right _ ?_)) rfl) rfl (by decide)) (by decide) ?_
    refine TA.op (OpOK.pure (PV.fieldAddr rfl Tb.fo_25_0) rfl (by decide)) (by decide) ?_
    refine TA.op (OpOK.pure (PV.load rfl Tb.one_22 (by repeat (first | exact List.Mem.head _ | refine List.Mem.tail _ ?_ | refine List.mem_append_right _ ?_)) rfl) rfl (by decide)) (by decide) ?_
    refine TA.op (OpOK.call rfl Tb.gofn_71 (fun a w hs => product_ok w _ _ _ (hpu.new hs.new) _ _ _ (t1.new hs.new) hu (by omega) (num_sm3 hV.nu) hV.toVT.s3) rfl (by decide)) (by decide) ?_
    refine TA.op (OpOK.pure (PV.fieldAddr rfl Tb.fo_43_1) rfl (by decide)) (by decide) ?_
    refine TA.op (OpOK.pure (PV.load rfl Tb.one_22 (by repeat (first | exact List.Mem.head _ | refine List.Mem.tail _ ?_ | refine List.mem_append_right _ ?_)) rfl) rfl (by decide)) (by decide) ?_
    refine TA.op (OpOK.pure (PV.fieldAddr rfl Tb.fo_25_1) rfl (by decide)) (by decide) ?_
    refine TA.op (OpOK.pure (PV.load rfl Tb.one_22 (by repeat (first | exact List.Mem.head _ | refine List.Mem.tail _ ?_ | refine List.mem_append_right _ ?_)) rfl) rfl (by decide)) (by decide) ?_
    refine TA.op (OpOK.call rfl Tb.gofn_71 (fun a w hs => product_ok w _ _ _ (hpv.new hs.new) _ _ _ (t2.new hs.new) hv (by omega) (num_sm3 hV.nv) hV.toVT.d3) rfl (by decide)) (by decide) ?_
    refine TA.op (OpOK.pure (PV.add rfl rfl (by omega)) rfl (by decide)) (by decide) ?_
    refine TA.op (OpOK.pure (PV.assign rfl) rfl (by decide)) (by decide) ?_
    refine TA.op (OpOK.pure (PV.assign rfl) rfl (by decide)) (by decide) ?_
    show TQ _ _ _ _ _
    refine TQ.thenC ?_
    refine TC.ret ?_
    refine TQ.retE2 rfl rfl rfl ?_
    exact ⟨(), by unfold wthR; rw [if_neg a1], trivial, List.nil_sublist _⟩

set_option maxRecDepth 100000 in
set_option maxHeartbeats 1000000 in
theorem rWorth_ok (w0 : World) (vt : Value) (t : Td) (ht : IsT w0 vt t) (hT : SmT t) (vp : Value) (us vs : List Int) (hp : IsP w0 vp us vs) (hu : us.length ≤ 1000000) (hv : vs.length ≤ 1000000) :
    Calls Try.prog 36 #[vt, vp] w0 (Post (X := Unit) (fun _ => .tuple #[.int .i64 (wthR t us vs).1, .int .i64 (wthR t us vs).2]) (fun _ => True) (fun _ => []) w0) := by
  obtain ⟨p1, c1, p2, c2, p3, c3, rfl, t1, t2, t3⟩ := ht
  obtain ⟨pu, cu, pv, cv, rfl, hpu, hpv⟩ := hp
  refine calls Try.func36 rfl (n := 57) rfl (by simp) ?_
  refine TC.seq ?_
  refine TC.region ?_
  refine TL.box rfl rfl (by decide) (fun b0 hb0 => ?_)
  refine TL.box rfl rfl (by decide) (fun b1 hb1 => ?_)
  refine TL.pure (PV.assign rfl) rfl (by decide) ?_
  refine TL.pure (PV.assign rfl) rfl (by decide) ?_
  refine TL.nil ?_
  refine TQ.thenC ?_
  refine TC.seq ?_
  refine TC.region ?_
  refine TL.pure (PV.loadBox rfl Tb.agg_25 (by repeat (first | exact List.Mem.head _ | refine List.Mem.tail _ ?_ | refine List.mem_append_right _ ?_)) rfl) rfl (by decide) ?_
  refine TL.pure (PV.loadBox rfl Tb.agg_43 (by repeat (first | exact List.Mem.head _ | refine List.Mem.tail _ ?_ | refine List.mem_append_right _ ?_)) rfl) rfl (by decide) ?_
  refine TL.call rfl Tb.gofn_38 (fun a w hs => rcheckPrices_ok w _ t (IsT.mk (t1.new hs.new) (t2.new hs.new) (t3.new hs.new)) hT _ us vs (IsP.mk (hpu.new hs.new) (hpv.new hs.new)) hu hv) rfl (by decide) (fun _ _ => ?_)
  refine TL.pure (PV.assign rfl) rfl (by decide) ?_
  refine TL.nil ?_
  refine TQ.thenC ?_
  refine TC.seq ?_
  refine TC.seq ?_
  refine TC.region ?_
  refine TL.pure (PV.move rfl) rfl (by decide) ?_
  refine TL.pure (PV.neq rfl rfl) rfl (by decide) ?_
  refine TL.nil ?_
  refine TQ.thenC ?_
  first | refine TC.condD rfl (fun a1 => ?_) (fun a1 => ?_) | refine TC.cond rfl (fun a1 => ?_) (fun a1 => ?_)
  · skip
    refine TC.seq ?_
    refine TC.region ?_
    refine TL.pure (PV.move rfl) rfl (by decide) ?_
    refine TL.pure (PV.assign rfl) rfl (by decide) ?_
    refine TL.pure (PV.assign rfl) rfl (by decide) ?_
    refine TL.nil ?_
    refine TQ.thenC ?_
    refine TC.ret ?_
    refine TQ.thenR ?_
    refine TQ.retE2 rfl rfl rfl ?_
    exact ⟨(), by unfold wthR; rw [if_pos a1], trivial, List.nil_sublist _⟩
  · skip
    refine TC.skip ?_
    refine TQ.thenC ?_
    refine TC.seq ?_
    have hV := vpr_of a1
    have hns := hV.ns
    have hnd := hV.nd
    have hul := num_len hV.nu
    have hvl := num_len hV.nv
    have hb1 := prod_bd (num_sm3 hV.nu) hV.toVT.s3 (by omega) (Nat.le_refl _)
    have hb3 : -(1000000 * (us.length : Int)) ≤ prodI us t.s ∧ prodI us t.s ≤ 1000000 * (us.length : Int) := hb1
    refine TC.region ?_
    refine TL.pure (PV.assign rfl) rfl (by decide) ?_
    refine TL.nil ?_
    refine TQ.thenC ?_
    refine TC.seq ?_
    refine TC.seq ?_
    refine TC.region ?_
    refine TL.pure (PV.assign rfl) rfl (by decide) ?_
    refine TL.nil ?_
    refine TQ.thenC ?_
    refine TC.block ?_
    refine TC.loopG [2, 3, 4, 5] (X := Nat) (fun k => k ≤ us.length) (fun k => [(8, .int .i64 k), (7, .int .i64 (sm k fun j => us.getD j 0 * t.s.getD j 0))]) (fun k => us.length - k) 0 (Nat.zero_le _) (by repeat (first | exact True.intro | refine And.intro rfl ?_)) ?_
    intro k hk
    refine TC.seq ?_
    refine TC.seq ?_
    refine TC.region ?_
    refine TL.pure (PV.move rfl) rfl (by decide) ?_
    refine TL.pure (PV.fieldAddr rfl Tb.fo_43_0) rfl (by decide) ?_
    refine TL.pure (PV.load rfl Tb.one_22 (by repeat (first | exact List.Mem.head _ | refine List.Mem.tail _ ?_ | refine List.mem_append_right _ ?_)) rfl) rfl (by decide) ?_
    refine TL.pure (PV.len rfl Tb.sl_22) rfl (by decide) ?_
    refine TL.pure (PV.lss rfl rfl) rfl (by decide) ?_
    refine TL.nil ?_
    refine TQ.thenC ?_
    first | refine TC.condD rfl (fun hlt => ?_) (fun hlt => ?_) | refine TC.cond rfl (fun hlt => ?_) (fun hlt => ?_)
    · skip
      refine TC.skip ?_
      refine TQ.thenC ?_
      refine TC.seq ?_
      refine TC.block ?_
      obtain ⟨q1, hq1p, hq1⟩ := hpu k (by omega)
      obtain ⟨q2, hq2p, hq2⟩ := t1 k (by omega)
      have hb8 := prod_bd (num_sm3 hV.nu) hV.toVT.s3 (by omega) (k := k) (by omega)
      have hb7 := mul_bdA (A := 1000) (B := 1000) (num_sm3 hV.nu k (by omega)) (hV.toVT.s3 k (by omega)) (by decide) (by decide)
      refine TC.draw 13 Tb.mixed (by kernel_rfl) ?_
      simp only [List.take_succ_cons, List.take_zero, List.drop_succ_cons, List.drop_zero]
      refine TS.pure (PV.move rfl) rfl (by decide) ?_
      refine TS.pure (PV.fieldAddr rfl Tb.fo_43_0) rfl (by decide) ?_
      refine TS.pure (PV.load rfl Tb.one_22 (by repeat (first | exact List.Mem.head _ | refine List.Mem.tail _ ?_ | refine List.mem_append_right _ ?_)) rfl) rfl (by decide) ?_
      refine TS.pure (PV.move rfl) rfl (by decide) ?_
      refine TS.pure (PV.indexA rfl hq1p rfl Tb.elm_22 rfl (by omega)) rfl (by decide) ?_
      refine TS.pure (PV.loadOld rfl Tb.one_3 hq1) rfl (by decide) ?_
      refine TS.pure (PV.fieldAddr rfl Tb.fo_25_0) rfl (by decide) ?_
      refine TS.pure (PV.load rfl Tb.one_22 (by repeat (first | exact List.Mem.head _ | refine List.Mem.tail _ ?_ | refine List.mem_append_right _ ?_)) rfl) rfl (by decide) ?_
      refine TS.pure (PV.move rfl) rfl (by decide) ?_
      refine TS.pure (PV.indexA rfl hq2p rfl Tb.elm_22 rfl (by omega)) rfl (by decide) ?_
      refine TS.pure (PV.loadOld rfl Tb.one_3 hq2) rfl (by decide) ?_
      refine TS.pure (PV.mul rfl rfl (by omega)) rfl (by decide) ?_
      refine TS.pure (PV.add rfl rfl (by omega)) rfl (by decide) ?_
      refine TS.nil ?_
      refine TL.pure (PV.assign rfl) rfl (by decide) ?_
      refine TL.nil ?_
      refine TQ.blkN ?_
      refine TQ.thenC ?_
      refine TC.region ?_
      refine TL.pure (PV.move rfl) rfl (by decide) ?_
      refine TL.pure (PV.add rfl rfl (by omega)) rfl (by decide) ?_
      refine TL.pure (PV.assign rfl) rfl (by decide) ?_
      refine TL.nil ?_
      refine TQ.thenN ?_
      refine TQ.backK (k + 1) (by repeat (first | exact True.intro | refine And.intro rfl ?_)) (by repeat (first | exact True.intro | refine And.intro rfl ?_)) (by repeat (first | exact List.Sublist.slnil | exact List.nil_sublist _ | exact List.Sublist.refl _ | refine List.Sublist.cons_cons _ ?_ | refine List.Sublist.cons _ ?_ | refine List.Sublist.trans ?_ (List.sublist_append_right _ _))) (by omega) (by omega)
    · skip
      refine TC.exit ?_
      refine TQ.thenE ?_
      refine TQ.thenE ?_
      refine TQ.blkS ?_
      refine TQ.thenC ?_
      refine TC.seq ?_
      refine TC.seq ?_
      have hke : k = us.length := by omega
      subst hke
      refine TC.region ?_
      refine TL.pure (PV.assign rfl) rfl (by decide) ?_
      refine TL.nil ?_
      refine TQ.thenC ?_
      refine TC.block ?_
      refine TC.loopG [2, 3, 4, 5] (X := Nat) (fun q => q ≤ vs.length) (fun q => [(9, .int .i64 q), (7, .int .i64 (prodI us t.s + (sm q fun j => vs.getD j 0 * t.d.getD j 0)))]) (fun q => vs.length - q) 0 (Nat.zero_le _) (And.intro rfl (And.intro (by show some (Value.int .i64 (prodI us t.s)) = some (Value.int .i64 (prodI us t.s + 0)); rw [Int.add_zero]) True.intro)) ?_
      intro q hq9
      refine TC.seq ?_
      refine TC.seq ?_
      refine TC.region ?_
      refine TL.pure (PV.move rfl) rfl (by decide) ?_
      refine TL.pure (PV.fieldAddr rfl Tb.fo_43_1) rfl (by decide) ?_
      refine TL.pure (PV.load rfl Tb.one_22 (by repeat (first | exact List.Mem.head _ | refine List.Mem.tail _ ?_ | refine List.mem_append_right _ ?_)) rfl) rfl (by decide) ?_
      refine TL.pure (PV.len rfl Tb.sl_22) rfl (by decide) ?_
      refine TL.pure (PV.lss rfl rfl) rfl (by decide) ?_
      refine TL.nil ?_
      refine TQ.thenC ?_
      first | refine TC.condD rfl (fun hlt2 => ?_) (fun hlt2 => ?_) | refine TC.cond rfl (fun hlt2 => ?_) (fun hlt2 => ?_)
      · skip
        refine TC.skip ?_
        refine TQ.thenC ?_
        refine TC.seq ?_
        refine TC.block ?_
        obtain ⟨q1, hq1p, hq1⟩ := hpv q (by omega)
        obtain ⟨q2, hq2p, hq2⟩ := t2 q (by omega)
        have hb8 := prod_bd (num_sm3 hV.nv) hV.toVT.d3 (by omega) (k := q) (by omega)
        have hb7 := mul_bdA (A := 1000) (B := 1000) (num_sm3 hV.nv q (by omega)) (hV.toVT.d3 q (by omega)) (by decide) (by decide)
        refine TC.draw 13 Tb.mixed (by kernel_rfl) ?_
        simp only [List.take_succ_cons, List.take_zero, List.drop_succ_cons, List.drop_zero]
        refine TS.pure (PV.move rfl) rfl (by decide) ?_
        refine TS.pure (PV.fieldAddr rfl Tb.fo_43_1) rfl (by decide) ?_
        refine TS.pure (PV.load rfl Tb.one_22 (by repeat (first | exact List.Mem.head _ | refine List.Mem.tail _ ?_ | refine List.mem_append_right _ ?_)) rfl) rfl (by decide) ?_
        refine TS.pure (PV.move rfl) rfl (by decide) ?_
        refine TS.pure (PV.indexA rfl hq1p rfl Tb.elm_22 rfl (by omega)) rfl (by decide) ?_
        refine TS.pure (PV.loadOld rfl Tb.one_3 hq1) rfl (by decide) ?_
        refine TS.pure (PV.fieldAddr rfl Tb.fo_25_1) rfl (by decide) ?_
        refine TS.pure (PV.load rfl Tb.one_22 (by repeat (first | exact List.Mem.head _ | refine List.Mem.tail _ ?_ | refine List.mem_append_right _ ?_)) rfl) rfl (by decide) ?_
        refine TS.pure (PV.move rfl) rfl (by decide) ?_
        refine TS.pure (PV.indexA rfl hq2p rfl Tb.elm_22 rfl (by omega)) rfl (by decide) ?_
        refine TS.pure (PV.loadOld rfl Tb.one_3 hq2) rfl (by decide) ?_
        refine TS.pure (PV.mul rfl rfl (by omega)) rfl (by decide) ?_
        refine TS.pure (PV.add rfl rfl (by omega)) rfl (by decide) ?_
        refine TS.nil ?_
        refine TL.pure (PV.assign rfl) rfl (by decide) ?_
        refine TL.nil ?_
        refine TQ.blkN ?_
        refine TQ.thenC ?_
        refine TC.region ?_
        refine TL.pure (PV.move rfl) rfl (by decide) ?_
        refine TL.pure (PV.add rfl rfl (by omega)) rfl (by decide) ?_
        refine TL.pure (PV.assign rfl) rfl (by decide) ?_
        refine TL.nil ?_
        refine TQ.thenN ?_
        refine TQ.backK (q + 1) (And.intro rfl (And.intro (by show some (Value.int .i64 (_ + sm q _ + _)) = some (Value.int .i64 (_ + (sm q _ + _))); rw [Int.add_assoc]) True.intro)) (by repeat (first | exact True.intro | refine And.intro rfl ?_)) (by repeat (first | exact List.Sublist.slnil | exact List.nil_sublist _ | exact List.Sublist.refl _ | refine List.Sublist.cons_cons _ ?_ | refine List.Sublist.cons _ ?_ | refine List.Sublist.trans ?_ (List.sublist_append_right _ _))) (by omega) (by omega)
      · skip
        refine TC.exit ?_
        refine TQ.thenE ?_
        refine TQ.thenE ?_
        refine TQ.blkS ?_
        refine TQ.thenC ?_
        refine TC.seq ?_
        have hqe : q = vs.length := by omega
        subst hqe
        refine TC.region ?_
        refine TL.pure (PV.move rfl) rfl (by decide) ?_
        refine TL.pure (PV.assign rfl) rfl (by decide) ?_
        refine TL.pure (PV.assign rfl) rfl (by decide) ?_
        refine TL.nil ?_
        refine TQ.thenC ?_
        refine TC.ret ?_
        refine TQ.retE2 rfl rfl rfl ?_
        exact ⟨(), by unfold wthR; rw [if_neg a1]; rfl, trivial, List.nil_sublist _⟩

set_option maxRecDepth 100000 in
set_option maxHeartbeats 2000000 in
theorem IsSquare_ok (w0 : World) (vt : Value) (t : Td) (ht : IsT w0 vt t) (hT : SmT t) :
    Calls Try.prog 33 #[vt] w0 (Post (X := Unit) (fun _ => .tuple #[.bool (sqR t).1, .int .i64 (sqR t).2]) (fun _ => True) (fun _ => []) w0) := by
  obtain ⟨p1, c1, p2, c2, p3, c3, rfl, t1, t2, t3⟩ := ht
  refine calls Try.func33 rfl (n := 65) rfl (by simp) ?_
  refine TC.seq ?_
  refine TC.region ?_
  refine TL.box rfl rfl (by decide) (fun b0 hb0 => ?_)
  refine TL.pure (PV.assign rfl) rfl (by decide) ?_
  refine TL.pure (PV.assign rfl) rfl (by decide) ?_
  refine TL.nil ?_
  refine TQ.thenC ?_
  refine TC.seq ?_
  refine TC.seq ?_
  refine TC.region ?_
  refine TL.pure (PV.loadBox rfl Tb.agg_25 (by repeat (first | exact List.Mem.head _ | refine List.Mem.tail _ ?_ | refine List.mem_append_right _ ?_)) rfl) rfl (by decide) ?_
  refine TL.call rfl Tb.gofn_21 (fun a w hs => validate_ok w _ t (IsT.mk (t1.new hs.new) (t2.new hs.new) (t3.new hs.new)) hT) rfl (by decide) (fun _ _ => ?_)
  refine TL.pure (PV.assign rfl) rfl (by decide) ?_
  refine TL.nil ?_
  refine TQ.thenC ?_
  refine TC.seq ?_
  refine TC.region ?_
  refine TL.pure (PV.move rfl) rfl (by decide) ?_
  refine TL.pure (PV.neq rfl rfl) rfl (by decide) ?_
  refine TL.nil ?_
  refine TQ.thenC ?_
  first | refine TC.condD rfl (fun a1 => ?_) (fun a1 => ?_) | refine TC.cond rfl (fun a1 => ?_) (fun a1 => ?_)
  · skip
    refine TC.seq ?_
    refine TC.region ?_
    refine TL.pure (PV.move rfl) rfl (by decide) ?_
    refine TL.pure (PV.assign rfl) rfl (by decide) ?_
    refine TL.pure (PV.assign rfl) rfl (by decide) ?_
    refine TL.nil ?_
    refine TQ.thenC ?_
    refine TC.ret ?_
    refine TQ.thenR ?_
    refine TQ.retE2 rfl rfl rfl ?_
    exact ⟨(), by rw [sq_1 a1], trivial, List.nil_sublist _⟩
  · skip
    refine TC.skip ?_
    refine TQ.thenC ?_
    refine TC.seq ?_
    refine TC.seq ?_
    have hV := vt_of a1
    have hns := hV.ns
    have hnd := hV.nd
    have hcl := hV.c.len
    refine TC.region ?_
    refine TL.pure (PV.assign rfl) rfl (by decide) ?_
    refine TL.nil ?_
    refine TQ.thenC ?_
    refine TC.block ?_
    -- live and written in the loop, not told: [2, 3]
    refine TC.loopG [1] (X := Nat) (fun k => 1 ≤ k ∧ ∀ i, i + 1 < k → ∀ j, j + 1 < t.d.length → ((t.c.getD i []).getD j 0) + ((t.c.getD (i + 1) []).getD (j + 1) 0) ≤ ((t.c.getD i []).getD (j + 1) 0) + ((t.c.getD (i + 1) []).getD j 0)) (fun k => [(5, .int .i64 k)]) (fun k => t.s.length - k) 1 ⟨Nat.le_refl _, fun i hi => by omega⟩ (by repeat (first | exact True.intro | refine And.intro rfl ?_)) ?_
    intro k hk
    refine TC.seq ?_
    refine TC.seq ?_
    refine TC.region ?_
    refine TL.pure (PV.move rfl) rfl (by decide) ?_
    refine TL.pure (PV.fieldAddr rfl Tb.fo_25_0) rfl (by decide) ?_
    refine TL.pure (PV.load rfl Tb.one_22 (by repeat (first | exact List.Mem.head _ | refine List.Mem.tail _ ?_ | refine List.mem_append_right _ ?_)) rfl) rfl (by decide) ?_
    refine TL.pure (PV.len rfl Tb.sl_22) rfl (by decide) ?_
    refine TL.pure (PV.lss rfl rfl) rfl (by decide) ?_
    refine TL.nil ?_
    refine TQ.thenC ?_
    first | refine TC.condD rfl (fun hlt => ?_) (fun hlt => ?_) | refine TC.cond rfl (fun hlt => ?_) (fun hlt => ?_)
    · skip
      refine TC.skip ?_
      refine TQ.thenC ?_
      refine TC.seq ?_
      refine TC.block ?_
      refine TC.seq ?_
      refine TC.region ?_
      refine TL.pure (PV.assign rfl) rfl (by decide) ?_
      refine TL.nil ?_
      refine TQ.thenC ?_
      refine TC.block ?_
      -- live and written in the loop, not told: [2, 3]
      refine TC.loopG [1, 5] (X := Nat) (fun q => 1 ≤ q ∧ ∀ j, j + 1 < q → ((t.c.getD (k - 1) []).getD j 0) + ((t.c.getD (k - 1 + 1) []).getD (j + 1) 0) ≤ ((t.c.getD (k - 1) []).getD (j + 1) 0) + ((t.c.getD (k - 1 + 1) []).getD j 0)) (fun q => [(6, .int .i64 q)]) (fun q => t.d.length - q) 1 ⟨Nat.le_refl _, fun i hi => by omega⟩ (by repeat (first | exact True.intro | refine And.intro rfl ?_)) ?_
      intro q hq9
      refine TC.seq ?_
      refine TC.seq ?_
      refine TC.region ?_
      refine TL.pure (PV.move rfl) rfl (by decide) ?_
      refine TL.pure (PV.fieldAddr rfl Tb.fo_25_1) rfl (by decide) ?_
      refine TL.pure (PV.load rfl Tb.one_22 (by repeat (first | exact List.Mem.head _ | refine List.Mem.tail _ ?_ | refine List.mem_append_right _ ?_)) rfl) rfl (by decide) ?_
      refine TL.pure (PV.len rfl Tb.sl_22) rfl (by decide) ?_
      refine TL.pure (PV.lss rfl rfl) rfl (by decide) ?_
      refine TL.nil ?_
      refine TQ.thenC ?_
      first | refine TC.condD rfl (fun hlt2 => ?_) (fun hlt2 => ?_) | refine TC.cond rfl (fun hlt2 => ?_) (fun hlt2 => ?_)
      · skip
        refine TC.skip ?_
        refine TQ.thenC ?_
        refine TC.seq ?_
        refine TC.block ?_
        refine TC.seq ?_
        obtain ⟨qa, hqap, qap, qac, hqa, hqar⟩ := t3 (k - 1) (by omega)
        obtain ⟨qb, hqbp, qbp, qbc, hqb, hqbr⟩ := t3 k (by omega)
        have hra := hV.c.row (k - 1) (by omega)
        have hrb := hV.c.row k (by omega)
        obtain ⟨qc, hqcp, hqc⟩ := hqar (q - 1) (by omega)
        obtain ⟨qd, hqdp, hqd⟩ := hqbr q (by omega)
        obtain ⟨qe, hqep, hqe⟩ := hqar q (by omega)
        obtain ⟨qf, hqfp, hqf⟩ := hqbr (q - 1) (by omega)
        have hb1 := hV.cb (k - 1) (q - 1) (by omega) (by omega)
        unfold getM at hb1
        have hb2 := hV.cb k q (by omega) (by omega)
        unfold getM at hb2
        have hb3 := hV.cb (k - 1) q (by omega) (by omega)
        unfold getM at hb3
        have hb4 := hV.cb k (q - 1) (by omega) (by omega)
        unfold getM at hb4
        refine TC.any Tb.mixed rfl rfl ?_
        refine TA.op (OpOK.pure (PV.fieldAddr rfl Tb.fo_25_2) rfl (by decide)) (by decide) ?_
        refine TA.op (OpOK.pure (PV.load rfl Tb.one_23 (by repeat (first | exact List.Mem.head _ | refine List.Mem.tail _ ?_ | refine List.mem_append_right _ ?_)) rfl) rfl (by decide)) (by decide) ?_
        refine TA.op (OpOK.pure (PV.move rfl) rfl (by decide)) (by decide) ?_
        refine TA.op (OpOK.pure (PV.sub rfl rfl (by omega)) rfl (by decide)) (by decide) ?_
        refine TA.op (OpOK.pure (PV.indexA (j := (k - 1)) rfl hqap rfl Tb.elm_23 (by omega) (by omega)) rfl (by decide)) (by decide) ?_
        refine TA.op (OpOK.pure (PV.loadOld rfl Tb.one_22 hqa) rfl (by decide)) (by decide) ?_
        refine TA.op (OpOK.pure (PV.move rfl) rfl (by decide)) (by decide) ?_
        refine TA.op (OpOK.pure (PV.sub rfl rfl (by omega)) rfl (by decide)) (by decide) ?_
        refine TA.op (OpOK.pure (PV.indexA (j := (q - 1)) rfl hqcp rfl Tb.elm_22 (by omega) (by omega)) rfl (by decide)) (by decide) ?_
        refine TA.op (OpOK.pure (PV.loadOld rfl Tb.one_3 hqc) rfl (by decide)) (by decide) ?_
        refine TA.op (OpOK.pure (PV.fieldAddr rfl Tb.fo_25_2) rfl (by decide)) (by decide) ?_
        refine TA.op (OpOK.pure (PV.load rfl Tb.one_23 (by repeat (first | exact List.Mem.head _ | refine List.Mem.tail _ ?_ | refine List.mem_append_right _ ?_)) rfl) rfl (by decide)) (by decide) ?_
        refine TA.op (OpOK.pure (PV.move rfl) rfl (by decide)) (by decide) ?_
        refine TA.op (OpOK.pure (PV.indexA (j := k) rfl hqbp rfl Tb.elm_23 (by omega) (by omega)) rfl (by decide)) (by decide) ?_
        refine TA.op (OpOK.pure (PV.loadOld rfl Tb.one_22 hqb) rfl (by decide)) (by decide) ?_
        refine TA.op (OpOK.pure (PV.move rfl) rfl (by decide)) (by decide) ?_
        refine TA.op (OpOK.pure (PV.indexA (j := q) rfl hqdp rfl Tb.elm_22 (by omega) (by omega)) rfl (by decide)) (by decide) ?_
        refine TA.op (OpOK.pure (PV.loadOld rfl Tb.one_3 hqd) rfl (by decide)) (by decide) ?_
        refine TA.op (OpOK.pure (PV.add rfl rfl (by omega)) rfl (by decide)) (by decide) ?_
        refine TA.op (OpOK.pure (PV.fieldAddr rfl Tb.fo_25_2) rfl (by decide)) (by decide) ?_
        refine TA.op (OpOK.pure (PV.load rfl Tb.one_23 (by repeat (first | exact List.Mem.head _ | refine List.Mem.tail _ ?_ | refine List.mem_append_right _ ?_)) rfl) rfl (by decide)) (by decide) ?_
        refine TA.op (OpOK.pure (PV.move rfl) rfl (by decide)) (by decide) ?_
        refine TA.op (OpOK.pure (PV.sub rfl rfl (by omega)) rfl (by decide)) (by decide) ?_
        refine TA.op (OpOK.pure (PV.indexA (j := (k - 1)) rfl hqap rfl Tb.elm_23 (by omega) (by omega)) rfl (by decide)) (by decide) ?_
        refine TA.op (OpOK.pure (PV.loadOld rfl Tb.one_22 hqa) rfl (by decide)) (by decide) ?_
        refine TA.op (OpOK.pure (PV.move rfl) rfl (by decide)) (by decide) ?_
        refine TA.op (OpOK.pure (PV.indexA (j := q) rfl hqep rfl Tb.elm_22 (by omega) (by omega)) rfl (by decide)) (by decide) ?_
        refine TA.op (OpOK.pure (PV.loadOld rfl Tb.one_3 hqe) rfl (by decide)) (by decide) ?_
        refine TA.op (OpOK.pure (PV.fieldAddr rfl Tb.fo_25_2) rfl (by decide)) (by decide) ?_
        refine TA.op (OpOK.pure (PV.load rfl Tb.one_23 (by repeat (first | exact List.Mem.head _ | refine List.Mem.tail _ ?_ | refine List.mem_append_right _ ?_)) rfl) rfl (by decide)) (by decide) ?_
        refine TA.op (OpOK.pure (PV.move rfl) rfl (by decide)) (by decide) ?_
        refine TA.op (OpOK.pure (PV.indexA (j := k) rfl hqbp rfl Tb.elm_23 (by omega) (by omega)) rfl (by decide)) (by decide) ?_
        refine TA.op (OpOK.pure (PV.loadOld rfl Tb.one_22 hqb) rfl (by decide)) (by decide) ?_
        refine TA.op (OpOK.pure (PV.move rfl) rfl (by decide)) (by decide) ?_
        refine TA.op (OpOK.pure (PV.sub rfl rfl (by omega)) rfl (by decide)) (by decide) ?_
        refine TA.op (OpOK.pure (PV.indexA (j := (q - 1)) rfl hqfp rfl Tb.elm_22 (by omega) (by omega)) rfl (by decide)) (by decide) ?_
        refine TA.op (OpOK.pure (PV.loadOld rfl Tb.one_3 hqf) rfl (by decide)) (by decide) ?_
        refine TA.op (OpOK.pure (PV.add rfl rfl (by omega)) rfl (by decide)) (by decide) ?_
        refine TA.op (OpOK.pure (PV.gtr rfl rfl) rfl (by decide)) (by decide) ?_
        show TQ _ _ _ _ _
        refine TQ.thenC ?_
        first | refine TC.condD rfl (fun hno => ?_) (fun hno => ?_) | refine TC.cond rfl (fun hno => ?_) (fun hno => ?_)
        · skip
          refine TC.seq ?_
          refine TC.region ?_
          refine TL.pure (PV.assign rfl) rfl (by decide) ?_
          refine TL.pure (PV.assign rfl) rfl (by decide) ?_
          refine TL.nil ?_
          refine TQ.thenC ?_
          refine TC.ret ?_
          refine TQ.blkR ?_
          refine TQ.thenR ?_
          refine TQ.thenR ?_
          refine TQ.blkR ?_
          refine TQ.blkR ?_
          refine TQ.thenR ?_
          refine TQ.thenR ?_
          refine TQ.blkR ?_
          refine TQ.thenR ?_
          refine TQ.retE2 rfl rfl rfl ?_
          exact ⟨(), by rw [sq_n a1 (fun h => by have h5 : ((t.c.getD (k - 1) []).getD (q - 1) 0) + ((t.c.getD k []).getD q 0) ≤ ((t.c.getD (k - 1) []).getD q 0) + ((t.c.getD k []).getD (q - 1) 0) := h (k - 1) k (q - 1) q (by omega) (by omega) (by omega) (by omega); omega)], trivial, List.nil_sublist _⟩
        · skip
          refine TC.skip ?_
          refine TQ.blkN ?_
          refine TQ.thenC ?_
          refine TC.region ?_
          refine TL.pure (PV.move rfl) rfl (by decide) ?_
          refine TL.pure (PV.add rfl rfl (by omega)) rfl (by decide) ?_
          refine TL.pure (PV.assign rfl) rfl (by decide) ?_
          refine TL.nil ?_
          refine TQ.thenN ?_
          refine TQ.backK (q + 1) (by repeat (first | exact True.intro | refine And.intro rfl ?_)) (by repeat (first | exact True.intro | refine And.intro rfl ?_)) (by repeat (first | exact List.Sublist.slnil | exact List.nil_sublist _ | exact List.Sublist.refl _ | refine List.Sublist.cons_cons _ ?_ | refine List.Sublist.cons _ ?_ | refine List.Sublist.trans ?_ (List.sublist_append_right _ _))) ⟨by omega, fun j hj => if e : j + 1 < q then hq9.2 j e else by obtain rfl : q = j + 1 := (by omega); rw [show k - 1 + 1 = k by omega]; simp only [Nat.add_sub_cancel] at hno; omega⟩ (by omega)
      · skip
        refine TC.exit ?_
        refine TQ.thenE ?_
        refine TQ.thenE ?_
        refine TQ.blkS ?_
        refine TQ.blkN ?_
        refine TQ.thenC ?_
        refine TC.region ?_
        refine TL.pure (PV.move rfl) rfl (by decide) ?_
        refine TL.pure (PV.add rfl rfl (by omega)) rfl (by decide) ?_
        refine TL.pure (PV.assign rfl) rfl (by decide) ?_
        refine TL.nil ?_
        refine TQ.thenN ?_
        refine TQ.backK (k + 1) (by repeat (first | exact True.intro | refine And.intro rfl ?_)) (by repeat (first | exact True.intro | refine And.intro rfl ?_)) (by repeat (first | exact List.Sublist.slnil | exact List.nil_sublist _ | exact List.Sublist.refl _ | refine List.Sublist.cons_cons _ ?_ | refine List.Sublist.cons _ ?_ | refine List.Sublist.trans ?_ (List.sublist_append_right _ _))) ⟨by omega, fun i hi => if e : i + 1 < k then hk.2 i e else by obtain rfl : k = i + 1 := (by omega); exact fun j hj => hq9.2 j (by omega)⟩ (by omega)
    · skip
      refine TC.exit ?_
      refine TQ.thenE ?_
      refine TQ.thenE ?_
      refine TQ.blkS ?_
      refine TQ.thenC ?_
      refine TC.seq ?_
      refine TC.region ?_
      refine TL.pure (PV.assign rfl) rfl (by decide) ?_
      refine TL.pure (PV.assign rfl) rfl (by decide) ?_
      refine TL.nil ?_
      refine TQ.thenC ?_
      refine TC.ret ?_
      refine TQ.retE2 rfl rfl rfl ?_
      exact ⟨(), by rw [sq_y a1 (sq_adj fun i j hi hj => hk.2 i (by omega) j hj)], trivial, List.nil_sublist _⟩

set_option maxRecDepth 100000 in
set_option maxHeartbeats 4000000 in
theorem rIsSquare_ok (w0 : World) (vt : Value) (t : Td) (ht : IsT w0 vt t) (hT : SmT t) :
    Calls Try.prog 34 #[vt] w0 (Post (X := Unit) (fun _ => .tuple #[.bool (sqR t).1, .int .i64 (sqR t).2]) (fun _ => True) (fun _ => []) w0) := by
  obtain ⟨p1, c1, p2, c2, p3, c3, rfl, t1, t2, t3⟩ := ht
  refine calls Try.func34 rfl (n := 81) rfl (by simp) ?_
  refine TC.seq ?_
  refine TC.region ?_
  refine TL.box rfl rfl (by decide) (fun b0 hb0 => ?_)
  refine TL.pure (PV.assign rfl) rfl (by decide) ?_
  refine TL.pure (PV.assign rfl) rfl (by decide) ?_
  refine TL.nil ?_
  refine TQ.thenC ?_
  refine TC.seq ?_
  refine TC.region ?_
  refine TL.pure (PV.loadBox rfl Tb.agg_25 (by repeat (first | exact List.Mem.head _ | refine List.Mem.tail _ ?_ | refine List.mem_append_right _ ?_)) rfl) rfl (by decide) ?_
  refine TL.call rfl Tb.gofn_22 (fun a w hs => rvalidate_ok w _ t (IsT.mk (t1.new hs.new) (t2.new hs.new) (t3.new hs.new)) hT) rfl (by decide) (fun _ _ => ?_)
  refine TL.pure (PV.assign rfl) rfl (by decide) ?_
  refine TL.nil ?_
  refine TQ.thenC ?_
  refine TC.seq ?_
  refine TC.seq ?_
  refine TC.region ?_
  refine TL.pure (PV.move rfl) rfl (by decide) ?_
  refine TL.pure (PV.neq rfl rfl) rfl (by decide) ?_
  refine TL.nil ?_
  refine TQ.thenC ?_
  first | refine TC.condD rfl (fun a1 => ?_) (fun a1 => ?_) | refine TC.cond rfl (fun a1 => ?_) (fun a1 => ?_)
  · skip
    refine TC.seq ?_
    refine TC.region ?_
    refine TL.pure (PV.move rfl) rfl (by decide) ?_
    refine TL.pure (PV.assign rfl) rfl (by decide) ?_
    refine TL.pure (PV.assign rfl) rfl (by decide) ?_
    refine TL.nil ?_
    refine TQ.thenC ?_
    refine TC.ret ?_
    refine TQ.thenR ?_
    refine TQ.retE2 rfl rfl rfl ?_
    exact ⟨(), by rw [sq_1 a1], trivial, List.nil_sublist _⟩
  · skip
    refine TC.skip ?_
    refine TQ.thenC ?_
    refine TC.seq ?_
    refine TC.seq ?_
    have hV := vt_of a1
    have hns := hV.ns
    have hnd := hV.nd
    have hcl := hV.c.len
    refine TC.region ?_
    refine TL.pure (PV.assign rfl) rfl (by decide) ?_
    refine TL.nil ?_
    refine TQ.thenC ?_
    refine TC.block ?_
    -- live and written in the loop, not told: [2, 3]
    refine TC.loopG [1] (X := Nat) (fun i => i ≤ t.s.length ∧ ∀ p, p < i → ∀ k, p < k → k < t.s.length → ∀ j l, j < l → l < t.d.length → ((t.c.getD p []).getD j 0) + ((t.c.getD k []).getD l 0) ≤ ((t.c.getD p []).getD l 0) + ((t.c.getD k []).getD j 0)) (fun i => [(5, .int .i64 i)]) (fun i => t.s.length - i) 0 ⟨Nat.zero_le _, fun p hp => absurd hp (Nat.not_lt_zero _)⟩ (by repeat (first | exact True.intro | refine And.intro rfl ?_)) ?_
    intro i hi9
    refine TC.seq ?_
    refine TC.seq ?_
    refine TC.region ?_
    refine TL.pure (PV.move rfl) rfl (by decide) ?_
    refine TL.pure (PV.fieldAddr rfl Tb.fo_25_0) rfl (by decide) ?_
    refine TL.pure (PV.load rfl Tb.one_22 (by repeat (first | exact List.Mem.head _ | refine List.Mem.tail _ ?_ | refine List.mem_append_right _ ?_)) rfl) rfl (by decide) ?_
    refine TL.pure (PV.len rfl Tb.sl_22) rfl (by decide) ?_
    refine TL.pure (PV.lss rfl rfl) rfl (by decide) ?_
    refine TL.nil ?_
    refine TQ.thenC ?_
    first | refine TC.condD rfl (fun hl1 => ?_) (fun hl1 => ?_) | refine TC.cond rfl (fun hl1 => ?_) (fun hl1 => ?_)
    · skip
      refine TC.skip ?_
      refine TQ.thenC ?_
      refine TC.seq ?_
      refine TC.block ?_
      refine TC.seq ?_
      refine TC.region ?_
      refine TL.pure (PV.move rfl) rfl (by decide) ?_
      refine TL.pure (PV.add rfl rfl (by omega)) rfl (by decide) ?_
      refine TL.pure (PV.assign rfl) rfl (by decide) ?_
      refine TL.nil ?_
      refine TQ.thenC ?_
      refine TC.block ?_
      -- live and written in the loop, not told: [2, 3]
      refine TC.loopG [1, 5] (X := Nat) (fun k => i + 1 ≤ k ∧ ∀ p, i < p → p < k → ∀ j l, j < l → l < t.d.length → ((t.c.getD i []).getD j 0) + ((t.c.getD p []).getD l 0) ≤ ((t.c.getD i []).getD l 0) + ((t.c.getD p []).getD j 0)) (fun k => [(6, .int .i64 k)]) (fun k => t.s.length - k) (i + 1) ⟨Nat.le_refl _, fun p h1 h2 => by omega⟩ (by repeat (first | exact True.intro | refine And.intro rfl ?_)) ?_
      intro k hk9
      refine TC.seq ?_
      refine TC.seq ?_
      refine TC.region ?_
      refine TL.pure (PV.move rfl) rfl (by decide) ?_
      refine TL.pure (PV.fieldAddr rfl Tb.fo_25_0) rfl (by decide) ?_
      refine TL.pure (PV.load rfl Tb.one_22 (by repeat (first | exact List.Mem.head _ | refine List.Mem.tail _ ?_ | refine List.mem_append_right _ ?_)) rfl) rfl (by decide) ?_
      refine TL.pure (PV.len rfl Tb.sl_22) rfl (by decide) ?_
      refine TL.pure (PV.lss rfl rfl) rfl (by decide) ?_
      refine TL.nil ?_
      refine TQ.thenC ?_
      first | refine TC.condD rfl (fun hl2 => ?_) (fun hl2 => ?_) | refine TC.cond rfl (fun hl2 => ?_) (fun hl2 => ?_)
      · skip
        refine TC.skip ?_
        refine TQ.thenC ?_
        refine TC.seq ?_
        refine TC.block ?_
        refine TC.seq ?_
        refine TC.region ?_
        refine TL.pure (PV.assign rfl) rfl (by decide) ?_
        refine TL.nil ?_
        refine TQ.thenC ?_
        refine TC.block ?_
        -- live and written in the loop, not told: [2, 3]
        refine TC.loopG [1, 5, 6] (X := Nat) (fun j => j ≤ t.d.length ∧ ∀ p, p < j → ∀ l, p < l → l < t.d.length → ((t.c.getD i []).getD p 0) + ((t.c.getD k []).getD l 0) ≤ ((t.c.getD i []).getD l 0) + ((t.c.getD k []).getD p 0)) (fun j => [(7, .int .i64 j)]) (fun j => t.d.length - j) 0 ⟨Nat.zero_le _, fun p hp => absurd hp (Nat.not_lt_zero _)⟩ (by repeat (first | exact True.intro | refine And.intro rfl ?_)) ?_
        intro j hj9
        refine TC.seq ?_
        refine TC.seq ?_
        refine TC.region ?_
        refine TL.pure (PV.move rfl) rfl (by decide) ?_
        refine TL.pure (PV.fieldAddr rfl Tb.fo_25_1) rfl (by decide) ?_
        refine TL.pure (PV.load rfl Tb.one_22 (by repeat (first | exact List.Mem.head _ | refine List.Mem.tail _ ?_ | refine List.mem_append_right _ ?_)) rfl) rfl (by decide) ?_
        refine TL.pure (PV.len rfl Tb.sl_22) rfl (by decide) ?_
        refine TL.pure (PV.lss rfl rfl) rfl (by decide) ?_
        refine TL.nil ?_
        refine TQ.thenC ?_
        first | refine TC.condD rfl (fun hl3 => ?_) (fun hl3 => ?_) | refine TC.cond rfl (fun hl3 => ?_) (fun hl3 => ?_)
        · skip
          refine TC.skip ?_
          refine TQ.thenC ?_
          refine TC.seq ?_
          refine TC.block ?_
          refine TC.seq ?_
          refine TC.region ?_
          refine TL.pure (PV.move rfl) rfl (by decide) ?_
          refine TL.pure (PV.add rfl rfl (by omega)) rfl (by decide) ?_
          refine TL.pure (PV.assign rfl) rfl (by decide) ?_
          refine TL.nil ?_
          refine TQ.thenC ?_
          refine TC.block ?_
          -- live and written in the loop, not told: [2, 3]
          refine TC.loopG [1, 5, 6, 7] (X := Nat) (fun l => j + 1 ≤ l ∧ ∀ p, j < p → p < l → ((t.c.getD i []).getD j 0) + ((t.c.getD k []).getD p 0) ≤ ((t.c.getD i []).getD p 0) + ((t.c.getD k []).getD j 0)) (fun l => [(8, .int .i64 l)]) (fun l => t.d.length - l) (j + 1) ⟨Nat.le_refl _, fun p h1 h2 => by omega⟩ (by repeat (first | exact True.intro | refine And.intro rfl ?_)) ?_
          intro l hl9
          refine TC.seq ?_
          refine TC.seq ?_
          refine TC.region ?_
          refine TL.pure (PV.move rfl) rfl (by decide) ?_
          refine TL.pure (PV.fieldAddr rfl Tb.fo_25_1) rfl (by decide) ?_
          refine TL.pure (PV.load rfl Tb.one_22 (by repeat (first | exact List.Mem.head _ | refine List.Mem.tail _ ?_ | refine List.mem_append_right _ ?_)) rfl) rfl (by decide) ?_
          refine TL.pure (PV.len rfl Tb.sl_22) rfl (by decide) ?_
          refine TL.pure (PV.lss rfl rfl) rfl (by decide) ?_
          refine TL.nil ?_
          refine TQ.thenC ?_
          first | refine TC.condD rfl (fun hl4 => ?_) (fun hl4 => ?_) | refine TC.cond rfl (fun hl4 => ?_) (fun hl4 => ?_)
          · skip
            refine TC.skip ?_
            refine TQ.thenC ?_
            refine TC.seq ?_
            refine TC.block ?_
            refine TC.seq ?_
            obtain ⟨qa, hqap, qap, qac, hqa, hqar⟩ := t3 i (by omega)
            obtain ⟨qb, hqbp, qbp, qbc, hqb, hqbr⟩ := t3 k (by omega)
            have hra := hV.c.row i (by omega)
            have hrb := hV.c.row k (by omega)
            obtain ⟨qc, hqcp, hqc⟩ := hqar j (by omega)
            obtain ⟨qd, hqdp, hqd⟩ := hqbr l (by omega)
            obtain ⟨qe, hqep, hqe⟩ := hqar l (by omega)
            obtain ⟨qf, hqfp, hqf⟩ := hqbr j (by omega)
            have hb1 := hV.cb i j (by omega) (by omega)
            unfold getM at hb1
            have hb2 := hV.cb k l (by omega) (by omega)
            unfold getM at hb2
            have hb3 := hV.cb i l (by omega) (by omega)
            unfold getM at hb3
            have hb4 := hV.cb k j (by omega) (by omega)
            unfold getM at hb4
            refine TC.any Tb.mixed rfl rfl ?_
            refine TA.op (OpOK.pure (PV.fieldAddr rfl Tb.fo_25_2) rfl (by decide)) (by decide) ?_
            refine TA.op (OpOK.pure (PV.load rfl Tb.one_23 (by repeat (first | exact List.Mem.head _ | refine List.Mem.tail _ ?_ | refine List.mem_append_right _ ?_)) rfl) rfl (by decide)) (by decide) ?_
            refine TA.op (OpOK.pure (PV.move rfl) rfl (by decide)) (by decide) ?_
            refine TA.op (OpOK.pure (PV.indexA (j := i) rfl hqap rfl Tb.elm_23 (by omega) (by omega)) rfl (by decide)) (by decide) ?_
            refine TA.op (OpOK.pure (PV.loadOld rfl Tb.one_22 hqa) rfl (by decide)) (by decide) ?_
            refine TA.op (OpOK.pure (PV.move rfl) rfl (by decide)) (by decide) ?_
            refine TA.op (OpOK.pure (PV.indexA (j := j) rfl hqcp rfl Tb.elm_22 (by omega) (by omega)) rfl (by decide)) (by decide) ?_
            refine TA.op (OpOK.pure (PV.loadOld rfl Tb.one_3 hqc) rfl (by decide)) (by decide) ?_
            refine TA.op (OpOK.pure (PV.fieldAddr rfl Tb.fo_25_2) rfl (by decide)) (by decide) ?_
            refine TA.op (OpOK.pure (PV.load rfl Tb.one_23 (by repeat (first | exact List.Mem.head _ | refine List.Mem.tail _ ?_ | refine List.mem_append_right _ ?_)) rfl) rfl (by decide)) (by decide) ?_
            refine TA.op (OpOK.pure (PV.move rfl) rfl (by decide)) (by decide) ?_
            refine TA.op (OpOK.pure (PV.indexA (j := k) rfl hqbp rfl Tb.elm_23 (by omega) (by omega)) rfl (by decide)) (by decide) ?_
            refine TA.op (OpOK.pure (PV.loadOld rfl Tb.one_22 hqb) rfl (by decide)) (by decide) ?_
            refine TA.op (OpOK.pure (PV.move rfl) rfl (by decide)) (by decide) ?_
            refine TA.op (OpOK.pure (PV.indexA (j := l) rfl hqdp rfl Tb.elm_22 (by omega) (by omega)) rfl (by decide)) (by decide) ?_
            refine TA.op (OpOK.pure (PV.loadOld rfl Tb.one_3 hqd) rfl (by decide)) (by decide) ?_
            refine TA.op (OpOK.pure (PV.add rfl rfl (by omega)) rfl (by decide)) (by decide) ?_
            refine TA.op (OpOK.pure (PV.fieldAddr rfl Tb.fo_25_2) rfl (by decide)) (by decide) ?_
            refine TA.op (OpOK.pure (PV.load rfl Tb.one_23 (by repeat (first | exact List.Mem.head _ | refine List.Mem.tail _ ?_ | refine List.mem_append_right _ ?_)) rfl) rfl (by decide)) (by decide) ?_
            refine TA.op (OpOK.pure (PV.move rfl) rfl (by decide)) (by decide) ?_
            refine TA.op (OpOK.pure (PV.indexA (j := i) rfl hqap rfl Tb.elm_23 (by omega) (by omega)) rfl (by decide)) (by decide) ?_
            refine TA.op (OpOK.pure (PV.loadOld rfl Tb.one_22 hqa) rfl (by decide)) (by decide) ?_
            refine TA.op (OpOK.pure (PV.move rfl) rfl (by decide)) (by decide) ?_
            refine TA.op (OpOK.pure (PV.indexA (j := l) rfl hqep rfl Tb.elm_22 (by omega) (by omega)) rfl (by decide)) (by decide) ?_
            refine TA.op (OpOK.pure (PV.loadOld rfl Tb.one_3 hqe) rfl (by decide)) (by decide) ?_
            refine TA.op (OpOK.pure (PV.fieldAddr rfl Tb.fo_25_2) rfl (by decide)) (by decide) ?_
            refine TA.op (OpOK.pure (PV.load rfl Tb.one_23 (by repeat (first | exact List.Mem.head _ | refine List.Mem.tail _ ?_ | refine List.mem_append_right _ ?_)) rfl) rfl (by decide)) (by decide) ?_
            refine TA.op (OpOK.pure (PV.move rfl) rfl (by decide)) (by decide) ?_
            refine TA.op (OpOK.pure (PV.indexA (j := k) rfl hqbp rfl Tb.elm_23 (by omega) (by omega)) rfl (by decide)) (by decide) ?_
            refine TA.op (OpOK.pure (PV.loadOld rfl Tb.one_22 hqb) rfl (by decide)) (by decide) ?_
            refine TA.op (OpOK.pure (PV.move rfl) rfl (by decide)) (by decide) ?_
            refine TA.op (OpOK.pure (PV.indexA (j := j) rfl hqfp rfl Tb.elm_22 (by omega) (by omega)) rfl (by decide)) (by decide) ?_
            refine TA.op (OpOK.pure (PV.loadOld rfl Tb.one_3 hqf) rfl (by decide)) (by decide) ?_
            refine TA.op (OpOK.pure (PV.add rfl rfl (by omega)) rfl (by decide)) (by decide) ?_
            refine TA.op (OpOK.pure (PV.gtr rfl rfl) rfl (by decide)) (by decide) ?_
            show TQ _ _ _ _ _
            refine TQ.thenC ?_
            first | refine TC.condD rfl (fun hno => ?_) (fun hno => ?_) | refine TC.cond rfl (fun hno => ?_) (fun hno => ?_)
            · skip
              refine TC.seq ?_
              refine TC.region ?_
              refine TL.pure (PV.assign rfl) rfl (by decide) ?_
              refine TL.pure (PV.assign rfl) rfl (by decide) ?_
              refine TL.nil ?_
              refine TQ.thenC ?_
              refine TC.ret ?_
              refine TQ.blkR ?_
              refine TQ.thenR ?_
              refine TQ.thenR ?_
              refine TQ.blkR ?_
              refine TQ.blkR ?_
              refine TQ.thenR ?_
              refine TQ.thenR ?_
              refine TQ.blkR ?_
              refine TQ.blkR ?_
              refine TQ.thenR ?_
              refine TQ.thenR ?_
              refine TQ.blkR ?_
              refine TQ.blkR ?_
              refine TQ.thenR ?_
              refine TQ.thenR ?_
              refine TQ.blkR ?_
              refine TQ.thenR ?_
              refine TQ.retE2 rfl rfl rfl ?_
              exact ⟨(), by rw [sq_n a1 (fun h => by have h5 : ((t.c.getD i []).getD j 0) + ((t.c.getD k []).getD l 0) ≤ ((t.c.getD i []).getD l 0) + ((t.c.getD k []).getD j 0) := h i k j l (by omega) (by omega) (by omega) (by omega); omega)], trivial, List.nil_sublist _⟩
            · skip
              refine TC.skip ?_
              refine TQ.blkN ?_
              refine TQ.thenC ?_
              refine TC.region ?_
              refine TL.pure (PV.move rfl) rfl (by decide) ?_
              refine TL.pure (PV.add rfl rfl (by omega)) rfl (by decide) ?_
              refine TL.pure (PV.assign rfl) rfl (by decide) ?_
              refine TL.nil ?_
              refine TQ.thenN ?_
              refine TQ.backK (l + 1) (by repeat (first | exact True.intro | refine And.intro rfl ?_)) (by repeat (first | exact True.intro | refine And.intro rfl ?_)) (by repeat (first | exact List.Sublist.slnil | exact List.nil_sublist _ | exact List.Sublist.refl _ | refine List.Sublist.cons_cons _ ?_ | refine List.Sublist.cons _ ?_ | refine List.Sublist.trans ?_ (List.sublist_append_right _ _))) ⟨by omega, fun p h1 hp => if e : p < l then hl9.2 p h1 e else by obtain rfl : p = l := (by omega); omega⟩ (by omega)
          · skip
            refine TC.exit ?_
            refine TQ.thenE ?_
            refine TQ.thenE ?_
            refine TQ.blkS ?_
            refine TQ.blkN ?_
            refine TQ.thenC ?_
            refine TC.region ?_
            refine TL.pure (PV.move rfl) rfl (by decide) ?_
            refine TL.pure (PV.add rfl rfl (by omega)) rfl (by decide) ?_
            refine TL.pure (PV.assign rfl) rfl (by decide) ?_
            refine TL.nil ?_
            refine TQ.thenN ?_
            refine TQ.backK (j + 1) (by repeat (first | exact True.intro | refine And.intro rfl ?_)) (by repeat (first | exact True.intro | refine And.intro rfl ?_)) (by repeat (first | exact List.Sublist.slnil | exact List.nil_sublist _ | exact List.Sublist.refl _ | refine List.Sublist.cons_cons _ ?_ | refine List.Sublist.cons _ ?_ | refine List.Sublist.trans ?_ (List.sublist_append_right _ _))) ⟨by omega, fun p hp => if e : p < j then hj9.2 p e else by obtain rfl : p = j := (by omega); exact fun l h1 h2 => hl9.2 l h1 (by omega)⟩ (by omega)
        · skip
          refine TC.exit ?_
          refine TQ.thenE ?_
          refine TQ.thenE ?_
          refine TQ.blkS ?_
          refine TQ.blkN ?_
          refine TQ.thenC ?_
          refine TC.region ?_
          refine TL.pure (PV.move rfl) rfl (by decide) ?_
          refine TL.pure (PV.add rfl rfl (by omega)) rfl (by decide) ?_
          refine TL.pure (PV.assign rfl) rfl (by decide) ?_
          refine TL.nil ?_
          refine TQ.thenN ?_
          refine TQ.backK (k + 1) (by repeat (first | exact True.intro | refine And.intro rfl ?_)) (by repeat (first | exact True.intro | refine And.intro rfl ?_)) (by repeat (first | exact List.Sublist.slnil | exact List.nil_sublist _ | exact List.Sublist.refl _ | refine List.Sublist.cons_cons _ ?_ | refine List.Sublist.cons _ ?_ | refine List.Sublist.trans ?_ (List.sublist_append_right _ _))) ⟨by omega, fun p h1 hp => if e : p < k then hk9.2 p h1 e else by obtain rfl : p = k := (by omega); exact fun j l h2 h3 => hj9.2 j (by omega) l h2 h3⟩ (by omega)
      · skip
        refine TC.exit ?_
        refine TQ.thenE ?_
        refine TQ.thenE ?_
        refine TQ.blkS ?_
        refine TQ.blkN ?_
        refine TQ.thenC ?_
        refine TC.region ?_
        refine TL.pure (PV.move rfl) rfl (by decide) ?_
        refine TL.pure (PV.add rfl rfl (by omega)) rfl (by decide) ?_
        refine TL.pure (PV.assign rfl) rfl (by decide) ?_
        refine TL.nil ?_
        refine TQ.thenN ?_
        refine TQ.backK (i + 1) (by repeat (first | exact True.intro | refine And.intro rfl ?_)) (by repeat (first | exact True.intro | refine And.intro rfl ?_)) (by repeat (first | exact List.Sublist.slnil | exact List.nil_sublist _ | exact List.Sublist.refl _ | refine List.Sublist.cons_cons _ ?_ | refine List.Sublist.cons _ ?_ | refine List.Sublist.trans ?_ (List.sublist_append_right _ _))) ⟨by omega, fun p hp => if e : p < i then hi9.2 p e else by obtain rfl : p = i := (by omega); exact fun k h1 h2 => hk9.2 k h1 (by omega)⟩ (by omega)
    · skip
      refine TC.exit ?_
      refine TQ.thenE ?_
      refine TQ.thenE ?_
      refine TQ.blkS ?_
      refine TQ.thenC ?_
      refine TC.seq ?_
      refine TC.region ?_
      refine TL.pure (PV.assign rfl) rfl (by decide) ?_
      refine TL.pure (PV.assign rfl) rfl (by decide) ?_
      refine TL.nil ?_
      refine TQ.thenC ?_
      refine TC.ret ?_
      refine TQ.retE2 rfl rfl rfl ?_
      exact ⟨(), by rw [sq_y a1 (fun i k j l h1 h2 h3 h4 => hi9.2 i (by omega) k h1 h2 j l h3 h4)], trivial, List.nil_sublist _⟩

end Go.Proofs.Ytghlkndanpegbaa
