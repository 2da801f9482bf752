/- What any list keeps: the law's contract. -/
import Derived.Test.YtkkipbkkijoneaaEa
set_option linter.unusedVariables false
set_option linter.unusedSimpArgs false
namespace Go.Proofs.Ytkkipbkkijoneaa
open Go.Sx Go.RowKit Go.Sand

theorem plc_of {n : Int} {xs : List Int} (h : xs.Pairwise (· < ·)) (hin : InP n xs) : Plc n xs := fun j hj => by
  refine ⟨?_, fun h0 => ?_⟩
  · have := hin (xs.getD j 0) (by simp [List.getD, hj])
    omega
  · have := List.pairwise_iff_getElem.1 h (j - 1) j (by omega) hj (by omega)
    simpa [List.getD, hj, show j - 1 < xs.length by omega] using this
theorem kind_gr (kd : Nat) {n : Int} {ss : List St} {zs : List Int} (h : (grR kd n ss zs).2 = 0) : kindR kd n ss (grR kd n ss zs).1 = (true, 0) := by
  have hs : ¬ setI n ss zs ≠ 0 := fun h9 => by rw [gr_1 h9] at h; exact h9 h
  have hP := set_of hs
  rw [gr_0 hs]
  have hpl : Plc n (gsL (ss.map (kS kd)) zs) := plc_of ((plc_asc hP.2).sublist List.filter_sublist) (gs_in hP.2.inp)
  have h2 : ¬ setI n ss (gsL (ss.map (kS kd)) zs) ≠ 0 := by rw [set_0 (by rw [hP.1.v]; decide) hpl]; decide
  rw [kind_0 h2, sip_iff.2 (gs_sip _ _)]
structure InvAll (n : Int) (ss : List St) (xs ls ws : List Int) : Prop where
  w1 : wgR n ss ws xs = (wgN ws xs, 0)
  w2 : wgR n ss ws (runR n ss xs ls).1 = (wgN ws (runR n ss xs ls).1, 0)
  k : (invR n ss ws).1 = true → wgN ws xs = wgN ws (runR n ss xs ls).1
theorem inv_all {n : Int} {ss : List St} {xs ls ws : List Int} (h : RunOk n ss xs ls) (h0 : (invR n ss ws).2 = 0) : InvAll n ss xs ls ws := by
  have hv : ¬ validI n ss ≠ 0 := by rw [h.vm.v]; decide
  cases hnu : numB n (-20) 20 ws with
  | false => rw [invR_2 hv hnu] at h0; cases h0
  | true =>
    exact ⟨wgR_3 (by rw [h.vm.fil]; decide) hnu, wgR_3 (by rw [h.vme.fil]; decide) hnu, fun h1 => by rw [invR_3 hv hnu] at h1; exact (wg_keeps h h1).symm⟩


set_option maxRecDepth 100000 in
set_option maxHeartbeats 16000000 in
theorem topSteps_ok (w0 : World) (n : Int) (p : Option Addr) (cp : Nat) (ss : List St) (hr : StsAt w0 p ss) (pl : Option Addr) (cl : Nat) (xs : List Int) (hx : IntsAt w0 pl xs) (pz : Option Addr) (cz : Nat) (ls : List Int) (hz : IntsAt w0 pz ls) (pw : Option Addr) (cw : Nat) (ws : List Int) (hw : IntsAt w0 pw ws) (pu : Option Addr) (cu : Nat) (zs : List Int) (hu : IntsAt w0 pu zs) :
    Calls Try.prog 16 #[yv n p ss.length cp, .slice pl xs.length cl, .agg #[.slice pz ls.length cz, .slice pw ws.length cw, .slice pu zs.length cu]] w0 (Post (X := Unit) (fun _ => .bool true) (fun _ => True) (fun _ => []) w0) := by
  refine calls Try.func16 rfl (n := 327) rfl (by simp) ?_
  refine TC.seq ?_
  refine TC.region ?_
  refine TL.box rfl rfl (by decide) (fun b0 hb0 => ?_)
  refine TL.box rfl rfl (by decide) (fun b1 hb1 => ?_)
  refine TL.pure (PV.assign rfl) rfl (by decide) ?_
  refine TL.nil ?_
  refine TQ.thenC ?_
  refine TC.seq ?_
  refine TC.seq ?_
  refine TC.region ?_
  refine TL.pure (PV.build rfl Tb.zero_24 Tb.pl_24 (fill_n _)) rfl (by decide) ?_
  refine TL.call rfl Tb.gofn_45 (fun a w hs => space3_ok w) rfl (by decide) (fun _ _ => ?_)
  refine TL.pure (PV.move rfl) rfl (by decide) ?_
  refine TL.pure (PV.extract rfl rfl) rfl (by decide) ?_
  refine TL.pure (PV.extract rfl rfl) rfl (by decide) ?_
  refine TL.pure (PV.assign rfl) rfl (by decide) ?_
  refine TL.pure (PV.assign rfl) rfl (by decide) ?_
  refine TL.nil ?_
  refine TQ.thenC ?_
  refine TC.seq ?_
  refine TC.region ?_
  refine TL.pure (PV.move rfl) rfl (by decide) ?_
  refine TL.pure (PV.neq rfl rfl) rfl (by decide) ?_
  refine TL.pure (PV.move rfl) rfl (by decide) ?_
  first | refine TL.splitD 44 rfl (fun s1 => ?_) (fun s1 => ?_) | refine TL.split 44 rfl (fun s1 => ?_) (fun s1 => ?_)
  · skip
    exact absurd rfl s1
  · skip
    refine TL.pure (PV.move rfl) rfl (by decide) ?_
    refine TL.pure (PV.neq rfl rfl) rfl (by decide) ?_
    refine TL.pure (PV.pickF rfl rfl) rfl (by decide) ?_
    refine TL.nil ?_
    refine TQ.thenC ?_
    first | refine TC.condD rfl (fun s2 => ?_) (fun s2 => ?_) | refine TC.cond rfl (fun s2 => ?_) (fun s2 => ?_)
    · skip
      exact absurd rfl s2
    · skip
      refine TC.skip ?_
      refine TQ.thenC ?_
      refine TC.seq ?_
      refine TC.seq ?_
      refine TC.region ?_
      refine TL.pure (PV.loadBox rfl Tb.agg_24 (by repeat (first | exact List.Mem.head _ | refine List.Mem.tail _ ?_ | refine List.mem_append_right _ ?_)) rfl) rfl (by decide) ?_
      refine TL.call rfl Tb.gofn_17 (fun a w hs => long_ok w _ _ _ _ (hr.new hs.new)) rfl (by decide) (fun _ _ => ?_)
      refine TL.pure (PV.move rfl) rfl (by decide) ?_
      first | refine TL.splitD 50 rfl (fun e1 => ?_) (fun e1 => ?_) | refine TL.split 50 rfl (fun e1 => ?_) (fun e1 => ?_)
      · skip
        refine TL.skip rfl (fun k hk => by cases hk; decide) ?_
        refine TL.skip rfl (fun k hk => by cases hk; decide) ?_
        refine TL.skip rfl (fun k hk => by cases hk; decide) ?_
        refine TL.pure (PV.pickT rfl rfl) rfl (by decide) ?_
        refine TL.pure (PV.move rfl) rfl (by decide) ?_
        refine TL.skip rfl (fun k hk => by cases hk; decide) ?_
        refine TL.skip rfl (fun k hk => by cases hk; decide) ?_
        refine TL.skip rfl (fun k hk => by cases hk; decide) ?_
        refine TL.skip rfl (fun k hk => by cases hk; decide) ?_
        refine TL.pure (PV.pickT rfl rfl) rfl (by decide) ?_
        refine TL.pure (PV.move rfl) rfl (by decide) ?_
        refine TL.skip rfl (fun k hk => by cases hk; decide) ?_
        refine TL.skip rfl (fun k hk => by cases hk; decide) ?_
        refine TL.skip rfl (fun k hk => by cases hk; decide) ?_
        refine TL.skip rfl (fun k hk => by cases hk; decide) ?_
        refine TL.pure (PV.pickT rfl rfl) rfl (by decide) ?_
        refine TL.pure (PV.move rfl) rfl (by decide) ?_
        refine TL.skip rfl (fun k hk => by cases hk; decide) ?_
        refine TL.skip rfl (fun k hk => by cases hk; decide) ?_
        refine TL.skip rfl (fun k hk => by cases hk; decide) ?_
        refine TL.skip rfl (fun k hk => by cases hk; decide) ?_
        refine TL.pure (PV.pickT rfl rfl) rfl (by decide) ?_
        refine TL.nil ?_
        refine TQ.thenC ?_
        refine TC.condT rfl ?_
        refine TC.seq ?_
        refine TC.region ?_
        refine TL.pure (PV.assign rfl) rfl (by decide) ?_
        refine TL.nil ?_
        refine TQ.thenC ?_
        refine TC.ret ?_
        refine TQ.thenR ?_
        refine TQ.retE1 rfl rfl ?_
        first | exact ⟨(), rfl, trivial, List.nil_sublist _⟩ | exact ⟨(), by rw [decide_eq_true rfl], trivial, List.nil_sublist _⟩ | (exfalso; simp_all; done)
      · skip
        refine TL.pure (PV.move rfl) rfl (by decide) ?_
        refine TL.pure (PV.len rfl Tb.sl_25) rfl (by decide) ?_
        refine TL.pure (PV.gtr rfl rfl) rfl (by decide) ?_
        refine TL.pure (PV.pickF rfl rfl) rfl (by decide) ?_
        refine TL.pure (PV.move rfl) rfl (by decide) ?_
        first | refine TL.splitD 55 rfl (fun e2 => ?_) (fun e2 => ?_) | refine TL.split 55 rfl (fun e2 => ?_) (fun e2 => ?_)
        · skip
          refine TL.skip rfl (fun k hk => by cases hk; decide) ?_
          refine TL.skip rfl (fun k hk => by cases hk; decide) ?_
          refine TL.skip rfl (fun k hk => by cases hk; decide) ?_
          refine TL.skip rfl (fun k hk => by cases hk; decide) ?_
          refine TL.pure (PV.pickT rfl rfl) rfl (by decide) ?_
          refine TL.pure (PV.move rfl) rfl (by decide) ?_
          refine TL.skip rfl (fun k hk => by cases hk; decide) ?_
          refine TL.skip rfl (fun k hk => by cases hk; decide) ?_
          refine TL.skip rfl (fun k hk => by cases hk; decide) ?_
          refine TL.skip rfl (fun k hk => by cases hk; decide) ?_
          refine TL.pure (PV.pickT rfl rfl) rfl (by decide) ?_
          refine TL.pure (PV.move rfl) rfl (by decide) ?_
          refine TL.skip rfl (fun k hk => by cases hk; decide) ?_
          refine TL.skip rfl (fun k hk => by cases hk; decide) ?_
          refine TL.skip rfl (fun k hk => by cases hk; decide) ?_
          refine TL.skip rfl (fun k hk => by cases hk; decide) ?_
          refine TL.pure (PV.pickT rfl rfl) rfl (by decide) ?_
          refine TL.nil ?_
          refine TQ.thenC ?_
          refine TC.condT rfl ?_
          refine TC.seq ?_
          refine TC.region ?_
          refine TL.pure (PV.assign rfl) rfl (by decide) ?_
          refine TL.nil ?_
          refine TQ.thenC ?_
          refine TC.ret ?_
          refine TQ.thenR ?_
          refine TQ.retE1 rfl rfl ?_
          first | exact ⟨(), rfl, trivial, List.nil_sublist _⟩ | exact ⟨(), by rw [decide_eq_true rfl], trivial, List.nil_sublist _⟩ | (exfalso; simp_all; done)
        · skip
          refine TL.pure (PV.fieldAddr rfl Tb.fo_65_0) rfl (by decide) ?_
          refine TL.pure (PV.load rfl Tb.one_25 (by repeat (first | exact List.Mem.head _ | refine List.Mem.tail _ ?_ | refine List.mem_append_right _ ?_)) rfl) rfl (by decide) ?_
          refine TL.pure (PV.len rfl Tb.sl_25) rfl (by decide) ?_
          refine TL.pure (PV.gtr rfl rfl) rfl (by decide) ?_
          refine TL.pure (PV.pickF rfl rfl) rfl (by decide) ?_
          refine TL.pure (PV.move rfl) rfl (by decide) ?_
          first | refine TL.splitD 61 rfl (fun e3 => ?_) (fun e3 => ?_) | refine TL.split 61 rfl (fun e3 => ?_) (fun e3 => ?_)
          · skip
            refine TL.skip rfl (fun k hk => by cases hk; decide) ?_
            refine TL.skip rfl (fun k hk => by cases hk; decide) ?_
            refine TL.skip rfl (fun k hk => by cases hk; decide) ?_
            refine TL.skip rfl (fun k hk => by cases hk; decide) ?_
            refine TL.pure (PV.pickT rfl rfl) rfl (by decide) ?_
            refine TL.pure (PV.move rfl) rfl (by decide) ?_
            refine TL.skip rfl (fun k hk => by cases hk; decide) ?_
            refine TL.skip rfl (fun k hk => by cases hk; decide) ?_
            refine TL.skip rfl (fun k hk => by cases hk; decide) ?_
            refine TL.skip rfl (fun k hk => by cases hk; decide) ?_
            refine TL.pure (PV.pickT rfl rfl) rfl (by decide) ?_
            refine TL.nil ?_
            refine TQ.thenC ?_
            refine TC.condT rfl ?_
            refine TC.seq ?_
            refine TC.region ?_
            refine TL.pure (PV.assign rfl) rfl (by decide) ?_
            refine TL.nil ?_
            refine TQ.thenC ?_
            refine TC.ret ?_
            refine TQ.thenR ?_
            refine TQ.retE1 rfl rfl ?_
            first | exact ⟨(), rfl, trivial, List.nil_sublist _⟩ | exact ⟨(), by rw [decide_eq_true rfl], trivial, List.nil_sublist _⟩ | (exfalso; simp_all; done)
          · skip
            refine TL.pure (PV.fieldAddr rfl Tb.fo_65_1) rfl (by decide) ?_
            refine TL.pure (PV.load rfl Tb.one_25 (by repeat (first | exact List.Mem.head _ | refine List.Mem.tail _ ?_ | refine List.mem_append_right _ ?_)) rfl) rfl (by decide) ?_
            refine TL.pure (PV.len rfl Tb.sl_25) rfl (by decide) ?_
            refine TL.pure (PV.gtr rfl rfl) rfl (by decide) ?_
            refine TL.pure (PV.pickF rfl rfl) rfl (by decide) ?_
            refine TL.pure (PV.move rfl) rfl (by decide) ?_
            first | refine TL.splitD 67 rfl (fun e4 => ?_) (fun e4 => ?_) | refine TL.split 67 rfl (fun e4 => ?_) (fun e4 => ?_)
            · skip
              refine TL.skip rfl (fun k hk => by cases hk; decide) ?_
              refine TL.skip rfl (fun k hk => by cases hk; decide) ?_
              refine TL.skip rfl (fun k hk => by cases hk; decide) ?_
              refine TL.skip rfl (fun k hk => by cases hk; decide) ?_
              refine TL.pure (PV.pickT rfl rfl) rfl (by decide) ?_
              refine TL.nil ?_
              refine TQ.thenC ?_
              refine TC.condT rfl ?_
              refine TC.seq ?_
              refine TC.region ?_
              refine TL.pure (PV.assign rfl) rfl (by decide) ?_
              refine TL.nil ?_
              refine TQ.thenC ?_
              refine TC.ret ?_
              refine TQ.thenR ?_
              refine TQ.retE1 rfl rfl ?_
              first | exact ⟨(), rfl, trivial, List.nil_sublist _⟩ | exact ⟨(), by rw [decide_eq_true rfl], trivial, List.nil_sublist _⟩ | (exfalso; simp_all; done)
            · skip
              refine TL.pure (PV.fieldAddr rfl Tb.fo_65_2) rfl (by decide) ?_
              refine TL.pure (PV.load rfl Tb.one_25 (by repeat (first | exact List.Mem.head _ | refine List.Mem.tail _ ?_ | refine List.mem_append_right _ ?_)) rfl) rfl (by decide) ?_
              refine TL.pure (PV.len rfl Tb.sl_25) rfl (by decide) ?_
              refine TL.pure (PV.gtr rfl rfl) rfl (by decide) ?_
              refine TL.pure (PV.pickF rfl rfl) rfl (by decide) ?_
              refine TL.nil ?_
              refine TQ.thenC ?_
              first | refine TC.condD rfl (fun e5 => ?_) (fun e5 => ?_) | refine TC.cond rfl (fun e5 => ?_) (fun e5 => ?_)
              · skip
                refine TC.seq ?_
                refine TC.region ?_
                refine TL.pure (PV.assign rfl) rfl (by decide) ?_
                refine TL.nil ?_
                refine TQ.thenC ?_
                refine TC.ret ?_
                refine TQ.thenR ?_
                refine TQ.retE1 rfl rfl ?_
                first | exact ⟨(), rfl, trivial, List.nil_sublist _⟩ | exact ⟨(), by rw [decide_eq_true rfl], trivial, List.nil_sublist _⟩ | (exfalso; simp_all; done)
              · skip
                refine TC.skip ?_
                refine TQ.thenC ?_
                refine TC.seq ?_
                have hS := long_0 e1
                have hl : xs.length ≤ 1000000 := by omega
                have hll : ls.length ≤ 1000000 := by omega
                have hlw : ws.length ≤ 1000000 := by omega
                have hlu : zs.length ≤ 1000000 := by omega
                refine TC.region ?_
                refine TL.pure (PV.loadBox rfl Tb.agg_24 (by repeat (first | exact List.Mem.head _ | refine List.Mem.tail _ ?_ | refine List.mem_append_right _ ?_)) rfl) rfl (by decide) ?_
                refine TL.pure (PV.move rfl) rfl (by decide) ?_
                refine TL.pure (PV.fieldAddr rfl Tb.fo_65_0) rfl (by decide) ?_
                refine TL.pure (PV.load rfl Tb.one_25 (by repeat (first | exact List.Mem.head _ | refine List.Mem.tail _ ?_ | refine List.mem_append_right _ ?_)) rfl) rfl (by decide) ?_
                refine TL.call rfl Tb.gofn_27 (fun a w hs => Run_ok w _ _ _ _ (hr.new hs.new) hS _ _ (IsI.of (hx.new hs.new)) hl _ _ (IsI.of (hz.new hs.new)) hll) rfl (by decide) (fun hA hhA => ?_)
                refine TL.pure (PV.move rfl) rfl (by decide) ?_
                refine TL.pure (PV.extract rfl rfl) rfl (by decide) ?_
                refine TL.pure (PV.extract rfl rfl) rfl (by decide) ?_
                refine TL.pure (PV.extract rfl rfl) rfl (by decide) ?_
                refine TL.pure (PV.assign rfl) rfl (by decide) ?_
                refine TL.pure (PV.assign rfl) rfl (by decide) ?_
                refine TL.pure (PV.assign rfl) rfl (by decide) ?_
                refine TL.nil ?_
                refine TQ.thenC ?_
                refine TC.seq ?_
                refine TC.seq ?_
                refine TC.region ?_
                refine TL.pure (PV.move rfl) rfl (by decide) ?_
                refine TL.pure (PV.neq rfl rfl) rfl (by decide) ?_
                refine TL.nil ?_
                refine TQ.thenC ?_
                first | refine TC.condD rfl (fun a1 => ?_) (fun a1 => ?_) | refine TC.cond rfl (fun a1 => ?_) (fun a1 => ?_)
                · skip
                  refine TC.seq ?_
                  refine TC.region ?_
                  refine TL.pure (PV.assign rfl) rfl (by decide) ?_
                  refine TL.nil ?_
                  refine TQ.thenC ?_
                  refine TC.ret ?_
                  refine TQ.thenR ?_
                  refine TQ.retE1 rfl rfl ?_
                  first | exact ⟨(), rfl, trivial, List.nil_sublist _⟩ | exact ⟨(), by rw [decide_eq_true rfl], trivial, List.nil_sublist _⟩ | (exfalso; simp_all; done)
                · skip
                  refine TC.skip ?_
                  refine TQ.thenC ?_
                  refine TC.seq ?_
                  refine TC.seq ?_
                  have hrk := run_ok a1
                  have hrl := hrk.len
                  have hnm := hrk.num
                  refine TC.region ?_
                  refine TL.pure (PV.move rfl) rfl (by decide) ?_
                  refine TL.pure (PV.fieldAddr rfl Tb.fo_65_0) rfl (by decide) ?_
                  refine TL.pure (PV.load rfl Tb.one_25 (by repeat (first | exact List.Mem.head _ | refine List.Mem.tail _ ?_ | refine List.mem_append_right _ ?_)) rfl) rfl (by decide) ?_
                  refine TL.pure (PV.len rfl Tb.sl_25) rfl (by decide) ?_
                  refine TL.pure (PV.neq rfl rfl) rfl (by decide) ?_
                  refine TL.pure (PV.move rfl) rfl (by decide) ?_
                  first | refine TL.splitD 89 rfl (fun bb1 => ?_) (fun bb1 => ?_) | refine TL.split 89 rfl (fun bb1 => ?_) (fun bb1 => ?_)
                  · skip
                    exact absurd (by rw [hnm]) bb1
                  · skip
                    refine TL.pure (PV.move rfl) rfl (by decide) ?_
                    refine TL.pure (PV.lenG rfl hhA Tb.sl_25) rfl (by decide) ?_
                    refine TL.pure (PV.move rfl) rfl (by decide) ?_
                    refine TL.pure (PV.len rfl Tb.sl_25) rfl (by decide) ?_
                    refine TL.pure (PV.neq rfl rfl) rfl (by decide) ?_
                    refine TL.pure (PV.pickF rfl rfl) rfl (by decide) ?_
                    refine TL.nil ?_
                    refine TQ.thenC ?_
                    first | refine TC.condD rfl (fun bb2 => ?_) (fun bb2 => ?_) | refine TC.cond rfl (fun bb2 => ?_) (fun bb2 => ?_)
                    · skip
                      exact absurd (by rw [hrl]) bb2
                    · skip
                      refine TC.skip ?_
                      refine TQ.thenC ?_
                      refine TC.seq ?_
                      refine TC.region ?_
                      refine TL.pure (PV.loadBox rfl Tb.agg_24 (by repeat (first | exact List.Mem.head _ | refine List.Mem.tail _ ?_ | refine List.mem_append_right _ ?_)) rfl) rfl (by decide) ?_
                      refine TL.pure (PV.fieldAddr rfl Tb.fo_65_0) rfl (by decide) ?_
                      refine TL.pure (PV.load rfl Tb.one_25 (by repeat (first | exact List.Mem.head _ | refine List.Mem.tail _ ?_ | refine List.mem_append_right _ ?_)) rfl) rfl (by decide) ?_
                      refine TL.call rfl Tb.gofn_33 (fun a w hs => Counts_ok w _ _ _ _ (hr.new hs.new) hS _ _ (IsI.of (hz.new hs.new)) hll) rfl (by decide) (fun hC hhC => ?_)
                      rw [hrk.cnt] at hhC
                      rw [hrk.cnt]
                      refine TL.pure (PV.move rfl) rfl (by decide) ?_
                      refine TL.pure (PV.extract rfl rfl) rfl (by decide) ?_
                      refine TL.pure (PV.extract rfl rfl) rfl (by decide) ?_
                      refine TL.pure (PV.assign rfl) rfl (by decide) ?_
                      refine TL.pure (PV.assign rfl) rfl (by decide) ?_
                      refine TL.nil ?_
                      refine TQ.thenC ?_
                      refine TC.seq ?_
                      refine TC.region ?_
                      refine TL.pure (PV.loadBox rfl Tb.agg_24 (by repeat (first | exact List.Mem.head _ | refine List.Mem.tail _ ?_ | refine List.mem_append_right _ ?_)) rfl) rfl (by decide) ?_
                      refine TL.pure (PV.move rfl) rfl (by decide) ?_
                      refine TL.call rfl Tb.gofn_31 (fun a w hs => Effect_ok w _ _ _ _ (hr.new hs.new) hS _ (cntN ss.length ls) (IsI.g hs.new (fun yy hyy => by repeat (first | exact List.mem_append_left _ hyy | exact List.mem_append_left _ (List.mem_append_right _ hyy) | exact List.mem_append_left _ (List.mem_append_left _ hyy) | refine List.mem_append_right _ ?_ | refine List.Mem.tail _ ?_)) hhC) (by unfold cntN; rw [mk_len]; have := hrk.vm.len; omega)) rfl (by decide) (fun hE hhE => ?_)
                      rw [hrk.eff] at hhE
                      rw [hrk.eff]
                      refine TL.pure (PV.move rfl) rfl (by decide) ?_
                      refine TL.pure (PV.extract rfl rfl) rfl (by decide) ?_
                      refine TL.pure (PV.extract rfl rfl) rfl (by decide) ?_
                      refine TL.pure (PV.assign rfl) rfl (by decide) ?_
                      refine TL.pure (PV.assign rfl) rfl (by decide) ?_
                      refine TL.nil ?_
                      refine TQ.thenC ?_
                      refine TC.seq ?_
                      refine TC.seq ?_
                      have hel : (effN ss (cntN ss.length ls) xs.length).length = xs.length := by unfold effN; rw [mk_len]
                      refine TC.region ?_
                      refine TL.pure (PV.move rfl) rfl (by decide) ?_
                      refine TL.pure (PV.neq rfl rfl) rfl (by decide) ?_
                      refine TL.pure (PV.move rfl) rfl (by decide) ?_
                      first | refine TL.splitD 111 rfl (fun c1 => ?_) (fun c1 => ?_) | refine TL.split 111 rfl (fun c1 => ?_) (fun c1 => ?_)
                      · skip
                        exact absurd rfl c1
                      · skip
                        refine TL.pure (PV.move rfl) rfl (by decide) ?_
                        refine TL.pure (PV.neq rfl rfl) rfl (by decide) ?_
                        refine TL.pure (PV.pickF rfl rfl) rfl (by decide) ?_
                        refine TL.pure (PV.move rfl) rfl (by decide) ?_
                        first | refine TL.splitD 115 rfl (fun c2 => ?_) (fun c2 => ?_) | refine TL.split 115 rfl (fun c2 => ?_) (fun c2 => ?_)
                        · skip
                          exact absurd rfl c2
                        · skip
                          refine TL.pure (PV.move rfl) rfl (by decide) ?_
                          refine TL.pure (PV.lenG rfl hhE Tb.sl_25) rfl (by decide) ?_
                          refine TL.pure (PV.move rfl) rfl (by decide) ?_
                          refine TL.pure (PV.len rfl Tb.sl_25) rfl (by decide) ?_
                          refine TL.pure (PV.neq rfl rfl) rfl (by decide) ?_
                          refine TL.pure (PV.pickF rfl rfl) rfl (by decide) ?_
                          refine TL.nil ?_
                          refine TQ.thenC ?_
                          first | refine TC.condD rfl (fun c3 => ?_) (fun c3 => ?_) | refine TC.cond rfl (fun c3 => ?_) (fun c3 => ?_)
                          · skip
                            exact absurd (by rw [hel]) c3
                          · skip
                            refine TC.skip ?_
                            refine TQ.thenC ?_
                            refine TC.seq ?_
                            refine TC.seq ?_
                            refine TC.region ?_
                            refine TL.pure (PV.assign rfl) rfl (by decide) ?_
                            refine TL.nil ?_
                            refine TQ.thenC ?_
                            refine TC.block ?_
                            -- live and written in the loop, not told: [6]
                            refine TC.lit [(1, _), (3, _), (5, _), (9, _), (12, _), (13, _), (15, _)] (by repeat (first | exact True.intro | refine And.intro rfl ?_)) ?_
                            refine TC.loopK [1, 3, 5, 9, 12, 13] (X := Nat) (fun k => k ≤ xs.length) (fun k => [(15, .int .i64 k)]) (fun k => gbI (hE, (effN ss (cntN ss.length ls) xs.length)) ++ (gbI (hC, cntN ss.length ls) ++ (gbI (hA, (runR n ss xs ls).1) ++ [(b1, Obj.cells #[.slice pz ls.length cz, .slice pw ws.length cw, .slice pu zs.length cu] 65 (0, 0)), (b0, Obj.cells #[.int .i64 n, .slice p ss.length cp] 24 (0, 0))]))) (fun k => xs.length - k) 0 (Nat.zero_le _) (by repeat (first | exact True.intro | refine And.intro rfl ?_)) (List.Sublist.refl _) ?_
                            intro k hk
                            refine TC.lit [(1, _), (3, _), (5, _), (9, _), (12, _), (13, _), (15, _)] (by repeat (first | exact True.intro | refine And.intro rfl ?_)) ?_
                            refine TC.seq ?_
                            refine TC.seq ?_
                            refine TC.region ?_
                            refine TL.pure (PV.move rfl) rfl (by decide) ?_
                            refine TL.pure (PV.move rfl) rfl (by decide) ?_
                            refine TL.pure (PV.len rfl Tb.sl_25) rfl (by decide) ?_
                            refine TL.pure (PV.lss rfl rfl) rfl (by decide) ?_
                            refine TL.nil ?_
                            refine TQ.thenC ?_
                            first | refine TC.condD rfl (fun hlt => ?_) (fun hlt => ?_) | refine TC.cond rfl (fun hlt => ?_) (fun hlt => ?_)
                            · skip
                              refine TC.skip ?_
                              refine TQ.thenC ?_
                              refine TC.seq ?_
                              refine TC.block ?_
                              refine TC.seq ?_
                              obtain ⟨q1, hq1p, hq1⟩ := hx k (by omega)
                              have hea : (effN ss (cntN ss.length ls) xs.length).getD k 0 = efS ss (cntN ss.length ls) ss.length k := by unfold effN; rw [mk_at _ (by omega)]
                              have heq := hrk.eq k
                              have hb1 := hrk.vm.mb k
                              have hb2 := hrk.vme.mb k
                              refine TC.mixV [true, true, true, true, true, true, true, true, true, true, true, true, true, true] _ 14 Tb.mixed rfl (by kernel_rfl) (by kernel_rfl) (by kernel_rfl) (by kernel_rfl) (List.Sublist.refl _) ?_
                              refine TV.virt 0 rfl rfl (by decide) rfl (by kernel_rfl) (SOK.pure (PV.move rfl) rfl) ?_
                              refine TV.virt 1 rfl rfl (by decide) rfl (by kernel_rfl) (SOK.pure (PV.move rfl) rfl) ?_
                              refine TV.virt 2 rfl rfl (by decide) rfl (by kernel_rfl) (SOK.pure (PV.indexG (j := k) rfl rfl hhA Tb.elm_25 rfl (by omega)) rfl) ?_
                              refine TV.virt 3 rfl rfl (by decide) rfl (by kernel_rfl) (SOK.pure (PV.loadGI (y := (hA, (runR n ss xs ls).1)) (j := k) (v := (runR n ss xs ls).1.getD k 0) rfl Tb.one_3 (fun yy hyy => by repeat (first | exact List.mem_append_left _ hyy | exact List.mem_append_left _ (List.mem_append_right _ hyy) | exact List.mem_append_left _ (List.mem_append_left _ hyy) | refine List.mem_append_right _ ?_ | refine List.Mem.tail _ ?_)) hhA (by show k < (runR n ss xs ls).1.length; omega) rfl) rfl) ?_
                              refine TV.virt 4 rfl rfl (by decide) rfl (by kernel_rfl) (SOK.pure (PV.move rfl) rfl) ?_
                              refine TV.virt 5 rfl rfl (by decide) rfl (by kernel_rfl) (SOK.pure (PV.move rfl) rfl) ?_
                              refine TV.virt 6 rfl rfl (by decide) rfl (by kernel_rfl) (SOK.pure (PV.indexA rfl hq1p rfl Tb.elm_25 rfl (by omega)) rfl) ?_
                              refine TV.virt 7 rfl rfl (by decide) rfl (by kernel_rfl) (SOK.pure (PV.loadOld rfl Tb.one_3 hq1) rfl) ?_
                              refine TV.virt 8 rfl rfl (by decide) rfl (by kernel_rfl) (SOK.pure (PV.sub rfl rfl (by omega)) rfl) ?_
                              refine TV.virt 9 rfl rfl (by decide) rfl (by kernel_rfl) (SOK.pure (PV.move rfl) rfl) ?_
                              refine TV.virt 10 rfl rfl (by decide) rfl (by kernel_rfl) (SOK.pure (PV.move rfl) rfl) ?_
                              refine TV.virt 11 rfl rfl (by decide) rfl (by kernel_rfl) (SOK.pure (PV.indexG (j := k) rfl rfl hhE Tb.elm_25 rfl (by omega)) rfl) ?_
                              refine TV.virt 12 rfl rfl (by decide) rfl (by kernel_rfl) (SOK.pure (PV.loadGI (y := (hE, (effN ss (cntN ss.length ls) xs.length))) (j := k) (v := efS ss (cntN ss.length ls) ss.length k) rfl Tb.one_3 (fun yy hyy => by repeat (first | exact List.mem_append_left _ hyy | exact List.mem_append_left _ (List.mem_append_right _ hyy) | exact List.mem_append_left _ (List.mem_append_left _ hyy) | refine List.mem_append_right _ ?_ | refine List.Mem.tail _ ?_)) hhE (by show k < (effN ss (cntN ss.length ls) xs.length).length; omega) hea) rfl) ?_
                              refine TV.virt 13 rfl rfl (by decide) rfl (by kernel_rfl) (SOK.pure (PV.neq rfl rfl) rfl) ?_
                              refine TV.done (by kernel_rfl) ?_
                              refine TQ.thenC ?_
                              first | refine TC.condD rfl (fun hne => ?_) (fun hne => ?_) | refine TC.cond rfl (fun hne => ?_) (fun hne => ?_)
                              · skip
                                exact absurd (by omega) hne
                              · skip
                                refine TC.skip ?_
                                refine TQ.blkN ?_
                                refine TQ.thenC ?_
                                refine TC.region ?_
                                refine TL.pure (PV.move rfl) rfl (by decide) ?_
                                refine TL.pure (PV.add rfl rfl (by omega)) rfl (by decide) ?_
                                refine TL.pure (PV.assign rfl) rfl (by decide) ?_
                                refine TL.nil ?_
                                refine TQ.thenN ?_
                                refine TQ.backK (k + 1) (by repeat (first | exact True.intro | refine And.intro rfl ?_)) (by repeat (first | exact True.intro | refine And.intro rfl ?_)) (List.Sublist.refl _) (by omega) (by omega)
                            · skip
                              refine TC.exit ?_
                              refine TQ.thenE ?_
                              refine TQ.thenE ?_
                              refine TQ.blkS ?_
                              refine TQ.thenC ?_
                              refine TC.seq ?_
                              refine TC.region ?_
                              refine TL.pure (PV.loadBox rfl Tb.agg_24 (by repeat (first | exact List.Mem.head _ | refine List.Mem.tail _ ?_ | refine List.mem_append_right _ ?_)) rfl) rfl (by decide) ?_
                              refine TL.pure (PV.fieldAddr rfl Tb.fo_65_1) rfl (by decide) ?_
                              refine TL.pure (PV.load rfl Tb.one_25 (by repeat (first | exact List.Mem.head _ | refine List.Mem.tail _ ?_ | refine List.mem_append_right _ ?_)) rfl) rfl (by decide) ?_
                              refine TL.call rfl Tb.gofn_41 (fun a w hs => IsInvariant_ok w _ _ _ _ (hr.new hs.new) hS _ _ (IsI.of (hw.new hs.new)) hlw) rfl (by decide) (fun _ _ => ?_)
                              refine TL.pure (PV.move rfl) rfl (by decide) ?_
                              refine TL.pure (PV.extract rfl rfl) rfl (by decide) ?_
                              refine TL.pure (PV.extract rfl rfl) rfl (by decide) ?_
                              refine TL.pure (PV.assign rfl) rfl (by decide) ?_
                              refine TL.pure (PV.assign rfl) rfl (by decide) ?_
                              refine TL.nil ?_
                              refine TQ.thenC ?_
                              refine TC.seq ?_
                              refine TC.region ?_
                              refine TL.pure (PV.loadBox rfl Tb.agg_24 (by repeat (first | exact List.Mem.head _ | refine List.Mem.tail _ ?_ | refine List.mem_append_right _ ?_)) rfl) rfl (by decide) ?_
                              refine TL.pure (PV.fieldAddr rfl Tb.fo_65_1) rfl (by decide) ?_
                              refine TL.pure (PV.load rfl Tb.one_25 (by repeat (first | exact List.Mem.head _ | refine List.Mem.tail _ ?_ | refine List.mem_append_right _ ?_)) rfl) rfl (by decide) ?_
                              refine TL.pure (PV.move rfl) rfl (by decide) ?_
                              refine TL.call rfl Tb.gofn_43 (fun a w hs => Weigh_ok w _ _ _ _ (hr.new hs.new) hS _ _ (IsI.of (hw.new hs.new)) hlw _ _ (IsI.of (hx.new hs.new)) hl) rfl (by decide) (fun _ _ => ?_)
                              refine TL.pure (PV.move rfl) rfl (by decide) ?_
                              refine TL.pure (PV.extract rfl rfl) rfl (by decide) ?_
                              refine TL.pure (PV.extract rfl rfl) rfl (by decide) ?_
                              refine TL.pure (PV.assign rfl) rfl (by decide) ?_
                              refine TL.pure (PV.assign rfl) rfl (by decide) ?_
                              refine TL.nil ?_
                              refine TQ.thenC ?_
                              refine TC.seq ?_
                              refine TC.region ?_
                              refine TL.pure (PV.loadBox rfl Tb.agg_24 (by repeat (first | exact List.Mem.head _ | refine List.Mem.tail _ ?_ | refine List.mem_append_right _ ?_)) rfl) rfl (by decide) ?_
                              refine TL.pure (PV.fieldAddr rfl Tb.fo_65_1) rfl (by decide) ?_
                              refine TL.pure (PV.load rfl Tb.one_25 (by repeat (first | exact List.Mem.head _ | refine List.Mem.tail _ ?_ | refine List.mem_append_right _ ?_)) rfl) rfl (by decide) ?_
                              refine TL.pure (PV.move rfl) rfl (by decide) ?_
                              refine TL.call rfl Tb.gofn_43 (fun a w hs => Weigh_ok w _ _ _ _ (hr.new hs.new) hS _ _ (IsI.of (hw.new hs.new)) hlw _ (runR n ss xs ls).1 (IsI.g hs.new (fun yy hyy => by repeat (first | exact List.mem_append_left _ hyy | exact List.mem_append_left _ (List.mem_append_right _ hyy) | exact List.mem_append_left _ (List.mem_append_left _ hyy) | refine List.mem_append_right _ ?_ | refine List.Mem.tail _ ?_)) hhA) (runR_l hl)) rfl (by decide) (fun _ _ => ?_)
                              refine TL.pure (PV.move rfl) rfl (by decide) ?_
                              refine TL.pure (PV.extract rfl rfl) rfl (by decide) ?_
                              refine TL.pure (PV.extract rfl rfl) rfl (by decide) ?_
                              refine TL.pure (PV.assign rfl) rfl (by decide) ?_
                              refine TL.pure (PV.assign rfl) rfl (by decide) ?_
                              refine TL.nil ?_
                              refine TQ.thenC ?_
                              refine TC.seqG [1, 3, 5, 6, 9, 12] (X := Unit) (fun x => True) (fun x => []) ?_ ?_
                              · skip
                                refine TC.seq ?_
                                refine TC.region ?_
                                refine TL.pure (PV.move rfl) rfl (by decide) ?_
                                refine TL.pure (PV.eql rfl rfl) rfl (by decide) ?_
                                refine TL.pure (PV.move rfl) rfl (by decide) ?_
                                first | refine TL.splitD 167 rfl (fun i1 => ?_) (fun i1 => ?_) | refine TL.split 167 rfl (fun i1 => ?_) (fun i1 => ?_)
                                · skip
                                  refine TL.pure (PV.move rfl) rfl (by decide) ?_
                                  refine TL.pure (PV.neq rfl rfl) rfl (by decide) ?_
                                  refine TL.pure (PV.move rfl) rfl (by decide) ?_
                                  first | refine TL.splitD 170 rfl (fun i2 => ?_) (fun i2 => ?_) | refine TL.split 170 rfl (fun i2 => ?_) (fun i2 => ?_)
                                  · skip
                                    exact absurd (by rw [(inv_all hrk i1).w1]) i2
                                  · skip
                                    refine TL.pure (PV.move rfl) rfl (by decide) ?_
                                    refine TL.pure (PV.neq rfl rfl) rfl (by decide) ?_
                                    refine TL.pure (PV.pickF rfl rfl) rfl (by decide) ?_
                                    refine TL.pure (PV.move rfl) rfl (by decide) ?_
                                    first | refine TL.splitD 174 rfl (fun i3 => ?_) (fun i3 => ?_) | refine TL.split 174 rfl (fun i3 => ?_) (fun i3 => ?_)
                                    · skip
                                      exact absurd (by rw [(inv_all hrk i1).w2]) i3
                                    · skip
                                      refine TL.pure (PV.move rfl) rfl (by decide) ?_
                                      refine TL.pure (PV.move rfl) rfl (by decide) ?_
                                      first | refine TL.splitD 176 rfl (fun i4 => ?_) (fun i4 => ?_) | refine TL.split 176 rfl (fun i4 => ?_) (fun i4 => ?_)
                                      · skip
                                        refine TL.pure (PV.move rfl) rfl (by decide) ?_
                                        refine TL.pure (PV.move rfl) rfl (by decide) ?_
                                        refine TL.pure (PV.neq rfl rfl) rfl (by decide) ?_
                                        refine TL.pure (PV.pickT rfl rfl) rfl (by decide) ?_
                                        refine TL.pure (PV.pickF rfl rfl) rfl (by decide) ?_
                                        refine TL.pure (PV.pickT rfl rfl) rfl (by decide) ?_
                                        refine TL.nil ?_
                                        refine TQ.thenC ?_
                                        first | refine TC.condD rfl (fun i5 => ?_) (fun i5 => ?_) | refine TC.cond rfl (fun i5 => ?_) (fun i5 => ?_)
                                        · skip
                                          exact absurd (by rw [(inv_all hrk i1).w1, (inv_all hrk i1).w2]; exact (inv_all hrk i1).k i4) i5
                                        · skip
                                          refine TC.skip ?_
                                          refine TQ.thenN ?_
                                          refine TQ.midK () (by repeat (first | exact True.intro | refine And.intro rfl ?_)) (by repeat (first | exact True.intro | refine And.intro rfl ?_)) (by repeat (first | exact List.Sublist.slnil | exact List.nil_sublist _ | exact List.Sublist.refl _ | refine List.Sublist.cons_cons _ ?_ | refine List.Sublist.cons _ ?_ | refine List.Sublist.trans ?_ (List.sublist_append_right _ _))) (by first | trivial | omega)
                                      · skip
                                        refine TL.skip rfl (fun k hk => by cases hk; decide) ?_
                                        refine TL.skip rfl (fun k hk => by cases hk; decide) ?_
                                        refine TL.skip rfl (fun k hk => by cases hk; decide) ?_
                                        refine TL.pure (PV.pickF rfl rfl) rfl (by decide) ?_
                                        refine TL.pure (PV.pickF rfl rfl) rfl (by decide) ?_
                                        refine TL.pure (PV.pickT rfl rfl) rfl (by decide) ?_
                                        refine TL.nil ?_
                                        refine TQ.thenC ?_
                                        refine TC.condF rfl ?_
                                        refine TC.skip ?_
                                        refine TQ.thenN ?_
                                        refine TQ.midK () (by repeat (first | exact True.intro | refine And.intro rfl ?_)) (by repeat (first | exact True.intro | refine And.intro rfl ?_)) (by repeat (first | exact List.Sublist.slnil | exact List.nil_sublist _ | exact List.Sublist.refl _ | refine List.Sublist.cons_cons _ ?_ | refine List.Sublist.cons _ ?_ | refine List.Sublist.trans ?_ (List.sublist_append_right _ _))) (by first | trivial | omega)
                                · skip
                                  refine TL.skip rfl (fun k hk => by cases hk; decide) ?_
                                  refine TL.skip rfl (fun k hk => by cases hk; decide) ?_
                                  refine TL.skip rfl (fun k hk => by cases hk; decide) ?_
                                  refine TL.skipU rfl (fun k hk => by cases hk; decide) ?_
                                  refine TL.skipU rfl (fun k hk => by cases hk; decide) ?_
                                  refine TL.skip rfl (fun k hk => by cases hk; decide) ?_
                                  refine TL.skip rfl (fun k hk => by cases hk; decide) ?_
                                  refine TL.skipU rfl (fun k hk => by cases hk; decide) ?_
                                  refine TL.skipU rfl (fun k hk => by cases hk; decide) ?_
                                  refine TL.skipU rfl (fun k hk => by cases hk; decide) ?_
                                  refine TL.skipU rfl (fun k hk => by cases hk; decide) ?_
                                  refine TL.skipU rfl (fun k hk => by cases hk; decide) ?_
                                  refine TL.skipU rfl (fun k hk => by cases hk; decide) ?_
                                  refine TL.skip rfl (fun k hk => by cases hk; decide) ?_
                                  refine TL.pure (PV.pickF rfl rfl) rfl (by decide) ?_
                                  refine TL.nil ?_
                                  refine TQ.thenC ?_
                                  refine TC.condF rfl ?_
                                  refine TC.skip ?_
                                  refine TQ.thenN ?_
                                  refine TQ.midK () (by repeat (first | exact True.intro | refine And.intro rfl ?_)) (by repeat (first | exact True.intro | refine And.intro rfl ?_)) (by repeat (first | exact List.Sublist.slnil | exact List.nil_sublist _ | exact List.Sublist.refl _ | refine List.Sublist.cons_cons _ ?_ | refine List.Sublist.cons _ ?_ | refine List.Sublist.trans ?_ (List.sublist_append_right _ _))) (by first | trivial | omega)
                              · skip
                                intro xj hj9
                                refine TC.lit [(1, _), (3, _), (5, _), (9, _), (12, _)] (by repeat (first | exact True.intro | refine And.intro rfl ?_)) ?_
                                refine TC.seq ?_
                                refine TC.region ?_
                                refine TL.pure (PV.loadBox rfl Tb.agg_24 (by repeat (first | exact List.Mem.head _ | refine List.Mem.tail _ ?_ | refine List.mem_append_right _ ?_)) rfl) rfl (by decide) ?_
                                refine TL.pure (PV.fieldAddr rfl Tb.fo_65_2) rfl (by decide) ?_
                                refine TL.pure (PV.load rfl Tb.one_25 (by repeat (first | exact List.Mem.head _ | refine List.Mem.tail _ ?_ | refine List.mem_append_right _ ?_)) rfl) rfl (by decide) ?_
                                refine TL.call rfl Tb.gofn_52 (fun a w hs => Siphon_ok w _ _ _ _ (hr.new hs.new) hS _ _ (IsI.of (hu.new hs.new)) hlu) rfl (by decide) (fun hSi hhSi => ?_)
                                refine TL.pure (PV.move rfl) rfl (by decide) ?_
                                refine TL.pure (PV.extract rfl rfl) rfl (by decide) ?_
                                refine TL.pure (PV.extract rfl rfl) rfl (by decide) ?_
                                refine TL.pure (PV.assign rfl) rfl (by decide) ?_
                                refine TL.pure (PV.assign rfl) rfl (by decide) ?_
                                refine TL.nil ?_
                                refine TQ.thenC ?_
                                refine TC.seq ?_
                                refine TC.region ?_
                                refine TL.pure (PV.loadBox rfl Tb.agg_24 (by repeat (first | exact List.Mem.head _ | refine List.Mem.tail _ ?_ | refine List.mem_append_right _ ?_)) rfl) rfl (by decide) ?_
                                refine TL.pure (PV.fieldAddr rfl Tb.fo_65_2) rfl (by decide) ?_
                                refine TL.pure (PV.load rfl Tb.one_25 (by repeat (first | exact List.Mem.head _ | refine List.Mem.tail _ ?_ | refine List.mem_append_right _ ?_)) rfl) rfl (by decide) ?_
                                refine TL.call rfl Tb.gofn_54 (fun a w hs => Trap_ok w _ _ _ _ (hr.new hs.new) hS _ _ (IsI.of (hu.new hs.new)) hlu) rfl (by decide) (fun hTr hhTr => ?_)
                                refine TL.pure (PV.move rfl) rfl (by decide) ?_
                                refine TL.pure (PV.extract rfl rfl) rfl (by decide) ?_
                                refine TL.pure (PV.extract rfl rfl) rfl (by decide) ?_
                                refine TL.pure (PV.assign rfl) rfl (by decide) ?_
                                refine TL.pure (PV.assign rfl) rfl (by decide) ?_
                                refine TL.nil ?_
                                refine TQ.thenC ?_
                                refine TC.seqG [1, 3, 5, 6, 9, 12] (X := Unit) (fun x => True) (fun x => []) ?_ ?_
                                · skip
                                  refine TC.seq ?_
                                  refine TC.region ?_
                                  refine TL.pure (PV.move rfl) rfl (by decide) ?_
                                  refine TL.pure (PV.eql rfl rfl) rfl (by decide) ?_
                                  refine TL.pure (PV.move rfl) rfl (by decide) ?_
                                  first | refine TL.splitD 199 rfl (fun j1 => ?_) (fun j1 => ?_) | refine TL.split 199 rfl (fun j1 => ?_) (fun j1 => ?_)
                                  · skip
                                    refine TL.pure (PV.move rfl) rfl (by decide) ?_
                                    refine TL.pure (PV.eql rfl rfl) rfl (by decide) ?_
                                    refine TL.pure (PV.pickT rfl rfl) rfl (by decide) ?_
                                    refine TL.nil ?_
                                    refine TQ.thenC ?_
                                    first | refine TC.condD rfl (fun j2 => ?_) (fun j2 => ?_) | refine TC.cond rfl (fun j2 => ?_) (fun j2 => ?_)
                                    · skip
                                      refine TC.seq ?_
                                      refine TC.region ?_
                                      refine TL.pure (PV.loadBox rfl Tb.agg_24 (by repeat (first | exact List.Mem.head _ | refine List.Mem.tail _ ?_ | refine List.mem_append_right _ ?_)) rfl) rfl (by decide) ?_
                                      refine TL.pure (PV.move rfl) rfl (by decide) ?_
                                      refine TL.call rfl Tb.gofn_48 (fun a w hs => IsSiphon_ok w _ _ _ _ (hr.new hs.new) hS _ _ (IsI.g (h := hSi) (xs := (grR 0 n ss zs).1) hs.new (fun yy hyy => by repeat (first | exact List.mem_append_left _ hyy | exact List.mem_append_left _ (List.mem_append_right _ hyy) | exact List.mem_append_left _ (List.mem_append_left _ hyy) | refine List.mem_append_right _ ?_ | refine List.Mem.tail _ ?_)) hhSi) (grR_l hlu)) rfl (by decide) (fun _ _ => ?_)
                                      refine TL.pure (PV.move rfl) rfl (by decide) ?_
                                      refine TL.pure (PV.extract rfl rfl) rfl (by decide) ?_
                                      refine TL.pure (PV.extract rfl rfl) rfl (by decide) ?_
                                      refine TL.pure (PV.assign rfl) rfl (by decide) ?_
                                      refine TL.pure (PV.assign rfl) rfl (by decide) ?_
                                      refine TL.nil ?_
                                      refine TQ.thenC ?_
                                      refine TC.seq ?_
                                      refine TC.region ?_
                                      refine TL.pure (PV.loadBox rfl Tb.agg_24 (by repeat (first | exact List.Mem.head _ | refine List.Mem.tail _ ?_ | refine List.mem_append_right _ ?_)) rfl) rfl (by decide) ?_
                                      refine TL.pure (PV.move rfl) rfl (by decide) ?_
                                      refine TL.call rfl Tb.gofn_50 (fun a w hs => IsTrap_ok w _ _ _ _ (hr.new hs.new) hS _ _ (IsI.g (h := hTr) (xs := (grR 1 n ss zs).1) hs.new (fun yy hyy => by repeat (first | exact List.mem_append_left _ hyy | exact List.mem_append_left _ (List.mem_append_right _ hyy) | exact List.mem_append_left _ (List.mem_append_left _ hyy) | refine List.mem_append_right _ ?_ | refine List.Mem.tail _ ?_)) hhTr) (grR_l hlu)) rfl (by decide) (fun _ _ => ?_)
                                      refine TL.pure (PV.move rfl) rfl (by decide) ?_
                                      refine TL.pure (PV.extract rfl rfl) rfl (by decide) ?_
                                      refine TL.pure (PV.extract rfl rfl) rfl (by decide) ?_
                                      refine TL.pure (PV.assign rfl) rfl (by decide) ?_
                                      refine TL.pure (PV.assign rfl) rfl (by decide) ?_
                                      refine TL.nil ?_
                                      refine TQ.thenC ?_
                                      refine TC.seq ?_
                                      refine TC.seq ?_
                                      rw [kind_gr 0 j1, kind_gr 1 j2]
                                      refine TC.region ?_
                                      refine TL.pure (PV.move rfl) rfl (by decide) ?_
                                      refine TL.pure (PV.neq rfl rfl) rfl (by decide) ?_
                                      refine TL.pure (PV.move rfl) rfl (by decide) ?_
                                      first | refine TL.splitD 217 rfl (fun j3 => ?_) (fun j3 => ?_) | refine TL.split 217 rfl (fun j3 => ?_) (fun j3 => ?_)
                                      · skip
                                        exact absurd rfl j3
                                      · skip
                                        refine TL.pure (PV.move rfl) rfl (by decide) ?_
                                        refine TL.pure (PV.neq rfl rfl) rfl (by decide) ?_
                                        refine TL.pure (PV.pickF rfl rfl) rfl (by decide) ?_
                                        refine TL.pure (PV.move rfl) rfl (by decide) ?_
                                        first | refine TL.splitD 221 rfl (fun j4 => ?_) (fun j4 => ?_) | refine TL.split 221 rfl (fun j4 => ?_) (fun j4 => ?_)
                                        · skip
                                          exact absurd rfl j4
                                        · skip
                                          refine TL.pure (PV.move rfl) rfl (by decide) ?_
                                          refine TL.pure ((by first | exact PV.notD rfl | exact PV.not rfl)) rfl (by decide) ?_
                                          refine TL.pure (PV.pickF rfl rfl) rfl (by decide) ?_
                                          refine TL.pure (PV.move rfl) rfl (by decide) ?_
                                          first | refine TL.splitD 225 rfl (fun j5 => ?_) (fun j5 => ?_) | refine TL.split 225 rfl (fun j5 => ?_) (fun j5 => ?_)
                                          · skip
                                            exact absurd j5 (by decide)
                                          · skip
                                            refine TL.pure (PV.move rfl) rfl (by decide) ?_
                                            refine TL.pure ((by first | exact PV.notD rfl | exact PV.not rfl)) rfl (by decide) ?_
                                            refine TL.pure (PV.pickF rfl rfl) rfl (by decide) ?_
                                            refine TL.nil ?_
                                            refine TQ.thenC ?_
                                            first | refine TC.condD rfl (fun j6 => ?_) (fun j6 => ?_) | refine TC.cond rfl (fun j6 => ?_) (fun j6 => ?_)
                                            · skip
                                              exact absurd j6 (by decide)
                                            · skip
                                              refine TC.skip ?_
                                              refine TQ.thenC ?_
                                              refine TC.seq ?_
                                              refine TC.region ?_
                                              refine TL.pure (PV.move rfl) rfl (by decide) ?_
                                              refine TL.pure (PV.move rfl) rfl (by decide) ?_
                                              refine TL.call rfl Tb.gofn_60 (fun a w hs => held_ok w _ _ (IsI.of (hx.new hs.new)) _ _ (IsI.g (h := hSi) (xs := (grR 0 n ss zs).1) hs.new (fun yy hyy => by repeat (first | exact List.mem_append_left _ hyy | exact List.mem_append_left _ (List.mem_append_right _ hyy) | exact List.mem_append_left _ (List.mem_append_left _ hyy) | refine List.mem_append_right _ ?_ | refine List.Mem.tail _ ?_)) hhSi) (grR_l hlu) hrk.vm.b1000) rfl (by decide) (fun _ _ => ?_)
                                              refine TL.pure (PV.eql rfl rfl) rfl (by decide) ?_
                                              refine TL.pure (PV.move rfl) rfl (by decide) ?_
                                              first | refine TL.splitD 233 rfl (fun k1 => ?_) (fun k1 => ?_) | refine TL.split 233 rfl (fun k1 => ?_) (fun k1 => ?_)
                                              · skip
                                                refine TL.pure (PV.move rfl) rfl (by decide) ?_
                                                refine TL.pure (PV.move rfl) rfl (by decide) ?_
                                                refine TL.call rfl Tb.gofn_60 (fun a w hs => held_ok w _ _ (IsI.g (h := hA) (xs := (runR n ss xs ls).1) hs.new (fun yy hyy => by repeat (first | exact List.mem_append_left _ hyy | exact List.mem_append_left _ (List.mem_append_right _ hyy) | exact List.mem_append_left _ (List.mem_append_left _ hyy) | refine List.mem_append_right _ ?_ | refine List.Mem.tail _ ?_)) hhA) _ _ (IsI.g (h := hSi) (xs := (grR 0 n ss zs).1) hs.new (fun yy hyy => by repeat (first | exact List.mem_append_left _ hyy | exact List.mem_append_left _ (List.mem_append_right _ hyy) | exact List.mem_append_left _ (List.mem_append_left _ hyy) | refine List.mem_append_right _ ?_ | refine List.Mem.tail _ ?_)) hhSi) (grR_l hlu) hrk.vme.b1000) rfl (by decide) (fun _ _ => ?_)
                                                refine TL.pure (PV.neq rfl rfl) rfl (by decide) ?_
                                                refine TL.pure (PV.pickT rfl rfl) rfl (by decide) ?_
                                                refine TL.pure (PV.move rfl) rfl (by decide) ?_
                                                first | refine TL.splitD 239 rfl (fun k2 => ?_) (fun k2 => ?_) | refine TL.split 239 rfl (fun k2 => ?_) (fun k2 => ?_)
                                                · skip
                                                  exact absurd (run_sip hrk (fun h => h j1) k1) k2
                                                · skip
                                                  refine TL.pure (PV.move rfl) rfl (by decide) ?_
                                                  refine TL.pure (PV.move rfl) rfl (by decide) ?_
                                                  refine TL.call rfl Tb.gofn_60 (fun a w hs => held_ok w _ _ (IsI.of (hx.new hs.new)) _ _ (IsI.g (h := hTr) (xs := (grR 1 n ss zs).1) hs.new (fun yy hyy => by repeat (first | exact List.mem_append_left _ hyy | exact List.mem_append_left _ (List.mem_append_right _ hyy) | exact List.mem_append_left _ (List.mem_append_left _ hyy) | refine List.mem_append_right _ ?_ | refine List.Mem.tail _ ?_)) hhTr) (grR_l hlu) hrk.vm.b1000) rfl (by decide) (fun _ _ => ?_)
                                                  refine TL.pure (PV.gtr rfl rfl) rfl (by decide) ?_
                                                  refine TL.pure (PV.move rfl) rfl (by decide) ?_
                                                  first | refine TL.splitD 244 rfl (fun k3 => ?_) (fun k3 => ?_) | refine TL.split 244 rfl (fun k3 => ?_) (fun k3 => ?_)
                                                  · skip
                                                    refine TL.pure (PV.move rfl) rfl (by decide) ?_
                                                    refine TL.pure (PV.move rfl) rfl (by decide) ?_
                                                    refine TL.call rfl Tb.gofn_60 (fun a w hs => held_ok w _ _ (IsI.g (h := hA) (xs := (runR n ss xs ls).1) hs.new (fun yy hyy => by repeat (first | exact List.mem_append_left _ hyy | exact List.mem_append_left _ (List.mem_append_right _ hyy) | exact List.mem_append_left _ (List.mem_append_left _ hyy) | refine List.mem_append_right _ ?_ | refine List.Mem.tail _ ?_)) hhA) _ _ (IsI.g (h := hTr) (xs := (grR 1 n ss zs).1) hs.new (fun yy hyy => by repeat (first | exact List.mem_append_left _ hyy | exact List.mem_append_left _ (List.mem_append_right _ hyy) | exact List.mem_append_left _ (List.mem_append_left _ hyy) | refine List.mem_append_right _ ?_ | refine List.Mem.tail _ ?_)) hhTr) (grR_l hlu) hrk.vme.b1000) rfl (by decide) (fun _ _ => ?_)
                                                    refine TL.pure (PV.leq rfl rfl) rfl (by decide) ?_
                                                    refine TL.pure (PV.pickT rfl rfl) rfl (by decide) ?_
                                                    refine TL.pure (PV.pickF rfl rfl) rfl (by decide) ?_
                                                    refine TL.nil ?_
                                                    refine TQ.thenC ?_
                                                    first | refine TC.condD rfl (fun k4 => ?_) (fun k4 => ?_) | refine TC.cond rfl (fun k4 => ?_) (fun k4 => ?_)
                                                    · skip
                                                      exact absurd (run_trap hrk (fun h => h j2) (by omega)) (by omega)
                                                    · skip
                                                      refine TC.skip ?_
                                                      refine TQ.thenN ?_
                                                      refine TQ.midK () (by repeat (first | exact True.intro | refine And.intro rfl ?_)) (by repeat (first | exact True.intro | refine And.intro rfl ?_)) (by repeat (first | exact List.Sublist.slnil | exact List.nil_sublist _ | exact List.Sublist.refl _ | refine List.Sublist.cons_cons _ ?_ | refine List.Sublist.cons _ ?_ | refine List.Sublist.trans ?_ (List.sublist_append_right _ _))) (by first | trivial | omega)
                                                  · skip
                                                    refine TL.skip rfl (fun k hk => by cases hk; decide) ?_
                                                    refine TL.skip rfl (fun k hk => by cases hk; decide) ?_
                                                    refine TL.skip rfl (fun k hk => by cases hk; decide) ?_
                                                    refine TL.skip rfl (fun k hk => by cases hk; decide) ?_
                                                    refine TL.pure (PV.pickF rfl rfl) rfl (by decide) ?_
                                                    refine TL.pure (PV.pickF rfl rfl) rfl (by decide) ?_
                                                    refine TL.nil ?_
                                                    refine TQ.thenC ?_
                                                    refine TC.condF rfl ?_
                                                    refine TC.skip ?_
                                                    refine TQ.thenN ?_
                                                    refine TQ.midK () (by repeat (first | exact True.intro | refine And.intro rfl ?_)) (by repeat (first | exact True.intro | refine And.intro rfl ?_)) (by repeat (first | exact List.Sublist.slnil | exact List.nil_sublist _ | exact List.Sublist.refl _ | refine List.Sublist.cons_cons _ ?_ | refine List.Sublist.cons _ ?_ | refine List.Sublist.trans ?_ (List.sublist_append_right _ _))) (by first | trivial | omega)
                                              · skip
                                                refine TL.skip rfl (fun k hk => by cases hk; decide) ?_
                                                refine TL.skip rfl (fun k hk => by cases hk; decide) ?_
                                                refine TL.skip rfl (fun k hk => by cases hk; decide) ?_
                                                refine TL.skip rfl (fun k hk => by cases hk; decide) ?_
                                                refine TL.pure (PV.pickF rfl rfl) rfl (by decide) ?_
                                                refine TL.pure (PV.move rfl) rfl (by decide) ?_
                                                refine TL.pure (PV.move rfl) rfl (by decide) ?_
                                                refine TL.pure (PV.move rfl) rfl (by decide) ?_
                                                refine TL.call rfl Tb.gofn_60 (fun a w hs => held_ok w _ _ (IsI.of (hx.new hs.new)) _ _ (IsI.g (h := hTr) (xs := (grR 1 n ss zs).1) hs.new (fun yy hyy => by repeat (first | exact List.mem_append_left _ hyy | exact List.mem_append_left _ (List.mem_append_right _ hyy) | exact List.mem_append_left _ (List.mem_append_left _ hyy) | refine List.mem_append_right _ ?_ | refine List.Mem.tail _ ?_)) hhTr) (grR_l hlu) hrk.vm.b1000) rfl (by decide) (fun _ _ => ?_)
                                                refine TL.pure (PV.gtr rfl rfl) rfl (by decide) ?_
                                                refine TL.pure (PV.move rfl) rfl (by decide) ?_
                                                first | refine TL.splitD 244 rfl (fun k3 => ?_) (fun k3 => ?_) | refine TL.split 244 rfl (fun k3 => ?_) (fun k3 => ?_)
                                                · skip
                                                  refine TL.pure (PV.move rfl) rfl (by decide) ?_
                                                  refine TL.pure (PV.move rfl) rfl (by decide) ?_
                                                  refine TL.call rfl Tb.gofn_60 (fun a w hs => held_ok w _ _ (IsI.g (h := hA) (xs := (runR n ss xs ls).1) hs.new (fun yy hyy => by repeat (first | exact List.mem_append_left _ hyy | exact List.mem_append_left _ (List.mem_append_right _ hyy) | exact List.mem_append_left _ (List.mem_append_left _ hyy) | refine List.mem_append_right _ ?_ | refine List.Mem.tail _ ?_)) hhA) _ _ (IsI.g (h := hTr) (xs := (grR 1 n ss zs).1) hs.new (fun yy hyy => by repeat (first | exact List.mem_append_left _ hyy | exact List.mem_append_left _ (List.mem_append_right _ hyy) | exact List.mem_append_left _ (List.mem_append_left _ hyy) | refine List.mem_append_right _ ?_ | refine List.Mem.tail _ ?_)) hhTr) (grR_l hlu) hrk.vme.b1000) rfl (by decide) (fun _ _ => ?_)
                                                  refine TL.pure (PV.leq rfl rfl) rfl (by decide) ?_
                                                  refine TL.pure (PV.pickT rfl rfl) rfl (by decide) ?_
                                                  refine TL.pure (PV.pickF rfl rfl) rfl (by decide) ?_
                                                  refine TL.nil ?_
                                                  refine TQ.thenC ?_
                                                  first | refine TC.condD rfl (fun k4 => ?_) (fun k4 => ?_) | refine TC.cond rfl (fun k4 => ?_) (fun k4 => ?_)
                                                  · skip
                                                    exact absurd (run_trap hrk (fun h => h j2) (by omega)) (by omega)
                                                  · skip
                                                    refine TC.skip ?_
                                                    refine TQ.thenN ?_
                                                    refine TQ.midK () (by repeat (first | exact True.intro | refine And.intro rfl ?_)) (by repeat (first | exact True.intro | refine And.intro rfl ?_)) (by repeat (first | exact List.Sublist.slnil | exact List.nil_sublist _ | exact List.Sublist.refl _ | refine List.Sublist.cons_cons _ ?_ | refine List.Sublist.cons _ ?_ | refine List.Sublist.trans ?_ (List.sublist_append_right _ _))) (by first | trivial | omega)
                                                · skip
                                                  refine TL.skip rfl (fun k hk => by cases hk; decide) ?_
                                                  refine TL.skip rfl (fun k hk => by cases hk; decide) ?_
                                                  refine TL.skip rfl (fun k hk => by cases hk; decide) ?_
                                                  refine TL.skip rfl (fun k hk => by cases hk; decide) ?_
                                                  refine TL.pure (PV.pickF rfl rfl) rfl (by decide) ?_
                                                  refine TL.pure (PV.pickF rfl rfl) rfl (by decide) ?_
                                                  refine TL.nil ?_
                                                  refine TQ.thenC ?_
                                                  refine TC.condF rfl ?_
                                                  refine TC.skip ?_
                                                  refine TQ.thenN ?_
                                                  refine TQ.midK () (by repeat (first | exact True.intro | refine And.intro rfl ?_)) (by repeat (first | exact True.intro | refine And.intro rfl ?_)) (by repeat (first | exact List.Sublist.slnil | exact List.nil_sublist _ | exact List.Sublist.refl _ | refine List.Sublist.cons_cons _ ?_ | refine List.Sublist.cons _ ?_ | refine List.Sublist.trans ?_ (List.sublist_append_right _ _))) (by first | trivial | omega)
                                    · skip
                                      refine TC.skip ?_
                                      refine TQ.thenN ?_
                                      refine TQ.midK () (by repeat (first | exact True.intro | refine And.intro rfl ?_)) (by repeat (first | exact True.intro | refine And.intro rfl ?_)) (by repeat (first | exact List.Sublist.slnil | exact List.nil_sublist _ | exact List.Sublist.refl _ | refine List.Sublist.cons_cons _ ?_ | refine List.Sublist.cons _ ?_ | refine List.Sublist.trans ?_ (List.sublist_append_right _ _))) (by first | trivial | omega)
                                  · skip
                                    refine TL.skip rfl (fun k hk => by cases hk; decide) ?_
                                    refine TL.skip rfl (fun k hk => by cases hk; decide) ?_
                                    refine TL.pure (PV.pickF rfl rfl) rfl (by decide) ?_
                                    refine TL.nil ?_
                                    refine TQ.thenC ?_
                                    refine TC.condF rfl ?_
                                    refine TC.skip ?_
                                    refine TQ.thenN ?_
                                    refine TQ.midK () (by repeat (first | exact True.intro | refine And.intro rfl ?_)) (by repeat (first | exact True.intro | refine And.intro rfl ?_)) (by repeat (first | exact List.Sublist.slnil | exact List.nil_sublist _ | exact List.Sublist.refl _ | refine List.Sublist.cons_cons _ ?_ | refine List.Sublist.cons _ ?_ | refine List.Sublist.trans ?_ (List.sublist_append_right _ _))) (by first | trivial | omega)
                                · skip
                                  intro xj hj9
                                  refine TC.lit [(1, _), (3, _), (5, _), (9, _), (12, _)] (by repeat (first | exact True.intro | refine And.intro rfl ?_)) ?_
                                  refine TC.seqK [1, 3, 5, 6, 9] (X := Unit) (fun x => True) (fun x => []) (fun x => gbI (hTr, (grR 1 n ss zs).1) ++ (gbI (hSi, (grR 0 n ss zs).1) ++ (gbI (hE, (effN ss (cntN ss.length ls) xs.length)) ++ (gbI (hC, cntN ss.length ls) ++ (gbI (hA, (runR n ss xs ls).1) ++ [(b1, Obj.cells #[.slice pz ls.length cz, .slice pw ws.length cw, .slice pu zs.length cu] 65 (0, 0)), (b0, Obj.cells #[.int .i64 n, .slice p ss.length cp] 24 (0, 0))]))))) ?_ ?_
                                  · skip
                                    refine TC.seq ?_
                                    refine TC.region ?_
                                    refine TL.pure (PV.fieldAddr rfl Tb.fo_65_0) rfl (by decide) ?_
                                    refine TL.pure (PV.load rfl Tb.one_25 (by repeat (first | exact List.Mem.head _ | refine List.Mem.tail _ ?_ | refine List.mem_append_right _ ?_)) rfl) rfl (by decide) ?_
                                    refine TL.pure (PV.len rfl Tb.sl_25) rfl (by decide) ?_
                                    refine TL.pure (PV.leq rfl rfl) rfl (by decide) ?_
                                    refine TL.nil ?_
                                    refine TQ.thenC ?_
                                    first | refine TC.condD rfl (fun l8 => ?_) (fun l8 => ?_) | refine TC.cond rfl (fun l8 => ?_) (fun l8 => ?_)
                                    · skip
                                      refine TC.seq ?_
                                      refine TC.region ?_
                                      refine TL.pure (PV.loadBox rfl Tb.agg_24 (by repeat (first | exact List.Mem.head _ | refine List.Mem.tail _ ?_ | refine List.mem_append_right _ ?_)) rfl) rfl (by decide) ?_
                                      refine TL.pure (PV.move rfl) rfl (by decide) ?_
                                      refine TL.pure (PV.move rfl) rfl (by decide) ?_
                                      refine TL.call rfl Tb.gofn_35 (fun a w hs => Order_ok w _ _ _ _ (hr.new hs.new) hS _ _ (IsI.of (hx.new hs.new)) hl _ (cntN ss.length ls) (IsI.g hs.new (fun yy hyy => by repeat (first | exact List.mem_append_left _ hyy | exact List.mem_append_left _ (List.mem_append_right _ hyy) | exact List.mem_append_left _ (List.mem_append_left _ hyy) | refine List.mem_append_right _ ?_ | refine List.Mem.tail _ ?_)) hhC) (by unfold cntN; rw [mk_len]; have := hrk.vm.toVY.len; omega)) rfl (by decide) (fun hO hhO => ?_)
                                      obtain ⟨os, hos, hord⟩ := ordered hrk (by omega)
                                      have hol : os.length ≤ 1000000 := by have h9 := ordR_l (n := n) (ss := ss) (m := xs) (cs := cntN ss.length ls); rw [hos] at h9; exact h9
                                      rw [hos] at hhO
                                      rw [hos]
                                      refine TL.pure (PV.move rfl) rfl (by decide) ?_
                                      refine TL.pure (PV.extract rfl rfl) rfl (by decide) ?_
                                      refine TL.pure (PV.extract rfl rfl) rfl (by decide) ?_
                                      refine TL.pure (PV.extract rfl rfl) rfl (by decide) ?_
                                      refine TL.pure (PV.assign rfl) rfl (by decide) ?_
                                      refine TL.pure (PV.assign rfl) rfl (by decide) ?_
                                      refine TL.pure (PV.assign rfl) rfl (by decide) ?_
                                      refine TL.nil ?_
                                      refine TQ.thenC ?_
                                      refine TC.seq ?_
                                      refine TC.region ?_
                                      refine TL.pure (PV.loadBox rfl Tb.agg_24 (by repeat (first | exact List.Mem.head _ | refine List.Mem.tail _ ?_ | refine List.mem_append_right _ ?_)) rfl) rfl (by decide) ?_
                                      refine TL.pure (PV.move rfl) rfl (by decide) ?_
                                      refine TL.pure (PV.move rfl) rfl (by decide) ?_
                                      refine TL.call rfl Tb.gofn_27 (fun a w hs => Run_ok w _ _ _ _ (hr.new hs.new) hS _ _ (IsI.of (hx.new hs.new)) hl _ os (IsI.g hs.new (fun yy hyy => by repeat (first | exact List.mem_append_left _ hyy | exact List.mem_append_left _ (List.mem_append_right _ hyy) | exact List.mem_append_left _ (List.mem_append_left _ hyy) | refine List.mem_append_right _ ?_ | refine List.Mem.tail _ ?_)) hhO) hol) rfl (by decide) (fun hQ hhQ => ?_)
                                      rw [hord.end_] at hhQ
                                      rw [hord.end_]
                                      refine TL.pure (PV.move rfl) rfl (by decide) ?_
                                      refine TL.pure (PV.extract rfl rfl) rfl (by decide) ?_
                                      refine TL.pure (PV.extract rfl rfl) rfl (by decide) ?_
                                      refine TL.pure (PV.extract rfl rfl) rfl (by decide) ?_
                                      refine TL.pure (PV.assign rfl) rfl (by decide) ?_
                                      refine TL.pure (PV.assign rfl) rfl (by decide) ?_
                                      refine TL.pure (PV.assign rfl) rfl (by decide) ?_
                                      refine TL.nil ?_
                                      refine TQ.thenC ?_
                                      refine TC.seq ?_
                                      refine TC.region ?_
                                      refine TL.pure (PV.move rfl) rfl (by decide) ?_
                                      refine TL.pure (PV.neq rfl rfl) rfl (by decide) ?_
                                      refine TL.pure (PV.move rfl) rfl (by decide) ?_
                                      first | refine TL.splitD 273 rfl (fun o1 => ?_) (fun o1 => ?_) | refine TL.split 273 rfl (fun o1 => ?_) (fun o1 => ?_)
                                      · skip
                                        exact absurd rfl o1
                                      · skip
                                        refine TL.pure (PV.move rfl) rfl (by decide) ?_
                                        refine TL.pure ((by first | exact PV.notD rfl | exact PV.not rfl)) rfl (by decide) ?_
                                        refine TL.pure (PV.pickF rfl rfl) rfl (by decide) ?_
                                        refine TL.pure (PV.move rfl) rfl (by decide) ?_
                                        first | refine TL.splitD 277 rfl (fun o2 => ?_) (fun o2 => ?_) | refine TL.split 277 rfl (fun o2 => ?_) (fun o2 => ?_)
                                        · skip
                                          exact absurd o2 (by simp)
                                        · skip
                                          refine TL.pure (PV.move rfl) rfl (by decide) ?_
                                          refine TL.pure (PV.neq rfl rfl) rfl (by decide) ?_
                                          refine TL.pure (PV.pickF rfl rfl) rfl (by decide) ?_
                                          refine TL.pure (PV.move rfl) rfl (by decide) ?_
                                          first | refine TL.splitD 281 rfl (fun o3 => ?_) (fun o3 => ?_) | refine TL.split 281 rfl (fun o3 => ?_) (fun o3 => ?_)
                                          · skip
                                            exact absurd hord.ok o3
                                          · skip
                                            refine TL.pure (PV.move rfl) rfl (by decide) ?_
                                            refine TL.pure (PV.move rfl) rfl (by decide) ?_
                                            refine TL.call rfl Tb.gofn_26 (fun a w hs => sameGG w0 w _ hQ hA ((runR n ss xs ls).1) ((runR n ss xs ls).1) hs.new hhQ hhA (fun yy hyy => by repeat (first | exact List.mem_append_left _ hyy | exact List.mem_append_left _ (List.mem_append_right _ hyy) | exact List.mem_append_left _ (List.mem_append_left _ hyy) | refine List.mem_append_right _ ?_ | refine List.Mem.tail _ ?_)) (fun yy hyy => by repeat (first | exact List.mem_append_left _ hyy | exact List.mem_append_left _ (List.mem_append_right _ hyy) | exact List.mem_append_left _ (List.mem_append_left _ hyy) | refine List.mem_append_right _ ?_ | refine List.Mem.tail _ ?_)) (runR_l hl) (runR_l hl)) rfl (by decide) (fun _ _ => ?_)
                                            refine TL.pure ((by first | exact PV.notD rfl | exact PV.not rfl)) rfl (by decide) ?_
                                            refine TL.pure (PV.pickF rfl rfl) rfl (by decide) ?_
                                            refine TL.nil ?_
                                            refine TQ.thenC ?_
                                            first | refine TC.condD rfl (fun o4 => ?_) (fun o4 => ?_) | refine TC.cond rfl (fun o4 => ?_) (fun o4 => ?_)
                                            · skip
                                              exact absurd o4 (by simp)
                                            · skip
                                              refine TC.skip ?_
                                              refine TQ.thenN ?_
                                              refine TQ.midK () (by repeat (first | exact True.intro | refine And.intro rfl ?_)) (by repeat (first | exact True.intro | refine And.intro rfl ?_)) (by first | exact List.Sublist.refl _ | exact List.Sublist.trans (List.sublist_append_right _ _) (List.sublist_append_right _ _)) (by first | trivial | omega)
                                    · skip
                                      refine TC.skip ?_
                                      refine TQ.thenN ?_
                                      refine TQ.midK () (by repeat (first | exact True.intro | refine And.intro rfl ?_)) (by repeat (first | exact True.intro | refine And.intro rfl ?_)) (by first | exact List.Sublist.refl _ | exact List.Sublist.trans (List.sublist_append_right _ _) (List.sublist_append_right _ _)) (by first | trivial | omega)
                                  · skip
                                    intro xj hj9
                                    refine TC.lit [(1, _), (3, _), (5, _), (9, _)] (by repeat (first | exact True.intro | refine And.intro rfl ?_)) ?_
                                    refine TC.seq ?_
                                    refine TC.region ?_
                                    refine TL.pure (PV.loadBox rfl Tb.agg_24 (by repeat (first | exact List.Mem.head _ | refine List.Mem.tail _ ?_ | refine List.mem_append_right _ ?_)) rfl) rfl (by decide) ?_
                                    refine TL.call rfl Tb.gofn_47 (fun a w hs => TurnY w _ n ss (IsY.of (hr.new hs.new)) hS) rfl (by decide) (fun y1 hy1 => ?_)
                                    refine TL.pure (PV.move rfl) rfl (by decide) ?_
                                    refine TL.pure (PV.extract rfl rfl) rfl (by decide) ?_
                                    refine TL.pure (PV.extract rfl rfl) rfl (by decide) ?_
                                    refine TL.alloc Tb.zero_24 rfl (by decide) (fun bA hbA => ?_)
                                    refine TL.storeAgg (vs := [.int .i64 (trnR n ss).1, gval y1.1 (trnR n ss).2.length]) rfl rfl Tb.cells_24 (by repeat (first | exact Upd.head _ | apply Upd.tail | apply Upd.appR)) rfl rfl (sv_one _ _ _) rfl rfl ?_
                                    refine TL.pure (PV.assign rfl) rfl (by decide) ?_
                                    refine TL.nil ?_
                                    refine TQ.thenC ?_
                                    refine TC.seq ?_
                                    refine TC.region ?_
                                    refine TL.pure (PV.assign rfl) rfl (by decide) ?_
                                    refine TL.nil ?_
                                    refine TQ.thenC ?_
                                    refine TC.seq ?_
                                    refine TC.seq ?_
                                    refine TC.region ?_
                                    refine TL.pure (PV.fieldAddr rfl Tb.fo_65_0) rfl (by decide) ?_
                                    refine TL.pure (PV.load rfl Tb.one_25 (by repeat (first | exact List.Mem.head _ | refine List.Mem.tail _ ?_ | refine List.mem_append_right _ ?_)) rfl) rfl (by decide) ?_
                                    refine TL.pure (PV.len rfl Tb.sl_25) rfl (by decide) ?_
                                    refine TL.pure (PV.sub rfl rfl (by omega)) rfl (by decide) ?_
                                    refine TL.pure (PV.assign rfl) rfl (by decide) ?_
                                    refine TL.nil ?_
                                    refine TQ.thenC ?_
                                    refine TC.block ?_
                                    refine TC.lit [(1, _), (5, _), (9, _), (11, _), (32, _), (33, _), (34, _)] (by repeat (first | exact True.intro | refine And.intro rfl ?_)) ?_
                                    refine TC.loopK [1, 5, 6, 9, 11, 32] (X := Nat × HD) (fun x => x.1 ≤ ls.length ∧ goI (x.2, mk x.1 (bkF ls))) (fun x => [(34, .int .i64 ((ls.length : Int) - 1 - x.1)), (33, gval x.2 x.1)]) (fun x => gbI (x.2, mk x.1 (bkF ls)) ++ ((bA, Obj.cells #[.int .i64 (trnR n ss).1, gval y1.1 (trnR n ss).2.length] 24 (0, 0)) :: (ydB y1 ++ (gbI (hA, (runR n ss xs ls).1) ++ [(b1, Obj.cells #[.slice pz ls.length cz, .slice pw ws.length cw, .slice pu zs.length cu] 65 (0, 0)), (b0, Obj.cells #[.int .i64 n, .slice p ss.length cp] 24 (0, 0))])))) (fun x => ls.length - x.1) (0, none) ⟨Nat.zero_le _, goI_nil⟩ (by refine And.intro ?_ (And.intro rfl True.intro); show some (Value.int .i64 _) = some (Value.int .i64 _); congr 2; simp) (by show List.Sublist ((bA, Obj.cells #[.int .i64 (trnR n ss).1, gval y1.1 (trnR n ss).2.length] 24 (0, 0)) :: (ydB y1 ++ (gbI (hA, (runR n ss xs ls).1) ++ [(b1, Obj.cells #[.slice pz ls.length cz, .slice pw ws.length cw, .slice pu zs.length cu] 65 (0, 0)), (b0, Obj.cells #[.int .i64 n, .slice p ss.length cp] 24 (0, 0))]))) _; refine List.Sublist.cons_cons _ (List.Sublist.append_left ?_ _); repeat (first | exact List.Sublist.refl _ | refine List.Sublist.trans ?_ (List.sublist_append_right _ _))) ?_
                                    intro x hx9
                                    refine TC.lit [(1, _), (5, _), (9, _), (11, _), (32, _), (33, _), (34, _)] (by repeat (first | exact True.intro | refine And.intro rfl ?_)) ?_
                                    refine TC.seq ?_
                                    refine TC.seq ?_
                                    refine TC.region ?_
                                    refine TL.pure (PV.move rfl) rfl (by decide) ?_
                                    refine TL.pure (PV.geq rfl rfl) rfl (by decide) ?_
                                    refine TL.nil ?_
                                    refine TQ.thenC ?_
                                    first | refine TC.condD rfl (fun hlt2 => ?_) (fun hlt2 => ?_) | refine TC.cond rfl (fun hlt2 => ?_) (fun hlt2 => ?_)
                                    · skip
                                      refine TC.skip ?_
                                      refine TQ.thenC ?_
                                      refine TC.seq ?_
                                      refine TC.block ?_
                                      obtain ⟨q1, hq1p, hq1⟩ := hz (ls.length - 1 - x.1) (by omega)
                                      refine TC.region ?_
                                      refine TL.pure (PV.move rfl) rfl (by decide) ?_
                                      refine TL.pure (PV.fieldAddr rfl Tb.fo_65_0) rfl (by decide) ?_
                                      refine TL.pure (PV.load rfl Tb.one_25 (by repeat (first | exact List.Mem.head _ | refine List.Mem.tail _ ?_ | refine List.mem_append_right _ ?_)) rfl) rfl (by decide) ?_
                                      refine TL.pure (PV.move rfl) rfl (by decide) ?_
                                      refine TL.pure (PV.indexA (j := ls.length - 1 - x.1) rfl hq1p rfl Tb.elm_25 (by omega) (by omega)) rfl (by decide) ?_
                                      refine TL.pure (PV.loadOld rfl Tb.one_3 hq1) rfl (by decide) ?_
                                      refine TL.buildSlice (cs := #[.int .i64 (bkF ls x.1)]) rfl Tb.sl_25 Tb.zi_3 (by decide) (fill_i _) (by decide) rfl (by decide) (fun bE hbE => ?_)
                                      refine TL.appendI (x0 := (x.2, mk x.1 (bkF ls))) (by show some (gval x.2 x.1) = some (gval x.2 (mk x.1 _).length); rw [mk_len]) rfl (by repeat (first | exact List.Mem.head _ | refine List.Mem.tail _ ?_ | refine List.mem_append_right _ ?_)) hx9.2 (by repeat (first | exact TakeH.here _ _ _ _ | apply TakeH.tail | apply TakeH.app)) (by show (mk x.1 _).length ≤ 1000000; rw [mk_len]; omega) rfl (by decide) (fun hh hho => ?_)
                                      refine TL.pure (PV.assign rfl) rfl (by decide) ?_
                                      refine TL.nil ?_
                                      refine TQ.blkN ?_
                                      refine TQ.thenC ?_
                                      refine TC.region ?_
                                      refine TL.pure (PV.move rfl) rfl (by decide) ?_
                                      refine TL.pure (PV.sub rfl rfl (by omega)) rfl (by decide) ?_
                                      refine TL.pure (PV.assign rfl) rfl (by decide) ?_
                                      refine TL.nil ?_
                                      refine TQ.thenN ?_
                                      refine TQ.backK (x.1 + 1, hh) (by refine And.intro ?_ (And.intro ?_ True.intro); (show some (Value.int .i64 _) = some (Value.int .i64 _); congr 2; simp only; omega); (show some (gval hh (mk x.1 _ ++ [_]).length) = some (gval hh (x.1 + 1)); rw [List.length_append, mk_len]; rfl)) (by repeat (first | exact True.intro | refine And.intro rfl ?_)) (by simp only [mk_succ]; exact List.Sublist.append_left (List.sublist_cons_self _ _) _) ⟨by simp only; omega, by simp only; rw [mk_succ]; exact hho⟩ (by simp only; omega)
                                    · skip
                                      refine TC.exit ?_
                                      refine TQ.thenE ?_
                                      refine TQ.thenE ?_
                                      refine TQ.blkS ?_
                                      refine TQ.thenC ?_
                                      refine TC.seq ?_
                                      have hxe : x.1 = ls.length := by omega
                                      have hbk : runR (trnR n ss).1 (trnR n ss).2 (runR n ss xs ls).1 (mk x.1 (bkF ls)) = (xs, ls.length, 0) := by rw [hxe, bk_all]; exact run_back hrk
                                      refine TC.region ?_
                                      refine TL.pure (PV.loadBox (cs := [.int .i64 (trnR n ss).1, gval y1.1 (trnR n ss).2.length]) rfl Tb.agg_24 (by repeat (first | exact List.Mem.head _ | refine List.Mem.tail _ ?_ | refine List.mem_append_right _ ?_)) rfl) rfl (by decide) ?_
                                      refine TL.pure (PV.move rfl) rfl (by decide) ?_
                                      refine TL.pure (PV.move rfl) rfl (by decide) ?_
                                      refine TL.call rfl Tb.gofn_27 (fun a w hs => RunY w _ (trnR n ss).1 (trnR n ss).2 (IsY.sr hy1 hs.new (fun yy hyy => by repeat (first | exact List.mem_append_left _ hyy | exact List.mem_append_left _ (List.mem_append_right _ hyy) | exact List.mem_append_left _ (List.mem_append_left _ hyy) | refine List.mem_append_right _ ?_ | refine List.Mem.tail _ ?_))) (trn_sm hS) _ _ (IsI.g (h := hA) (xs := (runR n ss xs ls).1) hs.new (fun yy hyy => by repeat (first | exact List.mem_append_left _ hyy | exact List.mem_append_left _ (List.mem_append_right _ hyy) | exact List.mem_append_left _ (List.mem_append_left _ hyy) | refine List.mem_append_right _ ?_ | refine List.Mem.tail _ ?_)) hhA) (runR_l hl) _ (mk x.1 (bkF ls)) (IsI.gl (mk_len _ _) hs.new (fun yy hyy => by repeat (first | exact List.mem_append_left _ hyy | exact List.mem_append_left _ (List.mem_append_right _ hyy) | exact List.mem_append_left _ (List.mem_append_left _ hyy) | refine List.mem_append_right _ ?_ | refine List.Mem.tail _ ?_)) hx9.2) (by rw [mk_len]; omega)) rfl (by decide) (fun hR hhR => ?_)
                                      rw [hbk] at hhR
                                      rw [hbk]
                                      refine TL.pure (PV.move rfl) rfl (by decide) ?_
                                      refine TL.pure (PV.extract rfl rfl) rfl (by decide) ?_
                                      refine TL.pure (PV.extract rfl rfl) rfl (by decide) ?_
                                      refine TL.pure (PV.extract rfl rfl) rfl (by decide) ?_
                                      refine TL.pure (PV.assign rfl) rfl (by decide) ?_
                                      refine TL.pure (PV.assign rfl) rfl (by decide) ?_
                                      refine TL.pure (PV.assign rfl) rfl (by decide) ?_
                                      refine TL.nil ?_
                                      refine TQ.thenC ?_
                                      refine TC.seq ?_
                                      refine TC.region ?_
                                      refine TL.pure (PV.move rfl) rfl (by decide) ?_
                                      refine TL.pure (PV.eql rfl rfl) rfl (by decide) ?_
                                      refine TL.pure (PV.move rfl) rfl (by decide) ?_
                                      first | refine TL.splitD 318 rfl (fun m1 => ?_) (fun m1 => ?_) | refine TL.split 318 rfl (fun m1 => ?_) (fun m1 => ?_)
                                      · skip
                                        refine TL.pure (PV.move rfl) rfl (by decide) ?_
                                        refine TL.pure (PV.eql rfl rfl) rfl (by decide) ?_
                                        refine TL.pure (PV.pickT rfl rfl) rfl (by decide) ?_
                                        refine TL.pure (PV.move rfl) rfl (by decide) ?_
                                        first | refine TL.splitD 322 rfl (fun m2 => ?_) (fun m2 => ?_) | refine TL.split 322 rfl (fun m2 => ?_) (fun m2 => ?_)
                                        · skip
                                          refine TL.pure (PV.move rfl) rfl (by decide) ?_
                                          refine TL.pure (PV.move rfl) rfl (by decide) ?_
                                          refine TL.call rfl Tb.gofn_26 (fun a w hs => sameInts_ok w _ _ (IsI.g (h := hR) (xs := xs) hs.new (fun yy hyy => by repeat (first | exact List.mem_append_left _ hyy | exact List.mem_append_left _ (List.mem_append_right _ hyy) | exact List.mem_append_left _ (List.mem_append_left _ hyy) | refine List.mem_append_right _ ?_ | refine List.Mem.tail _ ?_)) hhR) _ _ (IsI.of (hx.new hs.new)) hl hl) rfl (by decide) (fun _ _ => ?_)
                                          refine TL.pure (PV.pickT rfl rfl) rfl (by decide) ?_
                                          refine TL.pure (PV.assign rfl) rfl (by decide) ?_
                                          refine TL.nil ?_
                                          refine TQ.thenC ?_
                                          refine TC.ret ?_
                                          refine TQ.retE1 rfl rfl ?_
                                          first | exact ⟨(), rfl, trivial, List.nil_sublist _⟩ | exact ⟨(), by rw [decide_eq_true rfl], trivial, List.nil_sublist _⟩ | (exfalso; simp_all; done)
                                        · skip
                                          exact absurd rfl m2
                                      · skip
                                        exact absurd hrk.vm.v m1

end Go.Proofs.Ytkkipbkkijoneaa
