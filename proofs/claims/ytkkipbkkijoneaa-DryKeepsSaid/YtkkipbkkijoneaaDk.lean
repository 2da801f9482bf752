/- No list changes what an invariant weighs: the law's contract. -/
import Derived.Test.YtkkipbkkijoneaaDj
set_option linter.unusedVariables false
set_option linter.unusedSimpArgs false
namespace Go.Proofs.Ytkkipbkkijoneaa
open Go.Sx Go.RowKit Go.Sand

theorem keeps_all {n : Int} {ss : List St} {ws m ls : List Int} (h1 : ¬ (invR n ss ws).2 ≠ 0) (h2 : ¬ (runR n ss m ls).2.2 ≠ 0) (h3 : (invR n ss ws).1 = true) :
    wgR n ss ws m = (wgN ws m, 0) ∧ wgR n ss ws (runR n ss m ls).1 = (wgN ws m, 0) := by
  have hr := run_ok h2
  have hv : ¬ validI n ss ≠ 0 := by rw [hr.vm.v]; decide
  have hn : numB n (-20) 20 ws = true := by
    by_cases h : numB n (-20) 20 ws = true
    · exact h
    · rw [invR_2 hv (by simpa using h)] at h1
      exact absurd (Decidable.of_not_not h1) (by decide)
  rw [invR_3 hv hn] at h3
  exact ⟨wgR_3 (by rw [hr.vm.fil]; decide) hn, by rw [wgR_3 (by rw [hr.vme.fil]; decide) hn, wg_keeps hr h3]⟩


set_option maxRecDepth 100000 in
set_option maxHeartbeats 4000000 in
theorem dryKeeps_ok (w0 : World) (n : Int) (p : Option Addr) (cp : Nat) (ss : List St) (hr : StsAt w0 p ss) (pl : Option Addr) (cl : Nat) (xs : List Int) (hx : IntsAt w0 pl xs) (i : Int) (pz : Option Addr) (cz : Nat) (ls : List Int) (hz : IntsAt w0 pz ls) :
    Calls Try.prog 11 #[yv n p ss.length cp, .agg #[.slice pl xs.length cl, .int .i64 i], .slice pz ls.length cz] w0 (Post (X := Unit) (fun _ => .bool true) (fun _ => True) (fun _ => []) w0) := by
  refine calls Try.func11 rfl (n := 110) rfl (by simp) ?_
  refine TC.seq ?_
  refine TC.region ?_
  refine TL.box rfl rfl (by decide) (fun b0 hb0 => ?_)
  refine TL.box rfl rfl (by decide) (fun b1 hb1 => ?_)
  refine TL.pure (PV.assign rfl) rfl (by decide) ?_
  refine TL.nil ?_
  refine TQ.thenC ?_
  refine TC.seq ?_
  refine TC.seq ?_
  refine TC.region ?_
  refine TL.pure (PV.loadBox rfl Tb.agg_24 (by repeat (first | exact List.Mem.head _ | refine List.Mem.tail _ ?_ | refine List.mem_append_right _ ?_)) rfl) rfl (by decide) ?_
  refine TL.call rfl Tb.gofn_17 (fun a w hs => long_ok w _ _ _ _ (hr.new hs.new)) rfl (by decide) (fun _ _ => ?_)
  refine TL.pure (PV.move rfl) rfl (by decide) ?_
  first | refine TL.splitD 20 rfl (fun e1 => ?_) (fun e1 => ?_) | refine TL.split 20 rfl (fun e1 => ?_) (fun e1 => ?_)
  · skip
    refine TL.skip rfl (fun k hk => by cases hk; decide) ?_
    refine TL.skip rfl (fun k hk => by cases hk; decide) ?_
    refine TL.skip rfl (fun k hk => by cases hk; decide) ?_
    refine TL.pure (PV.pickT rfl rfl) rfl (by decide) ?_
    refine TL.pure (PV.move rfl) rfl (by decide) ?_
    refine TL.skip rfl (fun k hk => by cases hk; decide) ?_
    refine TL.skip rfl (fun k hk => by cases hk; decide) ?_
    refine TL.pure (PV.pickT rfl rfl) rfl (by decide) ?_
    refine TL.pure (PV.move rfl) rfl (by decide) ?_
    refine TL.skip rfl (fun k hk => by cases hk; decide) ?_
    refine TL.skip rfl (fun k hk => by cases hk; decide) ?_
    refine TL.skip rfl (fun k hk => by cases hk; decide) ?_
    refine TL.pure (PV.pickT rfl rfl) rfl (by decide) ?_
    refine TL.pure (PV.move rfl) rfl (by decide) ?_
    refine TL.skip rfl (fun k hk => by cases hk; decide) ?_
    refine TL.skip rfl (fun k hk => by cases hk; decide) ?_
    refine TL.skip rfl (fun k hk => by cases hk; decide) ?_
    refine TL.pure (PV.pickT rfl rfl) rfl (by decide) ?_
    refine TL.nil ?_
    refine TQ.thenC ?_
    refine TC.condT rfl ?_
    refine TC.seq ?_
    refine TC.region ?_
    refine TL.call rfl Tb.gofn_19 (fun a w hs => known_ok w) rfl (by decide) (fun _ _ => ?_)
    refine TL.pure (PV.assign rfl) rfl (by decide) ?_
    refine TL.nil ?_
    refine TQ.thenC ?_
    refine TC.ret ?_
    refine TQ.thenR ?_
    refine TQ.retE1 rfl rfl ?_
    first | exact ⟨(), rfl, trivial, List.nil_sublist _⟩ | (exfalso; simp_all; done)
  · skip
    refine TL.pure (PV.fieldAddr rfl Tb.fo_53_0) rfl (by decide) ?_
    refine TL.pure (PV.load rfl Tb.one_25 (by repeat (first | exact List.Mem.head _ | refine List.Mem.tail _ ?_ | refine List.mem_append_right _ ?_)) rfl) rfl (by decide) ?_
    refine TL.call rfl Tb.gofn_18 (fun a w hs => large_ok w _ _ (IsI.of (hx.new hs.new))) rfl (by decide) (fun _ _ => ?_)
    refine TL.pure (PV.pickF rfl rfl) rfl (by decide) ?_
    refine TL.pure (PV.move rfl) rfl (by decide) ?_
    first | refine TL.splitD 25 rfl (fun e2 => ?_) (fun e2 => ?_) | refine TL.split 25 rfl (fun e2 => ?_) (fun e2 => ?_)
    · skip
      refine TL.skip rfl (fun k hk => by cases hk; decide) ?_
      refine TL.skip rfl (fun k hk => by cases hk; decide) ?_
      refine TL.pure (PV.pickT rfl rfl) rfl (by decide) ?_
      refine TL.pure (PV.move rfl) rfl (by decide) ?_
      refine TL.skip rfl (fun k hk => by cases hk; decide) ?_
      refine TL.skip rfl (fun k hk => by cases hk; decide) ?_
      refine TL.skip rfl (fun k hk => by cases hk; decide) ?_
      refine TL.pure (PV.pickT rfl rfl) rfl (by decide) ?_
      refine TL.pure (PV.move rfl) rfl (by decide) ?_
      refine TL.skip rfl (fun k hk => by cases hk; decide) ?_
      refine TL.skip rfl (fun k hk => by cases hk; decide) ?_
      refine TL.skip rfl (fun k hk => by cases hk; decide) ?_
      refine TL.pure (PV.pickT rfl rfl) rfl (by decide) ?_
      refine TL.nil ?_
      refine TQ.thenC ?_
      refine TC.condT rfl ?_
      refine TC.seq ?_
      refine TC.region ?_
      refine TL.call rfl Tb.gofn_19 (fun a w hs => known_ok w) rfl (by decide) (fun _ _ => ?_)
      refine TL.pure (PV.assign rfl) rfl (by decide) ?_
      refine TL.nil ?_
      refine TQ.thenC ?_
      refine TC.ret ?_
      refine TQ.thenR ?_
      refine TQ.retE1 rfl rfl ?_
      first | exact ⟨(), rfl, trivial, List.nil_sublist _⟩ | (exfalso; simp_all; done)
    · skip
      refine TL.pure (PV.move rfl) rfl (by decide) ?_
      refine TL.call rfl Tb.gofn_18 (fun a w hs => large_ok w _ _ (IsI.of (hz.new hs.new))) rfl (by decide) (fun _ _ => ?_)
      refine TL.pure (PV.pickF rfl rfl) rfl (by decide) ?_
      refine TL.pure (PV.move rfl) rfl (by decide) ?_
      first | refine TL.splitD 29 rfl (fun e3 => ?_) (fun e3 => ?_) | refine TL.split 29 rfl (fun e3 => ?_) (fun e3 => ?_)
      · skip
        refine TL.skip rfl (fun k hk => by cases hk; decide) ?_
        refine TL.skip rfl (fun k hk => by cases hk; decide) ?_
        refine TL.skip rfl (fun k hk => by cases hk; decide) ?_
        refine TL.pure (PV.pickT rfl rfl) rfl (by decide) ?_
        refine TL.pure (PV.move rfl) rfl (by decide) ?_
        refine TL.skip rfl (fun k hk => by cases hk; decide) ?_
        refine TL.skip rfl (fun k hk => by cases hk; decide) ?_
        refine TL.skip rfl (fun k hk => by cases hk; decide) ?_
        refine TL.pure (PV.pickT rfl rfl) rfl (by decide) ?_
        refine TL.nil ?_
        refine TQ.thenC ?_
        refine TC.condT rfl ?_
        refine TC.seq ?_
        refine TC.region ?_
        refine TL.call rfl Tb.gofn_19 (fun a w hs => known_ok w) rfl (by decide) (fun _ _ => ?_)
        refine TL.pure (PV.assign rfl) rfl (by decide) ?_
        refine TL.nil ?_
        refine TQ.thenC ?_
        refine TC.ret ?_
        refine TQ.thenR ?_
        refine TQ.retE1 rfl rfl ?_
        first | exact ⟨(), rfl, trivial, List.nil_sublist _⟩ | (exfalso; simp_all; done)
      · skip
        refine TL.pure (PV.fieldAddr rfl Tb.fo_24_0) rfl (by decide) ?_
        refine TL.pure (PV.load rfl Tb.one_3 (by repeat (first | exact List.Mem.head _ | refine List.Mem.tail _ ?_ | refine List.mem_append_right _ ?_)) rfl) rfl (by decide) ?_
        refine TL.pure (PV.lss rfl rfl) rfl (by decide) ?_
        refine TL.pure (PV.pickF rfl rfl) rfl (by decide) ?_
        refine TL.pure (PV.move rfl) rfl (by decide) ?_
        first | refine TL.splitD 34 rfl (fun e4 => ?_) (fun e4 => ?_) | refine TL.split 34 rfl (fun e4 => ?_) (fun e4 => ?_)
        · skip
          refine TL.skip rfl (fun k hk => by cases hk; decide) ?_
          refine TL.skip rfl (fun k hk => by cases hk; decide) ?_
          refine TL.skip rfl (fun k hk => by cases hk; decide) ?_
          refine TL.pure (PV.pickT rfl rfl) rfl (by decide) ?_
          refine TL.nil ?_
          refine TQ.thenC ?_
          refine TC.condT rfl ?_
          refine TC.seq ?_
          refine TC.region ?_
          refine TL.call rfl Tb.gofn_19 (fun a w hs => known_ok w) rfl (by decide) (fun _ _ => ?_)
          refine TL.pure (PV.assign rfl) rfl (by decide) ?_
          refine TL.nil ?_
          refine TQ.thenC ?_
          refine TC.ret ?_
          refine TQ.thenR ?_
          refine TQ.retE1 rfl rfl ?_
          first | exact ⟨(), rfl, trivial, List.nil_sublist _⟩ | (exfalso; simp_all; done)
        · skip
          refine TL.pure (PV.fieldAddr rfl Tb.fo_24_0) rfl (by decide) ?_
          refine TL.pure (PV.load rfl Tb.one_3 (by repeat (first | exact List.Mem.head _ | refine List.Mem.tail _ ?_ | refine List.mem_append_right _ ?_)) rfl) rfl (by decide) ?_
          refine TL.pure (PV.gtr rfl rfl) rfl (by decide) ?_
          refine TL.pure (PV.pickF rfl rfl) rfl (by decide) ?_
          refine TL.nil ?_
          refine TQ.thenC ?_
          first | refine TC.condD rfl (fun e5 => ?_) (fun e5 => ?_) | refine TC.cond rfl (fun e5 => ?_) (fun e5 => ?_)
          · skip
            refine TC.seq ?_
            refine TC.region ?_
            refine TL.call rfl Tb.gofn_19 (fun a w hs => known_ok w) rfl (by decide) (fun _ _ => ?_)
            refine TL.pure (PV.assign rfl) rfl (by decide) ?_
            refine TL.nil ?_
            refine TQ.thenC ?_
            refine TC.ret ?_
            refine TQ.thenR ?_
            refine TQ.retE1 rfl rfl ?_
            first | exact ⟨(), rfl, trivial, List.nil_sublist _⟩ | (exfalso; simp_all; done)
          · skip
            refine TC.skip ?_
            refine TQ.thenC ?_
            refine TC.seq ?_
            have hS := long_0 e1
            have hl : xs.length ≤ 1000000 := by omega
            have hll : ls.length ≤ 1000000 := by omega
            obtain ⟨N, hN⟩ : ∃ N : Nat, n = N := ⟨n.toNat, by omega⟩
            refine TC.region ?_
            refine TL.pure (PV.loadBox rfl Tb.agg_24 (by repeat (first | exact List.Mem.head _ | refine List.Mem.tail _ ?_ | refine List.mem_append_right _ ?_)) rfl) rfl (by decide) ?_
            refine TL.pure (PV.fieldAddr rfl Tb.fo_53_0) rfl (by decide) ?_
            refine TL.pure (PV.load rfl Tb.one_25 (by repeat (first | exact List.Mem.head _ | refine List.Mem.tail _ ?_ | refine List.mem_append_right _ ?_)) rfl) rfl (by decide) ?_
            refine TL.call rfl Tb.gofn_41 (fun a w hs => IsInvariant_ok w _ _ _ _ (hr.new hs.new) hS _ _ (IsI.of (hx.new hs.new)) hl) rfl (by decide) (fun _ _ => ?_)
            refine TL.pure (PV.move rfl) rfl (by decide) ?_
            refine TL.pure (PV.extract rfl rfl) rfl (by decide) ?_
            refine TL.pure (PV.extract rfl rfl) rfl (by decide) ?_
            refine TL.pure (PV.assign rfl) rfl (by decide) ?_
            refine TL.pure (PV.assign rfl) rfl (by decide) ?_
            refine TL.nil ?_
            refine TQ.thenC ?_
            refine TC.seq ?_
            refine TC.region ?_
            refine TL.pure (PV.fieldAddr rfl Tb.fo_24_0) rfl (by decide) ?_
            refine TL.pure (PV.load rfl Tb.one_3 (by repeat (first | exact List.Mem.head _ | refine List.Mem.tail _ ?_ | refine List.mem_append_right _ ?_)) rfl) rfl (by decide) ?_
            refine TL.makeI (k := N) rfl rfl Tb.sl_25 Tb.zi_3 hN (by omega) (by omega) rfl (by decide) (fun bO hbO => ?_)
            refine TL.pure (PV.assign rfl) rfl (by decide) ?_
            refine TL.nil ?_
            refine TQ.thenC ?_
            refine TC.seq ?_
            refine TC.seq ?_
            refine TC.region ?_
            refine TL.pure (PV.assign rfl) rfl (by decide) ?_
            refine TL.nil ?_
            refine TQ.thenC ?_
            refine TC.block ?_
            refine TC.lit [(2, _), (3, _), (4, _), (6, _), (7, _), (8, _), (9, _), (10, _)] (by repeat (first | exact True.intro | refine And.intro rfl ?_)) ?_
            refine TC.loopK [2, 3, 4, 6, 7, 8, 9] (X := Nat) (fun k => k ≤ N) (fun k => [(10, .int .i64 k)]) (fun k => [(bO, Obj.cells (intsA (tenK N k)) 3 (0, 0)), (b1, Obj.cells #[.slice pl xs.length cl, .int .i64 i] 53 (0, 0)), (b0, Obj.cells #[.int .i64 n, .slice p ss.length cp] 24 (0, 0))]) (fun k => N - k) 0 (Nat.zero_le _) (by repeat (first | exact True.intro | refine And.intro rfl ?_)) (by rw [← tenK_zero]; exact List.Sublist.refl _) ?_
            intro k hk
            refine TC.lit [(2, _), (3, _), (4, _), (6, _), (7, _), (8, _), (9, _), (10, _)] (by repeat (first | exact True.intro | refine And.intro rfl ?_)) ?_
            refine TC.seq ?_
            refine TC.seq ?_
            refine TC.region ?_
            refine TL.pure (PV.move rfl) rfl (by decide) ?_
            refine TL.pure (PV.move rfl) rfl (by decide) ?_
            refine TL.pure (PV.len rfl Tb.sl_25) rfl (by decide) ?_
            refine TL.pure (PV.lss rfl rfl) rfl (by decide) ?_
            refine TL.nil ?_
            refine TQ.thenC ?_
            first | refine TC.condD rfl (fun hlt => ?_) (fun hlt => ?_) | refine TC.cond rfl (fun hlt => ?_) (fun hlt => ?_)
            · skip
              refine TC.skip ?_
              refine TQ.thenC ?_
              refine TC.seq ?_
              refine TC.block ?_
              refine TC.region ?_
              refine TL.pure (PV.move rfl) rfl (by decide) ?_
              refine TL.pure (PV.move rfl) rfl (by decide) ?_
              refine TL.pure (PV.move rfl) rfl (by decide) ?_
              refine TL.pure (PV.add rfl rfl (by omega)) rfl (by decide) ?_
              refine TL.pure (PV.index1 (j := k) rfl rfl Tb.elm_25 rfl (by omega)) rfl (by decide) ?_
              refine TL.storeIv (xs := tenK N k) (xs' := tenK N (k + 1)) (j := k) rfl rfl Tb.cells_3 (tenK_put (by omega)) (by repeat (first | exact Upd.head _ | apply Upd.tail | apply Upd.appR)) (by rw [tenK_len]; omega) rfl rfl ?_
              refine TL.nil ?_
              refine TQ.blkN ?_
              refine TQ.thenC ?_
              refine TC.region ?_
              refine TL.pure (PV.move rfl) rfl (by decide) ?_
              refine TL.pure (PV.add rfl rfl (by omega)) rfl (by decide) ?_
              refine TL.pure (PV.assign rfl) rfl (by decide) ?_
              refine TL.nil ?_
              refine TQ.thenN ?_
              refine TQ.backK (k + 1) (by repeat (first | exact True.intro | refine And.intro rfl ?_)) (by repeat (first | exact True.intro | refine And.intro rfl ?_)) (List.Sublist.refl _) (by omega) (by omega)
            · skip
              refine TC.exit ?_
              refine TQ.thenE ?_
              refine TQ.thenE ?_
              refine TQ.blkS ?_
              refine TQ.thenC ?_
              refine TC.seq ?_
              refine TC.region ?_
              refine TL.pure (PV.loadBox rfl Tb.agg_24 (by repeat (first | exact List.Mem.head _ | refine List.Mem.tail _ ?_ | refine List.mem_append_right _ ?_)) rfl) rfl (by decide) ?_
              refine TL.pure (PV.move rfl) rfl (by decide) ?_
              refine TL.pure (PV.move rfl) rfl (by decide) ?_
              refine TL.call rfl Tb.gofn_27 (fun a w hs => Run_ok w _ _ _ _ (hr.new hs.new) hS _ (tenK N k) (IsI.gl (h := some (bO, N, [])) (tenK_len N k) hs.new (fun yy hyy => by rw [gbI_blk] at hyy; simp only [List.mem_singleton] at hyy; subst hyy; exact (by repeat (first | exact List.Mem.head _ | refine List.Mem.tail _ ?_ | refine List.mem_append_right _ ?_))) (by have h9 := goI_blk bO (tenK N k); rw [tenK_len] at h9; exact h9)) (by rw [tenK_len]; omega) _ _ (IsI.of (hz.new hs.new)) hll) rfl (by decide) (fun hR hhR => ?_)
              refine TL.pure (PV.move rfl) rfl (by decide) ?_
              refine TL.pure (PV.extract rfl rfl) rfl (by decide) ?_
              refine TL.pure (PV.extract rfl rfl) rfl (by decide) ?_
              refine TL.pure (PV.extract rfl rfl) rfl (by decide) ?_
              refine TL.pure (PV.assign rfl) rfl (by decide) ?_
              refine TL.pure (PV.assign rfl) rfl (by decide) ?_
              refine TL.pure (PV.assign rfl) rfl (by decide) ?_
              refine TL.nil ?_
              refine TQ.thenC ?_
              refine TC.seq ?_
              refine TC.seq ?_
              refine TC.region ?_
              refine TL.pure (PV.move rfl) rfl (by decide) ?_
              refine TL.pure (PV.neq rfl rfl) rfl (by decide) ?_
              refine TL.pure (PV.move rfl) rfl (by decide) ?_
              first | refine TL.splitD 71 rfl (fun a1 => ?_) (fun a1 => ?_) | refine TL.split 71 rfl (fun a1 => ?_) (fun a1 => ?_)
              · skip
                refine TL.skip rfl (fun k hk => by cases hk; decide) ?_
                refine TL.skip rfl (fun k hk => by cases hk; decide) ?_
                refine TL.pure (PV.pickT rfl rfl) rfl (by decide) ?_
                refine TL.pure (PV.move rfl) rfl (by decide) ?_
                refine TL.skip rfl (fun k hk => by cases hk; decide) ?_
                refine TL.skip rfl (fun k hk => by cases hk; decide) ?_
                refine TL.pure (PV.pickT rfl rfl) rfl (by decide) ?_
                refine TL.nil ?_
                refine TQ.thenC ?_
                refine TC.condT rfl ?_
                refine TC.seq ?_
                refine TC.region ?_
                refine TL.call rfl Tb.gofn_19 (fun a w hs => known_ok w) rfl (by decide) (fun _ _ => ?_)
                refine TL.pure (PV.assign rfl) rfl (by decide) ?_
                refine TL.nil ?_
                refine TQ.thenC ?_
                refine TC.ret ?_
                refine TQ.thenR ?_
                refine TQ.retE1 rfl rfl ?_
                first | exact ⟨(), rfl, trivial, List.nil_sublist _⟩ | (exfalso; simp_all; done)
              · skip
                refine TL.pure (PV.move rfl) rfl (by decide) ?_
                refine TL.pure (PV.neq rfl rfl) rfl (by decide) ?_
                refine TL.pure (PV.pickF rfl rfl) rfl (by decide) ?_
                refine TL.pure (PV.move rfl) rfl (by decide) ?_
                first | refine TL.splitD 75 rfl (fun a2 => ?_) (fun a2 => ?_) | refine TL.split 75 rfl (fun a2 => ?_) (fun a2 => ?_)
                · skip
                  refine TL.skip rfl (fun k hk => by cases hk; decide) ?_
                  refine TL.skip rfl (fun k hk => by cases hk; decide) ?_
                  refine TL.pure (PV.pickT rfl rfl) rfl (by decide) ?_
                  refine TL.nil ?_
                  refine TQ.thenC ?_
                  refine TC.condT rfl ?_
                  refine TC.seq ?_
                  refine TC.region ?_
                  refine TL.call rfl Tb.gofn_19 (fun a w hs => known_ok w) rfl (by decide) (fun _ _ => ?_)
                  refine TL.pure (PV.assign rfl) rfl (by decide) ?_
                  refine TL.nil ?_
                  refine TQ.thenC ?_
                  refine TC.ret ?_
                  refine TQ.thenR ?_
                  refine TQ.retE1 rfl rfl ?_
                  first | exact ⟨(), rfl, trivial, List.nil_sublist _⟩ | (exfalso; simp_all; done)
                · skip
                  refine TL.pure (PV.move rfl) rfl (by decide) ?_
                  refine TL.pure ((by first | exact PV.notD rfl | exact PV.not rfl)) rfl (by decide) ?_
                  refine TL.pure (PV.pickF rfl rfl) rfl (by decide) ?_
                  refine TL.nil ?_
                  refine TQ.thenC ?_
                  first | refine TC.condD rfl (fun a3 => ?_) (fun a3 => ?_) | refine TC.cond rfl (fun a3 => ?_) (fun a3 => ?_)
                  · skip
                    refine TC.seq ?_
                    refine TC.region ?_
                    refine TL.call rfl Tb.gofn_19 (fun a w hs => known_ok w) rfl (by decide) (fun _ _ => ?_)
                    refine TL.pure (PV.assign rfl) rfl (by decide) ?_
                    refine TL.nil ?_
                    refine TQ.thenC ?_
                    refine TC.ret ?_
                    refine TQ.thenR ?_
                    refine TQ.retE1 rfl rfl ?_
                    first | exact ⟨(), rfl, trivial, List.nil_sublist _⟩ | (exfalso; simp_all; done)
                  · skip
                    refine TC.skip ?_
                    refine TQ.thenC ?_
                    refine TC.seq ?_
                    have hka := keeps_all a1 a2 (by simpa using a3)
                    refine TC.region ?_
                    refine TL.pure (PV.loadBox rfl Tb.agg_24 (by repeat (first | exact List.Mem.head _ | refine List.Mem.tail _ ?_ | refine List.mem_append_right _ ?_)) rfl) rfl (by decide) ?_
                    refine TL.pure (PV.fieldAddr rfl Tb.fo_53_0) rfl (by decide) ?_
                    refine TL.pure (PV.load rfl Tb.one_25 (by repeat (first | exact List.Mem.head _ | refine List.Mem.tail _ ?_ | refine List.mem_append_right _ ?_)) rfl) rfl (by decide) ?_
                    refine TL.pure (PV.move rfl) rfl (by decide) ?_
                    refine TL.call rfl Tb.gofn_43 (fun a w hs => (by exact Weigh_ok w _ _ _ _ (hr.new hs.new) hS _ _ (IsI.of (hx.new hs.new)) hl _ (tenK N k) (IsI.gl (h := some (bO, N, [])) (tenK_len N k) hs.new (fun yy hyy => by rw [gbI_blk] at hyy; simp only [List.mem_singleton] at hyy; subst hyy; exact (by repeat (first | exact List.Mem.head _ | refine List.Mem.tail _ ?_ | refine List.mem_append_right _ ?_))) (by have h9 := goI_blk bO (tenK N k); rw [tenK_len] at h9; exact h9)) (by rw [tenK_len]; omega))) rfl (by decide) (fun _ _ => ?_)
                    refine TL.pure (PV.move rfl) rfl (by decide) ?_
                    refine TL.pure (PV.extract rfl rfl) rfl (by decide) ?_
                    refine TL.pure (PV.extract rfl rfl) rfl (by decide) ?_
                    refine TL.pure (PV.assign rfl) rfl (by decide) ?_
                    refine TL.pure (PV.assign rfl) rfl (by decide) ?_
                    refine TL.nil ?_
                    refine TQ.thenC ?_
                    refine TC.seq ?_
                    rw [hka.1]
                    refine TC.region ?_
                    refine TL.pure (PV.loadBox rfl Tb.agg_24 (by repeat (first | exact List.Mem.head _ | refine List.Mem.tail _ ?_ | refine List.mem_append_right _ ?_)) rfl) rfl (by decide) ?_
                    refine TL.pure (PV.fieldAddr rfl Tb.fo_53_0) rfl (by decide) ?_
                    refine TL.pure (PV.load rfl Tb.one_25 (by repeat (first | exact List.Mem.head _ | refine List.Mem.tail _ ?_ | refine List.mem_append_right _ ?_)) rfl) rfl (by decide) ?_
                    refine TL.pure (PV.move rfl) rfl (by decide) ?_
                    refine TL.call rfl Tb.gofn_43 (fun a w hs => Weigh_ok w _ _ _ _ (hr.new hs.new) hS _ _ (IsI.of (hx.new hs.new)) hl _ (runR n ss (tenK N k) ls).1 (IsI.g hs.new (fun yy hyy => by repeat (first | exact List.mem_append_left _ hyy | exact List.mem_append_left _ (List.mem_append_right _ hyy) | exact List.mem_append_left _ (List.mem_append_left _ hyy) | refine List.mem_append_right _ ?_ | refine List.Mem.tail _ ?_)) hhR) (runR_l (by rw [tenK_len]; omega))) rfl (by decide) (fun _ _ => ?_)
                    refine TL.pure (PV.move rfl) rfl (by decide) ?_
                    refine TL.pure (PV.extract rfl rfl) rfl (by decide) ?_
                    refine TL.pure (PV.extract rfl rfl) rfl (by decide) ?_
                    refine TL.pure (PV.assign rfl) rfl (by decide) ?_
                    refine TL.pure (PV.assign rfl) rfl (by decide) ?_
                    refine TL.nil ?_
                    refine TQ.thenC ?_
                    refine TC.seq ?_
                    rw [hka.2]
                    refine TC.region ?_
                    refine TL.pure (PV.move rfl) rfl (by decide) ?_
                    refine TL.pure (PV.eql rfl rfl) rfl (by decide) ?_
                    refine TL.pure (PV.move rfl) rfl (by decide) ?_
                    first | refine TL.splitD 98 rfl (fun g1 => ?_) (fun g1 => ?_) | refine TL.split 98 rfl (fun g1 => ?_) (fun g1 => ?_)
                    · skip
                      refine TL.pure (PV.move rfl) rfl (by decide) ?_
                      refine TL.pure (PV.eql rfl rfl) rfl (by decide) ?_
                      refine TL.pure (PV.pickT rfl rfl) rfl (by decide) ?_
                      refine TL.pure (PV.move rfl) rfl (by decide) ?_
                      first | refine TL.splitD 102 rfl (fun g2 => ?_) (fun g2 => ?_) | refine TL.split 102 rfl (fun g2 => ?_) (fun g2 => ?_)
                      · skip
                        refine TL.pure (PV.move rfl) rfl (by decide) ?_
                        refine TL.pure (PV.move rfl) rfl (by decide) ?_
                        refine TL.pure (PV.eql rfl rfl) rfl (by decide) ?_
                        refine TL.pure (PV.pickT rfl rfl) rfl (by decide) ?_
                        refine TL.pure (PV.move rfl) rfl (by decide) ?_
                        first | refine TL.splitD 107 rfl (fun g3 => ?_) (fun g3 => ?_) | refine TL.split 107 rfl (fun g3 => ?_) (fun g3 => ?_)
                        · skip
                          refine TL.call rfl Tb.gofn_19 (fun a w hs => known_ok w) rfl (by decide) (fun _ _ => ?_)
                          refine TL.pure (PV.pickT rfl rfl) rfl (by decide) ?_
                          refine TL.pure (PV.assign rfl) rfl (by decide) ?_
                          refine TL.nil ?_
                          refine TQ.thenC ?_
                          refine TC.ret ?_
                          refine TQ.retE1 rfl rfl ?_
                          first | exact ⟨(), rfl, trivial, List.nil_sublist _⟩ | (exfalso; simp_all; done)
                        · skip
                          exact (g3 rfl).elim
                      · skip
                        exact (g2 rfl).elim
                    · skip
                      exact (g1 rfl).elim

end Go.Proofs.Ytkkipbkkijoneaa
