/- A round back along labels: contract. -/
import Derived.Test.YtghlkndanpegbaaBg
set_option linter.unusedVariables false
set_option linter.unusedSimpArgs false
namespace Go.Proofs.Ytghlkndanpegbaa
open Go.Sx Go.RowKit Go.Sand Go.Tp



set_option maxRecDepth 100000 in
set_option maxHeartbeats 4000000 in
theorem roundBefore_ok (w0 : World) (vl : Value) (S B : Nat) (s : LS) (hl : IsL w0 vl S B s) (cc xx : Mat) (inv : Inv S B cc xx s) (i0 : Nat) (hi0 : i0 < S) (ht : S ≤ s.ta i0) (hS4 : S ≤ 4) (hB4 : B ≤ 4) :
    Calls Try.prog 94 #[vl, .int .i64 i0] w0 (Post (X := HD × Nat) (fun z => gval z.1 (2 * z.2)) (fun z => goR prR z.1 (prL (2 * z.2) (gy s (it (sb s) S i0))) ∧ Cyc S B cc xx s (it (sb s) S i0) z.2) (fun z => gbR prR 84 z.1 (prL (2 * z.2) (gy s (it (sb s) S i0)))) w0) := by
  have hl0 := hl
  obtain ⟨p, c, q, e, rfl, h1, h2⟩ := hl
  refine calls Try.func94 rfl (n := 70) rfl (by simp) ?_
  refine TC.seq ?_
  refine TC.region ?_
  refine TL.box rfl rfl (by decide) (fun b0 hb0 => ?_)
  refine TL.pure (PV.assign rfl) rfl (by decide) ?_
  refine TL.nil ?_
  refine TQ.thenC ?_
  refine TC.seq ?_
  refine TC.region ?_
  refine TL.pure (PV.move rfl) rfl (by decide) ?_
  refine TL.pure (PV.assign rfl) rfl (by decide) ?_
  refine TL.nil ?_
  refine TQ.thenC ?_
  refine TC.seq ?_
  refine TC.seq ?_
  refine TC.region ?_
  refine TL.pure (PV.fieldAddr rfl Tb.fo_99_0) rfl (by decide) ?_
  refine TL.pure (PV.load rfl Tb.one_97 (by repeat (first | exact List.Mem.head _ | refine List.Mem.tail _ ?_ | refine List.mem_append_right _ ?_)) rfl) rfl (by decide) ?_
  refine TL.pure (PV.len rfl Tb.sl_97) rfl (by decide) ?_
  refine TL.pure (PV.move rfl) rfl (by decide) ?_
  refine TL.nil ?_
  refine TQ.thenC ?_
  refine TC.block ?_
  refine TC.lit [(2, _), (4, _), (5, _), (13, _), (14, _)] (by repeat (first | exact True.intro | refine And.intro rfl ?_)) ?_
  refine TC.loopK [2, 4, 13] (X := Nat) (fun k => k ≤ S) (fun k => [(14, .int .i64 k), (5, .int .i64 ((it (sb s) k i0) : Nat))]) (fun k => [(b0, Obj.cells #[.slice p S c, .slice q B e] 99 (0, 0))]) (fun k => S - k) 0 (Nat.zero_le _) (by repeat (first | exact True.intro | refine And.intro rfl ?_)) (List.Sublist.refl _) ?_
  intro k hk
  refine TC.lit [(2, _), (4, _), (5, _), (13, _), (14, _)] (by repeat (first | exact True.intro | refine And.intro rfl ?_)) ?_
  refine TC.seq ?_
  refine TC.region ?_
  refine TL.pure (PV.lss rfl rfl) rfl (by decide) ?_
  refine TL.nil ?_
  refine TQ.thenC ?_
  refine TC.seq ?_
  first | refine TC.condD rfl (fun hlt => ?_) (fun hlt => ?_) | refine TC.cond rfl (fun hlt => ?_) (fun hlt => ?_)
  · skip
    refine TC.skip ?_
    refine TQ.thenC ?_
    refine TC.seq ?_
    refine TC.block ?_
    have hwk := inv.walk hi0 k (by omega)
    have hbk := inv.back hwk.1 (by omega)
    refine TC.region ?_
    refine TL.pure (PV.loadBox (cs := [.slice p S c, .slice q B e]) rfl Tb.agg_99 (by repeat (first | exact List.Mem.head _ | refine List.Mem.tail _ ?_ | refine List.mem_append_right _ ?_)) rfl) rfl (by decide) ?_
    refine TL.pure (PV.move rfl) rfl (by decide) ?_
    refine TL.call rfl Tb.gofn_107 (fun a w hs => storeBefore_ok w _ S B s (hl0.new hs.new) (it (sb s) k i0) hwk.1 hbk.1 hbk.2.1 hbk.2.2.2.1) rfl (by decide) (fun _ _ => ?_)
    refine TL.pure (PV.assign rfl) rfl (by decide) ?_
    refine TL.nil ?_
    refine TQ.blkN ?_
    refine TQ.thenC ?_
    refine TC.region ?_
    refine TL.pure (PV.add rfl rfl (by omega)) rfl (by decide) ?_
    refine TL.pure (PV.move rfl) rfl (by decide) ?_
    refine TL.nil ?_
    refine TQ.thenN ?_
    refine TQ.backK (k + 1) (by repeat (first | exact True.intro | refine And.intro rfl ?_)) (by repeat (first | exact True.intro | refine And.intro rfl ?_)) (List.Sublist.refl _) (by omega) (by omega)
  · skip
    refine TC.exit ?_
    refine TQ.thenE ?_
    refine TQ.thenE ?_
    refine TQ.blkS ?_
    refine TQ.thenC ?_
    refine TC.seq ?_
    have hke : k = S := by omega
    rw [hke]
    obtain ⟨L, hcy⟩ := inv.cyc hi0 ht
    have hb0 := hcy.bk 0
    have hk0 := hcy.ok 0
    have hb1 : s.pa (it (sb s) S i0) = jb s (it (sb s) S i0) := hb0.1
    have hb2 : jb s (it (sb s) S i0) < B := hb0.2.1
    have hb3 : s.pb (jb s (it (sb s) S i0)) = sb s (it (sb s) S i0) := hb0.2.2.2.1
    have hbS : (it (sb s) S i0) < S := hk0.1
    obtain ⟨q1, hq1p, hq1c, hq1f⟩ := labAt h1 (j := (it (sb s) S i0)) hbS
    dsimp only at hq1c hq1f
    rw [hb1] at hq1f
    obtain ⟨q2, hq2p, hq2c, hq2f⟩ := labAt h2 (j := (jb s (it (sb s) S i0))) hb2
    dsimp only at hq2c hq2f
    rw [hb3] at hq2f
    have hLS := hcy.le
    refine TC.region ?_
    refine TL.pure (PV.fieldAddr rfl Tb.fo_99_0) rfl (by decide) ?_
    refine TL.pure (PV.load rfl Tb.one_97 (by repeat (first | exact List.Mem.head _ | refine List.Mem.tail _ ?_ | refine List.mem_append_right _ ?_)) rfl) rfl (by decide) ?_
    refine TL.pure (PV.move rfl) rfl (by decide) ?_
    refine TL.pure (PV.indexA (j := (it (sb s) S i0)) rfl hq1p rfl Tb.elm_97 rfl (by omega)) rfl (by decide) ?_
    refine TL.pure (PV.fieldAddrA rfl Tb.fo_110_1) rfl (by decide) ?_
    refine TL.pure (PV.loadOld rfl Tb.one_3 hq1f) rfl (by decide) ?_
    refine TL.pure (PV.assign rfl) rfl (by decide) ?_
    refine TL.nil ?_
    refine TQ.thenC ?_
    refine TC.seq ?_
    refine TC.region ?_
    refine TL.pure (PV.fieldAddr rfl Tb.fo_99_1) rfl (by decide) ?_
    refine TL.pure (PV.load rfl Tb.one_97 (by repeat (first | exact List.Mem.head _ | refine List.Mem.tail _ ?_ | refine List.mem_append_right _ ?_)) rfl) rfl (by decide) ?_
    refine TL.pure (PV.move rfl) rfl (by decide) ?_
    refine TL.pure (PV.indexA (j := (jb s (it (sb s) S i0))) rfl hq2p rfl Tb.elm_97 rfl (by omega)) rfl (by decide) ?_
    refine TL.pure (PV.fieldAddrA rfl Tb.fo_110_1) rfl (by decide) ?_
    refine TL.pure (PV.loadOld rfl Tb.one_3 hq2f) rfl (by decide) ?_
    refine TL.pure (PV.move rfl) rfl (by decide) ?_
    refine TL.pure (PV.buildArr rfl Tb.zero_84 arr_84 (fill_arr _ _)) rfl (by decide) ?_
    refine TL.buildSlice (cs := #[.int .i64 (sb s (it (sb s) S i0) : Nat), .int .i64 (jb s (it (sb s) S i0) : Nat)]) rfl Tb.sl_82 Tb.zi_84 (by decide) (fill_p1 _ _) (by decide) rfl (by decide) (fun bF hbF => ?_)
    refine TL.pure (PV.assign rfl) rfl (by decide) ?_
    refine TL.nil ?_
    refine TQ.thenC ?_
    refine TC.seq ?_
    refine TC.seq ?_
    refine TC.region ?_
    refine TL.pure (PV.loadBox (cs := [.slice p S c, .slice q B e]) rfl Tb.agg_99 (by repeat (first | exact List.Mem.head _ | refine List.Mem.tail _ ?_ | refine List.mem_append_right _ ?_)) rfl) rfl (by decide) ?_
    refine TL.pure (PV.move rfl) rfl (by decide) ?_
    refine TL.call rfl Tb.gofn_107 (fun a w hs => storeBefore_ok w _ S B s (hl0.new hs.new) (it (sb s) S i0) hbS hb1 hb2 hb3) rfl (by decide) (fun _ _ => ?_)
    refine TL.pure (PV.assign rfl) rfl (by decide) ?_
    refine TL.nil ?_
    refine TQ.thenC ?_
    refine TC.block ?_
    refine TC.lit [(2, _), (4, _), (5, _), (6, _), (7, _), (8, _)] (by repeat (first | exact True.intro | refine And.intro rfl ?_)) ?_
    refine TC.loopK [2, 4, 5, 6] (X := Nat × HD) (fun x => 1 ≤ x.1 ∧ x.1 ≤ L ∧ goR prR x.2 (prL (2 * x.1 - 1) (gy s (it (sb s) S i0)))) (fun x => [(8, .int .i64 ((ys s (it (sb s) S i0) x.1) : Nat)), (7, gval x.2 (2 * x.1 - 1))]) (fun x => gbR prR 84 x.2 (prL (2 * x.1 - 1) (gy s (it (sb s) S i0))) ++ [(b0, Obj.cells #[.slice p S c, .slice q B e] 99 (0, 0))]) (fun x => L - x.1) (1, some (bF, 1, [])) ⟨Nat.le_refl _, hcy.pos, by show goR prR _ (prL 1 (gy s (it (sb s) S i0))); rw [prL_one]; exact pr_go1 _ _⟩ (by repeat (first | exact True.intro | refine And.intro rfl ?_)) (by show List.Sublist (gbR prR 84 (some (bF, 1, [])) (prL 1 (gy s (it (sb s) S i0))) ++ _) _; rw [prL_one]; exact List.Sublist.refl _) ?_
    intro x hx9
    refine TC.lit [(2, _), (4, _), (5, _), (6, _), (7, _), (8, _)] (by repeat (first | exact True.intro | refine And.intro rfl ?_)) ?_
    refine TC.seq ?_
    refine TC.seq ?_
    refine TC.region ?_
    refine TL.pure (PV.move rfl) rfl (by decide) ?_
    refine TL.pure (PV.move rfl) rfl (by decide) ?_
    refine TL.pure (PV.neq rfl rfl) rfl (by decide) ?_
    refine TL.nil ?_
    refine TQ.thenC ?_
    first | refine TC.condD rfl (fun hne => ?_) (fun hne => ?_) | refine TC.cond rfl (fun hne => ?_) (fun hne => ?_)
    · skip
      have hmL : x.1 < L := by
        rcases Nat.lt_or_ge x.1 L with h | h
        · exact h
        · exact absurd (by rw [show x.1 = L by omega]; exact congrArg (fun z : Nat => (z : Int)) hcy.cl) hne
      refine TC.skip ?_
      refine TQ.thenC ?_
      refine TC.seq ?_
      refine TC.block ?_
      refine TC.seq ?_
      have hbm := hcy.bk x.1
      have hkm := (hcy.ok x.1).1
      obtain ⟨q3, hq3p, hq3c, hq3f⟩ := labAt h1 (j := (ys s (it (sb s) S i0) x.1)) hkm
      dsimp only at hq3c hq3f
      rw [hbm.1] at hq3f
      obtain ⟨q4, hq4p, hq4c, hq4f⟩ := labAt h2 (j := (jb s (ys s (it (sb s) S i0) x.1))) hbm.2.1
      dsimp only at hq4c hq4f
      rw [hbm.2.2.2.1] at hq4f
      have hE : 2 * (x.1 + 1) - 1 = 2 * x.1 + 1 := by omega
      refine TC.region ?_
      refine TL.pure (PV.fieldAddr rfl Tb.fo_99_0) rfl (by decide) ?_
      refine TL.pure (PV.load rfl Tb.one_97 (by repeat (first | exact List.Mem.head _ | refine List.Mem.tail _ ?_ | refine List.mem_append_right _ ?_)) rfl) rfl (by decide) ?_
      refine TL.pure (PV.move rfl) rfl (by decide) ?_
      refine TL.pure (PV.indexA (j := (ys s (it (sb s) S i0) x.1)) rfl hq3p rfl Tb.elm_97 rfl (by omega)) rfl (by decide) ?_
      refine TL.pure (PV.fieldAddrA rfl Tb.fo_110_1) rfl (by decide) ?_
      refine TL.pure (PV.loadOld rfl Tb.one_3 hq3f) rfl (by decide) ?_
      refine TL.pure (PV.assign rfl) rfl (by decide) ?_
      refine TL.nil ?_
      refine TQ.thenC ?_
      refine TC.region ?_
      refine TL.pure (PV.move rfl) rfl (by decide) ?_
      refine TL.pure (PV.move rfl) rfl (by decide) ?_
      refine TL.pure (PV.move rfl) rfl (by decide) ?_
      refine TL.pure (PV.buildArr rfl Tb.zero_84 arr_84 (fill_arr _ _)) rfl (by decide) ?_
      refine TL.pure (PV.fieldAddr rfl Tb.fo_99_1) rfl (by decide) ?_
      refine TL.pure (PV.load rfl Tb.one_97 (by repeat (first | exact List.Mem.head _ | refine List.Mem.tail _ ?_ | refine List.mem_append_right _ ?_)) rfl) rfl (by decide) ?_
      refine TL.pure (PV.move rfl) rfl (by decide) ?_
      refine TL.pure (PV.indexA (j := (jb s (ys s (it (sb s) S i0) x.1))) rfl hq4p rfl Tb.elm_97 rfl (by omega)) rfl (by decide) ?_
      refine TL.pure (PV.fieldAddrA rfl Tb.fo_110_1) rfl (by decide) ?_
      refine TL.pure (PV.loadOld rfl Tb.one_3 hq4f) rfl (by decide) ?_
      refine TL.pure (PV.move rfl) rfl (by decide) ?_
      refine TL.pure (PV.buildArr rfl Tb.zero_84 arr_84 (fill_arr _ _)) rfl (by decide) ?_
      refine TL.buildSlice (cs := #[.int .i64 ((ys s (it (sb s) S i0) x.1) : Nat), .int .i64 (jb s (ys s (it (sb s) S i0) x.1) : Nat), .int .i64 (sb s (ys s (it (sb s) S i0) x.1) : Nat), .int .i64 (jb s (ys s (it (sb s) S i0) x.1) : Nat)]) rfl Tb.sl_82 Tb.zi_84 (by decide) (fill_p2 _ _ _ _) (by decide) rfl (by decide) (fun bE hbE => ?_)
      refine TL.appendRecs (R := prR) (h0 := x.2) (ys := prL (2 * x.1 - 1) (gy s (it (sb s) S i0))) (rs := [⟨((ys s (it (sb s) S i0) x.1) : Nat), (jb s (ys s (it (sb s) S i0) x.1) : Nat)⟩, ⟨(sb s (ys s (it (sb s) S i0) x.1) : Nat), (jb s (ys s (it (sb s) S i0) x.1) : Nat)⟩]) (b := bE) (K := 2) Tb.sl_82 Tb.sl_82 Tb.zi_84 rfl (by rw [prL_len]; rfl) rfl rfl (by repeat (first | exact List.Mem.head _ | refine List.Mem.tail _ ?_ | refine List.mem_append_right _ ?_)) hx9.2.2 (by repeat (first | exact TakeH.here _ _ _ _ | apply TakeH.tail | apply TakeH.app)) (by rw [prL_len]; omega) (by rw [prL_len]; omega) rfl (by decide) (fun hh hhh => ?_)
      rw [← prL_two s (it (sb s) S i0) hx9.1] at hhh ⊢
      rw [prL_len]
      have hnx : goR prR hh (prL (2 * (x.1 + 1) - 1) (gy s (it (sb s) S i0))) := by rw [hE]; exact hhh
      refine TL.pure (PV.assign rfl) rfl (by decide) ?_
      refine TL.nil ?_
      refine TQ.blkN ?_
      refine TQ.thenC ?_
      refine TC.region ?_
      refine TL.pure (PV.loadBox (cs := [.slice p S c, .slice q B e]) rfl Tb.agg_99 (by repeat (first | exact List.Mem.head _ | refine List.Mem.tail _ ?_ | refine List.mem_append_right _ ?_)) rfl) rfl (by decide) ?_
      refine TL.pure (PV.move rfl) rfl (by decide) ?_
      refine TL.call rfl Tb.gofn_107 (fun a w hs => storeBefore_ok w _ S B s (hl0.new hs.new) (ys s (it (sb s) S i0) x.1) hkm hbm.1 hbm.2.1 hbm.2.2.2.1) rfl (by decide) (fun _ _ => ?_)
      refine TL.pure (PV.assign rfl) rfl (by decide) ?_
      refine TL.nil ?_
      refine TQ.thenN ?_
      refine TQ.backK (x.1 + 1, hh) (And.intro rfl (And.intro (by show some (gval hh (2 * x.1 + 1)) = some (gval hh (2 * (x.1 + 1) - 1)); rw [hE]) True.intro)) (by repeat (first | exact True.intro | refine And.intro rfl ?_)) (by show List.Sublist (gbR prR 84 hh (prL (2 * (x.1 + 1) - 1) (gy s (it (sb s) S i0))) ++ _) _; rw [hE]; exact List.Sublist.append_left (List.Sublist.cons _ (List.Sublist.refl _)) _) ⟨by simp only; omega, by simp only; omega, hnx⟩ (by simp only; omega)
    · skip
      have hmL : x.1 = L := by
        rcases Nat.lt_or_ge x.1 L with h | h
        · exact absurd (Int.ofNat.inj (Decidable.of_not_not hne)) (hcy.min x.1 hx9.1 h)
        · omega
      refine TC.exit ?_
      refine TQ.thenE ?_
      refine TQ.thenE ?_
      refine TQ.blkS ?_
      refine TQ.thenC ?_
      refine TC.seq ?_
      refine TC.region ?_
      refine TL.pure (PV.move rfl) rfl (by decide) ?_
      refine TL.pure (PV.move rfl) rfl (by decide) ?_
      refine TL.pure (PV.move rfl) rfl (by decide) ?_
      refine TL.pure (PV.buildArr rfl Tb.zero_84 arr_84 (fill_arr _ _)) rfl (by decide) ?_
      refine TL.buildSlice (cs := #[.int .i64 ((it (sb s) S i0) : Nat), .int .i64 (jb s (it (sb s) S i0) : Nat)]) rfl Tb.sl_82 Tb.zi_84 (by decide) (fill_p1 _ _) (by decide) rfl (by decide) (fun bE hbE => ?_)
      refine TL.appendRecs (R := prR) (h0 := x.2) (ys := prL (2 * x.1 - 1) (gy s (it (sb s) S i0))) (rs := [⟨((it (sb s) S i0) : Nat), (jb s (it (sb s) S i0) : Nat)⟩]) (b := bE) (K := 1) Tb.sl_82 Tb.sl_82 Tb.zi_84 rfl (by rw [prL_len]; rfl) rfl rfl (by repeat (first | exact List.Mem.head _ | refine List.Mem.tail _ ?_ | refine List.mem_append_right _ ?_)) hx9.2.2 (by repeat (first | exact TakeH.here _ _ _ _ | apply TakeH.tail | apply TakeH.app)) (by rw [prL_len]; omega) (by rw [prL_len]; omega) rfl (by decide) (fun hh hhh => ?_)
      rw [hmL, ← prL_end hcy] at hhh ⊢
      rw [prL_len]
      refine TL.pure (PV.assign rfl) rfl (by decide) ?_
      refine TL.nil ?_
      refine TQ.thenC ?_
      refine TC.ret ?_
      refine TQ.retE1 rfl rfl ?_
      exact ⟨(hh, L), rfl, ⟨hhh, hcy⟩, List.sublist_append_left _ _⟩

end Go.Proofs.Ytghlkndanpegbaa
