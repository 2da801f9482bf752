/- Which plans are right, and what a plan costs: contracts. -/
import Derived.Test.YtghlkndanpegbaaBb
set_option linter.unusedVariables false
set_option linter.unusedSimpArgs false
namespace Go.Proofs.Ytghlkndanpegbaa
open Go.Sx Go.RowKit Go.Sand

theorem trn_gr {n k : Nat} {most : Int} {m : List (List Int)} (h : Gr n k most m) (hn : 0 < n) : Gr k n most (trnL m) := by
  have h0 := h.row 0 hn
  have hl := h.len
  refine ⟨by rw [trn_len, h0], fun i hi => by rw [trn_row (by omega), mk_len, hl], fun i j hi hj => ?_⟩
  rw [getM_trn (by omega) (by omega)]
  exact h.bd j i hj hi
/-- The cost of a plan, or the error. -/
def cstR (t : Td) (m : List (List Int)) : Int × Int := if planI t m ≠ 0 then (0, planI t m) else (costI t m, 0)
theorem cst_1 {t : Td} {m : List (List Int)} (h : planI t m ≠ 0) : cstR t m = (0, planI t m) := if_pos h
theorem cst_0 {t : Td} {m : List (List Int)} (h : ¬ planI t m ≠ 0) : cstR t m = (costI t m, 0) := if_neg h
theorem not_cols {t : Td} {m : List (List Int)} (hV : VT t) (hg : Gr t.s.length t.d.length 120 m) {j : Nat} (hj : j < t.d.length) (h : ¬ (sm t.s.length fun i => getM m i j) = t.d.getD j 0) : rowsB (trnL m) t.d = false := by
  have hn := hV.ns
  rw [Bool.eq_false_iff]
  intro h2
  exact h ((cols_iff hg (by omega)).1 h2 j hj)
theorem LsG.at {w : World} {p : Option Addr} {ms : List (List (List Int))} (h : LsG w p ms) {k : Nat} (hk : k < ms.length) : ∃ q, p = some q ∧ ∃ pj cj, w.cell? (q.add (k * 1)) = some (.slice pj (ms.getD k []).length cj) ∧ LsAt w pj (ms.getD k []) := h k hk


set_option maxRecDepth 100000 in
set_option maxHeartbeats 4000000 in
theorem turned_ok (w0 : World) (vg : Value) (m : List (List Int)) (hg : IsG w0 vg m) (hM : SmG m) (hne : 0 < m.length) (hrow : ∀ i, i < m.length → (m.getD i []).length = (m.getD 0 []).length) :
    Calls Try.prog 64 #[vg] w0 (Post (X := Value × Heap) (fun x => x.1) (fun x => RdG (trnL m) x) (fun x => x.2) w0) := by
  obtain ⟨pg, cg, rfl, g1⟩ := hg
  have hM0 := hM.1
  have hM1 := hM.2 0
  refine calls Try.func64 rfl (n := 39) rfl (by simp) ?_
  refine TC.seq ?_
  refine TC.region ?_
  refine TL.pure (PV.assign rfl) rfl (by decide) ?_
  refine TL.nil ?_
  refine TQ.thenC ?_
  refine TC.seq ?_
  obtain ⟨q0, hq0p, q0p, q0c, hq0, hq0r⟩ := g1 0 (by omega)
  refine TC.region ?_
  refine TL.pure (PV.move rfl) rfl (by decide) ?_
  refine TL.pure (PV.indexA (j := 0) rfl hq0p rfl Tb.elm_23 rfl (by omega)) rfl (by decide) ?_
  refine TL.pure (PV.loadOld rfl Tb.one_22 hq0) rfl (by decide) ?_
  refine TL.pure (PV.len rfl Tb.sl_22) rfl (by decide) ?_
  refine TL.make (k := (m.getD 0 []).length) rfl rfl Tb.sl_23 Tb.zi_22 rfl rfl (by omega) (by omega) rfl (by decide) (fun bO hbO => ?_)
  refine TL.congrG (G' := gbR rwR 22 (some (bO, (m.getD 0 []).length, [])) (List.replicate (m.getD 0 []).length ⟨none, []⟩) ++ (rwB (List.replicate (m.getD 0 []).length ⟨none, []⟩) ++ [])) (by rw [← List.append_assoc, ← rw_blk0, rwB_none]; rfl) ?_
  refine TL.pure (PV.assign rfl) rfl (by decide) ?_
  refine TL.nil ?_
  refine TQ.thenC ?_
  refine TC.seq ?_
  refine TC.seq ?_
  refine TC.region ?_
  refine TL.pure (PV.move rfl) rfl (by decide) ?_
  refine TL.pure (PV.len rfl Tb.sl_23) rfl (by decide) ?_
  refine TL.pure (PV.move rfl) rfl (by decide) ?_
  refine TL.nil ?_
  refine TQ.thenC ?_
  refine TC.block ?_
  refine TC.lit [(2, _), (3, _), (13, _), (14, _), (15, _)] (by repeat (first | exact True.intro | refine And.intro rfl ?_)) ?_
  refine TC.loopK [2, 3, 13, 14] (X := Nat × List RW) (fun x => x.1 ≤ m.length ∧ TrS m (m.getD 0 []).length x.1 0 (some (bO, (m.getD 0 []).length, [])) x.2) (fun x => [(15, .int .i64 x.1)]) (fun x => gbR rwR 22 (some (bO, (m.getD 0 []).length, [])) x.2 ++ (rwB x.2 ++ [])) (fun x => m.length - x.1) (0, List.replicate (m.getD 0 []).length ⟨none, []⟩) ⟨Nat.zero_le _, TrS.zero⟩ (by repeat (first | exact True.intro | refine And.intro rfl ?_)) (List.Sublist.refl _) ?_
  intro x hx9
  refine TC.lit [(2, _), (3, _), (13, _), (14, _), (15, _)] (by repeat (first | exact True.intro | refine And.intro rfl ?_)) ?_
  refine TC.seq ?_
  refine TC.region ?_
  refine TL.pure (PV.lss rfl rfl) rfl (by decide) ?_
  refine TL.nil ?_
  refine TQ.thenC ?_
  refine TC.seq ?_
  first | refine TC.condD rfl (fun hlt => ?_) (fun hlt => ?_) | refine TC.cond rfl (fun hlt => ?_) (fun hlt => ?_)
  · skip
    refine TC.skip ?_
    refine TQ.thenC ?_
    refine TC.seq ?_
    refine TC.block ?_
    refine TC.seq ?_
    obtain ⟨q1, hq1p, q1p, q1c, hq1, hq1r⟩ := g1 x.1 (by omega)
    have hr1 := hrow x.1 (by omega)
    refine TC.region ?_
    refine TL.pure (PV.indexA (j := x.1) rfl hq1p rfl Tb.elm_23 rfl (by omega)) rfl (by decide) ?_
    refine TL.pure (PV.loadOld rfl Tb.one_22 hq1) rfl (by decide) ?_
    refine TL.pure (PV.assign rfl) rfl (by decide) ?_
    refine TL.nil ?_
    refine TQ.thenC ?_
    refine TC.seq ?_
    refine TC.region ?_
    refine TL.pure (PV.move rfl) rfl (by decide) ?_
    refine TL.pure (PV.len rfl Tb.sl_22) rfl (by decide) ?_
    refine TL.pure (PV.move rfl) rfl (by decide) ?_
    refine TL.nil ?_
    refine TQ.thenC ?_
    refine TC.block ?_
    refine TC.lit [(2, _), (3, _), (13, _), (14, _), (15, _), (19, _), (20, _), (21, _)] (by repeat (first | exact True.intro | refine And.intro rfl ?_)) ?_
    refine TC.loopK [2, 3, 13, 14, 15, 19, 20] (X := Nat × List RW) (fun y => y.1 ≤ (m.getD x.1 []).length ∧ TrS m (m.getD 0 []).length x.1 y.1 (some (bO, (m.getD 0 []).length, [])) y.2) (fun y => [(21, .int .i64 y.1)]) (fun y => gbR rwR 22 (some (bO, (m.getD 0 []).length, [])) y.2 ++ (rwB y.2 ++ [])) (fun y => (m.getD x.1 []).length - y.1) (0, x.2) ⟨Nat.zero_le _, hx9.2⟩ (by repeat (first | exact True.intro | refine And.intro rfl ?_)) (List.Sublist.refl _) ?_
    intro y hy9
    refine TC.lit [(2, _), (3, _), (13, _), (14, _), (15, _), (19, _), (20, _), (21, _)] (by repeat (first | exact True.intro | refine And.intro rfl ?_)) ?_
    refine TC.seq ?_
    refine TC.region ?_
    refine TL.pure (PV.lss rfl rfl) rfl (by decide) ?_
    refine TL.nil ?_
    refine TQ.thenC ?_
    refine TC.seq ?_
    first | refine TC.condD rfl (fun hlt2 => ?_) (fun hlt2 => ?_) | refine TC.cond rfl (fun hlt2 => ?_) (fun hlt2 => ?_)
    · skip
      refine TC.skip ?_
      refine TQ.thenC ?_
      refine TC.seq ?_
      refine TC.block ?_
      refine TC.seq ?_
      obtain ⟨q2, hq2p, hq2⟩ := hq1r y.1 (by omega)
      have hyl := hy9.2.len
      have hyg := hy9.2.go
      have hgk : gok (some (bO, (m.getD 0 []).length, [])) (m.getD 0 []).length 1 (rcs rwR y.2) := by have h5 := hyg; unfold goR at h5; rw [hyl] at h5; exact h5
      have hro : goI ((y.2.getD y.1 default).h, (y.2.getD y.1 default).l) := hy9.2.ok _ (rw_at (by omega))
      have hll : (y.2.getD y.1 default).l.length ≤ 1000000 := by rw [hy9.2.l y.1 (by omega), mk_len]; split <;> omega
      refine TC.region ?_
      refine TL.pure (PV.move rfl) rfl (by decide) ?_
      refine TL.pure (PV.indexA (j := y.1) rfl hq2p rfl Tb.elm_22 rfl (by omega)) rfl (by decide) ?_
      refine TL.pure (PV.loadOld rfl Tb.one_3 hq2) rfl (by decide) ?_
      refine TL.pure (PV.assign rfl) rfl (by decide) ?_
      refine TL.pure (PV.assign rfl) rfl (by decide) ?_
      refine TL.nil ?_
      refine TQ.thenC ?_
      rw [rwB_at (show y.1 < y.2.length by omega)]
      refine TC.region ?_
      refine TL.pure (PV.move rfl) rfl (by decide) ?_
      refine TL.pure (PV.move rfl) rfl (by decide) ?_
      refine TL.pure (PV.move rfl) rfl (by decide) ?_
      refine TL.pure (PV.move rfl) rfl (by decide) ?_
      refine TL.pure (PV.indexG (h := (some (bO, (m.getD 0 []).length, []))) (len := (m.getD 0 []).length) (ys := rcs rwR y.2) (j := y.1) rfl rfl hgk Tb.elm_23 rfl (by omega)) rfl (by decide) ?_
      refine TL.pure (PV.loadRecF (R := rwR) (h := (some (bO, (m.getD 0 []).length, []))) (l := y.2) (j := y.1) (f := 0) (v := gval (y.2.getD y.1 default).h (y.2.getD y.1 default).l.length) (e := 22) rfl Tb.one_22 (fun yy hyy => by repeat (first | exact List.mem_append_left _ hyy | exact List.mem_append_left _ (List.mem_append_right _ hyy) | exact List.mem_append_left _ (List.mem_append_left _ hyy) | refine List.mem_append_right _ ?_ | refine List.Mem.tail _ ?_)) hyg (by omega) Nat.one_pos rfl) rfl (by decide) ?_
      refine TL.pure (PV.move rfl) rfl (by decide) ?_
      refine TL.buildSlice (cs := #[.int .i64 (getM m x.1 y.1)]) rfl Tb.sl_22 Tb.zi_3 (by decide) (fill_i _) (by decide) rfl (by decide) (fun bE hbE => ?_)
      refine TL.appendI (x0 := ((y.2.getD y.1 default).h, (y.2.getD y.1 default).l)) (b := bE) (v := getM m x.1 y.1) rfl rfl (by repeat (first | exact List.Mem.head _ | refine List.Mem.tail _ ?_ | refine List.mem_append_right _ ?_)) hro (by repeat (first | exact TakeH.here _ _ _ _ | apply TakeH.tail | apply TakeH.app)) hll rfl (by decide) (fun hh hhh => ?_)
      refine TL.pure (PV.indexG (h := (some (bO, (m.getD 0 []).length, []))) (len := (m.getD 0 []).length) (ys := rcs rwR y.2) (j := y.1) rfl rfl hgk Tb.elm_23 rfl (by omega)) rfl (by decide) ?_
      refine TL.putCell (R := rwR) (h := (some (bO, (m.getD 0 []).length, []))) (l0 := y.2) (j := y.1) (f := 0) (v := gval hh ((y.2.getD y.1 default).l ++ [getM m x.1 y.1]).length) (r := ⟨hh, (y.2.getD y.1 default).l ++ [getM m x.1 y.1]⟩) (e := 22) rfl rfl Tb.cells_22 (gval_one _ _) hyg rfl (by repeat (first | exact PutH.here _ _ _ _ | apply PutH.tail | apply PutH.app)) (by omega) Nat.one_pos rfl rfl ?_
      refine TL.nil ?_
      refine TQ.blkN ?_
      refine TQ.thenC ?_
      refine TC.region ?_
      refine TL.pure (PV.add rfl rfl (by omega)) rfl (by decide) ?_
      refine TL.pure (PV.move rfl) rfl (by decide) ?_
      refine TL.nil ?_
      refine TQ.thenN ?_
      refine TQ.perm (G' := gbR rwR 22 (some (bO, (m.getD 0 []).length, [])) (y.2.set y.1 ⟨hh, (y.2.getD y.1 default).l ++ [getM m x.1 y.1]⟩) ++ (rwB (y.2.set y.1 ⟨hh, (y.2.getD y.1 default).l ++ [getM m x.1 y.1]⟩) ++ [(bE, Obj.cells #[.int .i64 (getM m x.1 y.1)] 3 (0, 0))])) (perm_of fun c9 => by rw [rwB_set (by omega)]; simp only [List.map_append, List.sum_append, List.map_cons, List.sum_cons, List.map_nil, List.sum_nil, gbI, gbR]; omega) ?_
      refine TQ.backK (y.1 + 1, (y.2.set y.1 ⟨hh, (y.2.getD y.1 default).l ++ [getM m x.1 y.1]⟩)) (by repeat (first | exact True.intro | refine And.intro rfl ?_)) (by repeat (first | exact True.intro | refine And.intro rfl ?_)) (List.Sublist.append_left (List.Sublist.append_left (List.nil_sublist _) _) _) ⟨by simp only; omega, hy9.2.step (by omega) hhh⟩ (by simp only; omega)
    · skip
      refine TC.exit ?_
      refine TQ.thenE ?_
      refine TQ.thenE ?_
      refine TQ.blkS ?_
      refine TQ.blkN ?_
      refine TQ.thenC ?_
      have hye : y.1 = (m.getD x.1 []).length := by omega
      refine TC.region ?_
      refine TL.pure (PV.add rfl rfl (by omega)) rfl (by decide) ?_
      refine TL.pure (PV.move rfl) rfl (by decide) ?_
      refine TL.nil ?_
      refine TQ.thenN ?_
      refine TQ.backK (x.1 + 1, y.2) (by repeat (first | exact True.intro | refine And.intro rfl ?_)) (by repeat (first | exact True.intro | refine And.intro rfl ?_)) (List.Sublist.refl _) ⟨by simp only; omega, hy9.2.next (by omega)⟩ (by simp only; omega)
  · skip
    refine TC.exit ?_
    refine TQ.thenE ?_
    refine TQ.thenE ?_
    refine TQ.blkS ?_
    refine TQ.thenC ?_
    refine TC.seq ?_
    refine TC.region ?_
    refine TL.pure (PV.move rfl) rfl (by decide) ?_
    refine TL.pure (PV.assign rfl) rfl (by decide) ?_
    refine TL.nil ?_
    refine TQ.thenC ?_
    refine TC.ret ?_
    refine TQ.retE1 rfl rfl ?_
    have hxe : x.1 = m.length := by omega
    have hfn := hx9.2.fin hxe rfl
    have hxl := hx9.2.len
    exact ⟨(gval (some (bO, (m.getD 0 []).length, [])) (trnL m).length, gbR rwR 22 (some (bO, (m.getD 0 []).length, [])) x.2 ++ rwB x.2), by rw [trn_len]; rfl, RdG.rw hx9.2.go hx9.2.ok hfn, by simp only [List.append_nil]; exact List.Sublist.refl _⟩

set_option maxRecDepth 100000 in
set_option maxHeartbeats 2000000 in
theorem checkPlan_ok (w0 : World) (vt : Value) (t : Td) (ht : IsT w0 vt t) (hT : SmT t) (vg : Value) (m : List (List Int)) (hg : IsG w0 vg m) (hM : SmG m) :
    Calls Try.prog 23 #[vt, vg] w0 (Post (X := Unit) (fun _ => .int .i64 (planI t m)) (fun _ => True) (fun _ => []) w0) := by
  obtain ⟨p1, c1, p2, c2, p3, c3, rfl, t1, t2, t3⟩ := ht
  obtain ⟨pg, cg, rfl, g1⟩ := hg
  refine calls Try.func23 rfl (n := 28) rfl (by simp) ?_
  refine TC.seq ?_
  refine TC.region ?_
  refine TL.box rfl rfl (by decide) (fun b0 hb0 => ?_)
  refine TL.pure (PV.assign rfl) rfl (by decide) ?_
  refine TL.nil ?_
  refine TQ.thenC ?_
  refine TC.seq ?_
  refine TC.seq ?_
  refine TC.region ?_
  refine TL.pure (PV.loadBox rfl Tb.agg_25 (by repeat (first | exact List.Mem.head _ | refine List.Mem.tail _ ?_ | refine List.mem_append_right _ ?_)) rfl) rfl (by decide) ?_
  refine TL.call rfl Tb.gofn_21 (fun a w hs => validate_ok w _ t (IsT.mk (t1.new hs.new) (t2.new hs.new) (t3.new hs.new)) hT) rfl (by decide) (fun _ _ => ?_)
  refine TL.pure (PV.assign rfl) rfl (by decide) ?_
  refine TL.nil ?_
  refine TQ.thenC ?_
  refine TC.seq ?_
  refine TC.region ?_
  refine TL.pure (PV.move rfl) rfl (by decide) ?_
  refine TL.pure (PV.neq rfl rfl) rfl (by decide) ?_
  refine TL.nil ?_
  refine TQ.thenC ?_
  first | refine TC.condD rfl (fun a1 => ?_) (fun a1 => ?_) | refine TC.cond rfl (fun a1 => ?_) (fun a1 => ?_)
  · skip
    refine TC.seq ?_
    refine TC.region ?_
    refine TL.pure (PV.move rfl) rfl (by decide) ?_
    refine TL.pure (PV.assign rfl) rfl (by decide) ?_
    refine TL.nil ?_
    refine TQ.thenC ?_
    refine TC.ret ?_
    refine TQ.thenR ?_
    refine TQ.retE1 rfl rfl ?_
    exact ⟨(), by rw [plan_v a1], trivial, List.nil_sublist _⟩
  · skip
    refine TC.skip ?_
    refine TQ.thenC ?_
    refine TC.seq ?_
    refine TC.seq ?_
    refine TC.region ?_
    refine TL.pure (PV.loadBox rfl Tb.agg_25 (by repeat (first | exact List.Mem.head _ | refine List.Mem.tail _ ?_ | refine List.mem_append_right _ ?_)) rfl) rfl (by decide) ?_
    refine TL.pure (PV.move rfl) rfl (by decide) ?_
    refine TL.call rfl Tb.gofn_59 (fun a w hs => isGrid_ok w _ t (IsT.mk (t1.new hs.new) (t2.new hs.new) (t3.new hs.new)) _ m (IsG.of (g1.new hs.new)) hM 120) rfl (by decide) (fun _ _ => ?_)
    refine TL.pure ((by first | exact PV.notD rfl | exact PV.not rfl)) rfl (by decide) ?_
    refine TL.nil ?_
    refine TQ.thenC ?_
    first | refine TC.condD rfl (fun a2 => ?_) (fun a2 => ?_) | refine TC.cond rfl (fun a2 => ?_) (fun a2 => ?_)
    · skip
      refine TC.seq ?_
      refine TC.region ?_
      refine TL.pure (PV.assign rfl) rfl (by decide) ?_
      refine TL.nil ?_
      refine TQ.thenC ?_
      refine TC.ret ?_
      refine TQ.thenR ?_
      refine TQ.retE1 rfl rfl ?_
      exact ⟨(), by rw [plan_1 a1 (by simpa using a2)], trivial, List.nil_sublist _⟩
    · skip
      refine TC.skip ?_
      refine TQ.thenC ?_
      refine TC.seq ?_
      refine TC.seq ?_
      have hV := vt_of a1
      have hns := hV.ns
      have hnd := hV.nd
      have ha2 : grB t.s.length t.d.length 120 m = true := by simpa using a2
      have hg := gr_iff.1 ha2
      have hgl := hg.len
      have hr0 := hg.row 0 (by omega)
      have htg := trn_gr hg (by omega)
      have htl := htg.len
      refine TC.mixV [true, true, true, false, true, true, true, false, true, true, false, true, true] [(b0, Obj.cells #[.slice p1 t.s.length c1, .slice p2 t.d.length c2, .slice p3 t.c.length c3] 25 (0, 0))] 13 Tb.mixed rfl (by kernel_rfl) (by kernel_rfl) (by kernel_rfl) (by kernel_rfl) (by repeat (first | exact List.Sublist.slnil | exact List.nil_sublist _ | exact List.Sublist.refl _ | refine List.Sublist.cons_cons _ ?_ | refine List.Sublist.cons _ ?_ | refine List.Sublist.trans ?_ (List.sublist_append_right _ _))) ?_
      refine TV.virt 0 rfl rfl (by decide) rfl (by kernel_rfl) (SOK.pure (PV.move rfl) rfl) ?_
      refine TV.virt 1 rfl rfl (by decide) rfl (by kernel_rfl) (SOK.pure (PV.fieldAddr rfl Tb.fo_25_0) rfl) ?_
      refine TV.virt 2 rfl rfl (by decide) rfl (by kernel_rfl) (SOK.pure (PV.load rfl Tb.one_22 (by repeat (first | exact List.Mem.head _ | refine List.Mem.tail _ ?_ | refine List.mem_append_right _ ?_)) rfl) rfl) ?_
      refine TV.step [3] (by kernel_rfl) (by decide) rfl ⟨⟨_, rfl, ?_⟩, trivial⟩
      refine TL.call rfl Tb.gofn_63 (fun a w hs => haveSums_ok w _ m (IsG.of (g1.new hs.new)) hM _ _ _ (t1.new hs.new) (by omega) (fun i hi => row_bd hg (by decide) (by omega))) rfl (by decide) (fun _ _ => ?_)
      refine TL.nil ?_
      refine TV.next (.inl (by repeat (first | exact List.Sublist.slnil | exact List.nil_sublist _ | exact List.Sublist.refl _ | refine List.Sublist.cons_cons _ ?_ | refine List.Sublist.cons _ ?_ | refine List.Sublist.trans ?_ (List.sublist_append_right _ _)))) ?_
      refine TV.virt 4 rfl rfl (by decide) rfl (by kernel_rfl) (SOK.pure ((by first | exact PV.notD rfl | exact PV.not rfl)) rfl) ?_
      refine TV.virt 5 rfl rfl (by decide) rfl (by kernel_rfl) (SOK.pure (PV.move rfl) rfl) ?_
      first | refine TV.splitD 20 rfl (fun a3 => ?_) (fun a3 => ?_) | refine TV.split 20 rfl (fun a3 => ?_) (fun a3 => ?_)
      · skip
        refine TV.virt 6 rfl rfl (by decide) rfl (by kernel_rfl) (SOK.skip rfl) ?_
        refine TV.virt 8 rfl rfl (by decide) rfl (by kernel_rfl) (SOK.skip rfl) ?_
        refine TV.virt 9 rfl rfl (by decide) rfl (by kernel_rfl) (SOK.skip rfl) ?_
        refine TV.step [7] (by kernel_rfl) (by decide) rfl ⟨⟨_, rfl, ?_⟩, trivial⟩
        refine TL.skip rfl (fun k hk => by cases hk; decide) ?_
        refine TL.nil ?_
        refine TV.next (.inl (by repeat (first | exact List.Sublist.slnil | exact List.nil_sublist _ | exact List.Sublist.refl _ | refine List.Sublist.cons_cons _ ?_ | refine List.Sublist.cons _ ?_ | refine List.Sublist.trans ?_ (List.sublist_append_right _ _)))) ?_
        refine TV.step [10] (by kernel_rfl) (by decide) rfl ⟨⟨_, rfl, ?_⟩, trivial⟩
        refine TL.skip rfl (fun k hk => by cases hk; decide) ?_
        refine TL.nil ?_
        refine TV.next (.inl (by repeat (first | exact List.Sublist.slnil | exact List.nil_sublist _ | exact List.Sublist.refl _ | refine List.Sublist.cons_cons _ ?_ | refine List.Sublist.cons _ ?_ | refine List.Sublist.trans ?_ (List.sublist_append_right _ _)))) ?_
        refine TV.virt 11 rfl rfl (by decide) rfl (by kernel_rfl) (SOK.skip rfl) ?_
        refine TV.virt 12 rfl rfl (by decide) rfl (by kernel_rfl) (SOK.pure (PV.pickT rfl rfl) rfl) ?_
        refine TV.done (by kernel_rfl) ?_
        refine TQ.thenC ?_
        refine TC.condT rfl ?_
        refine TC.seq ?_
        refine TC.region ?_
        refine TL.pure (PV.assign rfl) rfl (by decide) ?_
        refine TL.nil ?_
        refine TQ.thenC ?_
        refine TC.ret ?_
        refine TQ.thenR ?_
        refine TQ.retE1 rfl rfl ?_
        exact ⟨(), by rw [plan_6 a1 ha2 (by rw [show rowsB m t.s = false from decide_eq_false a3]; rfl)], trivial, List.nil_sublist _⟩
      · skip
        refine TV.virt 6 rfl rfl (by decide) rfl (by kernel_rfl) (SOK.pure (PV.move rfl) rfl) ?_
        refine TV.virt 8 rfl rfl (by decide) rfl (by kernel_rfl) (SOK.pure (PV.fieldAddr rfl Tb.fo_25_1) rfl) ?_
        refine TV.virt 9 rfl rfl (by decide) rfl (by kernel_rfl) (SOK.pure (PV.load rfl Tb.one_22 (by repeat (first | exact List.Mem.head _ | refine List.Mem.tail _ ?_ | refine List.mem_append_right _ ?_)) rfl) rfl) ?_
        refine TV.step [7] (by kernel_rfl) (by decide) rfl ⟨⟨_, rfl, ?_⟩, trivial⟩
        refine TL.call rfl Tb.gofn_64 (fun a w hs => turned_ok w _ m (IsG.of (g1.new hs.new)) hM (by omega) (fun i hi => by rw [hg.row i (by omega), hr0])) rfl (by decide) (fun z9 hz9 => ?_)
        refine TL.nil ?_
        refine TV.next (.inl (by repeat (first | exact List.Sublist.slnil | exact List.nil_sublist _ | exact List.Sublist.refl _ | refine List.Sublist.cons_cons _ ?_ | refine List.Sublist.cons _ ?_ | refine List.Sublist.trans ?_ (List.sublist_append_right _ _)))) ?_
        refine TV.step [10] (by kernel_rfl) (by decide) rfl ⟨⟨_, rfl, ?_⟩, trivial⟩
        refine TL.call rfl Tb.gofn_63 (fun a w hs => haveSums_ok w _ (trnL m) (hz9.at hs.new (fun yy hyy => by repeat (first | exact List.mem_append_left _ hyy | exact List.mem_append_left _ (List.mem_append_right _ hyy) | exact List.mem_append_left _ (List.mem_append_left _ hyy) | refine List.mem_append_right _ ?_ | refine List.Mem.tail _ ?_))) (htg.sm (by omega) (by omega)) _ _ _ (t2.new hs.new) (by omega) (fun i hi => row_bd htg (by decide) (by omega))) rfl (by decide) (fun _ _ => ?_)
        refine TL.nil ?_
        refine TV.next (.inl (by repeat (first | exact List.Sublist.slnil | exact List.nil_sublist _ | exact List.Sublist.refl _ | refine List.Sublist.cons_cons _ ?_ | refine List.Sublist.cons _ ?_ | refine List.Sublist.trans ?_ (List.sublist_append_right _ _)))) ?_
        refine TV.virt 11 rfl rfl (by decide) rfl (by kernel_rfl) (SOK.pure ((by first | exact PV.notD rfl | exact PV.not rfl)) rfl) ?_
        refine TV.virt 12 rfl rfl (by decide) rfl (by kernel_rfl) (SOK.pure (PV.pickF rfl rfl) rfl) ?_
        refine TV.done (by kernel_rfl) ?_
        refine TQ.thenC ?_
        first | refine TC.condD rfl (fun a4 => ?_) (fun a4 => ?_) | refine TC.cond rfl (fun a4 => ?_) (fun a4 => ?_)
        · skip
          refine TC.seq ?_
          refine TC.region ?_
          refine TL.pure (PV.assign rfl) rfl (by decide) ?_
          refine TL.nil ?_
          refine TQ.thenC ?_
          refine TC.ret ?_
          refine TQ.thenR ?_
          refine TQ.retE1 rfl rfl ?_
          exact ⟨(), by rw [plan_6 a1 ha2 (by rw [show rowsB (trnL m) t.d = false from decide_eq_false a4, Bool.and_false])], trivial, List.nil_sublist _⟩
        · skip
          refine TC.skip ?_
          refine TQ.thenC ?_
          refine TC.seq ?_
          refine TC.region ?_
          refine TL.pure (PV.assign rfl) rfl (by decide) ?_
          refine TL.nil ?_
          refine TQ.thenC ?_
          refine TC.ret ?_
          refine TQ.retE1 rfl rfl ?_
          exact ⟨(), by rw [plan_0 a1 ha2 (by rw [show rowsB m t.s = true from decide_eq_true (Decidable.of_not_not a3), show rowsB (trnL m) t.d = true from decide_eq_true (Decidable.of_not_not a4)]; rfl)], trivial, List.nil_sublist _⟩

set_option maxRecDepth 100000 in
theorem Cost_ok (w0 : World) (vt : Value) (t : Td) (ht : IsT w0 vt t) (hT : SmT t) (vg : Value) (m : List (List Int)) (hg : IsG w0 vg m) (hM : SmG m) :
    Calls Try.prog 19 #[vt, vg] w0 (Post (X := Unit) (fun _ => .tuple #[.int .i64 (cstR t m).1, .int .i64 (cstR t m).2]) (fun _ => True) (fun _ => []) w0) := by
  obtain ⟨p1, c1, p2, c2, p3, c3, rfl, t1, t2, t3⟩ := ht
  obtain ⟨pg, cg, rfl, g1⟩ := hg
  refine calls Try.func19 rfl (n := 16) rfl (by simp) ?_
  refine TC.seq ?_
  refine TC.region ?_
  refine TL.box rfl rfl (by decide) (fun b0 hb0 => ?_)
  refine TL.pure (PV.assign rfl) rfl (by decide) ?_
  refine TL.pure (PV.assign rfl) rfl (by decide) ?_
  refine TL.nil ?_
  refine TQ.thenC ?_
  refine TC.seq ?_
  refine TC.seq ?_
  refine TC.region ?_
  refine TL.pure (PV.loadBox rfl Tb.agg_25 (by repeat (first | exact List.Mem.head _ | refine List.Mem.tail _ ?_ | refine List.mem_append_right _ ?_)) rfl) rfl (by decide) ?_
  refine TL.pure (PV.move rfl) rfl (by decide) ?_
  refine TL.call rfl Tb.gofn_23 (fun a w hs => checkPlan_ok w _ t (IsT.mk (t1.new hs.new) (t2.new hs.new) (t3.new hs.new)) hT _ m (IsG.of (g1.new hs.new)) hM) rfl (by decide) (fun _ _ => ?_)
  refine TL.pure (PV.assign rfl) rfl (by decide) ?_
  refine TL.nil ?_
  refine TQ.thenC ?_
  refine TC.seq ?_
  refine TC.region ?_
  refine TL.pure (PV.move rfl) rfl (by decide) ?_
  refine TL.pure (PV.neq rfl rfl) rfl (by decide) ?_
  refine TL.nil ?_
  refine TQ.thenC ?_
  first | refine TC.condD rfl (fun a1 => ?_) (fun a1 => ?_) | refine TC.cond rfl (fun a1 => ?_) (fun a1 => ?_)
  · skip
    refine TC.seq ?_
    refine TC.region ?_
    refine TL.pure (PV.move rfl) rfl (by decide) ?_
    refine TL.pure (PV.assign rfl) rfl (by decide) ?_
    refine TL.pure (PV.assign rfl) rfl (by decide) ?_
    refine TL.nil ?_
    refine TQ.thenC ?_
    refine TC.ret ?_
    refine TQ.thenR ?_
    refine TQ.retE2 rfl rfl rfl ?_
    exact ⟨(), by rw [cst_1 a1], trivial, List.nil_sublist _⟩
  · skip
    refine TC.skip ?_
    refine TQ.thenC ?_
    refine TC.seq ?_
    have hV := vp_of a1
    have hns := hV.ns
    have hnd := hV.nd
    refine TC.region ?_
    refine TL.pure (PV.loadBox rfl Tb.agg_25 (by repeat (first | exact List.Mem.head _ | refine List.Mem.tail _ ?_ | refine List.mem_append_right _ ?_)) rfl) rfl (by decide) ?_
    refine TL.pure (PV.move rfl) rfl (by decide) ?_
    refine TL.call rfl Tb.gofn_55 (fun a w hs => costOf_ok w _ t (IsT.mk (t1.new hs.new) (t2.new hs.new) (t3.new hs.new)) _ m (IsG.of (g1.new hs.new)) hV.c hV.g (by omega) (by omega)) rfl (by decide) (fun _ _ => ?_)
    refine TL.pure (PV.assign rfl) rfl (by decide) ?_
    refine TL.pure (PV.assign rfl) rfl (by decide) ?_
    refine TL.nil ?_
    refine TQ.thenC ?_
    refine TC.ret ?_
    refine TQ.retE2 rfl rfl rfl ?_
    exact ⟨(), by rw [cst_0 a1], trivial, List.nil_sublist _⟩

end Go.Proofs.Ytghlkndanpegbaa
