/- Which plans are right, and what a plan costs: the reference; long inputs. -/
import Derived.Test.YtghlkndanpegbaaBc
set_option linter.unusedVariables false
set_option linter.unusedSimpArgs false
namespace Go.Proofs.Ytghlkndanpegbaa
open Go.Sx Go.RowKit Go.Sand

theorem mk_rep (n : Nat) (v : Int) : List.replicate n v = mk n fun _ => v := mk_eq (by simp) fun j hj => by simp [List.getD, hj]
theorem col_bd {n k : Nat} {m : List (List Int)} (h : Gr n k 120 m) {i : Nat} (hi : i ≤ n) {j : Nat} (hj : j < k) : -(120 * (i : Int)) ≤ sm i (fun r => getM m r j) ∧ sm i (fun r => getM m r j) ≤ 120 * (i : Int) :=
  sm_bd (by decide) fun r hr => by have := h.bd r j (by omega) hj; omega
theorem rows_ok {m : List (List Int)} {xs : List Int} {n k : Nat} {most : Int} (hg : Gr n k most m) (h : ∀ r, r < n → sumI (m.getD r []) = xs.getD r 0) : rowsB m xs = true := decide_eq_true fun i hi => h i (by have := hg.len; omega)


set_option maxRecDepth 100000 in
set_option maxHeartbeats 1000000 in
theorem rcost_ok (w0 : World) (vt : Value) (t : Td) (ht : IsT w0 vt t) (vg : Value) (m : List (List Int)) (hg : IsG w0 vg m) (hc : Gr t.s.length t.d.length 99 t.c) (hm : Gr t.s.length t.d.length 120 m) (hs4 : t.s.length ≤ 4) (hd4 : t.d.length ≤ 4) :
    Calls Try.prog 56 #[vt, vg] w0 (Post (X := Unit) (fun _ => .int .i64 (costI t m)) (fun _ => True) (fun _ => []) w0) := by
  obtain ⟨p1, c1, p2, c2, p3, c3, rfl, t1, t2, t3⟩ := ht
  obtain ⟨pg, cg, rfl, g1⟩ := hg
  have hml := hm.len
  have hcl := hc.len
  refine calls Try.func56 rfl (n := 42) rfl (by simp) ?_
  refine TC.seq ?_
  refine TC.region ?_
  refine TL.box rfl rfl (by decide) (fun b0 hb0 => ?_)
  refine TL.pure (PV.assign rfl) rfl (by decide) ?_
  refine TL.nil ?_
  refine TQ.thenC ?_
  refine TC.seq ?_
  refine TC.region ?_
  refine TL.pure (PV.assign rfl) rfl (by decide) ?_
  refine TL.nil ?_
  refine TQ.thenC ?_
  refine TC.seq ?_
  refine TC.seq ?_
  refine TC.region ?_
  refine TL.pure (PV.assign rfl) rfl (by decide) ?_
  refine TL.nil ?_
  refine TQ.thenC ?_
  refine TC.block ?_
  refine TC.loopG [1, 2, 4] (X := Nat) (fun k => k ≤ m.length) (fun k => [(6, .int .i64 k), (5, .int .i64 (sm k (fun i => prodI (m.getD i []) (t.c.getD i []))))]) (fun k => m.length - k) 0 (Nat.zero_le _) (by repeat (first | exact True.intro | refine And.intro rfl ?_)) ?_
  intro k hk
  refine TC.seq ?_
  refine TC.seq ?_
  refine TC.region ?_
  refine TL.pure (PV.move rfl) rfl (by decide) ?_
  refine TL.pure (PV.move rfl) rfl (by decide) ?_
  refine TL.pure (PV.len rfl Tb.sl_23) rfl (by decide) ?_
  refine TL.pure (PV.lss rfl rfl) rfl (by decide) ?_
  refine TL.nil ?_
  refine TQ.thenC ?_
  first | refine TC.condD rfl (fun hlt => ?_) (fun hlt => ?_) | refine TC.cond rfl (fun hlt => ?_) (fun hlt => ?_)
  · skip
    refine TC.skip ?_
    refine TQ.thenC ?_
    refine TC.seq ?_
    refine TC.block ?_
    refine TC.seq ?_
    obtain ⟨q1, hq1p, q1p, q1c, hq1, hq1r⟩ := g1 k (by omega)
    obtain ⟨q2, hq2p, q2p, q2c, hq2, hq2r⟩ := t3 k (by omega)
    have hr1 := hm.row k (by omega)
    have hr2 := hc.row k (by omega)
    have hb9 := cost_bd hm hc (by decide) (by decide) hd4 (i := k) (by omega)
    refine TC.region ?_
    refine TL.pure (PV.assign rfl) rfl (by decide) ?_
    refine TL.nil ?_
    refine TQ.thenC ?_
    refine TC.block ?_
    refine TC.loopG [1, 2, 4, 6] (X := Nat) (fun q => q ≤ (m.getD k []).length) (fun q => [(7, .int .i64 q), (5, .int .i64 (sm k (fun i => prodI (m.getD i []) (t.c.getD i [])) + sm q (fun j => (m.getD k []).getD j 0 * (t.c.getD k []).getD j 0)))]) (fun q => (m.getD k []).length - q) 0 (Nat.zero_le _) (And.intro rfl (And.intro (by show some (Value.int .i64 (sm k _)) = some (Value.int .i64 (sm k _ + 0)); rw [Int.add_zero]) True.intro)) ?_
    intro q hq9
    refine TC.seq ?_
    refine TC.seq ?_
    refine TC.region ?_
    refine TL.pure (PV.move rfl) rfl (by decide) ?_
    refine TL.pure (PV.move rfl) rfl (by decide) ?_
    refine TL.pure (PV.move rfl) rfl (by decide) ?_
    refine TL.pure (PV.indexA rfl hq1p rfl Tb.elm_23 rfl (by omega)) rfl (by decide) ?_
    refine TL.pure (PV.loadOld rfl Tb.one_22 hq1) rfl (by decide) ?_
    refine TL.pure (PV.len rfl Tb.sl_22) rfl (by decide) ?_
    refine TL.pure (PV.lss rfl rfl) rfl (by decide) ?_
    refine TL.nil ?_
    refine TQ.thenC ?_
    first | refine TC.condD rfl (fun hlt2 => ?_) (fun hlt2 => ?_) | refine TC.cond rfl (fun hlt2 => ?_) (fun hlt2 => ?_)
    · skip
      refine TC.skip ?_
      refine TQ.thenC ?_
      refine TC.seq ?_
      refine TC.block ?_
      obtain ⟨q3, hq3p, hq3⟩ := hq1r q (by omega)
      obtain ⟨q4, hq4p, hq4⟩ := hq2r q (by omega)
      have hb8 := prod_bd (hm.sm3 (by decide) (i := k) (by omega)) (hc.sm3 (by decide) (i := k) (by omega)) (by omega) (k := q) (by omega)
      have hb7 := mul_bdA (A := 1000) (B := 1000) (hm.sm3 (by decide) (i := k) (by omega) q (by omega)) (hc.sm3 (by decide) (i := k) (by omega) q (by omega)) (by decide) (by decide)
      refine TC.draw 18 Tb.mixed (by kernel_rfl) ?_
      simp only [List.take_succ_cons, List.take_zero, List.drop_succ_cons, List.drop_zero]
      refine TS.pure (PV.move rfl) rfl (by decide) ?_
      refine TS.pure (PV.move rfl) rfl (by decide) ?_
      refine TS.pure (PV.move rfl) rfl (by decide) ?_
      refine TS.pure (PV.indexA rfl hq1p rfl Tb.elm_23 rfl (by omega)) rfl (by decide) ?_
      refine TS.pure (PV.loadOld rfl Tb.one_22 hq1) rfl (by decide) ?_
      refine TS.pure (PV.move rfl) rfl (by decide) ?_
      refine TS.pure (PV.indexA rfl hq3p rfl Tb.elm_22 rfl (by omega)) rfl (by decide) ?_
      refine TS.pure (PV.loadOld rfl Tb.one_3 hq3) rfl (by decide) ?_
      refine TS.pure (PV.fieldAddr rfl Tb.fo_25_2) rfl (by decide) ?_
      refine TS.pure (PV.load rfl Tb.one_23 (by repeat (first | exact List.Mem.head _ | refine List.Mem.tail _ ?_ | refine List.mem_append_right _ ?_)) rfl) rfl (by decide) ?_
      refine TS.pure (PV.move rfl) rfl (by decide) ?_
      refine TS.pure (PV.indexA rfl hq2p rfl Tb.elm_23 rfl (by omega)) rfl (by decide) ?_
      refine TS.pure (PV.loadOld rfl Tb.one_22 hq2) rfl (by decide) ?_
      refine TS.pure (PV.move rfl) rfl (by decide) ?_
      refine TS.pure (PV.indexA rfl hq4p rfl Tb.elm_22 rfl (by omega)) rfl (by decide) ?_
      refine TS.pure (PV.loadOld rfl Tb.one_3 hq4) rfl (by decide) ?_
      refine TS.pure (PV.mul rfl rfl (by omega)) rfl (by decide) ?_
      refine TS.pure (PV.add rfl rfl (by omega)) rfl (by decide) ?_
      refine TS.nil ?_
      refine TL.pure (PV.assign rfl) rfl (by decide) ?_
      refine TL.nil ?_
      refine TQ.blkN ?_
      refine TQ.thenC ?_
      refine TC.region ?_
      refine TL.pure (PV.move rfl) rfl (by decide) ?_
      refine TL.pure (PV.add rfl rfl (by omega)) rfl (by decide) ?_
      refine TL.pure (PV.assign rfl) rfl (by decide) ?_
      refine TL.nil ?_
      refine TQ.thenN ?_
      refine TQ.backK (q + 1) (And.intro rfl (And.intro (by show some (Value.int .i64 (sm k _ + sm q _ + _)) = some (Value.int .i64 (sm k _ + (sm q _ + _))); rw [Int.add_assoc]) True.intro)) (by repeat (first | exact True.intro | refine And.intro rfl ?_)) (by repeat (first | exact List.Sublist.slnil | exact List.nil_sublist _ | exact List.Sublist.refl _ | refine List.Sublist.cons_cons _ ?_ | refine List.Sublist.cons _ ?_ | refine List.Sublist.trans ?_ (List.sublist_append_right _ _))) (by omega) (by omega)
    · skip
      refine TC.exit ?_
      refine TQ.thenE ?_
      refine TQ.thenE ?_
      refine TQ.blkS ?_
      refine TQ.blkN ?_
      refine TQ.thenC ?_
      have hqe : q = (m.getD k []).length := by omega
      subst hqe
      refine TC.region ?_
      refine TL.pure (PV.move rfl) rfl (by decide) ?_
      refine TL.pure (PV.add rfl rfl (by omega)) rfl (by decide) ?_
      refine TL.pure (PV.assign rfl) rfl (by decide) ?_
      refine TL.nil ?_
      refine TQ.thenN ?_
      refine TQ.backK (k + 1) (by repeat (first | exact True.intro | refine And.intro rfl ?_)) (by repeat (first | exact True.intro | refine And.intro rfl ?_)) (by repeat (first | exact List.Sublist.slnil | exact List.nil_sublist _ | exact List.Sublist.refl _ | refine List.Sublist.cons_cons _ ?_ | refine List.Sublist.cons _ ?_ | refine List.Sublist.trans ?_ (List.sublist_append_right _ _))) (by omega) (by omega)
  · skip
    refine TC.exit ?_
    refine TQ.thenE ?_
    refine TQ.thenE ?_
    refine TQ.blkS ?_
    refine TQ.thenC ?_
    refine TC.seq ?_
    refine TC.region ?_
    refine TL.pure (PV.move rfl) rfl (by decide) ?_
    refine TL.pure (PV.assign rfl) rfl (by decide) ?_
    refine TL.nil ?_
    refine TQ.thenC ?_
    refine TC.ret ?_
    refine TQ.retE1 rfl rfl ?_
    exact ⟨(), by rw [show k = m.length by omega]; rfl, trivial, List.nil_sublist _⟩

set_option maxRecDepth 100000 in
set_option maxHeartbeats 4000000 in
theorem rcheckPlan_ok (w0 : World) (vt : Value) (t : Td) (ht : IsT w0 vt t) (hT : SmT t) (vg : Value) (m : List (List Int)) (hg : IsG w0 vg m) (hM : SmG m) :
    Calls Try.prog 24 #[vt, vg] w0 (Post (X := Unit) (fun _ => .int .i64 (planI t m)) (fun _ => True) (fun _ => []) w0) := by
  obtain ⟨p1, c1, p2, c2, p3, c3, rfl, t1, t2, t3⟩ := ht
  obtain ⟨pg, cg, rfl, g1⟩ := hg
  refine calls Try.func24 rfl (n := 75) rfl (by simp) ?_
  refine TC.seq ?_
  refine TC.region ?_
  refine TL.box rfl rfl (by decide) (fun b0 hb0 => ?_)
  refine TL.pure (PV.assign rfl) rfl (by decide) ?_
  refine TL.nil ?_
  refine TQ.thenC ?_
  refine TC.seq ?_
  refine TC.region ?_
  refine TL.pure (PV.loadBox rfl Tb.agg_25 (by repeat (first | exact List.Mem.head _ | refine List.Mem.tail _ ?_ | refine List.mem_append_right _ ?_)) rfl) rfl (by decide) ?_
  refine TL.call rfl Tb.gofn_22 (fun a w hs => rvalidate_ok w _ t (IsT.mk (t1.new hs.new) (t2.new hs.new) (t3.new hs.new)) hT) rfl (by decide) (fun _ _ => ?_)
  refine TL.pure (PV.assign rfl) rfl (by decide) ?_
  refine TL.nil ?_
  refine TQ.thenC ?_
  refine TC.seq ?_
  refine TC.seq ?_
  refine TC.region ?_
  refine TL.pure (PV.move rfl) rfl (by decide) ?_
  refine TL.pure (PV.neq rfl rfl) rfl (by decide) ?_
  refine TL.nil ?_
  refine TQ.thenC ?_
  first | refine TC.condD rfl (fun a1 => ?_) (fun a1 => ?_) | refine TC.cond rfl (fun a1 => ?_) (fun a1 => ?_)
  · skip
    refine TC.seq ?_
    refine TC.region ?_
    refine TL.pure (PV.move rfl) rfl (by decide) ?_
    refine TL.pure (PV.assign rfl) rfl (by decide) ?_
    refine TL.nil ?_
    refine TQ.thenC ?_
    refine TC.ret ?_
    refine TQ.thenR ?_
    refine TQ.retE1 rfl rfl ?_
    exact ⟨(), by rw [plan_v a1], trivial, List.nil_sublist _⟩
  · skip
    refine TC.skip ?_
    refine TQ.thenC ?_
    refine TC.seq ?_
    refine TC.seq ?_
    refine TC.region ?_
    refine TL.pure (PV.loadBox rfl Tb.agg_25 (by repeat (first | exact List.Mem.head _ | refine List.Mem.tail _ ?_ | refine List.mem_append_right _ ?_)) rfl) rfl (by decide) ?_
    refine TL.pure (PV.move rfl) rfl (by decide) ?_
    refine TL.call rfl Tb.gofn_62 (fun a w hs => rtable_ok w _ t (IsT.mk (t1.new hs.new) (t2.new hs.new) (t3.new hs.new)) _ m (IsG.of (g1.new hs.new)) hM 120) rfl (by decide) (fun _ _ => ?_)
    refine TL.pure ((by first | exact PV.notD rfl | exact PV.not rfl)) rfl (by decide) ?_
    refine TL.nil ?_
    refine TQ.thenC ?_
    first | refine TC.condD rfl (fun a2 => ?_) (fun a2 => ?_) | refine TC.cond rfl (fun a2 => ?_) (fun a2 => ?_)
    · skip
      refine TC.seq ?_
      refine TC.region ?_
      refine TL.pure (PV.assign rfl) rfl (by decide) ?_
      refine TL.nil ?_
      refine TQ.thenC ?_
      refine TC.ret ?_
      refine TQ.thenR ?_
      refine TQ.retE1 rfl rfl ?_
      exact ⟨(), by rw [plan_1 a1 (by simpa using a2)], trivial, List.nil_sublist _⟩
    · skip
      refine TC.skip ?_
      refine TQ.thenC ?_
      refine TC.seq ?_
      have hV := vt_of a1
      have hns := hV.ns
      have hnd := hV.nd
      have ha2 : grB t.s.length t.d.length 120 m = true := by simpa using a2
      have hg := gr_iff.1 ha2
      have hgl := hg.len
      refine TC.region ?_
      refine TL.pure (PV.fieldAddr rfl Tb.fo_25_1) rfl (by decide) ?_
      refine TL.pure (PV.load rfl Tb.one_22 (by repeat (first | exact List.Mem.head _ | refine List.Mem.tail _ ?_ | refine List.mem_append_right _ ?_)) rfl) rfl (by decide) ?_
      refine TL.pure (PV.len rfl Tb.sl_22) rfl (by decide) ?_
      refine TL.makeI (k := t.d.length) rfl rfl Tb.sl_22 Tb.zi_3 rfl (by omega) (by omega) rfl (by decide) (fun bG hbG => ?_)
      refine TL.pure (PV.assign rfl) rfl (by decide) ?_
      refine TL.nil ?_
      refine TQ.thenC ?_
      refine TC.seq ?_
      refine TC.seq ?_
      refine TC.region ?_
      refine TL.pure (PV.assign rfl) rfl (by decide) ?_
      refine TL.nil ?_
      refine TQ.thenC ?_
      refine TC.block ?_
      -- live and written in the loop, not told: [4]
      refine TC.lit [(1, _), (2, _), (6, _), (7, _)] (by repeat (first | exact True.intro | refine And.intro rfl ?_)) ?_
      refine TC.loopK [1, 2, 6] (X := Nat) (fun k => k ≤ t.s.length ∧ ∀ r, r < k → sumI (m.getD r []) = t.s.getD r 0) (fun k => [(7, .int .i64 k)]) (fun k => [(bG, Obj.cells (intsA (mk t.d.length (fun j => sm k fun r => getM m r j))) 3 (0, 0)), (b0, Obj.cells #[.slice p1 t.s.length c1, .slice p2 t.d.length c2, .slice p3 t.c.length c3] 25 (0, 0))]) (fun k => t.s.length - k) 0 ⟨Nat.zero_le _, fun r hr => absurd hr (Nat.not_lt_zero _)⟩ (by repeat (first | exact True.intro | refine And.intro rfl ?_)) (by rw [mk_rep]; exact List.Sublist.refl _) ?_
      intro k hk
      refine TC.lit [(1, _), (2, _), (6, _), (7, _)] (by repeat (first | exact True.intro | refine And.intro rfl ?_)) ?_
      refine TC.seq ?_
      refine TC.seq ?_
      refine TC.region ?_
      refine TL.pure (PV.move rfl) rfl (by decide) ?_
      refine TL.pure (PV.move rfl) rfl (by decide) ?_
      refine TL.pure (PV.len rfl Tb.sl_23) rfl (by decide) ?_
      refine TL.pure (PV.lss rfl rfl) rfl (by decide) ?_
      refine TL.nil ?_
      refine TQ.thenC ?_
      first | refine TC.condD rfl (fun hlt => ?_) (fun hlt => ?_) | refine TC.cond rfl (fun hlt => ?_) (fun hlt => ?_)
      · skip
        refine TC.skip ?_
        refine TQ.thenC ?_
        refine TC.seq ?_
        refine TC.block ?_
        refine TC.seq ?_
        refine TC.seq ?_
        obtain ⟨q1, hq1p, q1p, q1c, hq1, hq1r⟩ := g1 k (by omega)
        obtain ⟨q2, hq2p, hq2⟩ := t1 k (by omega)
        have hrk := hg.row k (by omega)
        refine TC.any Tb.mixed rfl rfl ?_
        refine TA.op (OpOK.pure (PV.move rfl) rfl (by decide)) (by decide) ?_
        refine TA.op (OpOK.pure (PV.move rfl) rfl (by decide)) (by decide) ?_
        refine TA.op (OpOK.pure (PV.indexA rfl hq1p rfl Tb.elm_23 rfl (by omega)) rfl (by decide)) (by decide) ?_
        refine TA.op (OpOK.pure (PV.loadOld rfl Tb.one_22 hq1) rfl (by decide)) (by decide) ?_
        refine TA.op (OpOK.call rfl Tb.gofn_61 (fun a w hs => rsum_ok w _ _ _ (hq1r.new hs.new) (hM.2 k) (row_bd hg (by decide) (by omega))) rfl (by decide)) (by decide) ?_
        refine TA.op (OpOK.pure (PV.fieldAddr rfl Tb.fo_25_0) rfl (by decide)) (by decide) ?_
        refine TA.op (OpOK.pure (PV.load rfl Tb.one_22 (by repeat (first | exact List.Mem.head _ | refine List.Mem.tail _ ?_ | refine List.mem_append_right _ ?_)) rfl) rfl (by decide)) (by decide) ?_
        refine TA.op (OpOK.pure (PV.move rfl) rfl (by decide)) (by decide) ?_
        refine TA.op (OpOK.pure (PV.indexA rfl hq2p rfl Tb.elm_22 rfl (by omega)) rfl (by decide)) (by decide) ?_
        refine TA.op (OpOK.pure (PV.loadOld rfl Tb.one_3 hq2) rfl (by decide)) (by decide) ?_
        refine TA.op (OpOK.pure (PV.neq rfl rfl) rfl (by decide)) (by decide) ?_
        show TQ _ _ _ _ _
        refine TQ.thenC ?_
        first | refine TC.condD rfl (fun a3 => ?_) (fun a3 => ?_) | refine TC.cond rfl (fun a3 => ?_) (fun a3 => ?_)
        · skip
          refine TC.seq ?_
          refine TC.region ?_
          refine TL.pure (PV.assign rfl) rfl (by decide) ?_
          refine TL.nil ?_
          refine TQ.thenC ?_
          refine TC.ret ?_
          refine TQ.thenR ?_
          refine TQ.blkR ?_
          refine TQ.thenR ?_
          refine TQ.thenR ?_
          refine TQ.blkR ?_
          refine TQ.thenR ?_
          refine TQ.retE1 rfl rfl ?_
          exact ⟨(), by rw [plan_6 a1 ha2 (by rw [rows_no (i := k) (by omega) a3]; rfl)], trivial, List.nil_sublist _⟩
        · skip
          refine TC.skip ?_
          refine TQ.thenC ?_
          refine TC.seq ?_
          refine TC.region ?_
          refine TL.pure (PV.assign rfl) rfl (by decide) ?_
          refine TL.nil ?_
          refine TQ.thenC ?_
          refine TC.block ?_
          refine TC.lit [(1, _), (2, _), (6, _), (7, _), (8, _)] (by repeat (first | exact True.intro | refine And.intro rfl ?_)) ?_
          refine TC.loopK [1, 2, 4, 6, 7] (X := Nat) (fun q => q ≤ t.d.length) (fun q => [(8, .int .i64 q)]) (fun q => [(bG, Obj.cells (intsA (mk t.d.length (mx (fun j => sm (k + 1) fun r => getM m r j) (fun j => sm k fun r => getM m r j) q))) 3 (0, 0)), (b0, Obj.cells #[.slice p1 t.s.length c1, .slice p2 t.d.length c2, .slice p3 t.c.length c3] 25 (0, 0))]) (fun q => t.d.length - q) 0 (Nat.zero_le _) (by repeat (first | exact True.intro | refine And.intro rfl ?_)) (by rw [mx_zero]; exact List.Sublist.refl _) ?_
          intro q hq9
          refine TC.lit [(1, _), (2, _), (6, _), (7, _), (8, _)] (by repeat (first | exact True.intro | refine And.intro rfl ?_)) ?_
          refine TC.seq ?_
          refine TC.seq ?_
          refine TC.region ?_
          refine TL.pure (PV.move rfl) rfl (by decide) ?_
          refine TL.pure (PV.move rfl) rfl (by decide) ?_
          refine TL.pure (PV.len rfl Tb.sl_22) rfl (by decide) ?_
          refine TL.pure (PV.lss rfl rfl) rfl (by decide) ?_
          refine TL.nil ?_
          refine TQ.thenC ?_
          first | refine TC.condD rfl (fun hlt2 => ?_) (fun hlt2 => ?_) | refine TC.cond rfl (fun hlt2 => ?_) (fun hlt2 => ?_)
          · skip
            refine TC.skip ?_
            refine TQ.thenC ?_
            refine TC.seq ?_
            refine TC.block ?_
            obtain ⟨q3, hq3p, hq3⟩ := hq1r q (by omega)
            have hmq : (mk t.d.length (mx (fun j => sm (k + 1) fun r => getM m r j) (fun j => sm k fun r => getM m r j) q)).getD q 0 = sm k (fun r => getM m r q) := (mk_at _ (by omega)).trans (if_neg (Nat.lt_irrefl _))
            have hb9 := col_bd hg (i := k) (by omega) (j := q) (by omega)
            have hb8 := hg.bd k q (by omega) (by omega)
            unfold getM at hb8
            refine TC.draw 13 Tb.mixed (by kernel_rfl) ?_
            simp only [List.take_succ_cons, List.take_zero, List.drop_succ_cons, List.drop_zero]
            refine TS.pure (PV.move rfl) rfl (by decide) ?_
            refine TS.pure (PV.move rfl) rfl (by decide) ?_
            refine TS.pure (PV.index1 (j := q) rfl rfl Tb.elm_22 rfl (by omega)) rfl (by decide) ?_
            refine TS.pure (PV.loadIv (xs := mk t.d.length (mx (fun j => sm (k + 1) fun r => getM m r j) (fun j => sm k fun r => getM m r j) q)) rfl Tb.one_3 (by repeat (first | exact List.Mem.head _ | refine List.Mem.tail _ ?_ | refine List.mem_append_right _ ?_)) (by rw [mk_len]; omega) hmq) rfl (by decide) ?_
            refine TS.pure (PV.move rfl) rfl (by decide) ?_
            refine TS.pure (PV.move rfl) rfl (by decide) ?_
            refine TS.pure (PV.indexA rfl hq1p rfl Tb.elm_23 rfl (by omega)) rfl (by decide) ?_
            refine TS.pure (PV.loadOld rfl Tb.one_22 hq1) rfl (by decide) ?_
            refine TS.pure (PV.move rfl) rfl (by decide) ?_
            refine TS.pure (PV.indexA rfl hq3p rfl Tb.elm_22 rfl (by omega)) rfl (by decide) ?_
            refine TS.pure (PV.loadOld rfl Tb.one_3 hq3) rfl (by decide) ?_
            refine TS.pure (PV.add rfl rfl (by omega)) rfl (by decide) ?_
            refine TS.pure (PV.index1 (j := q) rfl rfl Tb.elm_22 rfl (by omega)) rfl (by decide) ?_
            refine TS.nil ?_
            refine TL.storeIv (xs := mk t.d.length (mx (fun j => sm (k + 1) fun r => getM m r j) (fun j => sm k fun r => getM m r j) q)) (xs' := mk t.d.length (mx (fun j => sm (k + 1) fun r => getM m r j) (fun j => sm k fun r => getM m r j) (q + 1))) (j := q) rfl rfl Tb.cells_3 (mx_set (by omega) rfl) (by repeat (first | exact Upd.head _ | apply Upd.tail | apply Upd.appR)) (by rw [mk_len]; omega) rfl rfl ?_
            refine TL.nil ?_
            refine TQ.blkN ?_
            refine TQ.thenC ?_
            refine TC.region ?_
            refine TL.pure (PV.move rfl) rfl (by decide) ?_
            refine TL.pure (PV.add rfl rfl (by omega)) rfl (by decide) ?_
            refine TL.pure (PV.assign rfl) rfl (by decide) ?_
            refine TL.nil ?_
            refine TQ.thenN ?_
            refine TQ.backK (q + 1) (by repeat (first | exact True.intro | refine And.intro rfl ?_)) (by repeat (first | exact True.intro | refine And.intro rfl ?_)) (List.Sublist.refl _) (by omega) (by omega)
          · skip
            refine TC.exit ?_
            refine TQ.thenE ?_
            refine TQ.thenE ?_
            refine TQ.blkS ?_
            refine TQ.blkN ?_
            refine TQ.thenC ?_
            have hqe : q = t.d.length := by omega
            refine TC.region ?_
            refine TL.pure (PV.move rfl) rfl (by decide) ?_
            refine TL.pure (PV.add rfl rfl (by omega)) rfl (by decide) ?_
            refine TL.pure (PV.assign rfl) rfl (by decide) ?_
            refine TL.nil ?_
            refine TQ.thenN ?_
            refine TQ.backK (k + 1) (by repeat (first | exact True.intro | refine And.intro rfl ?_)) (by repeat (first | exact True.intro | refine And.intro rfl ?_)) (by rw [← mx_all (f := (fun j => sm (k + 1) fun r => getM m r j)) (g := (fun j => sm k fun r => getM m r j)) (show t.d.length ≤ q by omega)]; exact List.Sublist.refl _) ⟨by omega, fun j hj => if e : j < k then hk.2 j e else (show k = j by omega) ▸ (Decidable.of_not_not a3)⟩ (by omega)
      · skip
        refine TC.exit ?_
        refine TQ.thenE ?_
        refine TQ.thenE ?_
        refine TQ.blkS ?_
        refine TQ.thenC ?_
        refine TC.seq ?_
        refine TC.seq ?_
        have hke : k = t.s.length := by omega
        subst hke
        refine TC.region ?_
        refine TL.pure (PV.assign rfl) rfl (by decide) ?_
        refine TL.nil ?_
        refine TQ.thenC ?_
        refine TC.block ?_
        -- live and written in the loop, not told: [4]
        refine TC.lit [(2, _), (6, _), (9, _)] (by repeat (first | exact True.intro | refine And.intro rfl ?_)) ?_
        refine TC.loopK [2, 6] (X := Nat) (fun q => q ≤ t.d.length ∧ ∀ j, j < q → (sm t.s.length fun r => getM m r j) = t.d.getD j 0) (fun q => [(9, .int .i64 q)]) (fun q => [(bG, Obj.cells (intsA (mk t.d.length (fun j => sm t.s.length fun r => getM m r j))) 3 (0, 0)), (b0, Obj.cells #[.slice p1 t.s.length c1, .slice p2 t.d.length c2, .slice p3 t.c.length c3] 25 (0, 0))]) (fun q => t.d.length - q) 0 ⟨Nat.zero_le _, fun r hr => absurd hr (Nat.not_lt_zero _)⟩ (by repeat (first | exact True.intro | refine And.intro rfl ?_)) (List.Sublist.refl _) ?_
        intro q hq9
        refine TC.lit [(2, _), (6, _), (9, _)] (by repeat (first | exact True.intro | refine And.intro rfl ?_)) ?_
        refine TC.seq ?_
        refine TC.seq ?_
        refine TC.region ?_
        refine TL.pure (PV.move rfl) rfl (by decide) ?_
        refine TL.pure (PV.move rfl) rfl (by decide) ?_
        refine TL.pure (PV.len rfl Tb.sl_22) rfl (by decide) ?_
        refine TL.pure (PV.lss rfl rfl) rfl (by decide) ?_
        refine TL.nil ?_
        refine TQ.thenC ?_
        first | refine TC.condD rfl (fun hlt3 => ?_) (fun hlt3 => ?_) | refine TC.cond rfl (fun hlt3 => ?_) (fun hlt3 => ?_)
        · skip
          refine TC.skip ?_
          refine TQ.thenC ?_
          refine TC.seq ?_
          refine TC.block ?_
          refine TC.seq ?_
          obtain ⟨q4, hq4p, hq4⟩ := t2 q (by omega)
          have hmq : (mk t.d.length (fun j => sm t.s.length fun r => getM m r j)).getD q 0 = sm t.s.length (fun r => getM m r q) := mk_at _ (by omega)
          refine TC.any Tb.mixed rfl rfl ?_
          refine TA.op (OpOK.pure (PV.move rfl) rfl (by decide)) (by decide) ?_
          refine TA.op (OpOK.pure (PV.move rfl) rfl (by decide)) (by decide) ?_
          refine TA.op (OpOK.pure (PV.index1 (j := q) rfl rfl Tb.elm_22 rfl (by omega)) rfl (by decide)) (by decide) ?_
          refine TA.op (OpOK.pure (PV.loadIv (xs := mk t.d.length (fun j => sm t.s.length fun r => getM m r j)) rfl Tb.one_3 (by repeat (first | exact List.Mem.head _ | refine List.Mem.tail _ ?_ | refine List.mem_append_right _ ?_)) (by rw [mk_len]; omega) hmq) rfl (by decide)) (by decide) ?_
          refine TA.op (OpOK.pure (PV.fieldAddr rfl Tb.fo_25_1) rfl (by decide)) (by decide) ?_
          refine TA.op (OpOK.pure (PV.load rfl Tb.one_22 (by repeat (first | exact List.Mem.head _ | refine List.Mem.tail _ ?_ | refine List.mem_append_right _ ?_)) rfl) rfl (by decide)) (by decide) ?_
          refine TA.op (OpOK.pure (PV.move rfl) rfl (by decide)) (by decide) ?_
          refine TA.op (OpOK.pure (PV.indexA rfl hq4p rfl Tb.elm_22 rfl (by omega)) rfl (by decide)) (by decide) ?_
          refine TA.op (OpOK.pure (PV.loadOld rfl Tb.one_3 hq4) rfl (by decide)) (by decide) ?_
          refine TA.op (OpOK.pure (PV.neq rfl rfl) rfl (by decide)) (by decide) ?_
          show TQ _ _ _ _ _
          refine TQ.thenC ?_
          first | refine TC.condD rfl (fun a4 => ?_) (fun a4 => ?_) | refine TC.cond rfl (fun a4 => ?_) (fun a4 => ?_)
          · skip
            refine TC.seq ?_
            refine TC.region ?_
            refine TL.pure (PV.assign rfl) rfl (by decide) ?_
            refine TL.nil ?_
            refine TQ.thenC ?_
            refine TC.ret ?_
            refine TQ.blkR ?_
            refine TQ.thenR ?_
            refine TQ.thenR ?_
            refine TQ.blkR ?_
            refine TQ.thenR ?_
            refine TQ.retE1 rfl rfl ?_
            exact ⟨(), by rw [plan_6 a1 ha2 (by rw [not_cols hV hg (j := q) (by omega) a4, Bool.and_false])], trivial, List.nil_sublist _⟩
          · skip
            refine TC.skip ?_
            refine TQ.blkN ?_
            refine TQ.thenC ?_
            refine TC.region ?_
            refine TL.pure (PV.move rfl) rfl (by decide) ?_
            refine TL.pure (PV.add rfl rfl (by omega)) rfl (by decide) ?_
            refine TL.pure (PV.assign rfl) rfl (by decide) ?_
            refine TL.nil ?_
            refine TQ.thenN ?_
            refine TQ.backK (q + 1) (by repeat (first | exact True.intro | refine And.intro rfl ?_)) (by repeat (first | exact True.intro | refine And.intro rfl ?_)) (List.Sublist.refl _) ⟨by omega, fun j hj => if e : j < q then hq9.2 j e else (show q = j by omega) ▸ (Decidable.of_not_not a4)⟩ (by omega)
        · skip
          refine TC.exit ?_
          refine TQ.thenE ?_
          refine TQ.thenE ?_
          refine TQ.blkS ?_
          refine TQ.thenC ?_
          refine TC.seq ?_
          refine TC.region ?_
          refine TL.pure (PV.assign rfl) rfl (by decide) ?_
          refine TL.nil ?_
          refine TQ.thenC ?_
          refine TC.ret ?_
          refine TQ.retE1 rfl rfl ?_
          exact ⟨(), by rw [plan_0 a1 ha2 (by rw [rows_ok hg hk.2, (cols_iff hg (by omega)).2 (fun j hj => hq9.2 j (by omega))]; rfl)], trivial, List.nil_sublist _⟩

set_option maxRecDepth 100000 in
theorem rCost_ok (w0 : World) (vt : Value) (t : Td) (ht : IsT w0 vt t) (hT : SmT t) (vg : Value) (m : List (List Int)) (hg : IsG w0 vg m) (hM : SmG m) :
    Calls Try.prog 20 #[vt, vg] w0 (Post (X := Unit) (fun _ => .tuple #[.int .i64 (cstR t m).1, .int .i64 (cstR t m).2]) (fun _ => True) (fun _ => []) w0) := by
  obtain ⟨p1, c1, p2, c2, p3, c3, rfl, t1, t2, t3⟩ := ht
  obtain ⟨pg, cg, rfl, g1⟩ := hg
  refine calls Try.func20 rfl (n := 16) rfl (by simp) ?_
  refine TC.seq ?_
  refine TC.region ?_
  refine TL.box rfl rfl (by decide) (fun b0 hb0 => ?_)
  refine TL.pure (PV.assign rfl) rfl (by decide) ?_
  refine TL.pure (PV.assign rfl) rfl (by decide) ?_
  refine TL.nil ?_
  refine TQ.thenC ?_
  refine TC.seq ?_
  refine TC.region ?_
  refine TL.pure (PV.loadBox rfl Tb.agg_25 (by repeat (first | exact List.Mem.head _ | refine List.Mem.tail _ ?_ | refine List.mem_append_right _ ?_)) rfl) rfl (by decide) ?_
  refine TL.pure (PV.move rfl) rfl (by decide) ?_
  refine TL.call rfl Tb.gofn_24 (fun a w hs => rcheckPlan_ok w _ t (IsT.mk (t1.new hs.new) (t2.new hs.new) (t3.new hs.new)) hT _ m (IsG.of (g1.new hs.new)) hM) rfl (by decide) (fun _ _ => ?_)
  refine TL.pure (PV.assign rfl) rfl (by decide) ?_
  refine TL.nil ?_
  refine TQ.thenC ?_
  refine TC.seq ?_
  refine TC.seq ?_
  refine TC.region ?_
  refine TL.pure (PV.move rfl) rfl (by decide) ?_
  refine TL.pure (PV.neq rfl rfl) rfl (by decide) ?_
  refine TL.nil ?_
  refine TQ.thenC ?_
  first | refine TC.condD rfl (fun a1 => ?_) (fun a1 => ?_) | refine TC.cond rfl (fun a1 => ?_) (fun a1 => ?_)
  · skip
    refine TC.seq ?_
    refine TC.region ?_
    refine TL.pure (PV.move rfl) rfl (by decide) ?_
    refine TL.pure (PV.assign rfl) rfl (by decide) ?_
    refine TL.pure (PV.assign rfl) rfl (by decide) ?_
    refine TL.nil ?_
    refine TQ.thenC ?_
    refine TC.ret ?_
    refine TQ.thenR ?_
    refine TQ.retE2 rfl rfl rfl ?_
    exact ⟨(), by rw [cst_1 a1], trivial, List.nil_sublist _⟩
  · skip
    refine TC.skip ?_
    refine TQ.thenC ?_
    refine TC.seq ?_
    have hV := vp_of a1
    have hns := hV.ns
    have hnd := hV.nd
    refine TC.region ?_
    refine TL.pure (PV.loadBox rfl Tb.agg_25 (by repeat (first | exact List.Mem.head _ | refine List.Mem.tail _ ?_ | refine List.mem_append_right _ ?_)) rfl) rfl (by decide) ?_
    refine TL.pure (PV.move rfl) rfl (by decide) ?_
    refine TL.call rfl Tb.gofn_56 (fun a w hs => rcost_ok w _ t (IsT.mk (t1.new hs.new) (t2.new hs.new) (t3.new hs.new)) _ m (IsG.of (g1.new hs.new)) hV.c hV.g (by omega) (by omega)) rfl (by decide) (fun _ _ => ?_)
    refine TL.pure (PV.assign rfl) rfl (by decide) ?_
    refine TL.pure (PV.assign rfl) rfl (by decide) ?_
    refine TL.nil ?_
    refine TQ.thenC ?_
    refine TC.ret ?_
    refine TQ.retE2 rfl rfl rfl ?_
    exact ⟨(), by rw [cst_0 a1], trivial, List.nil_sublist _⟩

set_option maxRecDepth 100000 in
theorem long_ok (w0 : World) (vt : Value) (t : Td) (ht : IsT w0 vt t) (hlc : t.c.length ≤ 9223372036854775807) (pm : Option Addr) (cm : Nat) (ms : List (List (List Int))) (hms : LsG w0 pm ms) (hlm : ∀ k, (ms.getD k []).length ≤ 9223372036854775807) (hll : ms.length ≤ 1000) :
    Calls Try.prog 17 #[vt, .slice pm ms.length cm] w0 (Post (X := Unit) (fun _ => .bool (lgT t ms)) (fun _ => True) (fun _ => []) w0) := by
  obtain ⟨p1, c1, p2, c2, p3, c3, rfl, t1, t2, t3⟩ := ht
  refine calls Try.func17 rfl (n := 32) rfl (by simp) ?_
  refine TC.seq ?_
  refine TC.region ?_
  refine TL.box rfl rfl (by decide) (fun b0 hb0 => ?_)
  refine TL.pure (PV.assign rfl) rfl (by decide) ?_
  refine TL.nil ?_
  refine TQ.thenC ?_
  refine TC.seq ?_
  refine TC.seq ?_
  refine TC.region ?_
  refine TL.pure (PV.assign rfl) rfl (by decide) ?_
  refine TL.nil ?_
  refine TQ.thenC ?_
  refine TC.block ?_
  -- live and written in the loop, not told: [4]
  refine TC.loopG [1, 2] (X := Nat) (fun k => k ≤ ms.length ∧ ∀ j, j < k → lgG (ms.getD j []) = false) (fun k => [(5, .int .i64 k)]) (fun k => ms.length - k) 0 ⟨Nat.zero_le _, fun j hj => absurd hj (Nat.not_lt_zero _)⟩ (by repeat (first | exact True.intro | refine And.intro rfl ?_)) ?_
  intro k hk
  refine TC.seq ?_
  refine TC.seq ?_
  refine TC.region ?_
  refine TL.pure (PV.move rfl) rfl (by decide) ?_
  refine TL.pure (PV.move rfl) rfl (by decide) ?_
  refine TL.pure (PV.len rfl Tb.sl_63) rfl (by decide) ?_
  refine TL.pure (PV.lss rfl rfl) rfl (by decide) ?_
  refine TL.nil ?_
  refine TQ.thenC ?_
  first | refine TC.condD rfl (fun hlt => ?_) (fun hlt => ?_) | refine TC.cond rfl (fun hlt => ?_) (fun hlt => ?_)
  · skip
    refine TC.skip ?_
    refine TQ.thenC ?_
    refine TC.seq ?_
    refine TC.block ?_
    refine TC.seq ?_
    obtain ⟨q1, hq1p, q1p, q1c, hq1, hq1r⟩ := hms k (by omega)
    refine TC.region ?_
    refine TL.pure (PV.move rfl) rfl (by decide) ?_
    refine TL.pure (PV.move rfl) rfl (by decide) ?_
    refine TL.pure (PV.indexA rfl hq1p rfl Tb.elm_63 rfl (by omega)) rfl (by decide) ?_
    refine TL.pure (PV.loadOld rfl Tb.one_23 hq1) rfl (by decide) ?_
    refine TL.call rfl Tb.gofn_54 (fun a w hs => table_ok w _ _ (IsG.of (hq1r.new hs.new)) (hlm k)) rfl (by decide) (fun _ _ => ?_)
    refine TL.nil ?_
    refine TQ.thenC ?_
    first | refine TC.condD rfl (fun hno => ?_) (fun hno => ?_) | refine TC.cond rfl (fun hno => ?_) (fun hno => ?_)
    · skip
      refine TC.seq ?_
      refine TC.region ?_
      refine TL.pure (PV.assign rfl) rfl (by decide) ?_
      refine TL.nil ?_
      refine TQ.thenC ?_
      refine TC.ret ?_
      refine TQ.blkR ?_
      refine TQ.thenR ?_
      refine TQ.thenR ?_
      refine TQ.blkR ?_
      refine TQ.thenR ?_
      refine TQ.retE1 rfl rfl ?_
      first | exact ⟨(), by unfold lgT; rw [any_yes (k := k) (d := []) (by omega) (by simpa using hno), Bool.true_or], trivial, List.nil_sublist _⟩ | (refine ⟨(), ?_, trivial, List.nil_sublist _⟩; unfold lgT; rw [any_no (f := lgG) (d := []) (fun j hj => hk.2 j (by omega)), Bool.false_or]; first | (rw [decide_eq_true (show 50 < t.s.length by omega)]; rfl) | (rw [decide_eq_false (show ¬ 50 < t.s.length by omega), decide_eq_true (show 50 < t.d.length by omega)]; rfl) | (rw [decide_eq_false (show ¬ 50 < t.s.length by omega), decide_eq_false (show ¬ 50 < t.d.length by omega)]; rfl))
    · skip
      refine TC.skip ?_
      refine TQ.blkN ?_
      refine TQ.thenC ?_
      refine TC.region ?_
      refine TL.pure (PV.move rfl) rfl (by decide) ?_
      refine TL.pure (PV.add rfl rfl (by omega)) rfl (by decide) ?_
      refine TL.pure (PV.assign rfl) rfl (by decide) ?_
      refine TL.nil ?_
      refine TQ.thenN ?_
      refine TQ.backK (k + 1) (by repeat (first | exact True.intro | refine And.intro rfl ?_)) (by repeat (first | exact True.intro | refine And.intro rfl ?_)) (by repeat (first | exact List.Sublist.slnil | exact List.nil_sublist _ | exact List.Sublist.refl _ | refine List.Sublist.cons_cons _ ?_ | refine List.Sublist.cons _ ?_ | refine List.Sublist.trans ?_ (List.sublist_append_right _ _))) ⟨by omega, fun j hj => if e : j < k then hk.2 j e else (show k = j by omega) ▸ (by simpa using hno)⟩ (by omega)
  · skip
    refine TC.exit ?_
    refine TQ.thenE ?_
    refine TQ.thenE ?_
    refine TQ.blkS ?_
    refine TQ.thenC ?_
    refine TC.seq ?_
    refine TC.region ?_
    refine TL.pure (PV.fieldAddr rfl Tb.fo_25_0) rfl (by decide) ?_
    refine TL.pure (PV.load rfl Tb.one_22 (by repeat (first | exact List.Mem.head _ | refine List.Mem.tail _ ?_ | refine List.mem_append_right _ ?_)) rfl) rfl (by decide) ?_
    refine TL.pure (PV.len rfl Tb.sl_22) rfl (by decide) ?_
    refine TL.pure (PV.gtr rfl rfl) rfl (by decide) ?_
    refine TL.pure (PV.move rfl) rfl (by decide) ?_
    first | refine TL.splitD 21 rfl (fun e1 => ?_) (fun e1 => ?_) | refine TL.split 21 rfl (fun e1 => ?_) (fun e1 => ?_)
    · skip
      refine TL.skip rfl (fun k hk => by cases hk; decide) ?_
      refine TL.skip rfl (fun k hk => by cases hk; decide) ?_
      refine TL.skip rfl (fun k hk => by cases hk; decide) ?_
      refine TL.skip rfl (fun k hk => by cases hk; decide) ?_
      refine TL.pure (PV.pickT rfl rfl) rfl (by decide) ?_
      refine TL.pure (PV.move rfl) rfl (by decide) ?_
      refine TL.skip rfl (fun k hk => by cases hk; decide) ?_
      refine TL.skip rfl (fun k hk => by cases hk; decide) ?_
      refine TL.skip rfl (fun k hk => by cases hk; decide) ?_
      refine TL.pure (PV.pickT rfl rfl) rfl (by decide) ?_
      refine TL.pure (PV.assign rfl) rfl (by decide) ?_
      refine TL.nil ?_
      refine TQ.thenC ?_
      refine TC.ret ?_
      refine TQ.retE1 rfl rfl ?_
      first | exact ⟨(), by unfold lgT; rw [any_yes (k := k) (d := []) (by omega) (by simpa using hno), Bool.true_or], trivial, List.nil_sublist _⟩ | (refine ⟨(), ?_, trivial, List.nil_sublist _⟩; unfold lgT; rw [any_no (f := lgG) (d := []) (fun j hj => hk.2 j (by omega)), Bool.false_or]; first | (rw [decide_eq_true (show 50 < t.s.length by omega)]; rfl) | (rw [decide_eq_false (show ¬ 50 < t.s.length by omega), decide_eq_true (show 50 < t.d.length by omega)]; rfl) | (rw [decide_eq_false (show ¬ 50 < t.s.length by omega), decide_eq_false (show ¬ 50 < t.d.length by omega)]; rfl))
    · skip
      refine TL.pure (PV.fieldAddr rfl Tb.fo_25_1) rfl (by decide) ?_
      refine TL.pure (PV.load rfl Tb.one_22 (by repeat (first | exact List.Mem.head _ | refine List.Mem.tail _ ?_ | refine List.mem_append_right _ ?_)) rfl) rfl (by decide) ?_
      refine TL.pure (PV.len rfl Tb.sl_22) rfl (by decide) ?_
      refine TL.pure (PV.gtr rfl rfl) rfl (by decide) ?_
      refine TL.pure (PV.pickF rfl rfl) rfl (by decide) ?_
      refine TL.pure (PV.move rfl) rfl (by decide) ?_
      first | refine TL.splitD 27 rfl (fun e2 => ?_) (fun e2 => ?_) | refine TL.split 27 rfl (fun e2 => ?_) (fun e2 => ?_)
      · skip
        refine TL.skip rfl (fun k hk => by cases hk; decide) ?_
        refine TL.skip rfl (fun k hk => by cases hk; decide) ?_
        refine TL.skip rfl (fun k hk => by cases hk; decide) ?_
        refine TL.pure (PV.pickT rfl rfl) rfl (by decide) ?_
        refine TL.pure (PV.assign rfl) rfl (by decide) ?_
        refine TL.nil ?_
        refine TQ.thenC ?_
        refine TC.ret ?_
        refine TQ.retE1 rfl rfl ?_
        first | exact ⟨(), by unfold lgT; rw [any_yes (k := k) (d := []) (by omega) (by simpa using hno), Bool.true_or], trivial, List.nil_sublist _⟩ | (refine ⟨(), ?_, trivial, List.nil_sublist _⟩; unfold lgT; rw [any_no (f := lgG) (d := []) (fun j hj => hk.2 j (by omega)), Bool.false_or]; first | (rw [decide_eq_true (show 50 < t.s.length by omega)]; rfl) | (rw [decide_eq_false (show ¬ 50 < t.s.length by omega), decide_eq_true (show 50 < t.d.length by omega)]; rfl) | (rw [decide_eq_false (show ¬ 50 < t.s.length by omega), decide_eq_false (show ¬ 50 < t.d.length by omega)]; rfl))
      · skip
        refine TL.pure (PV.fieldAddr rfl Tb.fo_25_2) rfl (by decide) ?_
        refine TL.pure (PV.load rfl Tb.one_23 (by repeat (first | exact List.Mem.head _ | refine List.Mem.tail _ ?_ | refine List.mem_append_right _ ?_)) rfl) rfl (by decide) ?_
        refine TL.call rfl Tb.gofn_54 (fun a w hs => table_ok w _ _ (IsG.of (t3.new hs.new)) hlc) rfl (by decide) (fun _ _ => ?_)
        refine TL.pure (PV.pickF rfl rfl) rfl (by decide) ?_
        refine TL.pure (PV.assign rfl) rfl (by decide) ?_
        refine TL.nil ?_
        refine TQ.thenC ?_
        refine TC.ret ?_
        refine TQ.retE1 rfl rfl ?_
        first | exact ⟨(), by unfold lgT; rw [any_yes (k := k) (d := []) (by omega) (by simpa using hno), Bool.true_or], trivial, List.nil_sublist _⟩ | (refine ⟨(), ?_, trivial, List.nil_sublist _⟩; unfold lgT; rw [any_no (f := lgG) (d := []) (fun j hj => hk.2 j (by omega)), Bool.false_or]; first | (rw [decide_eq_true (show 50 < t.s.length by omega)]; rfl) | (rw [decide_eq_false (show ¬ 50 < t.s.length by omega), decide_eq_true (show 50 < t.d.length by omega)]; rfl) | (rw [decide_eq_false (show ¬ 50 < t.s.length by omega), decide_eq_false (show ¬ 50 < t.d.length by omega)]; rfl))

end Go.Proofs.Ytghlkndanpegbaa
