/- The plan along the corner: the reference; equal tables: contracts. -/
import Derived.Test.YtghlkndanpegbaaBk
set_option linter.unusedVariables false
set_option linter.unusedSimpArgs false
namespace Go.Proofs.Ytghlkndanpegbaa
open Go.Sx Go.RowKit Go.Sand Go.Tp

theorem SmG.at {m : List (List Int)} (h : SmG m) (k : Nat) : (m.getD k []).length ≤ 1000000 := h.2 k
theorem ls_ext {a b : List (List Int)} (hl : a.length = b.length) (h : ∀ k, k < a.length → a.getD k [] = b.getD k []) : a = b := by
  refine List.ext_getElem hl fun j h1 h2 => ?_
  have := h j h1
  simpa [List.getD, h1, h2] using this
theorem corn_vp {t : Td} (h : VT t) : Pl t.s.length t.d.length (fS t) (fD t) (cornX t.s.length t.d.length (fS t) (fD t)) := corn_plan (fun i hi => (h.s i hi).1) (fun j hj => (h.d j hj).1) h.sum
theorem pl_vp {t : Td} (h : VT t) {x : Mat} (hp : Pl t.s.length t.d.length (fS t) (fD t) x) : VP t (tabL t.s.length t.d.length x) := by
  refine ⟨h, ⟨tab_len _ _ _, fun i hi => by rw [tab_row _ hi, mk_len], fun i j hi hj => ?_⟩, fun i hi => ?_, fun j hj => ?_⟩
  · rw [tab_at _ hi hj]
    have h1 := hp.nn i j hi hj
    have h2 := sm_one (f := x i) (n := t.d.length) (fun q hq => hp.nn i q hi hq) j hj
    have h3 := hp.row i hi
    have h4 : fS t i ≤ 30 := (h.s i hi).2
    omega
  · rw [tab_row _ hi]
    unfold sumI
    rw [mk_len]
    exact (sm_congr fun q hq => mk_at _ hq).trans (hp.row i hi)
  · exact (sm_congr fun i hi => tab_at _ hi hj).trans (hp.col j hj)
theorem VP.pl {t : Td} {m : List (List Int)} (h : VP t m) : Pl t.s.length t.d.length (fS t) (fD t) (getM m) := by
  refine ⟨fun i j hi hj => (h.g.bd i j hi hj).1, fun i hi => ?_, h.col⟩
  have := h.row i hi
  unfold sumI at this
  rw [h.g.row i hi] at this
  exact this
theorem cornT_vp {t : Td} (h : VT t) : VP t (cornT t) := pl_vp h (corn_vp h)
theorem cost_eq {t : Td} {m : List (List Int)} (h : VP t m) : costI t m = cst t.s.length t.d.length (getM t.c) (getM m) := by
  unfold costI cst
  rw [h.g.len]
  exact sm_congr fun i hi => by rw [h.g.row i hi]


set_option maxRecDepth 100000 in
theorem sameInts_ok (w0 : World) (pl : Option Addr) (cl : Nat) (xs : List Int) (hx : IntsAt w0 pl xs) (p2 : Option Addr) (c2 : Nat) (ys : List Int) (hy : IntsAt w0 p2 ys) (hl : xs.length ≤ 1000000) (hl2 : ys.length ≤ 1000000) :
    Calls Try.prog 67 #[.slice pl xs.length cl, .slice p2 ys.length c2] w0 (Post (X := Unit) (fun _ => .bool (decide (xs = ys))) (fun _ => True) (fun _ => []) w0) := by
  refine calls Try.func67 rfl (n := 26) rfl (by simp) ?_
  refine TC.seq ?_
  refine TC.region ?_
  refine TL.pure (PV.assign rfl) rfl (by decide) ?_
  refine TL.nil ?_
  refine TQ.thenC ?_
  refine TC.seq ?_
  refine TC.seq ?_
  refine TC.region ?_
  refine TL.pure (PV.move rfl) rfl (by decide) ?_
  refine TL.pure (PV.len rfl Tb.sl_22) rfl (by decide) ?_
  refine TL.pure (PV.move rfl) rfl (by decide) ?_
  refine TL.pure (PV.len rfl Tb.sl_22) rfl (by decide) ?_
  refine TL.pure (PV.neq rfl rfl) rfl (by decide) ?_
  refine TL.nil ?_
  refine TQ.thenC ?_
  first | refine TC.condD rfl (fun hne => ?_) (fun hne => ?_) | refine TC.cond rfl (fun hne => ?_) (fun hne => ?_)
  · skip
    refine TC.seq ?_
    refine TC.region ?_
    refine TL.pure (PV.assign rfl) rfl (by decide) ?_
    refine TL.nil ?_
    refine TQ.thenC ?_
    refine TC.ret ?_
    refine TQ.thenR ?_
    refine TQ.retE1 rfl rfl ?_
    exact ⟨(), by rw [decide_eq_false (fun e => by subst e; omega)], trivial, List.nil_sublist _⟩
  · skip
    refine TC.skip ?_
    refine TQ.thenC ?_
    refine TC.seq ?_
    refine TC.seq ?_
    refine TC.region ?_
    refine TL.pure (PV.assign rfl) rfl (by decide) ?_
    refine TL.nil ?_
    refine TQ.thenC ?_
    refine TC.block ?_
    -- live and written in the loop, not told: [4]
    refine TC.loopG [0, 1] (X := Nat) (fun k => k ≤ xs.length ∧ ∀ j, j < k → xs.getD j 0 = ys.getD j 0) (fun k => [(5, .int .i64 k)]) (fun k => xs.length - k) 0 ⟨Nat.zero_le _, fun j hj => absurd hj (Nat.not_lt_zero _)⟩ (by repeat (first | exact True.intro | refine And.intro rfl ?_)) ?_
    intro k hk
    refine TC.seq ?_
    refine TC.seq ?_
    refine TC.region ?_
    refine TL.pure (PV.move rfl) rfl (by decide) ?_
    refine TL.pure (PV.move rfl) rfl (by decide) ?_
    refine TL.pure (PV.len rfl Tb.sl_22) rfl (by decide) ?_
    refine TL.pure (PV.lss rfl rfl) rfl (by decide) ?_
    refine TL.nil ?_
    refine TQ.thenC ?_
    first | refine TC.condD rfl (fun hlt => ?_) (fun hlt => ?_) | refine TC.cond rfl (fun hlt => ?_) (fun hlt => ?_)
    · skip
      refine TC.skip ?_
      refine TQ.thenC ?_
      refine TC.seq ?_
      refine TC.block ?_
      refine TC.seq ?_
      obtain ⟨q1, hq1p, hq1⟩ := hx k (by omega)
      obtain ⟨q2, hq2p, hq2⟩ := hy k (by omega)
      refine TC.any Tb.mixed rfl rfl ?_
      refine TA.op (OpOK.pure (PV.move rfl) rfl (by decide)) (by decide) ?_
      refine TA.op (OpOK.pure (PV.move rfl) rfl (by decide)) (by decide) ?_
      refine TA.op (OpOK.pure (PV.indexA rfl hq1p rfl Tb.elm_22 rfl (by omega)) rfl (by decide)) (by decide) ?_
      refine TA.op (OpOK.pure (PV.loadOld rfl Tb.one_3 hq1) rfl (by decide)) (by decide) ?_
      refine TA.op (OpOK.pure (PV.move rfl) rfl (by decide)) (by decide) ?_
      refine TA.op (OpOK.pure (PV.move rfl) rfl (by decide)) (by decide) ?_
      refine TA.op (OpOK.pure (PV.indexA rfl hq2p rfl Tb.elm_22 rfl (by omega)) rfl (by decide)) (by decide) ?_
      refine TA.op (OpOK.pure (PV.loadOld rfl Tb.one_3 hq2) rfl (by decide)) (by decide) ?_
      refine TA.op (OpOK.pure (PV.neq rfl rfl) rfl (by decide)) (by decide) ?_
      show TQ _ _ _ _ _
      refine TQ.thenC ?_
      first | refine TC.condD rfl (fun hno => ?_) (fun hno => ?_) | refine TC.cond rfl (fun hno => ?_) (fun hno => ?_)
      · skip
        refine TC.seq ?_
        refine TC.region ?_
        refine TL.pure (PV.assign rfl) rfl (by decide) ?_
        refine TL.nil ?_
        refine TQ.thenC ?_
        refine TC.ret ?_
        refine TQ.blkR ?_
        refine TQ.thenR ?_
        refine TQ.thenR ?_
        refine TQ.blkR ?_
        refine TQ.thenR ?_
        refine TQ.retE1 rfl rfl ?_
        exact ⟨(), by rw [decide_eq_false (fun e => by subst e; omega)], trivial, List.nil_sublist _⟩
      · skip
        refine TC.skip ?_
        refine TQ.blkN ?_
        refine TQ.thenC ?_
        refine TC.region ?_
        refine TL.pure (PV.move rfl) rfl (by decide) ?_
        refine TL.pure (PV.add rfl rfl (by omega)) rfl (by decide) ?_
        refine TL.pure (PV.assign rfl) rfl (by decide) ?_
        refine TL.nil ?_
        refine TQ.thenN ?_
        refine TQ.backK (k + 1) (by repeat (first | exact True.intro | refine And.intro rfl ?_)) (by repeat (first | exact True.intro | refine And.intro rfl ?_)) (by repeat (first | exact List.Sublist.slnil | exact List.nil_sublist _ | exact List.Sublist.refl _ | refine List.Sublist.cons_cons _ ?_ | refine List.Sublist.cons _ ?_ | refine List.Sublist.trans ?_ (List.sublist_append_right _ _))) ⟨by omega, fun j hj => if e : j < k then hk.2 j e else (show k = j by omega) ▸ (by omega)⟩ (by omega)
    · skip
      refine TC.exit ?_
      refine TQ.thenE ?_
      refine TQ.thenE ?_
      refine TQ.blkS ?_
      refine TQ.thenC ?_
      refine TC.seq ?_
      refine TC.region ?_
      refine TL.pure (PV.assign rfl) rfl (by decide) ?_
      refine TL.nil ?_
      refine TQ.thenC ?_
      refine TC.ret ?_
      refine TQ.retE1 rfl rfl ?_
      exact ⟨(), by rw [decide_eq_true (ints_ext (by omega) (fun j hj => hk.2 j (by omega)))], trivial, List.nil_sublist _⟩

set_option maxRecDepth 100000 in
theorem sameTables_ok (w0 : World) (vg : Value) (m : List (List Int)) (hg : IsG w0 vg m) (hM : SmG m) (v2 : Value) (m2 : List (List Int)) (hg2 : IsG w0 v2 m2) (hM2 : SmG m2) :
    Calls Try.prog 27 #[vg, v2] w0 (Post (X := Unit) (fun _ => .bool (decide (m = m2))) (fun _ => True) (fun _ => []) w0) := by
  obtain ⟨pg, cg, rfl, g1⟩ := hg
  obtain ⟨ph, ch, rfl, g2⟩ := hg2
  have hM0 := hM.1
  refine calls Try.func27 rfl (n := 27) rfl (by simp) ?_
  refine TC.seq ?_
  refine TC.region ?_
  refine TL.pure (PV.assign rfl) rfl (by decide) ?_
  refine TL.nil ?_
  refine TQ.thenC ?_
  refine TC.seq ?_
  refine TC.seq ?_
  refine TC.region ?_
  refine TL.pure (PV.move rfl) rfl (by decide) ?_
  refine TL.pure (PV.len rfl Tb.sl_23) rfl (by decide) ?_
  refine TL.pure (PV.move rfl) rfl (by decide) ?_
  refine TL.pure (PV.len rfl Tb.sl_23) rfl (by decide) ?_
  refine TL.pure (PV.neq rfl rfl) rfl (by decide) ?_
  refine TL.nil ?_
  refine TQ.thenC ?_
  first | refine TC.condD rfl (fun h0 => ?_) (fun h0 => ?_) | refine TC.cond rfl (fun h0 => ?_) (fun h0 => ?_)
  · skip
    refine TC.seq ?_
    refine TC.region ?_
    refine TL.pure (PV.assign rfl) rfl (by decide) ?_
    refine TL.nil ?_
    refine TQ.thenC ?_
    refine TC.ret ?_
    refine TQ.thenR ?_
    refine TQ.retE1 rfl rfl ?_
    exact ⟨(), by rw [decide_eq_false (fun e => by subst e; omega)], trivial, List.nil_sublist _⟩
  · skip
    refine TC.skip ?_
    refine TQ.thenC ?_
    refine TC.seq ?_
    refine TC.seq ?_
    refine TC.region ?_
    refine TL.pure (PV.assign rfl) rfl (by decide) ?_
    refine TL.nil ?_
    refine TQ.thenC ?_
    refine TC.block ?_
    -- live and written in the loop, not told: [4]
    refine TC.loopG [0, 1] (X := Nat) (fun k => k ≤ m.length ∧ ∀ j, j < k → m.getD j [] = m2.getD j []) (fun k => [(5, .int .i64 k)]) (fun k => m.length - k) 0 ⟨Nat.zero_le _, fun j hj => absurd hj (Nat.not_lt_zero _)⟩ (by repeat (first | exact True.intro | refine And.intro rfl ?_)) ?_
    intro k hk
    refine TC.seq ?_
    refine TC.seq ?_
    refine TC.region ?_
    refine TL.pure (PV.move rfl) rfl (by decide) ?_
    refine TL.pure (PV.move rfl) rfl (by decide) ?_
    refine TL.pure (PV.len rfl Tb.sl_23) rfl (by decide) ?_
    refine TL.pure (PV.lss rfl rfl) rfl (by decide) ?_
    refine TL.nil ?_
    refine TQ.thenC ?_
    first | refine TC.condD rfl (fun h1 => ?_) (fun h1 => ?_) | refine TC.cond rfl (fun h1 => ?_) (fun h1 => ?_)
    · skip
      refine TC.skip ?_
      refine TQ.thenC ?_
      refine TC.seq ?_
      refine TC.block ?_
      refine TC.seq ?_
      obtain ⟨q1, hq1p, q1p, q1c, hq1, hq1r⟩ := g1 k (by omega)
      obtain ⟨q2, hq2p, q2p, q2c, hq2, hq2r⟩ := g2 k (by omega)
      refine TC.any Tb.mixed rfl rfl ?_
      refine TA.op (OpOK.pure (PV.move rfl) rfl (by decide)) (by decide) ?_
      refine TA.op (OpOK.pure (PV.move rfl) rfl (by decide)) (by decide) ?_
      refine TA.op (OpOK.pure (PV.indexA rfl hq1p rfl Tb.elm_23 rfl (by omega)) rfl (by decide)) (by decide) ?_
      refine TA.op (OpOK.pure (PV.loadOld rfl Tb.one_22 hq1) rfl (by decide)) (by decide) ?_
      refine TA.op (OpOK.pure (PV.move rfl) rfl (by decide)) (by decide) ?_
      refine TA.op (OpOK.pure (PV.move rfl) rfl (by decide)) (by decide) ?_
      refine TA.op (OpOK.pure (PV.indexA rfl hq2p rfl Tb.elm_23 rfl (by omega)) rfl (by decide)) (by decide) ?_
      refine TA.op (OpOK.pure (PV.loadOld rfl Tb.one_22 hq2) rfl (by decide)) (by decide) ?_
      refine TA.op (OpOK.call rfl Tb.gofn_67 (fun a w hs => sameInts_ok w _ _ _ (hq1r.new hs.new) _ _ _ (hq2r.new hs.new) (hM.2 k) (hM2.2 k)) rfl (by decide)) (by decide) ?_
      refine TA.op (OpOK.pure ((by first | exact PV.notD rfl | exact PV.not rfl)) rfl (by decide)) (by decide) ?_
      show TQ _ _ _ _ _
      refine TQ.thenC ?_
      first | refine TC.condD rfl (fun hno => ?_) (fun hno => ?_) | refine TC.cond rfl (fun hno => ?_) (fun hno => ?_)
      · skip
        refine TC.seq ?_
        refine TC.region ?_
        refine TL.pure (PV.assign rfl) rfl (by decide) ?_
        refine TL.nil ?_
        refine TQ.thenC ?_
        refine TC.ret ?_
        refine TQ.blkR ?_
        refine TQ.thenR ?_
        refine TQ.thenR ?_
        refine TQ.blkR ?_
        refine TQ.thenR ?_
        refine TQ.retE1 rfl rfl ?_
        exact ⟨(), by rw [decide_eq_false (fun e => by subst e; simp at hno)], trivial, List.nil_sublist _⟩
      · skip
        refine TC.skip ?_
        refine TQ.blkN ?_
        refine TQ.thenC ?_
        refine TC.region ?_
        refine TL.pure (PV.move rfl) rfl (by decide) ?_
        refine TL.pure (PV.add rfl rfl (by omega)) rfl (by decide) ?_
        refine TL.pure (PV.assign rfl) rfl (by decide) ?_
        refine TL.nil ?_
        refine TQ.thenN ?_
        refine TQ.backK (k + 1) (by repeat (first | exact True.intro | refine And.intro rfl ?_)) (by repeat (first | exact True.intro | refine And.intro rfl ?_)) (by repeat (first | exact List.Sublist.slnil | exact List.nil_sublist _ | exact List.Sublist.refl _ | refine List.Sublist.cons_cons _ ?_ | refine List.Sublist.cons _ ?_ | refine List.Sublist.trans ?_ (List.sublist_append_right _ _))) ⟨by omega, fun j hj => if e : j < k then hk.2 j e else (show k = j by omega) ▸ (by simpa using hno)⟩ (by omega)
    · skip
      refine TC.exit ?_
      refine TQ.thenE ?_
      refine TQ.thenE ?_
      refine TQ.blkS ?_
      refine TQ.thenC ?_
      refine TC.seq ?_
      refine TC.region ?_
      refine TL.pure (PV.assign rfl) rfl (by decide) ?_
      refine TL.nil ?_
      refine TQ.thenC ?_
      refine TC.ret ?_
      refine TQ.retE1 rfl rfl ?_
      exact ⟨(), by rw [decide_eq_true (ls_ext (by omega) (fun j hj => hk.2 j (by omega)))], trivial, List.nil_sublist _⟩

set_option maxRecDepth 100000 in
set_option maxHeartbeats 2000000 in
theorem empty_ok (w0 : World) (vt : Value) (t : Td) (ht : IsT w0 vt t) (hV : VT t) :
    Calls Try.prog 66 #[vt] w0 (Post (X := HD × List RW) (fun y => gval y.1 t.s.length) (fun y => TbS t.s.length t.d.length (fun _ _ => 0) y.1 y.2) (fun y => gbR rwR 22 y.1 y.2 ++ rwB y.2) w0) := by
  obtain ⟨p1, c1, p2, c2, p3, c3, rfl, t1, t2, t3⟩ := ht
  have hns := hV.ns
  have hnd := hV.nd
  refine calls Try.func66 rfl (n := 20) rfl (by simp) ?_
  refine TC.seq ?_
  refine TC.region ?_
  refine TL.box rfl rfl (by decide) (fun b0 hb0 => ?_)
  refine TL.pure (PV.assign rfl) rfl (by decide) ?_
  refine TL.nil ?_
  refine TQ.thenC ?_
  refine TC.seq ?_
  refine TC.region ?_
  refine TL.pure (PV.assign rfl) rfl (by decide) ?_
  refine TL.nil ?_
  refine TQ.thenC ?_
  refine TC.seq ?_
  refine TC.seq ?_
  refine TC.region ?_
  refine TL.pure (PV.assign rfl) rfl (by decide) ?_
  refine TL.nil ?_
  refine TQ.thenC ?_
  refine TC.block ?_
  refine TC.lit [(1, _), (2, _), (3, _), (4, _)] (by repeat (first | exact True.intro | refine And.intro rfl ?_)) ?_
  refine TC.loopK [1, 2] (X := Nat × HD × List RW) (fun x => x.1 ≤ t.s.length ∧ EmS t.d.length x.1 x.2.1 x.2.2) (fun x => [(4, .int .i64 x.1), (3, gval x.2.1 x.2.2.length)]) (fun x => gbR rwR 22 x.2.1 x.2.2 ++ (rwB x.2.2 ++ [(b0, Obj.cells #[.slice p1 t.s.length c1, .slice p2 t.d.length c2, .slice p3 t.c.length c3] 25 (0, 0))])) (fun x => t.s.length - x.1) (0, none, []) ⟨Nat.zero_le _, ems_zero _⟩ (by repeat (first | exact True.intro | refine And.intro rfl ?_)) (by repeat (first | exact List.Sublist.slnil | exact List.nil_sublist _ | exact List.Sublist.refl _ | refine List.Sublist.cons_cons _ ?_ | refine List.Sublist.cons _ ?_ | refine List.Sublist.trans ?_ (List.sublist_append_right _ _))) ?_
  intro x hx9
  obtain ⟨hxS, hx9⟩ := hx9
  refine TC.lit [(1, _), (2, _), (3, _), (4, _)] (by repeat (first | exact True.intro | refine And.intro rfl ?_)) ?_
  refine TC.seq ?_
  refine TC.seq ?_
  refine TC.region ?_
  refine TL.pure (PV.move rfl) rfl (by decide) ?_
  refine TL.pure (PV.fieldAddr rfl Tb.fo_25_0) rfl (by decide) ?_
  refine TL.pure (PV.load rfl Tb.one_22 (by repeat (first | exact List.Mem.head _ | refine List.Mem.tail _ ?_ | refine List.mem_append_right _ ?_)) rfl) rfl (by decide) ?_
  refine TL.pure (PV.len rfl Tb.sl_22) rfl (by decide) ?_
  refine TL.pure (PV.lss rfl rfl) rfl (by decide) ?_
  refine TL.nil ?_
  refine TQ.thenC ?_
  first | refine TC.condD rfl (fun hlt => ?_) (fun hlt => ?_) | refine TC.cond rfl (fun hlt => ?_) (fun hlt => ?_)
  · skip
    refine TC.skip ?_
    refine TQ.thenC ?_
    refine TC.seq ?_
    refine TC.block ?_
    have hxl := hx9.len
    refine TC.region ?_
    refine TL.pure (PV.move rfl) rfl (by decide) ?_
    refine TL.pure (PV.fieldAddr rfl Tb.fo_25_1) rfl (by decide) ?_
    refine TL.pure (PV.load rfl Tb.one_22 (by repeat (first | exact List.Mem.head _ | refine List.Mem.tail _ ?_ | refine List.mem_append_right _ ?_)) rfl) rfl (by decide) ?_
    refine TL.pure (PV.len rfl Tb.sl_22) rfl (by decide) ?_
    refine TL.makeI (k := t.d.length) rfl rfl Tb.sl_22 Tb.zi_3 rfl (by omega) (by omega) rfl (by decide) (fun bM hbM => ?_)
    rw [mk_rep]
    refine TL.buildSlice (cs := #[.slice (some ⟨bM, 0, none⟩) t.d.length t.d.length]) rfl Tb.sl_23 Tb.zi_22 (by decide) (fill_o _ _ _) (by decide) rfl (by decide) (fun bE hbE => ?_)
    refine TL.appendRec (R := rwR) (h0 := x.2.1) (ys := x.2.2) (b := bE) (r := ⟨some (bM, t.d.length, []), mk t.d.length fun _ => 0⟩) Tb.sl_23 Tb.zi_22 rfl rfl rfl (by show (bE, Obj.cells #[gval (some (bM, t.d.length, [])) (mk t.d.length fun _ => 0).length] 22 (0, 0)) ∈ _; rw [mk_len]; exact (by repeat (first | exact List.Mem.head _ | refine List.Mem.tail _ ?_ | refine List.mem_append_right _ ?_))) hx9.go (by repeat (first | exact TakeH.here _ _ _ _ | apply TakeH.tail | apply TakeH.app)) (by omega) (by omega) rfl (by decide) (fun hh hho => ?_)
    refine TL.pure (PV.assign rfl) rfl (by decide) ?_
    refine TL.nil ?_
    refine TQ.blkN ?_
    refine TQ.thenC ?_
    refine TC.region ?_
    refine TL.pure (PV.move rfl) rfl (by decide) ?_
    refine TL.pure (PV.add rfl rfl (by omega)) rfl (by decide) ?_
    refine TL.pure (PV.assign rfl) rfl (by decide) ?_
    refine TL.nil ?_
    refine TQ.thenN ?_
    refine TQ.perm (G' := gbR rwR 22 hh (x.2.2 ++ [⟨some (bM, t.d.length, []), mk t.d.length fun _ => 0⟩]) ++ (rwB (x.2.2 ++ [⟨some (bM, t.d.length, []), mk t.d.length fun _ => 0⟩]) ++ ([(b0, Obj.cells #[.slice p1 t.s.length c1, .slice p2 t.d.length c2, .slice p3 t.c.length c3] 25 (0, 0))] ++ [(bE, Obj.cells #[.slice (some ⟨bM, 0, none⟩) t.d.length t.d.length] 22 (0, 0))]))) (perm_of fun c9 => by rw [rwB_snoc, gb_new]; simp only [List.map_append, List.sum_append, List.map_cons, List.sum_cons, List.map_nil, List.sum_nil, gbI, gbR]; omega) ?_
    refine TQ.backK (x.1 + 1, hh, x.2.2 ++ [⟨some (bM, t.d.length, []), mk t.d.length fun _ => 0⟩]) (by repeat (first | exact True.intro | refine And.intro rfl ?_)) (by repeat (first | exact True.intro | refine And.intro rfl ?_)) (List.Sublist.append_left (List.Sublist.append_left (List.sublist_append_left _ _) _) _) ⟨by simp only; omega, ems_step hx9 hho (go_new _ _ _)⟩ (by simp only; omega)
  · skip
    refine TC.exit ?_
    refine TQ.thenE ?_
    refine TQ.thenE ?_
    refine TQ.blkS ?_
    refine TQ.thenC ?_
    refine TC.seq ?_
    refine TC.region ?_
    refine TL.pure (PV.move rfl) rfl (by decide) ?_
    refine TL.pure (PV.assign rfl) rfl (by decide) ?_
    refine TL.nil ?_
    refine TQ.thenC ?_
    refine TC.ret ?_
    refine TQ.retE1 rfl rfl ?_
    exact ⟨(x.2.1, x.2.2), by show gval _ _ = gval _ _; rw [hx9.len, show x.1 = t.s.length by omega], ems_tb hx9 (by omega), by rw [← List.append_assoc]; exact List.sublist_append_left _ _⟩

set_option maxRecDepth 100000 in
set_option maxHeartbeats 8000000 in
theorem rCorner_ok (w0 : World) (vt : Value) (t : Td) (ht : IsT w0 vt t) (hT : SmT t) :
    Calls Try.prog 26 #[vt] w0 (Post (X := Value × Heap) (fun y => .tuple #[y.1, .int .i64 (cnrR t).2]) (fun y => RdG (cnrR t).1 y) (fun y => y.2) w0) := by
  obtain ⟨p1, c1, p2, c2, p3, c3, rfl, t1, t2, t3⟩ := ht
  refine calls Try.func26 rfl (n := 79) rfl (by simp) ?_
  refine TC.seq ?_
  refine TC.region ?_
  refine TL.box rfl rfl (by decide) (fun b0 hb0 => ?_)
  refine TL.pure (PV.assign rfl) rfl (by decide) ?_
  refine TL.pure (PV.assign rfl) rfl (by decide) ?_
  refine TL.nil ?_
  refine TQ.thenC ?_
  refine TC.seq ?_
  refine TC.region ?_
  refine TL.pure (PV.loadBox rfl Tb.agg_25 (by repeat (first | exact List.Mem.head _ | refine List.Mem.tail _ ?_ | refine List.mem_append_right _ ?_)) rfl) rfl (by decide) ?_
  refine TL.call rfl Tb.gofn_22 (fun a w hs => rvalidate_ok w _ t (IsT.mk (t1.new hs.new) (t2.new hs.new) (t3.new hs.new)) hT) rfl (by decide) (fun _ _ => ?_)
  refine TL.pure (PV.assign rfl) rfl (by decide) ?_
  refine TL.nil ?_
  refine TQ.thenC ?_
  refine TC.seq ?_
  refine TC.seq ?_
  refine TC.region ?_
  refine TL.pure (PV.move rfl) rfl (by decide) ?_
  refine TL.pure (PV.neq rfl rfl) rfl (by decide) ?_
  refine TL.nil ?_
  refine TQ.thenC ?_
  first | refine TC.condD rfl (fun a1 => ?_) (fun a1 => ?_) | refine TC.cond rfl (fun a1 => ?_) (fun a1 => ?_)
  · skip
    refine TC.seq ?_
    refine TC.region ?_
    refine TL.pure (PV.move rfl) rfl (by decide) ?_
    refine TL.pure (PV.assign rfl) rfl (by decide) ?_
    refine TL.pure (PV.assign rfl) rfl (by decide) ?_
    refine TL.nil ?_
    refine TQ.thenC ?_
    refine TC.ret ?_
    refine TQ.thenR ?_
    refine TQ.retE2 rfl rfl rfl ?_
    have e9 : cnrR t = ([], validI t) := cnr_1 a1
    exact ⟨(.slice none 0 0, []), by rw [e9], by rw [e9]; exact RdG.nil, List.nil_sublist _⟩
  · skip
    refine TC.skip ?_
    refine TQ.thenC ?_
    refine TC.seq ?_
    have hV := vt_of a1
    have hns := hV.ns
    have hnd := hV.nd
    refine TC.region ?_
    refine TL.pure (PV.loadBox rfl Tb.agg_25 (by repeat (first | exact List.Mem.head _ | refine List.Mem.tail _ ?_ | refine List.mem_append_right _ ?_)) rfl) rfl (by decide) ?_
    refine TL.call rfl Tb.gofn_66 (fun a w hs => empty_ok w _ t (IsT.mk (t1.new hs.new) (t2.new hs.new) (t3.new hs.new)) hV) rfl (by decide) (fun y9 hy9 => ?_)
    refine TL.pure (PV.assign rfl) rfl (by decide) ?_
    refine TL.nil ?_
    refine TQ.thenC ?_
    refine TC.seqK [2, 3, 5] (X := HD × HD) (fun z => goI (z.1, t.s) ∧ goI (z.2, t.d)) (fun z => [(6, gval z.1 t.s.length), (7, gval z.2 t.d.length)]) (fun z => gbI (z.2, t.d) ++ (gbI (z.1, t.s) ++ (gbR rwR 22 y9.1 y9.2 ++ (rwB y9.2 ++ [(b0, Obj.cells #[.slice p1 t.s.length c1, .slice p2 t.d.length c2, .slice p3 t.c.length c3] 25 (0, 0))])))) ?_ ?_
    · skip
      refine TC.mixV [false, true, true, false, false, true, true, false, true, true] [(b0, Obj.cells #[.slice p1 t.s.length c1, .slice p2 t.d.length c2, .slice p3 t.c.length c3] 25 (0, 0))] 10 Tb.mixed rfl (by kernel_rfl) (by kernel_rfl) (by kernel_rfl) (by kernel_rfl) (by repeat (first | exact List.Sublist.slnil | exact List.nil_sublist _ | exact List.Sublist.refl _ | refine List.Sublist.cons_cons _ ?_ | refine List.Sublist.cons _ ?_ | refine List.Sublist.trans ?_ (List.sublist_append_right _ _))) ?_
      refine TV.virt 1 rfl rfl (by decide) rfl (by kernel_rfl) (SOK.pure (PV.fieldAddr rfl Tb.fo_25_0) rfl) ?_
      refine TV.virt 2 rfl rfl (by decide) rfl (by kernel_rfl) (SOK.pure (PV.load rfl Tb.one_22 (by repeat (first | exact List.Mem.head _ | refine List.Mem.tail _ ?_ | refine List.mem_append_right _ ?_)) rfl) rfl) ?_
      refine TV.virt 5 rfl rfl (by decide) rfl (by kernel_rfl) (SOK.pure (PV.fieldAddr rfl Tb.fo_25_1) rfl) ?_
      refine TV.virt 6 rfl rfl (by decide) rfl (by kernel_rfl) (SOK.pure (PV.load rfl Tb.one_22 (by repeat (first | exact List.Mem.head _ | refine List.Mem.tail _ ?_ | refine List.mem_append_right _ ?_)) rfl) rfl) ?_
      refine TV.step [0, 4] (by kernel_rfl) (by decide) rfl ⟨⟨_, rfl, ?_⟩, ⟨_, rfl, ?_⟩, trivial⟩
      · skip
        refine TL.buildSlice0 Tb.sl_22 Tb.zi_3 rfl (by decide) (fun bA hbA => ?_)
        refine TL.nil ?_
        refine TV.next (.inl (by repeat (first | exact List.Sublist.slnil | exact List.nil_sublist _ | exact List.Sublist.refl _ | refine List.Sublist.cons_cons _ ?_ | refine List.Sublist.cons _ ?_ | refine List.Sublist.trans ?_ (List.sublist_append_right _ _)))) ?_
        refine TV.step [3, 4] (by kernel_rfl) (by decide) rfl ⟨⟨_, rfl, ?_⟩, ⟨_, rfl, ?_⟩, trivial⟩
        · skip
          refine TL.append0 (m := t.s.length) (news := ival t.s) rfl rfl Tb.sl_22 Tb.zi_3 rfl (by repeat (first | exact Take.head _ | apply Take.tail | apply Take.appR)) (fun w' hN => ints_src Tb.sl_22 rfl (t1.new hN)) (by omega) (by omega) rfl (by decide) (fun hH hhH => ?_)
          refine TL.nil ?_
          refine TV.next (.inl (by repeat (first | exact List.Sublist.slnil | exact List.nil_sublist _ | exact List.Sublist.refl _ | refine List.Sublist.cons_cons _ ?_ | refine List.Sublist.cons _ ?_ | refine List.Sublist.trans ?_ (List.sublist_append_right _ _)))) ?_
          refine TV.step [4] (by kernel_rfl) (by decide) rfl ⟨⟨_, rfl, ?_⟩, trivial⟩
          refine TL.buildSlice0 Tb.sl_22 Tb.zi_3 rfl (by decide) (fun bC hbC => ?_)
          refine TL.nil ?_
          refine TV.next (.inl (by repeat (first | exact List.Sublist.slnil | exact List.nil_sublist _ | exact List.Sublist.refl _ | refine List.Sublist.cons_cons _ ?_ | refine List.Sublist.cons _ ?_ | refine List.Sublist.trans ?_ (List.sublist_append_right _ _)))) ?_
          refine TV.step [7] (by kernel_rfl) (by decide) rfl ⟨⟨_, rfl, ?_⟩, trivial⟩
          refine TL.append0 (m := t.d.length) (news := ival t.d) rfl rfl Tb.sl_22 Tb.zi_3 rfl (by repeat (first | exact Take.head _ | apply Take.tail | apply Take.appR)) (fun w' hN => ints_src Tb.sl_22 rfl (t2.new hN)) (by omega) (by omega) rfl (by decide) (fun hW hhW => ?_)
          refine TL.nil ?_
          refine TV.next (.inl (by repeat (first | exact List.Sublist.slnil | exact List.nil_sublist _ | exact List.Sublist.refl _ | refine List.Sublist.cons_cons _ ?_ | refine List.Sublist.cons _ ?_ | refine List.Sublist.trans ?_ (List.sublist_append_right _ _)))) ?_
          refine TV.virt 8 rfl rfl (by decide) rfl (by kernel_rfl) (SOK.pure (PV.assign rfl) rfl) ?_
          refine TV.virt 9 rfl rfl (by decide) rfl (by kernel_rfl) (SOK.pure (PV.assign rfl) rfl) ?_
          refine TV.done (by kernel_rfl) ?_
          refine TQ.thenN ?_
          refine TQ.perm (G' := gbI (hW, t.d) ++ (gbI (hH, t.s) ++ (gbR rwR 22 y9.1 y9.2 ++ (rwB y9.2 ++ [(b0, Obj.cells #[.slice p1 t.s.length c1, .slice p2 t.d.length c2, .slice p3 t.c.length c3] 25 (0, 0))])))) (perm_of fun c9 => by simp only [gbI, gbR, List.map_append, List.sum_append, List.map_cons, List.sum_cons, List.map_nil, List.sum_nil, Value.cells]; try omega) ?_
          refine TQ.midK (hH, hW) (by repeat (first | exact True.intro | refine And.intro rfl ?_)) (by repeat (first | exact True.intro | refine And.intro rfl ?_)) (by repeat (first | exact List.Sublist.slnil | exact List.nil_sublist _ | exact List.Sublist.refl _ | refine List.Sublist.cons_cons _ ?_ | refine List.Sublist.cons _ ?_ | refine List.Sublist.trans ?_ (List.sublist_append_right _ _))) ⟨by simpa [goI] using hhH, by simpa [goI] using hhW⟩
        · skip
          refine TL.buildSlice0 Tb.sl_22 Tb.zi_3 rfl (by decide) (fun bC hbC => ?_)
          refine TL.nil ?_
          refine TV.next (.inl (by repeat (first | exact List.Sublist.slnil | exact List.nil_sublist _ | exact List.Sublist.refl _ | refine List.Sublist.cons_cons _ ?_ | refine List.Sublist.cons _ ?_ | refine List.Sublist.trans ?_ (List.sublist_append_right _ _)))) ?_
          refine TV.step [3] (by kernel_rfl) (by decide) rfl ⟨⟨_, rfl, ?_⟩, trivial⟩
          refine TL.append0 (m := t.s.length) (news := ival t.s) rfl rfl Tb.sl_22 Tb.zi_3 rfl (by repeat (first | exact Take.head _ | apply Take.tail | apply Take.appR)) (fun w' hN => ints_src Tb.sl_22 rfl (t1.new hN)) (by omega) (by omega) rfl (by decide) (fun hH hhH => ?_)
          refine TL.nil ?_
          refine TV.next (.inl (by repeat (first | exact List.Sublist.slnil | exact List.nil_sublist _ | exact List.Sublist.refl _ | refine List.Sublist.cons_cons _ ?_ | refine List.Sublist.cons _ ?_ | refine List.Sublist.trans ?_ (List.sublist_append_right _ _)))) ?_
          refine TV.step [7] (by kernel_rfl) (by decide) rfl ⟨⟨_, rfl, ?_⟩, trivial⟩
          refine TL.append0 (m := t.d.length) (news := ival t.d) rfl rfl Tb.sl_22 Tb.zi_3 rfl (by repeat (first | exact Take.head _ | apply Take.tail | apply Take.appR)) (fun w' hN => ints_src Tb.sl_22 rfl (t2.new hN)) (by omega) (by omega) rfl (by decide) (fun hW hhW => ?_)
          refine TL.nil ?_
          refine TV.next (.inl (by repeat (first | exact List.Sublist.slnil | exact List.nil_sublist _ | exact List.Sublist.refl _ | refine List.Sublist.cons_cons _ ?_ | refine List.Sublist.cons _ ?_ | refine List.Sublist.trans ?_ (List.sublist_append_right _ _)))) ?_
          refine TV.virt 8 rfl rfl (by decide) rfl (by kernel_rfl) (SOK.pure (PV.assign rfl) rfl) ?_
          refine TV.virt 9 rfl rfl (by decide) rfl (by kernel_rfl) (SOK.pure (PV.assign rfl) rfl) ?_
          refine TV.done (by kernel_rfl) ?_
          refine TQ.thenN ?_
          refine TQ.perm (G' := gbI (hW, t.d) ++ (gbI (hH, t.s) ++ (gbR rwR 22 y9.1 y9.2 ++ (rwB y9.2 ++ [(b0, Obj.cells #[.slice p1 t.s.length c1, .slice p2 t.d.length c2, .slice p3 t.c.length c3] 25 (0, 0))])))) (perm_of fun c9 => by simp only [gbI, gbR, List.map_append, List.sum_append, List.map_cons, List.sum_cons, List.map_nil, List.sum_nil, Value.cells]; try omega) ?_
          refine TQ.midK (hH, hW) (by repeat (first | exact True.intro | refine And.intro rfl ?_)) (by repeat (first | exact True.intro | refine And.intro rfl ?_)) (by repeat (first | exact List.Sublist.slnil | exact List.nil_sublist _ | exact List.Sublist.refl _ | refine List.Sublist.cons_cons _ ?_ | refine List.Sublist.cons _ ?_ | refine List.Sublist.trans ?_ (List.sublist_append_right _ _))) ⟨by simpa [goI] using hhH, by simpa [goI] using hhW⟩
      · skip
        refine TL.buildSlice0 Tb.sl_22 Tb.zi_3 rfl (by decide) (fun bC hbC => ?_)
        refine TL.nil ?_
        refine TV.next (.inl (by repeat (first | exact List.Sublist.slnil | exact List.nil_sublist _ | exact List.Sublist.refl _ | refine List.Sublist.cons_cons _ ?_ | refine List.Sublist.cons _ ?_ | refine List.Sublist.trans ?_ (List.sublist_append_right _ _)))) ?_
        refine TV.step [0] (by kernel_rfl) (by decide) rfl ⟨⟨_, rfl, ?_⟩, trivial⟩
        refine TL.buildSlice0 Tb.sl_22 Tb.zi_3 rfl (by decide) (fun bA hbA => ?_)
        refine TL.nil ?_
        refine TV.next (.inl (by repeat (first | exact List.Sublist.slnil | exact List.nil_sublist _ | exact List.Sublist.refl _ | refine List.Sublist.cons_cons _ ?_ | refine List.Sublist.cons _ ?_ | refine List.Sublist.trans ?_ (List.sublist_append_right _ _)))) ?_
        refine TV.step [3] (by kernel_rfl) (by decide) rfl ⟨⟨_, rfl, ?_⟩, trivial⟩
        refine TL.append0 (m := t.s.length) (news := ival t.s) rfl rfl Tb.sl_22 Tb.zi_3 rfl (by repeat (first | exact Take.head _ | apply Take.tail | apply Take.appR)) (fun w' hN => ints_src Tb.sl_22 rfl (t1.new hN)) (by omega) (by omega) rfl (by decide) (fun hH hhH => ?_)
        refine TL.nil ?_
        refine TV.next (.inl (by repeat (first | exact List.Sublist.slnil | exact List.nil_sublist _ | exact List.Sublist.refl _ | refine List.Sublist.cons_cons _ ?_ | refine List.Sublist.cons _ ?_ | refine List.Sublist.trans ?_ (List.sublist_append_right _ _)))) ?_
        refine TV.step [7] (by kernel_rfl) (by decide) rfl ⟨⟨_, rfl, ?_⟩, trivial⟩
        refine TL.append0 (m := t.d.length) (news := ival t.d) rfl rfl Tb.sl_22 Tb.zi_3 rfl (by repeat (first | exact Take.head _ | apply Take.tail | apply Take.appR)) (fun w' hN => ints_src Tb.sl_22 rfl (t2.new hN)) (by omega) (by omega) rfl (by decide) (fun hW hhW => ?_)
        refine TL.nil ?_
        refine TV.next (.inl (by repeat (first | exact List.Sublist.slnil | exact List.nil_sublist _ | exact List.Sublist.refl _ | refine List.Sublist.cons_cons _ ?_ | refine List.Sublist.cons _ ?_ | refine List.Sublist.trans ?_ (List.sublist_append_right _ _)))) ?_
        refine TV.virt 8 rfl rfl (by decide) rfl (by kernel_rfl) (SOK.pure (PV.assign rfl) rfl) ?_
        refine TV.virt 9 rfl rfl (by decide) rfl (by kernel_rfl) (SOK.pure (PV.assign rfl) rfl) ?_
        refine TV.done (by kernel_rfl) ?_
        refine TQ.thenN ?_
        refine TQ.perm (G' := gbI (hW, t.d) ++ (gbI (hH, t.s) ++ (gbR rwR 22 y9.1 y9.2 ++ (rwB y9.2 ++ [(b0, Obj.cells #[.slice p1 t.s.length c1, .slice p2 t.d.length c2, .slice p3 t.c.length c3] 25 (0, 0))])))) (perm_of fun c9 => by simp only [gbI, gbR, List.map_append, List.sum_append, List.map_cons, List.sum_cons, List.map_nil, List.sum_nil, Value.cells]; try omega) ?_
        refine TQ.midK (hH, hW) (by repeat (first | exact True.intro | refine And.intro rfl ?_)) (by repeat (first | exact True.intro | refine And.intro rfl ?_)) (by repeat (first | exact List.Sublist.slnil | exact List.nil_sublist _ | exact List.Sublist.refl _ | refine List.Sublist.cons_cons _ ?_ | refine List.Sublist.cons _ ?_ | refine List.Sublist.trans ?_ (List.sublist_append_right _ _))) ⟨by simpa [goI] using hhH, by simpa [goI] using hhW⟩
    · skip
      intro z hz9
      refine TC.lit [(2, _), (3, _), (5, _), (6, _), (7, _)] (by repeat (first | exact True.intro | refine And.intro rfl ?_)) ?_
      refine TC.seq ?_
      refine TC.region ?_
      refine TL.pure (PV.assign rfl) rfl (by decide) ?_
      refine TL.pure (PV.assign rfl) rfl (by decide) ?_
      refine TL.nil ?_
      refine TQ.thenC ?_
      refine TC.seq ?_
      refine TC.block ?_
      refine TC.lit [(2, _), (3, _), (5, _), (6, _), (7, _), (8, _), (9, _)] (by repeat (first | exact True.intro | refine And.intro rfl ?_)) ?_
      have hohH : goI (z.1, mk t.s.length (fS t)) := by rw [← ext_mk]; exact hz9.1
      have hohW : goI (z.2, mk t.d.length (fD t)) := by rw [← ext_mk]; exact hz9.2
      obtain ⟨hH, hH9⟩ : ∃ hH, hH = z.1 := ⟨_, rfl⟩
      obtain ⟨hW, hW9⟩ : ∃ hW, hW = z.2 := ⟨_, rfl⟩
      rw [← hH9] at hohH ⊢
      rw [← hW9] at hohW ⊢
      refine TC.perm (G' := gbR rwR 22 y9.1 y9.2 ++ (rwB y9.2 ++ (gbI (hH, t.s) ++ (gbI (hW, t.d) ++ [(b0, Obj.cells #[.slice p1 t.s.length c1, .slice p2 t.d.length c2, .slice p3 t.c.length c3] 25 (0, 0))])))) (perm_of fun c9 => by simp only [gbI, gbR, List.map_append, List.sum_append, List.map_cons, List.sum_cons, List.map_nil, List.sum_nil, Value.cells]; try omega) ?_
      refine TC.loopK [2, 3, 5, 6, 7] (X := Nat × List RW) (fun x => (crT t x.1).i + (crT t x.1).j = x.1 ∧ TbS t.s.length t.d.length (crT t x.1).x y9.1 x.2) (fun x => [(8, .int .i64 ((crT t x.1).i : Nat)), (9, .int .i64 ((crT t x.1).j : Nat))]) (fun x => gbR rwR 22 y9.1 x.2 ++ (rwB x.2 ++ (gbI (hH, mk t.s.length (crT t x.1).h) ++ (gbI (hW, mk t.d.length (crT t x.1).w) ++ [(b0, Obj.cells #[.slice p1 t.s.length c1, .slice p2 t.d.length c2, .slice p3 t.c.length c3] 25 (0, 0))])))) (fun x => t.s.length + t.d.length - x.1) (0, y9.2) ⟨rfl, hy9⟩ (by repeat (first | exact True.intro | refine And.intro rfl ?_)) (by have e1 := ext_mk t.s; have e2 := ext_mk t.d; show List.Sublist (_ ++ (_ ++ (gbI (hH, mk t.s.length (fS t)) ++ (gbI (hW, mk t.d.length (fD t)) ++ [(b0, Obj.cells #[.slice p1 t.s.length c1, .slice p2 t.d.length c2, .slice p3 t.c.length c3] 25 (0, 0))])))) _; rw [← e1, ← e2]; exact List.Sublist.refl _) ?_
      intro x hx9
      refine TC.lit [(2, _), (3, _), (5, _), (6, _), (7, _), (8, _), (9, _)] (by repeat (first | exact True.intro | refine And.intro rfl ?_)) ?_
      refine TC.seq ?_
      refine TC.seq ?_
      refine TC.region ?_
      refine TL.pure (PV.move rfl) rfl (by decide) ?_
      refine TL.pure (PV.move rfl) rfl (by decide) ?_
      refine TL.pure (PV.lenG (h := hH) (len := t.s.length) (ys := ival (mk t.s.length (fS t))) rfl (gk_mk hohH) Tb.sl_22) rfl (by decide) ?_
      refine TL.pure (PV.lss rfl rfl) rfl (by decide) ?_
      refine TL.pure (PV.move rfl) rfl (by decide) ?_
      first | refine TL.splitD 30 rfl (fun hci9 => ?_) (fun hci9 => ?_) | refine TL.split 30 rfl (fun hci9 => ?_) (fun hci9 => ?_)
      · skip
        refine TL.pure (PV.move rfl) rfl (by decide) ?_
        refine TL.pure (PV.move rfl) rfl (by decide) ?_
        refine TL.pure (PV.lenG (h := hW) (len := t.d.length) (ys := ival (mk t.d.length (fD t))) rfl (gk_mk hohW) Tb.sl_22) rfl (by decide) ?_
        refine TL.pure (PV.lss rfl rfl) rfl (by decide) ?_
        refine TL.pure (PV.pickT rfl rfl) rfl (by decide) ?_
        refine TL.nil ?_
        refine TQ.thenC ?_
        first | refine TC.condD rfl (fun hcj9 => ?_) (fun hcj9 => ?_) | refine TC.cond rfl (fun hcj9 => ?_) (fun hcj9 => ?_)
        · skip
          have hci : (crT t x.1).i < t.s.length := by omega
          have hcj : (crT t x.1).j < t.d.length := by omega
          refine TC.skip ?_
          refine TQ.thenC ?_
          refine TC.block ?_
          refine TC.seq ?_
          have hcc := hV.ci x.1
          have hhb := hcc.hn (crT t x.1).i hci
          have hwb := hcc.wn (crT t x.1).j hcj
          have hsb : fS t (crT t x.1).i ≤ 30 := (hV.s (crT t x.1).i hci).2
          have hdb : fD t (crT t x.1).j ≤ 30 := (hV.d (crT t x.1).j hcj).2
          have hx0 : (crT t x.1).x (crT t x.1).i (crT t x.1).j = 0 := hcc.z _ _ (.inr (.inr ⟨rfl, rfl⟩))
          have hnb : 0 ≤ (crT t x.1).n ∧ (crT t x.1).n ≤ (crT t x.1).h (crT t x.1).i ∧ (crT t x.1).n ≤ (crT t x.1).w (crT t x.1).j := by unfold CS.n; omega
          have hxl := hx9.2.len
          have hro := hx9.2.rk hci
          have hrl := hx9.2.rl hci
          have hcs : (crT t (x.1 + 1)) = _ := cs_eq hci hcj
          have hH1 : (crT t (x.1 + 1)).h = put (crT t x.1).h (crT t x.1).i ((crT t x.1).h (crT t x.1).i - (crT t x.1).n) := by rw [hcs]
          have hW1 : (crT t (x.1 + 1)).w = put (crT t x.1).w (crT t x.1).j ((crT t x.1).w (crT t x.1).j - (crT t x.1).n) := by rw [hcs]
          have hX1 : (crT t (x.1 + 1)).x = put2 (crT t x.1).x (crT t x.1).i (crT t x.1).j (crT t x.1).n := by rw [hcs]
          refine TC.any Tb.mixed rfl rfl ?_
          refine TA.op (OpOK.pure (PV.move rfl) rfl (by decide)) (by decide) ?_
          refine TA.op (OpOK.pure (PV.move rfl) rfl (by decide)) (by decide) ?_
          refine TA.op (OpOK.pure (PV.indexG (h := hH) (len := t.s.length) (ys := ival (mk t.s.length (crT t x.1).h)) (j := (crT t x.1).i) rfl rfl (gk_mk (go_mk hohH _)) Tb.elm_22 rfl (by omega)) rfl (by decide)) (by decide) ?_
          refine TA.op (OpOK.pure (PV.loadGI (y := (hH, mk t.s.length (crT t x.1).h)) (j := (crT t x.1).i) (v := (crT t x.1).h (crT t x.1).i) rfl Tb.one_3 (fun yy hyy => by repeat (first | exact List.mem_append_left _ hyy | exact List.mem_append_left _ (List.mem_append_right _ hyy) | exact List.mem_append_left _ (List.mem_append_left _ hyy) | refine List.mem_append_right _ ?_ | refine List.Mem.tail _ ?_)) (go_mk hohH _) (by show _ < (mk _ _).length; rw [mk_len]; omega) (mk_at _ (by omega))) rfl (by decide)) (by decide) ?_
          refine TA.op (OpOK.pure (PV.move rfl) rfl (by decide)) (by decide) ?_
          refine TA.op (OpOK.pure (PV.move rfl) rfl (by decide)) (by decide) ?_
          refine TA.op (OpOK.pure (PV.indexG (h := hW) (len := t.d.length) (ys := ival (mk t.d.length (crT t x.1).w)) (j := (crT t x.1).j) rfl rfl (gk_mk (go_mk hohW _)) Tb.elm_22 rfl (by omega)) rfl (by decide)) (by decide) ?_
          refine TA.op (OpOK.pure (PV.loadGI (y := (hW, mk t.d.length (crT t x.1).w)) (j := (crT t x.1).j) (v := (crT t x.1).w (crT t x.1).j) rfl Tb.one_3 (fun yy hyy => by repeat (first | exact List.mem_append_left _ hyy | exact List.mem_append_left _ (List.mem_append_right _ hyy) | exact List.mem_append_left _ (List.mem_append_left _ hyy) | refine List.mem_append_right _ ?_ | refine List.Mem.tail _ ?_)) (go_mk hohW _) (by show _ < (mk _ _).length; rw [mk_len]; omega) (mk_at _ (by omega))) rfl (by decide)) (by decide) ?_
          refine TA.op (OpOK.pure (PV.min rfl rfl Tb.int_3) rfl (by decide)) (by decide) ?_
          refine TA.op (OpOK.pure (PV.assign rfl) rfl (by decide)) (by decide) ?_
          show TQ _ _ _ _ _
          refine TQ.thenC ?_
          refine TC.seq ?_
          rw [rwB_at (show (crT t x.1).i < x.2.length by omega)]
          refine TC.region ?_
          refine TL.pure (PV.move rfl) rfl (by decide) ?_
          refine TL.pure (PV.move rfl) rfl (by decide) ?_
          refine TL.pure (PV.indexG (h := y9.1) (len := t.s.length) (ys := rcs rwR x.2) (j := (crT t x.1).i) rfl rfl hx9.2.gk Tb.elm_23 rfl (by omega)) rfl (by decide) ?_
          refine TL.pure (PV.loadRecF (R := rwR) (h := y9.1) (l := x.2) (j := (crT t x.1).i) (f := 0) (v := gval (x.2.getD (crT t x.1).i default).h (x.2.getD (crT t x.1).i default).l.length) (e := 22) rfl Tb.one_22 (fun yy hyy => by repeat (first | exact List.mem_append_left _ hyy | exact List.mem_append_left _ (List.mem_append_right _ hyy) | exact List.mem_append_left _ (List.mem_append_left _ hyy) | refine List.mem_append_right _ ?_ | refine List.Mem.tail _ ?_)) hx9.2.go (by omega) Nat.one_pos rfl) rfl (by decide) ?_
          refine TL.pure (PV.move rfl) rfl (by decide) ?_
          refine TL.pure (PV.indexG (h := (x.2.getD (crT t x.1).i default).h) (len := (x.2.getD (crT t x.1).i default).l.length) (ys := ival (x.2.getD (crT t x.1).i default).l) (j := (crT t x.1).j) rfl rfl hro Tb.elm_22 rfl (by omega)) rfl (by decide) ?_
          refine TL.pure (PV.loadGI (y := ((x.2.getD (crT t x.1).i default).h, (x.2.getD (crT t x.1).i default).l)) (j := (crT t x.1).j) (v := 0) rfl Tb.one_3 (fun yy hyy => by repeat (first | exact List.mem_append_left _ hyy | exact List.mem_append_left _ (List.mem_append_right _ hyy) | exact List.mem_append_left _ (List.mem_append_left _ hyy) | refine List.mem_append_right _ ?_ | refine List.Mem.tail _ ?_)) hro (by show _ < (x.2.getD (crT t x.1).i default).l.length; omega) (by rw [hx9.2.va hci hcj]; exact hx0)) rfl (by decide) ?_
          refine TL.pure (PV.move rfl) rfl (by decide) ?_
          refine TL.pure (PV.add rfl rfl (by show _ ≤ 0 + (crT t x.1).n ∧ 0 + (crT t x.1).n ≤ _; omega)) rfl (by decide) ?_
          refine TL.pure (PV.indexG (h := (x.2.getD (crT t x.1).i default).h) (len := (x.2.getD (crT t x.1).i default).l.length) (ys := ival (x.2.getD (crT t x.1).i default).l) (j := (crT t x.1).j) rfl rfl hro Tb.elm_22 rfl (by omega)) rfl (by decide) ?_
          refine TL.putI (h := (x.2.getD (crT t x.1).i default).h) (xs := (x.2.getD (crT t x.1).i default).l) (xs' := (x.2.getD (crT t x.1).i default).l.set (crT t x.1).j (0 + (crT t x.1).n)) (j := (crT t x.1).j) rfl rfl Tb.cells_3 hro rfl (by repeat (first | exact PutH.here _ _ _ _ | apply PutH.tail | apply PutH.app)) (by omega) rfl rfl ?_
          obtain ⟨rs', hrs'⟩ : ∃ rs', rs' = rwS x.2 (crT t x.1).i (crT t x.1).j (0 + (crT t x.1).n) := ⟨_, rfl⟩
          refine TL.congrG (G' := gbR rwR 22 y9.1 rs' ++ (rwB rs' ++ (gbI (hH, mk t.s.length (crT t x.1).h) ++ (gbI (hW, mk t.d.length (crT t x.1).w) ++ [(b0, Obj.cells #[.slice p1 t.s.length c1, .slice p2 t.d.length c2, .slice p3 t.c.length c3] 25 (0, 0))])))) (by rw [hrs']; exact (rwS_blk (h := y9.1) (by omega) _ _ _).symm) ?_
          have hst : TbS t.s.length t.d.length (crT t (x.1 + 1)).x y9.1 rs' := by rw [hrs', hX1]; exact hx9.2.set hci hcj (by rw [put2_k]; omega) (fun p q hp hq hne => put2_ne _ _ hne)
          refine TL.nil ?_
          refine TQ.thenC ?_
          refine TC.seq ?_
          refine TC.region ?_
          refine TL.pure (PV.move rfl) rfl (by decide) ?_
          refine TL.pure (PV.move rfl) rfl (by decide) ?_
          refine TL.pure (PV.indexG (h := hH) (len := t.s.length) (ys := ival (mk t.s.length (crT t x.1).h)) (j := (crT t x.1).i) rfl rfl (gk_mk (go_mk hohH _)) Tb.elm_22 rfl (by omega)) rfl (by decide) ?_
          refine TL.pure (PV.loadGI (y := (hH, mk t.s.length (crT t x.1).h)) (j := (crT t x.1).i) (v := (crT t x.1).h (crT t x.1).i) rfl Tb.one_3 (fun yy hyy => by repeat (first | exact List.mem_append_left _ hyy | exact List.mem_append_left _ (List.mem_append_right _ hyy) | exact List.mem_append_left _ (List.mem_append_left _ hyy) | refine List.mem_append_right _ ?_ | refine List.Mem.tail _ ?_)) (go_mk hohH _) (by show _ < (mk _ _).length; rw [mk_len]; omega) (mk_at _ (by omega))) rfl (by decide) ?_
          refine TL.pure (PV.move rfl) rfl (by decide) ?_
          refine TL.pure (PV.sub rfl rfl (by show _ ≤ (crT t x.1).h (crT t x.1).i - (crT t x.1).n ∧ (crT t x.1).h (crT t x.1).i - (crT t x.1).n ≤ _; omega)) rfl (by decide) ?_
          refine TL.pure (PV.indexG (h := hH) (len := t.s.length) (ys := ival (mk t.s.length (crT t x.1).h)) (j := (crT t x.1).i) rfl rfl (gk_mk (go_mk hohH _)) Tb.elm_22 rfl (by omega)) rfl (by decide) ?_
          refine TL.putI (h := hH) (xs := mk t.s.length (crT t x.1).h) (xs' := mk t.s.length (crT t (x.1 + 1)).h) (j := (crT t x.1).i) rfl rfl Tb.cells_3 (go_mk hohH _) (by rw [hH1]; exact mk_set hci (put_k _ _ _).symm (fun q _ hq => (put_ne _ _ hq).symm)) (by repeat (first | exact PutH.here _ _ _ _ | apply PutH.tail | apply PutH.app)) (by rw [mk_len]; omega) rfl rfl ?_
          refine TL.nil ?_
          refine TQ.thenC ?_
          refine TC.seq ?_
          refine TC.region ?_
          refine TL.pure (PV.move rfl) rfl (by decide) ?_
          refine TL.pure (PV.move rfl) rfl (by decide) ?_
          refine TL.pure (PV.indexG (h := hW) (len := t.d.length) (ys := ival (mk t.d.length (crT t x.1).w)) (j := (crT t x.1).j) rfl rfl (gk_mk (go_mk hohW _)) Tb.elm_22 rfl (by omega)) rfl (by decide) ?_
          refine TL.pure (PV.loadGI (y := (hW, mk t.d.length (crT t x.1).w)) (j := (crT t x.1).j) (v := (crT t x.1).w (crT t x.1).j) rfl Tb.one_3 (fun yy hyy => by repeat (first | exact List.mem_append_left _ hyy | exact List.mem_append_left _ (List.mem_append_right _ hyy) | exact List.mem_append_left _ (List.mem_append_left _ hyy) | refine List.mem_append_right _ ?_ | refine List.Mem.tail _ ?_)) (go_mk hohW _) (by show _ < (mk _ _).length; rw [mk_len]; omega) (mk_at _ (by omega))) rfl (by decide) ?_
          refine TL.pure (PV.move rfl) rfl (by decide) ?_
          refine TL.pure (PV.sub rfl rfl (by show _ ≤ (crT t x.1).w (crT t x.1).j - (crT t x.1).n ∧ (crT t x.1).w (crT t x.1).j - (crT t x.1).n ≤ _; omega)) rfl (by decide) ?_
          refine TL.pure (PV.indexG (h := hW) (len := t.d.length) (ys := ival (mk t.d.length (crT t x.1).w)) (j := (crT t x.1).j) rfl rfl (gk_mk (go_mk hohW _)) Tb.elm_22 rfl (by omega)) rfl (by decide) ?_
          refine TL.putI (h := hW) (xs := mk t.d.length (crT t x.1).w) (xs' := mk t.d.length (crT t (x.1 + 1)).w) (j := (crT t x.1).j) rfl rfl Tb.cells_3 (go_mk hohW _) (by rw [hW1]; exact mk_set hcj (put_k _ _ _).symm (fun q _ hq => (put_ne _ _ hq).symm)) (by repeat (first | exact PutH.here _ _ _ _ | apply PutH.tail | apply PutH.app)) (by rw [mk_len]; omega) rfl rfl ?_
          refine TL.nil ?_
          refine TQ.thenC ?_
          refine TC.seq ?_
          refine TC.region ?_
          refine TL.pure (PV.move rfl) rfl (by decide) ?_
          refine TL.pure (PV.move rfl) rfl (by decide) ?_
          refine TL.pure (PV.indexG (h := hH) (len := t.s.length) (ys := ival (mk t.s.length (crT t (x.1 + 1)).h)) (j := (crT t x.1).i) rfl rfl (gk_mk (go_mk hohH _)) Tb.elm_22 rfl (by omega)) rfl (by decide) ?_
          refine TL.pure (PV.loadGI (y := (hH, mk t.s.length (crT t (x.1 + 1)).h)) (j := (crT t x.1).i) (v := ((crT t x.1).h (crT t x.1).i - (crT t x.1).n)) rfl Tb.one_3 (fun yy hyy => by repeat (first | exact List.mem_append_left _ hyy | exact List.mem_append_left _ (List.mem_append_right _ hyy) | exact List.mem_append_left _ (List.mem_append_left _ hyy) | refine List.mem_append_right _ ?_ | refine List.Mem.tail _ ?_)) (go_mk hohH _) (by show _ < (mk _ _).length; rw [mk_len]; omega) (by rw [mk_at _ (by omega), hH1, put_k])) rfl (by decide) ?_
          refine TL.pure (PV.eql rfl rfl) rfl (by decide) ?_
          refine TL.nil ?_
          refine TQ.thenC ?_
          first | refine TC.condD rfl (fun hz => ?_) (fun hz => ?_) | refine TC.cond rfl (fun hz => ?_) (fun hz => ?_)
          · skip
            have hi9 : (crT t (x.1 + 1)).i = (crT t x.1).i + 1 := by rw [hcs]; exact if_pos hz
            have hj9 : (crT t (x.1 + 1)).j = (crT t x.1).j := by rw [hcs]; exact if_pos hz
            refine TC.region ?_
            refine TL.pure (PV.move rfl) rfl (by decide) ?_
            refine TL.pure (PV.add rfl rfl (by omega)) rfl (by decide) ?_
            refine TL.pure (PV.assign rfl) rfl (by decide) ?_
            refine TL.nil ?_
            refine TQ.blkN ?_
            refine TQ.thenN ?_
            refine TQ.backK (x.1 + 1, rs') (And.intro (by first | (show some (Value.int .i64 (((crT t x.1).i : Int) + 1)) = some (Value.int .i64 ((crT t (x.1 + 1)).i : Nat)); rw [hi9]; rfl) | (show some (Value.int .i64 ((crT t x.1).i : Nat)) = some (Value.int .i64 ((crT t (x.1 + 1)).i : Nat)); rw [hi9])) (And.intro (by first | (show some (Value.int .i64 (((crT t x.1).j : Int) + 1)) = some (Value.int .i64 ((crT t (x.1 + 1)).j : Nat)); rw [hj9]; rfl) | (show some (Value.int .i64 ((crT t x.1).j : Nat)) = some (Value.int .i64 ((crT t (x.1 + 1)).j : Nat)); rw [hj9])) True.intro)) (by repeat (first | exact True.intro | refine And.intro rfl ?_)) (List.Sublist.refl _) ⟨by rw [show crT t (x.1 + 1) = cstep _ _ _ from rfl, cstep_sum hci hcj]; omega, hst⟩ (by simp only; omega)
          · skip
            have hi9 : (crT t (x.1 + 1)).i = (crT t x.1).i := by rw [hcs]; exact if_neg hz
            have hj9 : (crT t (x.1 + 1)).j = (crT t x.1).j + 1 := by rw [hcs]; exact if_neg hz
            refine TC.region ?_
            refine TL.pure (PV.move rfl) rfl (by decide) ?_
            refine TL.pure (PV.add rfl rfl (by omega)) rfl (by decide) ?_
            refine TL.pure (PV.assign rfl) rfl (by decide) ?_
            refine TL.nil ?_
            refine TQ.blkN ?_
            refine TQ.thenN ?_
            refine TQ.backK (x.1 + 1, rs') (And.intro (by first | (show some (Value.int .i64 (((crT t x.1).i : Int) + 1)) = some (Value.int .i64 ((crT t (x.1 + 1)).i : Nat)); rw [hi9]; rfl) | (show some (Value.int .i64 ((crT t x.1).i : Nat)) = some (Value.int .i64 ((crT t (x.1 + 1)).i : Nat)); rw [hi9])) (And.intro (by first | (show some (Value.int .i64 (((crT t x.1).j : Int) + 1)) = some (Value.int .i64 ((crT t (x.1 + 1)).j : Nat)); rw [hj9]; rfl) | (show some (Value.int .i64 ((crT t x.1).j : Nat)) = some (Value.int .i64 ((crT t (x.1 + 1)).j : Nat)); rw [hj9])) True.intro)) (by repeat (first | exact True.intro | refine And.intro rfl ?_)) (List.Sublist.refl _) ⟨by rw [show crT t (x.1 + 1) = cstep _ _ _ from rfl, cstep_sum hci hcj]; omega, hst⟩ (by simp only; omega)
        · skip
          refine TC.exit ?_
          refine TQ.thenE ?_
          refine TQ.thenE ?_
          refine TQ.blkS ?_
          refine TQ.thenC ?_
          refine TC.seq ?_
          refine TC.region ?_
          refine TL.pure (PV.move rfl) rfl (by decide) ?_
          refine TL.pure (PV.assign rfl) rfl (by decide) ?_
          refine TL.pure (PV.assign rfl) rfl (by decide) ?_
          refine TL.nil ?_
          refine TQ.thenC ?_
          refine TC.ret ?_
          refine TQ.retE2 rfl rfl rfl ?_
          have hfin : ¬ ((crT t x.1).i < t.s.length ∧ (crT t x.1).j < t.d.length) := by omega
          have hcx := corn_eq hx9.1 (hV.ci x.1) hfin
          have h5 := RdG.tb hx9.2
          rw [← hcx] at h5
          have e9 : cnrR t = (cornT t, 0) := cnr_0 a1
          exact ⟨(gval y9.1 t.s.length, gbR rwR 22 y9.1 x.2 ++ rwB x.2), by rw [e9], by rw [e9]; exact h5, by rw [← List.append_assoc]; exact List.sublist_append_left _ _⟩
      · skip
        refine TL.skip rfl (fun k hk => by cases hk; decide) ?_
        refine TL.skip rfl (fun k hk => by cases hk; decide) ?_
        refine TL.skip rfl (fun k hk => by cases hk; decide) ?_
        refine TL.skip rfl (fun k hk => by cases hk; decide) ?_
        refine TL.pure (PV.pickF rfl rfl) rfl (by decide) ?_
        refine TL.nil ?_
        refine TQ.thenC ?_
        refine TC.condF rfl ?_
        refine TC.exit ?_
        refine TQ.thenE ?_
        refine TQ.thenE ?_
        refine TQ.blkS ?_
        refine TQ.thenC ?_
        refine TC.seq ?_
        refine TC.region ?_
        refine TL.pure (PV.move rfl) rfl (by decide) ?_
        refine TL.pure (PV.assign rfl) rfl (by decide) ?_
        refine TL.pure (PV.assign rfl) rfl (by decide) ?_
        refine TL.nil ?_
        refine TQ.thenC ?_
        refine TC.ret ?_
        refine TQ.retE2 rfl rfl rfl ?_
        have hfin : ¬ ((crT t x.1).i < t.s.length ∧ (crT t x.1).j < t.d.length) := by omega
        have hcx := corn_eq hx9.1 (hV.ci x.1) hfin
        have h5 := RdG.tb hx9.2
        rw [← hcx] at h5
        have e9 : cnrR t = (cornT t, 0) := cnr_0 a1
        exact ⟨(gval y9.1 t.s.length, gbR rwR 22 y9.1 x.2 ++ rwB x.2), by rw [e9], by rw [e9]; exact h5, by rw [← List.append_assoc]; exact List.sublist_append_left _ _⟩

set_option maxRecDepth 100000 in
theorem Corner_ok (w0 : World) (vt : Value) (t : Td) (ht : IsT w0 vt t) (hT : SmT t) :
    Calls Try.prog 25 #[vt] w0 (Post (X := Value × Heap) (fun y => .tuple #[y.1, .int .i64 (cnrR t).2]) (fun y => RdG (cnrR t).1 y) (fun y => y.2) w0) := by
  obtain ⟨p1, c1, p2, c2, p3, c3, rfl, t1, t2, t3⟩ := ht
  refine calls Try.func25 rfl (n := 12) rfl (by simp) ?_
  refine TC.seq ?_
  refine TC.region ?_
  refine TL.box rfl rfl (by decide) (fun b0 hb0 => ?_)
  refine TL.pure (PV.assign rfl) rfl (by decide) ?_
  refine TL.pure (PV.assign rfl) rfl (by decide) ?_
  refine TL.nil ?_
  refine TQ.thenC ?_
  refine TC.seq ?_
  refine TC.seq ?_
  refine TC.region ?_
  refine TL.pure (PV.loadBox rfl Tb.agg_25 (by repeat (first | exact List.Mem.head _ | refine List.Mem.tail _ ?_ | refine List.mem_append_right _ ?_)) rfl) rfl (by decide) ?_
  refine TL.call rfl Tb.gofn_21 (fun a w hs => validate_ok w _ t (IsT.mk (t1.new hs.new) (t2.new hs.new) (t3.new hs.new)) hT) rfl (by decide) (fun _ _ => ?_)
  refine TL.pure (PV.assign rfl) rfl (by decide) ?_
  refine TL.nil ?_
  refine TQ.thenC ?_
  refine TC.seq ?_
  refine TC.region ?_
  refine TL.pure (PV.move rfl) rfl (by decide) ?_
  refine TL.pure (PV.neq rfl rfl) rfl (by decide) ?_
  refine TL.nil ?_
  refine TQ.thenC ?_
  first | refine TC.condD rfl (fun a1 => ?_) (fun a1 => ?_) | refine TC.cond rfl (fun a1 => ?_) (fun a1 => ?_)
  · skip
    refine TC.seq ?_
    refine TC.region ?_
    refine TL.pure (PV.move rfl) rfl (by decide) ?_
    refine TL.pure (PV.assign rfl) rfl (by decide) ?_
    refine TL.pure (PV.assign rfl) rfl (by decide) ?_
    refine TL.nil ?_
    refine TQ.thenC ?_
    refine TC.ret ?_
    refine TQ.thenR ?_
    refine TQ.retE2 rfl rfl rfl ?_
    have e9 : cnrR t = ([], validI t) := cnr_1 a1
    exact ⟨(.slice none 0 0, []), by rw [e9], by rw [e9]; exact RdG.nil, List.nil_sublist _⟩
  · skip
    refine TC.skip ?_
    refine TQ.thenC ?_
    refine TC.seq ?_
    have hV := vt_of a1
    refine TC.region ?_
    refine TL.pure (PV.loadBox rfl Tb.agg_25 (by repeat (first | exact List.Mem.head _ | refine List.Mem.tail _ ?_ | refine List.mem_append_right _ ?_)) rfl) rfl (by decide) ?_
    refine TL.call rfl Tb.gofn_65 (fun a w hs => corner_ok w _ t (IsT.mk (t1.new hs.new) (t2.new hs.new) (t3.new hs.new)) hV) rfl (by decide) (fun y9 hy9 => ?_)
    refine TL.pure (PV.assign rfl) rfl (by decide) ?_
    refine TL.pure (PV.assign rfl) rfl (by decide) ?_
    refine TL.nil ?_
    refine TQ.thenC ?_
    refine TC.ret ?_
    refine TQ.retE2 rfl rfl rfl ?_
    have e9 : cnrR t = (cornT t, 0) := cnr_0 a1
    exact ⟨y9, by rw [e9], by rw [e9]; exact hy9, List.sublist_append_left _ _⟩

end Go.Proofs.Ytghlkndanpegbaa
