/- Trades added, by the program: contract. -/
import Derived.Test.YtghlkndanpegbaaCb
set_option linter.unusedVariables false
set_option linter.unusedSimpArgs false
namespace Go.Proofs.Ytghlkndanpegbaa
open Go.Sx Go.RowKit Go.Sand Go.Tp

theorem add_sel {t u : Td} {k : Nat} (hk : k < 2) (h : ∀ j, j < k → ¬ validI (sel2 j t u) ≠ 0) (hv : validI (sel2 k t u) ≠ 0) : addR t u = (nilT, validI (sel2 k t u)) := by
  match k, hk with
  | 0, _ => exact add_v hv
  | 1, _ => exact add_u (h 0 (by decide)) hv


set_option maxRecDepth 100000 in
set_option maxHeartbeats 8000000 in
theorem Add_ok (w0 : World) (vt : Value) (t : Td) (ht : IsT w0 vt t) (hT : SmT t) (vu : Value) (u : Td) (hu : IsT w0 vu u) (hU9 : SmT u) :
    Calls Try.prog 50 #[vt, vu] w0 (Post (X := Value × Heap) (fun y => .tuple #[y.1, .int .i64 (addR t u).2]) (fun y => RdT (addR t u).1 y) (fun y => y.2) w0) := by
  obtain ⟨p1, c1, p2, c2, p3, c3, rfl, t1, t2, t3⟩ := ht
  obtain ⟨q1, d1, q2, d2, q3, d3, rfl, u1, u2, u3⟩ := hu
  refine calls Try.func50 rfl (n := 78) rfl (by simp) ?_
  refine TC.seq ?_
  refine TC.region ?_
  refine TL.box rfl rfl (by decide) (fun b0 hb0 => ?_)
  refine TL.box rfl rfl (by decide) (fun b1 hb1 => ?_)
  refine TL.alloc Tb.zero_25 rfl (by decide) (fun bo hbo => ?_)
  refine TL.pure (PV.assign rfl) rfl (by decide) ?_
  refine TL.nil ?_
  refine TQ.thenC ?_
  refine TC.seq ?_
  refine TC.seq ?_
  refine TC.region ?_
  refine TL.pure (PV.loadBox rfl Tb.agg_25 (by repeat (first | exact List.Mem.head _ | refine List.Mem.tail _ ?_ | refine List.mem_append_right _ ?_)) rfl) rfl (by decide) ?_
  refine TL.pure (PV.loadBox rfl Tb.agg_25 (by repeat (first | exact List.Mem.head _ | refine List.Mem.tail _ ?_ | refine List.mem_append_right _ ?_)) rfl) rfl (by decide) ?_
  refine TL.buildSlice (cs := #[.slice p1 t.s.length c1, .slice p2 t.d.length c2, .slice p3 t.c.length c3, .slice q1 u.s.length d1, .slice q2 u.d.length d2, .slice q3 u.c.length d3]) rfl Tb.sl_90 Tb.zi_25 (by decide) (fill6 _ _ _ _ _ _ _ _ _ _ _ _ _ _ _ _ _ _) (by decide) rfl (by decide) (fun bE hbE => ?_)
  refine TL.pure (PV.len rfl Tb.sl_90) rfl (by decide) ?_
  refine TL.pure (PV.move rfl) rfl (by decide) ?_
  refine TL.nil ?_
  refine TQ.thenC ?_
  refine TC.block ?_
  -- live and written in the loop, not told: [5]
  refine TC.loopK [2, 3, 4, 17, 18] (X := Nat) (fun k => k ≤ 2 ∧ ∀ j, j < k → ¬ validI (sel2 j t u) ≠ 0) (fun k => [(19, .int .i64 (k : Nat))]) (fun k => [(bE, Obj.cells #[.slice p1 t.s.length c1, .slice p2 t.d.length c2, .slice p3 t.c.length c3, .slice q1 u.s.length d1, .slice q2 u.d.length d2, .slice q3 u.c.length d3] 25 (0, 0)), (bo, Obj.cells #[.slice none 0 0, .slice none 0 0, .slice none 0 0] 25 (0, 0)), (b1, Obj.cells #[.slice q1 u.s.length d1, .slice q2 u.d.length d2, .slice q3 u.c.length d3] 25 (0, 0)), (b0, Obj.cells #[.slice p1 t.s.length c1, .slice p2 t.d.length c2, .slice p3 t.c.length c3] 25 (0, 0))]) (fun k => 2 - k) 0 ⟨Nat.zero_le _, fun j hj => absurd hj (Nat.not_lt_zero _)⟩ (by repeat (first | exact True.intro | refine And.intro rfl ?_)) (List.Sublist.refl _) ?_
  intro k hk
  refine TC.seq ?_
  refine TC.region ?_
  refine TL.pure (PV.lss rfl rfl) rfl (by decide) ?_
  refine TL.nil ?_
  refine TQ.thenC ?_
  refine TC.seq ?_
  first | refine TC.condD rfl (fun hlt => ?_) (fun hlt => ?_) | refine TC.cond rfl (fun hlt => ?_) (fun hlt => ?_)
  · skip
    refine TC.skip ?_
    refine TQ.thenC ?_
    refine TC.seq ?_
    refine TC.block ?_
    refine TC.seq ?_
    refine TC.region ?_
    refine TL.pure (PV.index (j := k) rfl rfl Tb.elm_90 rfl (by omega)) rfl (by decide) ?_
    refine TL.pure (PV.loadAgg rfl Tb.agg_25 (by repeat (first | exact List.Mem.head _ | refine List.Mem.tail _ ?_ | refine List.mem_append_right _ ?_)) rfl (two3 (by omega))) rfl (by decide) ?_
    refine TL.alloc Tb.zero_25 rfl (by decide) (fun b7 hb7 => ?_)
    refine TL.storeAgg (vs := [sel2 k (.slice p1 t.s.length c1) (.slice q1 u.s.length d1), sel2 k (.slice p2 t.d.length c2) (.slice q2 u.d.length d2), sel2 k (.slice p3 t.c.length c3) (.slice q3 u.c.length d3)]) rfl rfl Tb.cells_25 (by repeat (first | exact Upd.head _ | apply Upd.tail | apply Upd.appR)) rfl rfl (all3 (sel_one rfl rfl) (sel_one rfl rfl) (sel_one rfl rfl)) rfl rfl ?_
    refine TL.nil ?_
    refine TQ.thenC ?_
    refine TC.seq ?_
    refine TC.region ?_
    refine TL.pure (PV.loadBox (cs := [sel2 k (.slice p1 t.s.length c1) (.slice q1 u.s.length d1), sel2 k (.slice p2 t.d.length c2) (.slice q2 u.d.length d2), sel2 k (.slice p3 t.c.length c3) (.slice q3 u.c.length d3)]) rfl Tb.agg_25 (by repeat (first | exact List.Mem.head _ | refine List.Mem.tail _ ?_ | refine List.mem_append_right _ ?_)) rfl) rfl (by decide) ?_
    refine TL.call rfl Tb.gofn_21 (fun a w hs => validate_ok w _ (sel2 k t u) (sel_is (IsT.mk (t1.new hs.new) (t2.new hs.new) (t3.new hs.new)) (IsT.mk (u1.new hs.new) (u2.new hs.new) (u3.new hs.new))) (sel_sm hT hU9)) rfl (by decide) (fun _ _ => ?_)
    refine TL.pure (PV.assign rfl) rfl (by decide) ?_
    refine TL.nil ?_
    refine TQ.thenC ?_
    refine TC.seq ?_
    refine TC.region ?_
    refine TL.pure (PV.move rfl) rfl (by decide) ?_
    refine TL.pure (PV.neq rfl rfl) rfl (by decide) ?_
    refine TL.nil ?_
    refine TQ.thenC ?_
    first | refine TC.condD rfl (fun hv => ?_) (fun hv => ?_) | refine TC.cond rfl (fun hv => ?_) (fun hv => ?_)
    · skip
      refine TC.seq ?_
      refine TC.region ?_
      refine TL.pure (PV.build rfl Tb.zero_25 Tb.pl_25 rfl) rfl (by decide) ?_
      refine TL.pure (PV.move rfl) rfl (by decide) ?_
      refine TL.storeAgg (vs := [.slice none 0 0, .slice none 0 0, .slice none 0 0]) rfl rfl Tb.cells_25 (by repeat (first | exact Upd.head _ | apply Upd.tail | apply Upd.appR)) rfl rfl rfl rfl rfl ?_
      refine TL.pure (PV.assign rfl) rfl (by decide) ?_
      refine TL.nil ?_
      refine TQ.thenC ?_
      refine TC.ret ?_
      refine TQ.blkR ?_
      refine TQ.thenR ?_
      refine TQ.thenR ?_
      refine TQ.blkR ?_
      refine TQ.thenR ?_
      refine TQ.retR rfl (Res.agg rfl Tb.agg_25 (by repeat (first | exact List.Mem.head _ | refine List.Mem.tail _ ?_ | refine List.mem_append_right _ ?_)) rfl (Res.tmp rfl Res.nil)) ?_
      simp only [tup]
      have e9 := add_sel (show k < 2 by omega) hk.2 hv
      exact ⟨(nilV, []), by rw [e9]; rfl, by rw [e9]; exact RdT.nil, List.nil_sublist _⟩
    · skip
      refine TC.skip ?_
      refine TQ.blkN ?_
      refine TQ.thenC ?_
      refine TC.region ?_
      refine TL.pure (PV.add rfl rfl (by omega)) rfl (by decide) ?_
      refine TL.pure (PV.move rfl) rfl (by decide) ?_
      refine TL.nil ?_
      refine TQ.thenN ?_
      refine TQ.backK (k + 1) (by repeat (first | exact True.intro | refine And.intro rfl ?_)) (by repeat (first | exact True.intro | refine And.intro rfl ?_)) (by repeat (first | exact List.Sublist.refl _ | refine List.Sublist.cons _ ?_)) ⟨by omega, fun j hj => if e : j < k then hk.2 j e else (show k = j by omega) ▸ hv⟩ (by omega)
  · skip
    refine TC.exit ?_
    refine TQ.thenE ?_
    refine TQ.thenE ?_
    refine TQ.blkS ?_
    refine TQ.thenC ?_
    refine TC.seq ?_
    have hv1 : ¬ validI t ≠ 0 := hk.2 0 (by omega)
    have hv2 : ¬ validI u ≠ 0 := hk.2 1 (by omega)
    have hV := vt_of hv1
    have hU := vt_of hv2
    have hns := hV.ns
    have hnd := hV.nd
    refine TC.region ?_
    refine TL.pure (PV.fieldAddr rfl Tb.fo_25_2) rfl (by decide) ?_
    refine TL.pure (PV.load rfl Tb.one_23 (by repeat (first | exact List.Mem.head _ | refine List.Mem.tail _ ?_ | refine List.mem_append_right _ ?_)) rfl) rfl (by decide) ?_
    refine TL.pure (PV.fieldAddr rfl Tb.fo_25_2) rfl (by decide) ?_
    refine TL.pure (PV.load rfl Tb.one_23 (by repeat (first | exact List.Mem.head _ | refine List.Mem.tail _ ?_ | refine List.mem_append_right _ ?_)) rfl) rfl (by decide) ?_
    refine TL.call rfl Tb.gofn_81 (fun a w hs => equalFunc_ok w _ _ (IsG.of (t3.new hs.new)) hT.c _ _ (IsG.of (u3.new hs.new)) hU9.c) rfl (by decide) (fun _ _ => ?_)
    refine TL.pure (PV.assign rfl) rfl (by decide) ?_
    refine TL.nil ?_
    refine TQ.thenC ?_
    refine TC.seq ?_
    refine TC.seq ?_
    refine TC.region ?_
    refine TL.pure (PV.move rfl) rfl (by decide) ?_
    refine TL.pure ((by first | exact PV.notD rfl | exact PV.not rfl)) rfl (by decide) ?_
    refine TL.nil ?_
    refine TQ.thenC ?_
    first | refine TC.condD rfl (fun hc9 => ?_) (fun hc9 => ?_) | refine TC.cond rfl (fun hc9 => ?_) (fun hc9 => ?_)
    · skip
      refine TC.seq ?_
      refine TC.region ?_
      refine TL.pure (PV.build rfl Tb.zero_25 Tb.pl_25 rfl) rfl (by decide) ?_
      refine TL.storeAgg (vs := [.slice none 0 0, .slice none 0 0, .slice none 0 0]) rfl rfl Tb.cells_25 (by repeat (first | exact Upd.head _ | apply Upd.tail | apply Upd.appR)) rfl rfl rfl rfl rfl ?_
      refine TL.pure (PV.assign rfl) rfl (by decide) ?_
      refine TL.nil ?_
      refine TQ.thenC ?_
      refine TC.ret ?_
      refine TQ.thenR ?_
      refine TQ.retR rfl (Res.agg rfl Tb.agg_25 (by repeat (first | exact List.Mem.head _ | refine List.Mem.tail _ ?_ | refine List.mem_append_right _ ?_)) rfl (Res.tmp rfl Res.nil)) ?_
      simp only [tup]
      exact ⟨(nilV, []), by rw [add_c hv1 hv2 (by simpa using hc9)]; rfl, by rw [add_c hv1 hv2 (by simpa using hc9)]; exact RdT.nil, List.nil_sublist _⟩
    · skip
      refine TC.skip ?_
      refine TQ.thenC ?_
      refine TC.seq ?_
      have hce : t.c = u.c := by simpa using hc9
      obtain ⟨hl1, hl2⟩ := add_len hV hU hce
      refine TC.region ?_
      refine TL.pure (PV.loadBox rfl Tb.agg_25 (by repeat (first | exact List.Mem.head _ | refine List.Mem.tail _ ?_ | refine List.mem_append_right _ ?_)) rfl) rfl (by decide) ?_
      refine TL.call rfl Tb.gofn_78 (fun a w hs => cloneT_ok w _ t (IsT.mk (t1.new hs.new) (t2.new hs.new) (t3.new hs.new)) hT) rfl (by decide) (fun y8 hy8 => ?_)
      refine TL.alloc Tb.zero_25 rfl (by decide) (fun bq hbq => ?_)
      refine TL.storeAgg (vs := [gval y8.1 t.s.length, gval y8.2.1 t.d.length, gval y8.2.2.1 t.c.length]) rfl rfl Tb.cells_25 (by repeat (first | exact Upd.head _ | apply Upd.tail | apply Upd.appR)) rfl rfl (gv3_one _ _ _ _ _ _) rfl rfl ?_
      refine TL.nil ?_
      refine TQ.thenC ?_
      refine TC.seq ?_
      refine TC.seq ?_
      refine TC.region ?_
      refine TL.pure (PV.fieldAddr rfl Tb.fo_25_0) rfl (by decide) ?_
      refine TL.pure (PV.load rfl Tb.one_22 (by repeat (first | exact List.Mem.head _ | refine List.Mem.tail _ ?_ | refine List.mem_append_right _ ?_)) rfl) rfl (by decide) ?_
      refine TL.pure (PV.len rfl Tb.sl_22) rfl (by decide) ?_
      refine TL.pure (PV.move rfl) rfl (by decide) ?_
      refine TL.nil ?_
      refine TQ.thenC ?_
      refine TC.block ?_
      refine TC.perm (G' := gbI (y8.1, adL t.s u.s 0) ++ (gbI (y8.2.1, t.d) ++ (gbR rwR 22 y8.2.2.1 y8.2.2.2 ++ (rwB y8.2.2.2 ++ [(bq, Obj.cells #[gval y8.1 t.s.length, gval y8.2.1 t.d.length, gval y8.2.2.1 t.c.length] 25 (0, 0)), (bo, Obj.cells #[.slice none 0 0, .slice none 0 0, .slice none 0 0] 25 (0, 0)), (b1, Obj.cells #[.slice q1 u.s.length d1, .slice q2 u.d.length d2, .slice q3 u.c.length d3] 25 (0, 0)), (b0, Obj.cells #[.slice p1 t.s.length c1, .slice p2 t.d.length c2, .slice p3 t.c.length c3] 25 (0, 0)), (bE, Obj.cells #[.slice p1 t.s.length c1, .slice p2 t.d.length c2, .slice p3 t.c.length c3, .slice q1 u.s.length d1, .slice q2 u.d.length d2, .slice q3 u.c.length d3] 25 (0, 0))])))) (perm_of fun c9 => by (try unfold clG); simp only [adL_0, gbI, gbR, List.map_append, List.sum_append, List.map_cons, List.sum_cons, List.map_nil, List.sum_nil, Value.cells]; try omega) ?_
      refine TC.loopK [3, 4, 5, 10, 41, 42] (X := Nat) (fun x => x ≤ t.s.length) (fun x => [(43, .int .i64 (x : Nat))]) (fun x => gbI (y8.1, adL t.s u.s x) ++ (gbI (y8.2.1, t.d) ++ (gbR rwR 22 y8.2.2.1 y8.2.2.2 ++ (rwB y8.2.2.2 ++ [(bq, Obj.cells #[gval y8.1 t.s.length, gval y8.2.1 t.d.length, gval y8.2.2.1 t.c.length] 25 (0, 0)), (bo, Obj.cells #[.slice none 0 0, .slice none 0 0, .slice none 0 0] 25 (0, 0)), (b1, Obj.cells #[.slice q1 u.s.length d1, .slice q2 u.d.length d2, .slice q3 u.c.length d3] 25 (0, 0)), (b0, Obj.cells #[.slice p1 t.s.length c1, .slice p2 t.d.length c2, .slice p3 t.c.length c3] 25 (0, 0)), (bE, Obj.cells #[.slice p1 t.s.length c1, .slice p2 t.d.length c2, .slice p3 t.c.length c3, .slice q1 u.s.length d1, .slice q2 u.d.length d2, .slice q3 u.c.length d3] 25 (0, 0))])))) (fun x => t.s.length - x) 0 (Nat.zero_le _) (by repeat (first | exact True.intro | refine And.intro rfl ?_)) (List.Sublist.refl _) ?_
      intro x hx9
      refine TC.seq ?_
      refine TC.region ?_
      refine TL.pure (PV.lss rfl rfl) rfl (by decide) ?_
      refine TL.nil ?_
      refine TQ.thenC ?_
      refine TC.seq ?_
      first | refine TC.condD rfl (fun hlt1 => ?_) (fun hlt1 => ?_) | refine TC.cond rfl (fun hlt1 => ?_) (fun hlt1 => ?_)
      · skip
        refine TC.skip ?_
        refine TQ.thenC ?_
        refine TC.seq ?_
        refine TC.block ?_
        refine TC.seq ?_
        obtain ⟨q4, hq4p, hq4⟩ := u1 x (by omega)
        refine TC.region ?_
        refine TL.pure (PV.move rfl) rfl (by decide) ?_
        refine TL.pure (PV.indexA rfl hq4p rfl Tb.elm_22 rfl (by omega)) rfl (by decide) ?_
        refine TL.pure (PV.loadOld rfl Tb.one_3 hq4) rfl (by decide) ?_
        refine TL.pure (PV.assign rfl) rfl (by decide) ?_
        refine TL.pure (PV.assign rfl) rfl (by decide) ?_
        refine TL.nil ?_
        refine TQ.thenC ?_
        have hs9 := hV.s x (by omega)
        have hs8 := hU.s x (by omega)
        refine TC.region ?_
        refine TL.pure (PV.fieldAddr rfl Tb.fo_25_0) rfl (by decide) ?_
        refine TL.pure (PV.load rfl Tb.one_22 (by repeat (first | exact List.Mem.head _ | refine List.Mem.tail _ ?_ | refine List.mem_append_right _ ?_)) rfl) rfl (by decide) ?_
        refine TL.pure (PV.move rfl) rfl (by decide) ?_
        refine TL.pure (PV.indexG (h := y8.1) (len := t.s.length) (ys := ival (adL t.s u.s x)) (j := x) rfl rfl (adL_gk hy8.1 x) Tb.elm_22 rfl (by omega)) rfl (by decide) ?_
        refine TL.pure (PV.loadGI (y := (y8.1, (adL t.s u.s x))) (j := x) (v := t.s.getD x 0) rfl Tb.one_3 (fun yy hyy => by repeat (first | exact List.mem_append_left _ hyy | exact List.mem_append_left _ (List.mem_append_right _ hyy) | exact List.mem_append_left _ (List.mem_append_left _ hyy) | refine List.mem_append_right _ ?_ | refine List.Mem.tail _ ?_)) (adL_go hy8.1 x) (by show _ < (adL t.s u.s x).length; rw [adL_len]; omega) (adL_at (by omega))) rfl (by decide) ?_
        refine TL.pure (PV.move rfl) rfl (by decide) ?_
        refine TL.pure (PV.add rfl rfl (by omega)) rfl (by decide) ?_
        refine TL.pure (PV.indexG (h := y8.1) (len := t.s.length) (ys := ival (adL t.s u.s x)) (j := x) rfl rfl (adL_gk hy8.1 x) Tb.elm_22 rfl (by omega)) rfl (by decide) ?_
        refine TL.putI (h := y8.1) (xs := (adL t.s u.s x)) (xs' := adL t.s u.s (x + 1)) (j := x) rfl rfl Tb.cells_3 (adL_go hy8.1 x) (adL_set (by omega)) (by repeat (first | exact PutH.here _ _ _ _ | apply PutH.tail | apply PutH.app)) (by rw [adL_len]; omega) rfl rfl ?_
        refine TL.nil ?_
        refine TQ.blkN ?_
        refine TQ.thenC ?_
        refine TC.region ?_
        refine TL.pure (PV.add rfl rfl (by omega)) rfl (by decide) ?_
        refine TL.pure (PV.move rfl) rfl (by decide) ?_
        refine TL.nil ?_
        refine TQ.thenN ?_
        refine TQ.backK (x + 1) (by repeat (first | exact True.intro | refine And.intro rfl ?_)) (by repeat (first | exact True.intro | refine And.intro rfl ?_)) (List.Sublist.refl _) (by omega) (by omega)
      · skip
        refine TC.exit ?_
        refine TQ.thenE ?_
        refine TQ.thenE ?_
        refine TQ.blkS ?_
        refine TQ.thenC ?_
        refine TC.seq ?_
        refine TC.seq ?_
        refine TC.region ?_
        refine TL.pure (PV.fieldAddr rfl Tb.fo_25_1) rfl (by decide) ?_
        refine TL.pure (PV.load rfl Tb.one_22 (by repeat (first | exact List.Mem.head _ | refine List.Mem.tail _ ?_ | refine List.mem_append_right _ ?_)) rfl) rfl (by decide) ?_
        refine TL.pure (PV.len rfl Tb.sl_22) rfl (by decide) ?_
        refine TL.pure (PV.move rfl) rfl (by decide) ?_
        refine TL.nil ?_
        refine TQ.thenC ?_
        refine TC.block ?_
        refine TC.perm (G' := gbI (y8.2.1, adL t.d u.d 0) ++ (gbI (y8.1, adL t.s u.s t.s.length) ++ (gbR rwR 22 y8.2.2.1 y8.2.2.2 ++ (rwB y8.2.2.2 ++ [(bq, Obj.cells #[gval y8.1 t.s.length, gval y8.2.1 t.d.length, gval y8.2.2.1 t.c.length] 25 (0, 0)), (bo, Obj.cells #[.slice none 0 0, .slice none 0 0, .slice none 0 0] 25 (0, 0)), (b1, Obj.cells #[.slice q1 u.s.length d1, .slice q2 u.d.length d2, .slice q3 u.c.length d3] 25 (0, 0)), (b0, Obj.cells #[.slice p1 t.s.length c1, .slice p2 t.d.length c2, .slice p3 t.c.length c3] 25 (0, 0)), (bE, Obj.cells #[.slice p1 t.s.length c1, .slice p2 t.d.length c2, .slice p3 t.c.length c3, .slice q1 u.s.length d1, .slice q2 u.d.length d2, .slice q3 u.c.length d3] 25 (0, 0))])))) (by first | (rw [show x = t.s.length by omega]; exact (perm_of fun c9 => by (try unfold clG); simp only [adL_0, gbI, gbR, List.map_append, List.sum_append, List.map_cons, List.sum_cons, List.map_nil, List.sum_nil, Value.cells]; try omega)) | exact (perm_of fun c9 => by (try unfold clG); simp only [adL_0, gbI, gbR, List.map_append, List.sum_append, List.map_cons, List.sum_cons, List.map_nil, List.sum_nil, Value.cells]; try omega)) ?_
        refine TC.loopK [4, 5, 10, 58, 59] (X := Nat) (fun x => x ≤ t.d.length) (fun x => [(60, .int .i64 (x : Nat))]) (fun x => gbI (y8.2.1, adL t.d u.d x) ++ (gbI (y8.1, adL t.s u.s t.s.length) ++ (gbR rwR 22 y8.2.2.1 y8.2.2.2 ++ (rwB y8.2.2.2 ++ [(bq, Obj.cells #[gval y8.1 t.s.length, gval y8.2.1 t.d.length, gval y8.2.2.1 t.c.length] 25 (0, 0)), (bo, Obj.cells #[.slice none 0 0, .slice none 0 0, .slice none 0 0] 25 (0, 0)), (b1, Obj.cells #[.slice q1 u.s.length d1, .slice q2 u.d.length d2, .slice q3 u.c.length d3] 25 (0, 0)), (b0, Obj.cells #[.slice p1 t.s.length c1, .slice p2 t.d.length c2, .slice p3 t.c.length c3] 25 (0, 0)), (bE, Obj.cells #[.slice p1 t.s.length c1, .slice p2 t.d.length c2, .slice p3 t.c.length c3, .slice q1 u.s.length d1, .slice q2 u.d.length d2, .slice q3 u.c.length d3] 25 (0, 0))])))) (fun x => t.d.length - x) 0 (Nat.zero_le _) (by repeat (first | exact True.intro | refine And.intro rfl ?_)) (List.Sublist.refl _) ?_
        intro x hx9
        refine TC.seq ?_
        refine TC.region ?_
        refine TL.pure (PV.lss rfl rfl) rfl (by decide) ?_
        refine TL.nil ?_
        refine TQ.thenC ?_
        refine TC.seq ?_
        first | refine TC.condD rfl (fun hlt2 => ?_) (fun hlt2 => ?_) | refine TC.cond rfl (fun hlt2 => ?_) (fun hlt2 => ?_)
        · skip
          refine TC.skip ?_
          refine TQ.thenC ?_
          refine TC.seq ?_
          refine TC.block ?_
          refine TC.seq ?_
          obtain ⟨q5, hq5p, hq5⟩ := u2 x (by omega)
          refine TC.region ?_
          refine TL.pure (PV.move rfl) rfl (by decide) ?_
          refine TL.pure (PV.indexA rfl hq5p rfl Tb.elm_22 rfl (by omega)) rfl (by decide) ?_
          refine TL.pure (PV.loadOld rfl Tb.one_3 hq5) rfl (by decide) ?_
          refine TL.pure (PV.assign rfl) rfl (by decide) ?_
          refine TL.pure (PV.assign rfl) rfl (by decide) ?_
          refine TL.nil ?_
          refine TQ.thenC ?_
          have hs9 := hV.d x (by omega)
          have hs8 := hU.d x (by omega)
          refine TC.region ?_
          refine TL.pure (PV.fieldAddr rfl Tb.fo_25_1) rfl (by decide) ?_
          refine TL.pure (PV.load rfl Tb.one_22 (by repeat (first | exact List.Mem.head _ | refine List.Mem.tail _ ?_ | refine List.mem_append_right _ ?_)) rfl) rfl (by decide) ?_
          refine TL.pure (PV.move rfl) rfl (by decide) ?_
          refine TL.pure (PV.indexG (h := y8.2.1) (len := t.d.length) (ys := ival (adL t.d u.d x)) (j := x) rfl rfl (adL_gk hy8.2.1 x) Tb.elm_22 rfl (by omega)) rfl (by decide) ?_
          refine TL.pure (PV.loadGI (y := (y8.2.1, (adL t.d u.d x))) (j := x) (v := t.d.getD x 0) rfl Tb.one_3 (fun yy hyy => by repeat (first | exact List.mem_append_left _ hyy | exact List.mem_append_left _ (List.mem_append_right _ hyy) | exact List.mem_append_left _ (List.mem_append_left _ hyy) | refine List.mem_append_right _ ?_ | refine List.Mem.tail _ ?_)) (adL_go hy8.2.1 x) (by show _ < (adL t.d u.d x).length; rw [adL_len]; omega) (adL_at (by omega))) rfl (by decide) ?_
          refine TL.pure (PV.move rfl) rfl (by decide) ?_
          refine TL.pure (PV.add rfl rfl (by omega)) rfl (by decide) ?_
          refine TL.pure (PV.indexG (h := y8.2.1) (len := t.d.length) (ys := ival (adL t.d u.d x)) (j := x) rfl rfl (adL_gk hy8.2.1 x) Tb.elm_22 rfl (by omega)) rfl (by decide) ?_
          refine TL.putI (h := y8.2.1) (xs := (adL t.d u.d x)) (xs' := adL t.d u.d (x + 1)) (j := x) rfl rfl Tb.cells_3 (adL_go hy8.2.1 x) (adL_set (by omega)) (by repeat (first | exact PutH.here _ _ _ _ | apply PutH.tail | apply PutH.app)) (by rw [adL_len]; omega) rfl rfl ?_
          refine TL.nil ?_
          refine TQ.blkN ?_
          refine TQ.thenC ?_
          refine TC.region ?_
          refine TL.pure (PV.add rfl rfl (by omega)) rfl (by decide) ?_
          refine TL.pure (PV.move rfl) rfl (by decide) ?_
          refine TL.nil ?_
          refine TQ.thenN ?_
          refine TQ.backK (x + 1) (by repeat (first | exact True.intro | refine And.intro rfl ?_)) (by repeat (first | exact True.intro | refine And.intro rfl ?_)) (List.Sublist.refl _) (by omega) (by omega)
        · skip
          refine TC.exit ?_
          refine TQ.thenE ?_
          refine TQ.thenE ?_
          refine TQ.blkS ?_
          refine TQ.thenC ?_
          refine TC.seq ?_
          refine TC.perm (G' := (gbR rwR 22 y8.2.2.1 y8.2.2.2 ++ (rwB y8.2.2.2 ++ (gbI (y8.2.1, adL t.d u.d t.d.length) ++ (gbI (y8.1, adL t.s u.s t.s.length) ++ [(bq, Obj.cells #[gval y8.1 t.s.length, gval y8.2.1 t.d.length, gval y8.2.2.1 t.c.length] 25 (0, 0)), (bo, Obj.cells #[.slice none 0 0, .slice none 0 0, .slice none 0 0] 25 (0, 0)), (b1, Obj.cells #[.slice q1 u.s.length d1, .slice q2 u.d.length d2, .slice q3 u.c.length d3] 25 (0, 0)), (b0, Obj.cells #[.slice p1 t.s.length c1, .slice p2 t.d.length c2, .slice p3 t.c.length c3] 25 (0, 0)), (bE, Obj.cells #[.slice p1 t.s.length c1, .slice p2 t.d.length c2, .slice p3 t.c.length c3, .slice q1 u.s.length d1, .slice q2 u.d.length d2, .slice q3 u.c.length d3] 25 (0, 0))]))))) (by first | (rw [show x = t.d.length by omega]; exact (perm_of fun c9 => by simp only [gbI, gbR, List.map_append, List.sum_append, List.map_cons, List.sum_cons, List.map_nil, List.sum_nil, Value.cells]; try omega)) | exact (perm_of fun c9 => by simp only [gbI, gbR, List.map_append, List.sum_append, List.map_cons, List.sum_cons, List.map_nil, List.sum_nil, Value.cells]; try omega)) ?_
          refine TC.region ?_
          refine TL.pure (PV.loadBox (cs := [gval y8.1 t.s.length, gval y8.2.1 t.d.length, gval y8.2.2.1 t.c.length]) rfl Tb.agg_25 (by repeat (first | exact List.Mem.head _ | refine List.Mem.tail _ ?_ | refine List.mem_append_right _ ?_)) rfl) rfl (by decide) ?_
          refine TL.call rfl Tb.gofn_84 (fun a w hs => checked_ok w _ _ _ _ rfl (addT t u) ((add_rd hy8).at hs.new (fun yy hyy => List.Sublist.subset (by unfold addG; simp only [List.append_assoc]; exact List.Sublist.append_left (List.Sublist.append_left (List.Sublist.append_left (List.sublist_append_left _ _) _) _) _) hyy)) (addT_sm hT) (by show 1 ≤ (adL _ _ _).length; rw [adL_len]; omega) (by show 1 ≤ (adL _ _ _).length; rw [adL_len]; omega)) rfl (by decide) (fun _ _ => ?_)
          obtain ⟨ef, hf⟩ := add_fin hy8 hv1 hv2 hce
          refine TL.pure (PV.extract rfl rfl) rfl (by decide) ?_
          refine TL.pure (PV.extract rfl rfl) rfl (by decide) ?_
          refine TL.storeAgg (vs := [ifV (Ck (addT t u)) (gval y8.1 t.s.length), ifV (Ck (addT t u)) (gval y8.2.1 t.d.length), ifV (Ck (addT t u)) (gval y8.2.2.1 t.c.length)]) rfl rfl Tb.cells_25 (by repeat (first | exact Upd.head _ | apply Upd.tail | apply Upd.appR)) rfl rfl (all3 (ifV_one (gval_one _ _)) (ifV_one (gval_one _ _)) (ifV_one (gval_one _ _))) rfl rfl ?_
          refine TL.pure (PV.assign rfl) rfl (by decide) ?_
          refine TL.nil ?_
          refine TQ.thenC ?_
          refine TC.ret ?_
          refine TQ.retR rfl (Res.agg rfl Tb.agg_25 (by repeat (first | exact List.Mem.head _ | refine List.Mem.tail _ ?_ | refine List.mem_append_right _ ?_)) rfl (Res.tmp rfl Res.nil)) ?_
          simp only [tup]
          exact ⟨(.agg #[ifV (Ck (addT t u)) (gval y8.1 t.s.length), ifV (Ck (addT t u)) (gval y8.2.1 t.d.length), ifV (Ck (addT t u)) (gval y8.2.2.1 t.c.length)], addG t u y8), by rw [ef], hf, (by unfold addG; simp only [List.append_assoc]; exact List.Sublist.append_left (List.Sublist.append_left (List.Sublist.append_left (List.sublist_append_left _ _) _) _) _)⟩

end Go.Proofs.Ytghlkndanpegbaa
