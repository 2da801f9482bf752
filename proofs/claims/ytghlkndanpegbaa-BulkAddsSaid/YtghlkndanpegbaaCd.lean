/- Trades added, by the reference: contract. -/
import Derived.Test.YtghlkndanpegbaaCb
set_option linter.unusedVariables false
set_option linter.unusedSimpArgs false
namespace Go.Proofs.Ytghlkndanpegbaa
open Go.Sx Go.RowKit Go.Sand Go.Tp



set_option maxRecDepth 100000 in
set_option maxHeartbeats 8000000 in
theorem rAdd_ok (w0 : World) (vt : Value) (t : Td) (ht : IsT w0 vt t) (hT : SmT t) (vu : Value) (u : Td) (hu : IsT w0 vu u) (hU9 : SmT u) :
    Calls Try.prog 51 #[vt, vu] w0 (Post (X := Value × Heap) (fun y => .tuple #[y.1, .int .i64 (addR t u).2]) (fun y => RdT (addR t u).1 y) (fun y => y.2) w0) := by
  obtain ⟨p1, c1, p2, c2, p3, c3, rfl, t1, t2, t3⟩ := ht
  obtain ⟨q1, d1, q2, d2, q3, d3, rfl, u1, u2, u3⟩ := hu
  refine calls Try.func51 rfl (n := 89) rfl (by simp) ?_
  refine TC.seq ?_
  refine TC.region ?_
  refine TL.box rfl rfl (by decide) (fun b0 hb0 => ?_)
  refine TL.box rfl rfl (by decide) (fun b1 hb1 => ?_)
  refine TL.alloc Tb.zero_25 rfl (by decide) (fun bo hbo => ?_)
  refine TL.pure (PV.assign rfl) rfl (by decide) ?_
  refine TL.nil ?_
  refine TQ.thenC ?_
  refine TC.seq ?_
  refine TC.seq ?_
  refine TC.region ?_
  refine TL.pure (PV.loadBox rfl Tb.agg_25 (by repeat (first | exact List.Mem.head _ | refine List.Mem.tail _ ?_ | refine List.mem_append_right _ ?_)) rfl) rfl (by decide) ?_
  refine TL.call rfl Tb.gofn_22 (fun a w hs => rvalidate_ok w _ t (IsT.mk (t1.new hs.new) (t2.new hs.new) (t3.new hs.new)) hT) rfl (by decide) (fun _ _ => ?_)
  refine TL.pure (PV.neq rfl rfl) rfl (by decide) ?_
  refine TL.pure (PV.move rfl) rfl (by decide) ?_
  first | refine TL.splitD 12 rfl (fun a1 => ?_) (fun a1 => ?_) | refine TL.split 12 rfl (fun a1 => ?_) (fun a1 => ?_)
  · skip
    refine TL.skip rfl (fun k hk => by cases hk; decide) ?_
    refine TL.skip rfl (fun k hk => by cases hk; decide) ?_
    refine TL.skip rfl (fun k hk => by cases hk; decide) ?_
    refine TL.pure (PV.pickT rfl rfl) rfl (by decide) ?_
    refine TL.pure (PV.move rfl) rfl (by decide) ?_
    refine TL.skip rfl (fun k hk => by cases hk; decide) ?_
    refine TL.skip rfl (fun k hk => by cases hk; decide) ?_
    refine TL.skip rfl (fun k hk => by cases hk; decide) ?_
    refine TL.skip rfl (fun k hk => by cases hk; decide) ?_
    refine TL.skip rfl (fun k hk => by cases hk; decide) ?_
    refine TL.skip rfl (fun k hk => by cases hk; decide) ?_
    refine TL.skip rfl (fun k hk => by cases hk; decide) ?_
    refine TL.pure (PV.pickT rfl rfl) rfl (by decide) ?_
    refine TL.pure (PV.move rfl) rfl (by decide) ?_
    refine TL.skip rfl (fun k hk => by cases hk; decide) ?_
    refine TL.skip rfl (fun k hk => by cases hk; decide) ?_
    refine TL.skip rfl (fun k hk => by cases hk; decide) ?_
    refine TL.skip rfl (fun k hk => by cases hk; decide) ?_
    refine TL.skip rfl (fun k hk => by cases hk; decide) ?_
    refine TL.skip rfl (fun k hk => by cases hk; decide) ?_
    refine TL.skip rfl (fun k hk => by cases hk; decide) ?_
    refine TL.pure (PV.pickT rfl rfl) rfl (by decide) ?_
    refine TL.pure (PV.move rfl) rfl (by decide) ?_
    refine TL.skip rfl (fun k hk => by cases hk; decide) ?_
    refine TL.skip rfl (fun k hk => by cases hk; decide) ?_
    refine TL.skip rfl (fun k hk => by cases hk; decide) ?_
    refine TL.skip rfl (fun k hk => by cases hk; decide) ?_
    refine TL.skip rfl (fun k hk => by cases hk; decide) ?_
    refine TL.skip rfl (fun k hk => by cases hk; decide) ?_
    refine TL.pure (PV.pickT rfl rfl) rfl (by decide) ?_
    refine TL.nil ?_
    refine TQ.thenC ?_
    refine TC.condT rfl ?_
    refine TC.seq ?_
    refine TC.region ?_
    refine TL.pure (PV.build rfl Tb.zero_25 Tb.pl_25 rfl) rfl (by decide) ?_
    refine TL.storeAgg (vs := [.slice none 0 0, .slice none 0 0, .slice none 0 0]) rfl rfl Tb.cells_25 (by repeat (first | exact Upd.head _ | apply Upd.tail | apply Upd.appR)) rfl rfl rfl rfl rfl ?_
    refine TL.pure (PV.assign rfl) rfl (by decide) ?_
    refine TL.nil ?_
    refine TQ.thenC ?_
    refine TC.ret ?_
    refine TQ.thenR ?_
    refine TQ.retR rfl (Res.agg rfl Tb.agg_25 (by repeat (first | exact List.Mem.head _ | refine List.Mem.tail _ ?_ | refine List.mem_append_right _ ?_)) rfl (Res.tmp rfl Res.nil)) ?_
    simp only [tup]
    have e9 := add_e1 (t := t) (u := u) (by first | exact .inl a1 | exact .inr (.inl a2) | exact .inr (.inr (.inl (by omega))) | exact .inr (.inr (.inr (.inl (by omega)))) | exact .inr (.inr (.inr (.inr (by simpa using a5)))))
    exact ⟨(nilV, []), by rw [e9]; rfl, by rw [e9]; exact RdT.nil, List.nil_sublist _⟩
  · skip
    refine TL.pure (PV.loadBox rfl Tb.agg_25 (by repeat (first | exact List.Mem.head _ | refine List.Mem.tail _ ?_ | refine List.mem_append_right _ ?_)) rfl) rfl (by decide) ?_
    refine TL.call rfl Tb.gofn_22 (fun a w hs => rvalidate_ok w _ u (IsT.mk (u1.new hs.new) (u2.new hs.new) (u3.new hs.new)) hU9) rfl (by decide) (fun _ _ => ?_)
    refine TL.pure (PV.neq rfl rfl) rfl (by decide) ?_
    refine TL.pure (PV.pickF rfl rfl) rfl (by decide) ?_
    refine TL.pure (PV.move rfl) rfl (by decide) ?_
    first | refine TL.splitD 17 rfl (fun a2 => ?_) (fun a2 => ?_) | refine TL.split 17 rfl (fun a2 => ?_) (fun a2 => ?_)
    · skip
      refine TL.skip rfl (fun k hk => by cases hk; decide) ?_
      refine TL.skip rfl (fun k hk => by cases hk; decide) ?_
      refine TL.skip rfl (fun k hk => by cases hk; decide) ?_
      refine TL.skip rfl (fun k hk => by cases hk; decide) ?_
      refine TL.skip rfl (fun k hk => by cases hk; decide) ?_
      refine TL.skip rfl (fun k hk => by cases hk; decide) ?_
      refine TL.skip rfl (fun k hk => by cases hk; decide) ?_
      refine TL.pure (PV.pickT rfl rfl) rfl (by decide) ?_
      refine TL.pure (PV.move rfl) rfl (by decide) ?_
      refine TL.skip rfl (fun k hk => by cases hk; decide) ?_
      refine TL.skip rfl (fun k hk => by cases hk; decide) ?_
      refine TL.skip rfl (fun k hk => by cases hk; decide) ?_
      refine TL.skip rfl (fun k hk => by cases hk; decide) ?_
      refine TL.skip rfl (fun k hk => by cases hk; decide) ?_
      refine TL.skip rfl (fun k hk => by cases hk; decide) ?_
      refine TL.skip rfl (fun k hk => by cases hk; decide) ?_
      refine TL.pure (PV.pickT rfl rfl) rfl (by decide) ?_
      refine TL.pure (PV.move rfl) rfl (by decide) ?_
      refine TL.skip rfl (fun k hk => by cases hk; decide) ?_
      refine TL.skip rfl (fun k hk => by cases hk; decide) ?_
      refine TL.skip rfl (fun k hk => by cases hk; decide) ?_
      refine TL.skip rfl (fun k hk => by cases hk; decide) ?_
      refine TL.skip rfl (fun k hk => by cases hk; decide) ?_
      refine TL.skip rfl (fun k hk => by cases hk; decide) ?_
      refine TL.pure (PV.pickT rfl rfl) rfl (by decide) ?_
      refine TL.nil ?_
      refine TQ.thenC ?_
      refine TC.condT rfl ?_
      refine TC.seq ?_
      refine TC.region ?_
      refine TL.pure (PV.build rfl Tb.zero_25 Tb.pl_25 rfl) rfl (by decide) ?_
      refine TL.storeAgg (vs := [.slice none 0 0, .slice none 0 0, .slice none 0 0]) rfl rfl Tb.cells_25 (by repeat (first | exact Upd.head _ | apply Upd.tail | apply Upd.appR)) rfl rfl rfl rfl rfl ?_
      refine TL.pure (PV.assign rfl) rfl (by decide) ?_
      refine TL.nil ?_
      refine TQ.thenC ?_
      refine TC.ret ?_
      refine TQ.thenR ?_
      refine TQ.retR rfl (Res.agg rfl Tb.agg_25 (by repeat (first | exact List.Mem.head _ | refine List.Mem.tail _ ?_ | refine List.mem_append_right _ ?_)) rfl (Res.tmp rfl Res.nil)) ?_
      simp only [tup]
      have e9 := add_e1 (t := t) (u := u) (by first | exact .inl a1 | exact .inr (.inl a2) | exact .inr (.inr (.inl (by omega))) | exact .inr (.inr (.inr (.inl (by omega)))) | exact .inr (.inr (.inr (.inr (by simpa using a5)))))
      exact ⟨(nilV, []), by rw [e9]; rfl, by rw [e9]; exact RdT.nil, List.nil_sublist _⟩
    · skip
      refine TL.pure (PV.fieldAddr rfl Tb.fo_25_0) rfl (by decide) ?_
      refine TL.pure (PV.load rfl Tb.one_22 (by repeat (first | exact List.Mem.head _ | refine List.Mem.tail _ ?_ | refine List.mem_append_right _ ?_)) rfl) rfl (by decide) ?_
      refine TL.pure (PV.len rfl Tb.sl_22) rfl (by decide) ?_
      refine TL.pure (PV.fieldAddr rfl Tb.fo_25_0) rfl (by decide) ?_
      refine TL.pure (PV.load rfl Tb.one_22 (by repeat (first | exact List.Mem.head _ | refine List.Mem.tail _ ?_ | refine List.mem_append_right _ ?_)) rfl) rfl (by decide) ?_
      refine TL.pure (PV.len rfl Tb.sl_22) rfl (by decide) ?_
      refine TL.pure (PV.neq rfl rfl) rfl (by decide) ?_
      refine TL.pure (PV.pickF rfl rfl) rfl (by decide) ?_
      refine TL.pure (PV.move rfl) rfl (by decide) ?_
      first | refine TL.splitD 26 rfl (fun a3 => ?_) (fun a3 => ?_) | refine TL.split 26 rfl (fun a3 => ?_) (fun a3 => ?_)
      · skip
        refine TL.skip rfl (fun k hk => by cases hk; decide) ?_
        refine TL.skip rfl (fun k hk => by cases hk; decide) ?_
        refine TL.skip rfl (fun k hk => by cases hk; decide) ?_
        refine TL.skip rfl (fun k hk => by cases hk; decide) ?_
        refine TL.skip rfl (fun k hk => by cases hk; decide) ?_
        refine TL.skip rfl (fun k hk => by cases hk; decide) ?_
        refine TL.skip rfl (fun k hk => by cases hk; decide) ?_
        refine TL.pure (PV.pickT rfl rfl) rfl (by decide) ?_
        refine TL.pure (PV.move rfl) rfl (by decide) ?_
        refine TL.skip rfl (fun k hk => by cases hk; decide) ?_
        refine TL.skip rfl (fun k hk => by cases hk; decide) ?_
        refine TL.skip rfl (fun k hk => by cases hk; decide) ?_
        refine TL.skip rfl (fun k hk => by cases hk; decide) ?_
        refine TL.skip rfl (fun k hk => by cases hk; decide) ?_
        refine TL.skip rfl (fun k hk => by cases hk; decide) ?_
        refine TL.pure (PV.pickT rfl rfl) rfl (by decide) ?_
        refine TL.nil ?_
        refine TQ.thenC ?_
        refine TC.condT rfl ?_
        refine TC.seq ?_
        refine TC.region ?_
        refine TL.pure (PV.build rfl Tb.zero_25 Tb.pl_25 rfl) rfl (by decide) ?_
        refine TL.storeAgg (vs := [.slice none 0 0, .slice none 0 0, .slice none 0 0]) rfl rfl Tb.cells_25 (by repeat (first | exact Upd.head _ | apply Upd.tail | apply Upd.appR)) rfl rfl rfl rfl rfl ?_
        refine TL.pure (PV.assign rfl) rfl (by decide) ?_
        refine TL.nil ?_
        refine TQ.thenC ?_
        refine TC.ret ?_
        refine TQ.thenR ?_
        refine TQ.retR rfl (Res.agg rfl Tb.agg_25 (by repeat (first | exact List.Mem.head _ | refine List.Mem.tail _ ?_ | refine List.mem_append_right _ ?_)) rfl (Res.tmp rfl Res.nil)) ?_
        simp only [tup]
        have e9 := add_e1 (t := t) (u := u) (by first | exact .inl a1 | exact .inr (.inl a2) | exact .inr (.inr (.inl (by omega))) | exact .inr (.inr (.inr (.inl (by omega)))) | exact .inr (.inr (.inr (.inr (by simpa using a5)))))
        exact ⟨(nilV, []), by rw [e9]; rfl, by rw [e9]; exact RdT.nil, List.nil_sublist _⟩
      · skip
        refine TL.pure (PV.fieldAddr rfl Tb.fo_25_1) rfl (by decide) ?_
        refine TL.pure (PV.load rfl Tb.one_22 (by repeat (first | exact List.Mem.head _ | refine List.Mem.tail _ ?_ | refine List.mem_append_right _ ?_)) rfl) rfl (by decide) ?_
        refine TL.pure (PV.len rfl Tb.sl_22) rfl (by decide) ?_
        refine TL.pure (PV.fieldAddr rfl Tb.fo_25_1) rfl (by decide) ?_
        refine TL.pure (PV.load rfl Tb.one_22 (by repeat (first | exact List.Mem.head _ | refine List.Mem.tail _ ?_ | refine List.mem_append_right _ ?_)) rfl) rfl (by decide) ?_
        refine TL.pure (PV.len rfl Tb.sl_22) rfl (by decide) ?_
        refine TL.pure (PV.neq rfl rfl) rfl (by decide) ?_
        refine TL.pure (PV.pickF rfl rfl) rfl (by decide) ?_
        refine TL.pure (PV.move rfl) rfl (by decide) ?_
        first | refine TL.splitD 35 rfl (fun a4 => ?_) (fun a4 => ?_) | refine TL.split 35 rfl (fun a4 => ?_) (fun a4 => ?_)
        · skip
          refine TL.skip rfl (fun k hk => by cases hk; decide) ?_
          refine TL.skip rfl (fun k hk => by cases hk; decide) ?_
          refine TL.skip rfl (fun k hk => by cases hk; decide) ?_
          refine TL.skip rfl (fun k hk => by cases hk; decide) ?_
          refine TL.skip rfl (fun k hk => by cases hk; decide) ?_
          refine TL.skip rfl (fun k hk => by cases hk; decide) ?_
          refine TL.pure (PV.pickT rfl rfl) rfl (by decide) ?_
          refine TL.nil ?_
          refine TQ.thenC ?_
          refine TC.condT rfl ?_
          refine TC.seq ?_
          refine TC.region ?_
          refine TL.pure (PV.build rfl Tb.zero_25 Tb.pl_25 rfl) rfl (by decide) ?_
          refine TL.storeAgg (vs := [.slice none 0 0, .slice none 0 0, .slice none 0 0]) rfl rfl Tb.cells_25 (by repeat (first | exact Upd.head _ | apply Upd.tail | apply Upd.appR)) rfl rfl rfl rfl rfl ?_
          refine TL.pure (PV.assign rfl) rfl (by decide) ?_
          refine TL.nil ?_
          refine TQ.thenC ?_
          refine TC.ret ?_
          refine TQ.thenR ?_
          refine TQ.retR rfl (Res.agg rfl Tb.agg_25 (by repeat (first | exact List.Mem.head _ | refine List.Mem.tail _ ?_ | refine List.mem_append_right _ ?_)) rfl (Res.tmp rfl Res.nil)) ?_
          simp only [tup]
          have e9 := add_e1 (t := t) (u := u) (by first | exact .inl a1 | exact .inr (.inl a2) | exact .inr (.inr (.inl (by omega))) | exact .inr (.inr (.inr (.inl (by omega)))) | exact .inr (.inr (.inr (.inr (by simpa using a5)))))
          exact ⟨(nilV, []), by rw [e9]; rfl, by rw [e9]; exact RdT.nil, List.nil_sublist _⟩
        · skip
          refine TL.pure (PV.fieldAddr rfl Tb.fo_25_2) rfl (by decide) ?_
          refine TL.pure (PV.load rfl Tb.one_23 (by repeat (first | exact List.Mem.head _ | refine List.Mem.tail _ ?_ | refine List.mem_append_right _ ?_)) rfl) rfl (by decide) ?_
          refine TL.pure (PV.fieldAddr rfl Tb.fo_25_2) rfl (by decide) ?_
          refine TL.pure (PV.load rfl Tb.one_23 (by repeat (first | exact List.Mem.head _ | refine List.Mem.tail _ ?_ | refine List.mem_append_right _ ?_)) rfl) rfl (by decide) ?_
          refine TL.call rfl Tb.gofn_27 (fun a w hs => sameTables_ok w _ _ (IsG.of (t3.new hs.new)) hT.c _ _ (IsG.of (u3.new hs.new)) hU9.c) rfl (by decide) (fun _ _ => ?_)
          refine TL.pure ((by first | exact PV.notD rfl | exact PV.not rfl)) rfl (by decide) ?_
          refine TL.pure (PV.pickF rfl rfl) rfl (by decide) ?_
          refine TL.nil ?_
          refine TQ.thenC ?_
          first | refine TC.condD rfl (fun a5 => ?_) (fun a5 => ?_) | refine TC.cond rfl (fun a5 => ?_) (fun a5 => ?_)
          · skip
            refine TC.seq ?_
            refine TC.region ?_
            refine TL.pure (PV.build rfl Tb.zero_25 Tb.pl_25 rfl) rfl (by decide) ?_
            refine TL.storeAgg (vs := [.slice none 0 0, .slice none 0 0, .slice none 0 0]) rfl rfl Tb.cells_25 (by repeat (first | exact Upd.head _ | apply Upd.tail | apply Upd.appR)) rfl rfl rfl rfl rfl ?_
            refine TL.pure (PV.assign rfl) rfl (by decide) ?_
            refine TL.nil ?_
            refine TQ.thenC ?_
            refine TC.ret ?_
            refine TQ.thenR ?_
            refine TQ.retR rfl (Res.agg rfl Tb.agg_25 (by repeat (first | exact List.Mem.head _ | refine List.Mem.tail _ ?_ | refine List.mem_append_right _ ?_)) rfl (Res.tmp rfl Res.nil)) ?_
            simp only [tup]
            have e9 := add_e1 (t := t) (u := u) (by first | exact .inl a1 | exact .inr (.inl a2) | exact .inr (.inr (.inl (by omega))) | exact .inr (.inr (.inr (.inl (by omega)))) | exact .inr (.inr (.inr (.inr (by simpa using a5)))))
            exact ⟨(nilV, []), by rw [e9]; rfl, by rw [e9]; exact RdT.nil, List.nil_sublist _⟩
          · skip
            refine TC.skip ?_
            refine TQ.thenC ?_
            refine TC.seq ?_
            have hv1 : ¬ validI t ≠ 0 := a1
            have hv2 : ¬ validI u ≠ 0 := a2
            have hV := vt_of hv1
            have hU := vt_of hv2
            have hns := hV.ns
            have hnd := hV.nd
            have hce : t.c = u.c := by simpa using a5
            obtain ⟨hl1, hl2⟩ := add_len hV hU hce
            refine TC.region ?_
            refine TL.pure (PV.loadBox rfl Tb.agg_25 (by repeat (first | exact List.Mem.head _ | refine List.Mem.tail _ ?_ | refine List.mem_append_right _ ?_)) rfl) rfl (by decide) ?_
            refine TL.call rfl Tb.gofn_79 (fun a w hs => CopyT_ok w _ t (IsT.mk (t1.new hs.new) (t2.new hs.new) (t3.new hs.new)) hT) rfl (by decide) (fun y8 hy8 => ?_)
            refine TL.alloc Tb.zero_25 rfl (by decide) (fun bq hbq => ?_)
            refine TL.storeAgg (vs := [gval y8.1 t.s.length, gval y8.2.1 t.d.length, gval y8.2.2.1 t.c.length]) rfl rfl Tb.cells_25 (by repeat (first | exact Upd.head _ | apply Upd.tail | apply Upd.appR)) rfl rfl (gv3_one _ _ _ _ _ _) rfl rfl ?_
            refine TL.nil ?_
            refine TQ.thenC ?_
            refine TC.seq ?_
            refine TC.seq ?_
            refine TC.region ?_
            refine TL.pure (PV.assign rfl) rfl (by decide) ?_
            refine TL.nil ?_
            refine TQ.thenC ?_
            refine TC.block ?_
            refine TC.perm (G' := gbI (y8.1, adL t.s u.s 0) ++ (gbI (y8.2.1, t.d) ++ (gbR rwR 22 y8.2.2.1 y8.2.2.2 ++ (rwB y8.2.2.2 ++ [(bq, Obj.cells #[gval y8.1 t.s.length, gval y8.2.1 t.d.length, gval y8.2.2.1 t.c.length] 25 (0, 0)), (bo, Obj.cells #[.slice none 0 0, .slice none 0 0, .slice none 0 0] 25 (0, 0)), (b1, Obj.cells #[.slice q1 u.s.length d1, .slice q2 u.d.length d2, .slice q3 u.c.length d3] 25 (0, 0)), (b0, Obj.cells #[.slice p1 t.s.length c1, .slice p2 t.d.length c2, .slice p3 t.c.length c3] 25 (0, 0))])))) (perm_of fun c9 => by (try unfold clG); simp only [adL_0, gbI, gbR, List.map_append, List.sum_append, List.map_cons, List.sum_cons, List.map_nil, List.sum_nil, Value.cells]; try omega) ?_
            refine TC.loopK [3, 4, 5, 6] (X := Nat) (fun x => x ≤ t.s.length) (fun x => [(7, .int .i64 (x : Nat))]) (fun x => gbI (y8.1, adL t.s u.s x) ++ (gbI (y8.2.1, t.d) ++ (gbR rwR 22 y8.2.2.1 y8.2.2.2 ++ (rwB y8.2.2.2 ++ [(bq, Obj.cells #[gval y8.1 t.s.length, gval y8.2.1 t.d.length, gval y8.2.2.1 t.c.length] 25 (0, 0)), (bo, Obj.cells #[.slice none 0 0, .slice none 0 0, .slice none 0 0] 25 (0, 0)), (b1, Obj.cells #[.slice q1 u.s.length d1, .slice q2 u.d.length d2, .slice q3 u.c.length d3] 25 (0, 0)), (b0, Obj.cells #[.slice p1 t.s.length c1, .slice p2 t.d.length c2, .slice p3 t.c.length c3] 25 (0, 0))])))) (fun x => t.s.length - x) 0 (Nat.zero_le _) (by repeat (first | exact True.intro | refine And.intro rfl ?_)) (List.Sublist.refl _) ?_
            intro x hx9
            refine TC.seq ?_
            refine TC.seq ?_
            refine TC.region ?_
            refine TL.pure (PV.move rfl) rfl (by decide) ?_
            refine TL.pure (PV.fieldAddr rfl Tb.fo_25_0) rfl (by decide) ?_
            refine TL.pure (PV.load rfl Tb.one_22 (by repeat (first | exact List.Mem.head _ | refine List.Mem.tail _ ?_ | refine List.mem_append_right _ ?_)) rfl) rfl (by decide) ?_
            refine TL.pure (PV.lenG (h := y8.1) (len := t.s.length) (ys := ival (adL t.s u.s x)) rfl (adL_gk hy8.1 x) Tb.sl_22) rfl (by decide) ?_
            refine TL.pure (PV.lss rfl rfl) rfl (by decide) ?_
            refine TL.nil ?_
            refine TQ.thenC ?_
            first | refine TC.condD rfl (fun hlt1 => ?_) (fun hlt1 => ?_) | refine TC.cond rfl (fun hlt1 => ?_) (fun hlt1 => ?_)
            · skip
              refine TC.skip ?_
              refine TQ.thenC ?_
              refine TC.seq ?_
              refine TC.block ?_
              obtain ⟨q4, hq4p, hq4⟩ := u1 x (by omega)
              have hs9 := hV.s x (by omega)
              have hs8 := hU.s x (by omega)
              refine TC.draw 12 Tb.mixed (by kernel_rfl) ?_
              simp only [List.take_succ_cons, List.take_zero, List.drop_succ_cons, List.drop_zero]
              refine TS.pure (PV.fieldAddr rfl Tb.fo_25_0) rfl (by decide) ?_
              refine TS.pure (PV.load rfl Tb.one_22 (by repeat (first | exact List.Mem.head _ | refine List.Mem.tail _ ?_ | refine List.mem_append_right _ ?_)) rfl) rfl (by decide) ?_
              refine TS.pure (PV.move rfl) rfl (by decide) ?_
              refine TS.pure (PV.indexG (h := y8.1) (len := t.s.length) (ys := ival (adL t.s u.s x)) (j := x) rfl rfl (adL_gk hy8.1 x) Tb.elm_22 rfl (by omega)) rfl (by decide) ?_
              refine TS.pure (PV.loadGI (y := (y8.1, (adL t.s u.s x))) (j := x) (v := t.s.getD x 0) rfl Tb.one_3 (fun yy hyy => by repeat (first | exact List.mem_append_left _ hyy | exact List.mem_append_left _ (List.mem_append_right _ hyy) | exact List.mem_append_left _ (List.mem_append_left _ hyy) | refine List.mem_append_right _ ?_ | refine List.Mem.tail _ ?_)) (adL_go hy8.1 x) (by show _ < (adL t.s u.s x).length; rw [adL_len]; omega) (adL_at (by omega))) rfl (by decide) ?_
              refine TS.pure (PV.fieldAddr rfl Tb.fo_25_0) rfl (by decide) ?_
              refine TS.pure (PV.load rfl Tb.one_22 (by repeat (first | exact List.Mem.head _ | refine List.Mem.tail _ ?_ | refine List.mem_append_right _ ?_)) rfl) rfl (by decide) ?_
              refine TS.pure (PV.move rfl) rfl (by decide) ?_
              refine TS.pure (PV.indexA (j := x) rfl hq4p rfl Tb.elm_22 rfl (by omega)) rfl (by decide) ?_
              refine TS.pure (PV.loadOld rfl Tb.one_3 hq4) rfl (by decide) ?_
              refine TS.pure (PV.add rfl rfl (by omega)) rfl (by decide) ?_
              refine TS.pure (PV.indexG (h := y8.1) (len := t.s.length) (ys := ival (adL t.s u.s x)) (j := x) rfl rfl (adL_gk hy8.1 x) Tb.elm_22 rfl (by omega)) rfl (by decide) ?_
              refine TS.nil ?_
              refine TL.putI (h := y8.1) (xs := (adL t.s u.s x)) (xs' := adL t.s u.s (x + 1)) (j := x) rfl rfl Tb.cells_3 (adL_go hy8.1 x) (adL_set (by omega)) (by repeat (first | exact PutH.here _ _ _ _ | apply PutH.tail | apply PutH.app)) (by rw [adL_len]; omega) rfl rfl ?_
              refine TL.nil ?_
              refine TQ.blkN ?_
              refine TQ.thenC ?_
              refine TC.region ?_
              refine TL.pure (PV.move rfl) rfl (by decide) ?_
              refine TL.pure (PV.add rfl rfl (by omega)) rfl (by decide) ?_
              refine TL.pure (PV.assign rfl) rfl (by decide) ?_
              refine TL.nil ?_
              refine TQ.thenN ?_
              refine TQ.backK (x + 1) (by repeat (first | exact True.intro | refine And.intro rfl ?_)) (by repeat (first | exact True.intro | refine And.intro rfl ?_)) (List.Sublist.refl _) (by omega) (by omega)
            · skip
              refine TC.exit ?_
              refine TQ.thenE ?_
              refine TQ.thenE ?_
              refine TQ.blkS ?_
              refine TQ.thenC ?_
              refine TC.seq ?_
              refine TC.seq ?_
              refine TC.region ?_
              refine TL.pure (PV.assign rfl) rfl (by decide) ?_
              refine TL.nil ?_
              refine TQ.thenC ?_
              refine TC.block ?_
              refine TC.perm (G' := gbI (y8.2.1, adL t.d u.d 0) ++ (gbI (y8.1, adL t.s u.s t.s.length) ++ (gbR rwR 22 y8.2.2.1 y8.2.2.2 ++ (rwB y8.2.2.2 ++ [(bq, Obj.cells #[gval y8.1 t.s.length, gval y8.2.1 t.d.length, gval y8.2.2.1 t.c.length] 25 (0, 0)), (bo, Obj.cells #[.slice none 0 0, .slice none 0 0, .slice none 0 0] 25 (0, 0)), (b1, Obj.cells #[.slice q1 u.s.length d1, .slice q2 u.d.length d2, .slice q3 u.c.length d3] 25 (0, 0)), (b0, Obj.cells #[.slice p1 t.s.length c1, .slice p2 t.d.length c2, .slice p3 t.c.length c3] 25 (0, 0))])))) (by first | (rw [show x = t.s.length by omega]; exact (perm_of fun c9 => by (try unfold clG); simp only [adL_0, gbI, gbR, List.map_append, List.sum_append, List.map_cons, List.sum_cons, List.map_nil, List.sum_nil, Value.cells]; try omega)) | exact (perm_of fun c9 => by (try unfold clG); simp only [adL_0, gbI, gbR, List.map_append, List.sum_append, List.map_cons, List.sum_cons, List.map_nil, List.sum_nil, Value.cells]; try omega)) ?_
              refine TC.loopK [3, 4, 5, 6] (X := Nat) (fun x => x ≤ t.d.length) (fun x => [(8, .int .i64 (x : Nat))]) (fun x => gbI (y8.2.1, adL t.d u.d x) ++ (gbI (y8.1, adL t.s u.s t.s.length) ++ (gbR rwR 22 y8.2.2.1 y8.2.2.2 ++ (rwB y8.2.2.2 ++ [(bq, Obj.cells #[gval y8.1 t.s.length, gval y8.2.1 t.d.length, gval y8.2.2.1 t.c.length] 25 (0, 0)), (bo, Obj.cells #[.slice none 0 0, .slice none 0 0, .slice none 0 0] 25 (0, 0)), (b1, Obj.cells #[.slice q1 u.s.length d1, .slice q2 u.d.length d2, .slice q3 u.c.length d3] 25 (0, 0)), (b0, Obj.cells #[.slice p1 t.s.length c1, .slice p2 t.d.length c2, .slice p3 t.c.length c3] 25 (0, 0))])))) (fun x => t.d.length - x) 0 (Nat.zero_le _) (by repeat (first | exact True.intro | refine And.intro rfl ?_)) (List.Sublist.refl _) ?_
              intro x hx9
              refine TC.seq ?_
              refine TC.seq ?_
              refine TC.region ?_
              refine TL.pure (PV.move rfl) rfl (by decide) ?_
              refine TL.pure (PV.fieldAddr rfl Tb.fo_25_1) rfl (by decide) ?_
              refine TL.pure (PV.load rfl Tb.one_22 (by repeat (first | exact List.Mem.head _ | refine List.Mem.tail _ ?_ | refine List.mem_append_right _ ?_)) rfl) rfl (by decide) ?_
              refine TL.pure (PV.lenG (h := y8.2.1) (len := t.d.length) (ys := ival (adL t.d u.d x)) rfl (adL_gk hy8.2.1 x) Tb.sl_22) rfl (by decide) ?_
              refine TL.pure (PV.lss rfl rfl) rfl (by decide) ?_
              refine TL.nil ?_
              refine TQ.thenC ?_
              first | refine TC.condD rfl (fun hlt2 => ?_) (fun hlt2 => ?_) | refine TC.cond rfl (fun hlt2 => ?_) (fun hlt2 => ?_)
              · skip
                refine TC.skip ?_
                refine TQ.thenC ?_
                refine TC.seq ?_
                refine TC.block ?_
                obtain ⟨q5, hq5p, hq5⟩ := u2 x (by omega)
                have hs9 := hV.d x (by omega)
                have hs8 := hU.d x (by omega)
                refine TC.draw 12 Tb.mixed (by kernel_rfl) ?_
                simp only [List.take_succ_cons, List.take_zero, List.drop_succ_cons, List.drop_zero]
                refine TS.pure (PV.fieldAddr rfl Tb.fo_25_1) rfl (by decide) ?_
                refine TS.pure (PV.load rfl Tb.one_22 (by repeat (first | exact List.Mem.head _ | refine List.Mem.tail _ ?_ | refine List.mem_append_right _ ?_)) rfl) rfl (by decide) ?_
                refine TS.pure (PV.move rfl) rfl (by decide) ?_
                refine TS.pure (PV.indexG (h := y8.2.1) (len := t.d.length) (ys := ival (adL t.d u.d x)) (j := x) rfl rfl (adL_gk hy8.2.1 x) Tb.elm_22 rfl (by omega)) rfl (by decide) ?_
                refine TS.pure (PV.loadGI (y := (y8.2.1, (adL t.d u.d x))) (j := x) (v := t.d.getD x 0) rfl Tb.one_3 (fun yy hyy => by repeat (first | exact List.mem_append_left _ hyy | exact List.mem_append_left _ (List.mem_append_right _ hyy) | exact List.mem_append_left _ (List.mem_append_left _ hyy) | refine List.mem_append_right _ ?_ | refine List.Mem.tail _ ?_)) (adL_go hy8.2.1 x) (by show _ < (adL t.d u.d x).length; rw [adL_len]; omega) (adL_at (by omega))) rfl (by decide) ?_
                refine TS.pure (PV.fieldAddr rfl Tb.fo_25_1) rfl (by decide) ?_
                refine TS.pure (PV.load rfl Tb.one_22 (by repeat (first | exact List.Mem.head _ | refine List.Mem.tail _ ?_ | refine List.mem_append_right _ ?_)) rfl) rfl (by decide) ?_
                refine TS.pure (PV.move rfl) rfl (by decide) ?_
                refine TS.pure (PV.indexA (j := x) rfl hq5p rfl Tb.elm_22 rfl (by omega)) rfl (by decide) ?_
                refine TS.pure (PV.loadOld rfl Tb.one_3 hq5) rfl (by decide) ?_
                refine TS.pure (PV.add rfl rfl (by omega)) rfl (by decide) ?_
                refine TS.pure (PV.indexG (h := y8.2.1) (len := t.d.length) (ys := ival (adL t.d u.d x)) (j := x) rfl rfl (adL_gk hy8.2.1 x) Tb.elm_22 rfl (by omega)) rfl (by decide) ?_
                refine TS.nil ?_
                refine TL.putI (h := y8.2.1) (xs := (adL t.d u.d x)) (xs' := adL t.d u.d (x + 1)) (j := x) rfl rfl Tb.cells_3 (adL_go hy8.2.1 x) (adL_set (by omega)) (by repeat (first | exact PutH.here _ _ _ _ | apply PutH.tail | apply PutH.app)) (by rw [adL_len]; omega) rfl rfl ?_
                refine TL.nil ?_
                refine TQ.blkN ?_
                refine TQ.thenC ?_
                refine TC.region ?_
                refine TL.pure (PV.move rfl) rfl (by decide) ?_
                refine TL.pure (PV.add rfl rfl (by omega)) rfl (by decide) ?_
                refine TL.pure (PV.assign rfl) rfl (by decide) ?_
                refine TL.nil ?_
                refine TQ.thenN ?_
                refine TQ.backK (x + 1) (by repeat (first | exact True.intro | refine And.intro rfl ?_)) (by repeat (first | exact True.intro | refine And.intro rfl ?_)) (List.Sublist.refl _) (by omega) (by omega)
              · skip
                refine TC.exit ?_
                refine TQ.thenE ?_
                refine TQ.thenE ?_
                refine TQ.blkS ?_
                refine TQ.thenC ?_
                refine TC.seq ?_
                refine TC.seq ?_
                refine TC.perm (G' := (gbR rwR 22 y8.2.2.1 y8.2.2.2 ++ (rwB y8.2.2.2 ++ (gbI (y8.2.1, adL t.d u.d t.d.length) ++ (gbI (y8.1, adL t.s u.s t.s.length) ++ [(bq, Obj.cells #[gval y8.1 t.s.length, gval y8.2.1 t.d.length, gval y8.2.2.1 t.c.length] 25 (0, 0)), (bo, Obj.cells #[.slice none 0 0, .slice none 0 0, .slice none 0 0] 25 (0, 0)), (b1, Obj.cells #[.slice q1 u.s.length d1, .slice q2 u.d.length d2, .slice q3 u.c.length d3] 25 (0, 0)), (b0, Obj.cells #[.slice p1 t.s.length c1, .slice p2 t.d.length c2, .slice p3 t.c.length c3] 25 (0, 0))]))))) (by first | (rw [show x = t.d.length by omega]; exact (perm_of fun c9 => by simp only [gbI, gbR, List.map_append, List.sum_append, List.map_cons, List.sum_cons, List.map_nil, List.sum_nil, Value.cells]; try omega)) | exact (perm_of fun c9 => by simp only [gbI, gbR, List.map_append, List.sum_append, List.map_cons, List.sum_cons, List.map_nil, List.sum_nil, Value.cells]; try omega)) ?_
                refine TC.region ?_
                refine TL.pure (PV.loadBox (cs := [gval y8.1 t.s.length, gval y8.2.1 t.d.length, gval y8.2.2.1 t.c.length]) rfl Tb.agg_25 (by repeat (first | exact List.Mem.head _ | refine List.Mem.tail _ ?_ | refine List.mem_append_right _ ?_)) rfl) rfl (by decide) ?_
                refine TL.call rfl Tb.gofn_22 (fun a w hs => rvalidate_ok w _ (addT t u) ((add_rd hy8).at hs.new (fun yy hyy => List.Sublist.subset (by unfold addG; simp only [List.append_assoc]; exact List.Sublist.append_left (List.Sublist.append_left (List.Sublist.append_left (List.sublist_append_left _ _) _) _) _) hyy)) (addT_sm hT)) rfl (by decide) (fun _ _ => ?_)
                refine TL.pure (PV.neq rfl rfl) rfl (by decide) ?_
                refine TL.nil ?_
                refine TQ.thenC ?_
                first | refine TC.condD rfl (fun a6 => ?_) (fun a6 => ?_) | refine TC.cond rfl (fun a6 => ?_) (fun a6 => ?_)
                · skip
                  refine TC.seq ?_
                  refine TC.region ?_
                  refine TL.pure (PV.build rfl Tb.zero_25 Tb.pl_25 rfl) rfl (by decide) ?_
                  refine TL.storeAgg (vs := [.slice none 0 0, .slice none 0 0, .slice none 0 0]) rfl rfl Tb.cells_25 (by repeat (first | exact Upd.head _ | apply Upd.tail | apply Upd.appR)) rfl rfl rfl rfl rfl ?_
                  refine TL.pure (PV.assign rfl) rfl (by decide) ?_
                  refine TL.nil ?_
                  refine TQ.thenC ?_
                  refine TC.ret ?_
                  refine TQ.thenR ?_
                  refine TQ.retR rfl (Res.agg rfl Tb.agg_25 (by repeat (first | exact List.Mem.head _ | refine List.Mem.tail _ ?_ | refine List.mem_append_right _ ?_)) rfl (Res.tmp rfl Res.nil)) ?_
                  simp only [tup]
                  have hno : ¬ Ck (addT t u) := fun h => a6 (addT_vt hV hU hce h).v
                  exact ⟨(nilV, []), by rw [add_n hv1 hv2 hce hno]; rfl, by rw [add_n hv1 hv2 hce hno]; exact RdT.nil, List.nil_sublist _⟩
                · skip
                  refine TC.skip ?_
                  refine TQ.thenC ?_
                  refine TC.seq ?_
                  refine TC.region ?_
                  refine TL.pure (PV.loadBox (cs := [gval y8.1 t.s.length, gval y8.2.1 t.d.length, gval y8.2.2.1 t.c.length]) rfl Tb.agg_25 (by repeat (first | exact List.Mem.head _ | refine List.Mem.tail _ ?_ | refine List.mem_append_right _ ?_)) rfl) rfl (by decide) ?_
                  refine TL.storeAgg (vs := [gval y8.1 t.s.length, gval y8.2.1 t.d.length, gval y8.2.2.1 t.c.length]) rfl rfl Tb.cells_25 (by repeat (first | exact Upd.head _ | apply Upd.tail | apply Upd.appR)) rfl rfl (gv3_one _ _ _ _ _ _) rfl rfl ?_
                  refine TL.pure (PV.assign rfl) rfl (by decide) ?_
                  refine TL.nil ?_
                  refine TQ.thenC ?_
                  refine TC.ret ?_
                  refine TQ.retR rfl (Res.agg rfl Tb.agg_25 (by repeat (first | exact List.Mem.head _ | refine List.Mem.tail _ ?_ | refine List.mem_append_right _ ?_)) rfl (Res.tmp rfl Res.nil)) ?_
                  simp only [tup]
                  have hok := addT_ck (vt_of a6)
                  exact ⟨(.agg #[gval y8.1 t.s.length, gval y8.2.1 t.d.length, gval y8.2.2.1 t.c.length], addG t u y8), by rw [add_y hv1 hv2 hce hok], by rw [add_y hv1 hv2 hce hok]; exact add_rd hy8, (by unfold addG; simp only [List.append_assoc]; exact List.Sublist.append_left (List.Sublist.append_left (List.Sublist.append_left (List.sublist_append_left _ _) _) _) _)⟩

end Go.Proofs.Ytghlkndanpegbaa
