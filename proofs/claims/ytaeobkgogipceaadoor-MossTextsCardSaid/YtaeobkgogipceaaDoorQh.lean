/- Neighbors, orders, days: contracts. -/
import Derived.Test.YtaeobkgogipceaaDoorQg
set_option linter.unusedVariables false
set_option linter.unusedSimpArgs false
namespace Go.Proofs.YtaeobkgogipceaaDoor
open Go.Sx Go.RowKit

def zero3 : List Value := [.int .i64 0]


set_option maxRecDepth 100000 in
theorem Order_ok (w0 : World) (ht : TzAt w0) (r c k w9 : Int) :
    Calls Tryd.prog 40 #[.agg #[.int .i64 r, .int .i64 c, .int .i64 k], .int .i64 w9] w0 (Post (X := Value × Heap) (fun x => .tuple #[x.1, .int .i64 (gI r c k w9)]) (fun x => RdI (oL r c k w9) x) (fun x => x.2) w0) := by
  refine calls Tryd.func40 rfl (n := 17) rfl (by simp) ?_
  refine TC.seq ?_
  refine TC.region ?_
  refine TL.box rfl rfl (by decide) (fun b0 hb0 => ?_)
  refine TL.pure (PV.assign rfl) rfl (by decide) ?_
  refine TL.pure (PV.assign rfl) rfl (by decide) ?_
  refine TL.nil ?_
  refine TQ.thenC ?_
  refine TC.seq ?_
  refine TC.seq ?_
  refine TC.region ?_
  refine TL.pure (PV.loadBox rfl Tb.agg_23 (by repeat (first | exact List.Mem.head _ | refine List.Mem.tail _ ?_ | refine List.mem_append_right _ ?_)) rfl) rfl (by decide) ?_
  refine TL.pure (PV.move rfl) rfl (by decide) ?_
  refine TL.call rfl Tb.gofn_64 (fun a w hs => validateSet_ok w _ _ _ _) rfl (by decide) (fun _ _ => ?_)
  refine TL.pure (PV.assign rfl) rfl (by decide) ?_
  refine TL.nil ?_
  refine TQ.thenC ?_
  refine TC.seq ?_
  refine TC.region ?_
  refine TL.pure (PV.move rfl) rfl (by decide) ?_
  refine TL.pure (PV.neq rfl rfl) rfl (by decide) ?_
  refine TL.nil ?_
  refine TQ.thenC ?_
  first | refine TC.condD rfl (fun hv => ?_) (fun hv => ?_) | refine TC.cond rfl (fun hv => ?_) (fun hv => ?_)
  · skip
    refine TC.seq ?_
    refine TC.region ?_
    refine TL.pure (PV.move rfl) rfl (by decide) ?_
    refine TL.pure (PV.assign rfl) rfl (by decide) ?_
    refine TL.pure (PV.assign rfl) rfl (by decide) ?_
    refine TL.nil ?_
    refine TQ.thenC ?_
    refine TC.ret ?_
    refine TQ.thenR ?_
    refine TQ.retE2 rfl rfl rfl ?_
    exact ⟨(.slice none 0 0, []), rfl, by rw [oL_no hv]; exact RdI.nil, List.nil_sublist _⟩
  · skip
    obtain ⟨m, S, ho, hS, rfl, rfl, rfl, rfl⟩ := gI_is (show gI r c k w9 = 0 by omega)
    have hN := ho.N36
    have hS63 := set63 ho hS
    have hzv := zI_ok ho hS
    have hbv := zB_ok ho hS
    have hgv := gI_ok ho hS
    refine TC.skip ?_
    refine TQ.thenC ?_
    refine TC.seq ?_
    refine TC.region ?_
    refine TL.pure (PV.loadBox rfl Tb.agg_23 (by repeat (first | exact List.Mem.head _ | refine List.Mem.tail _ ?_ | refine List.mem_append_right _ ?_)) rfl) rfl (by decide) ?_
    refine TL.pure (PV.move rfl) rfl (by decide) ?_
    refine TL.call rfl Tb.gofn_80 (fun a w hs => smallestFirst_ok w m S) rfl (by decide) (fun y9 hy9 => ?_)
    refine TL.callW (fun x : Value × Heap => x.1) (fun x => RdI (ofN (Mo.ordL m S)) x) (fun x => x.2 ++ ((y9.1, Obj.cells #[.int .i64 (S : Nat)] 3 (0, 0)) :: (y9.2, Obj.cells #[.int .i64 m.R, .int .i64 m.C, .int .i64 m.K] 23 (0, 0)) :: [(b0, Obj.cells #[.int .i64 m.R, .int .i64 m.C, .int .i64 m.K] 23 (0, 0))])) rfl Tb.gofn_57 (fun a w hs => listOfO_ok (ht) m ho S hS y9.1 y9.2 (ord_lt ho hS) hs.new) rfl (by decide) (fun z9 hz9 => ?_)
    refine TL.pure (PV.assign rfl) rfl (by decide) ?_
    refine TL.pure (PV.assign rfl) rfl (by decide) ?_
    refine TL.nil ?_
    refine TQ.thenC ?_
    refine TC.ret ?_
    refine TQ.retE2 rfl rfl rfl ?_
    exact ⟨z9, by rw [hgv], by rw [oL_ok ho hS]; exact hz9, List.sublist_append_left _ _⟩

set_option maxRecDepth 100000 in
set_option maxHeartbeats 2000000 in
theorem rOrder_ok (w0 : World) (r c k w9 : Int) :
    Calls Tryd.prog 41 #[.agg #[.int .i64 r, .int .i64 c, .int .i64 k], .int .i64 w9] w0 (Post (X := Value × Heap) (fun x => .tuple #[x.1, .int .i64 (gI r c k w9)]) (fun x => RdI (oL r c k w9) x) (fun x => x.2) w0) := by
  refine calls Tryd.func41 rfl (n := 44) rfl (by simp) ?_
  refine TC.seq ?_
  refine TC.region ?_
  refine TL.box rfl rfl (by decide) (fun b0 hb0 => ?_)
  refine TL.pure (PV.assign rfl) rfl (by decide) ?_
  refine TL.pure (PV.assign rfl) rfl (by decide) ?_
  refine TL.nil ?_
  refine TQ.thenC ?_
  refine TC.seq ?_
  refine TC.region ?_
  refine TL.pure (PV.loadBox rfl Tb.agg_23 (by repeat (first | exact List.Mem.head _ | refine List.Mem.tail _ ?_ | refine List.mem_append_right _ ?_)) rfl) rfl (by decide) ?_
  refine TL.pure (PV.move rfl) rfl (by decide) ?_
  refine TL.call rfl Tb.gofn_66 (fun a w hs => given_ok w _ _ _ _) rfl (by decide) (fun _ _ => ?_)
  refine TL.pure (PV.assign rfl) rfl (by decide) ?_
  refine TL.nil ?_
  refine TQ.thenC ?_
  refine TC.seq ?_
  refine TC.seq ?_
  refine TC.region ?_
  refine TL.pure (PV.move rfl) rfl (by decide) ?_
  refine TL.pure (PV.neq rfl rfl) rfl (by decide) ?_
  refine TL.nil ?_
  refine TQ.thenC ?_
  first | refine TC.condD rfl (fun hv => ?_) (fun hv => ?_) | refine TC.cond rfl (fun hv => ?_) (fun hv => ?_)
  · skip
    refine TC.seq ?_
    refine TC.region ?_
    refine TL.pure (PV.move rfl) rfl (by decide) ?_
    refine TL.pure (PV.assign rfl) rfl (by decide) ?_
    refine TL.pure (PV.assign rfl) rfl (by decide) ?_
    refine TL.nil ?_
    refine TQ.thenC ?_
    refine TC.ret ?_
    refine TQ.thenR ?_
    refine TQ.retE2 rfl rfl rfl ?_
    exact ⟨(.slice none 0 0, []), rfl, by rw [oL_no hv]; exact RdI.nil, List.nil_sublist _⟩
  · skip
    obtain ⟨m, S, ho, hS, rfl, rfl, rfl, rfl⟩ := gI_is (show gI r c k w9 = 0 by omega)
    have hN := ho.N36
    have hS63 := set63 ho hS
    have hzv := zI_ok ho hS
    have hbv := zB_ok ho hS
    have hgv := gI_ok ho hS
    refine TC.skip ?_
    refine TQ.thenC ?_
    refine TC.seq ?_
    refine TC.region ?_
    refine TL.pure (PV.assign rfl) rfl (by decide) ?_
    refine TL.nil ?_
    refine TQ.thenC ?_
    refine TC.seq ?_
    refine TC.seq ?_
    refine TC.region ?_
    refine TL.pure (PV.assign rfl) rfl (by decide) ?_
    refine TL.nil ?_
    refine TQ.thenC ?_
    refine TC.block ?_
    refine TC.lit [(1, _), (2, _), (4, _), (5, _), (7, _), (8, _)] (by repeat (first | exact True.intro | refine And.intro rfl ?_)) ?_
    refine TC.loopK [2, 4, 5] (X := Nat × Nat × HD × List Nat) (fun x => OS m S x.1 x.2.1 x.2.2.2 ∧ goI (x.2.2.1, ofN x.2.2.2)) (fun x => [(8, .int .i64 x.1), (1, .int .i64 x.2.1), (7, gval x.2.2.1 (ofN x.2.2.2).length)]) (fun x => gbI (x.2.2.1, ofN x.2.2.2) ++ [(b0, Obj.cells #[.int .i64 m.R, .int .i64 m.C, .int .i64 m.K] 23 (0, 0))]) (fun x => 64 * (m.N - Mo.pc x.2.1) + (m.N - x.1)) (0, S, none, []) ⟨OS.zero hS, goI_nil⟩ (by repeat (first | exact True.intro | refine And.intro rfl ?_)) (List.Sublist.refl _) ?_
    intro x hx9
    have hxl := hx9.1.le
    have hW63 := set63 ho hx9.1.lt
    have hll := hx9.1.len
    refine TC.lit [(1, _), (2, _), (4, _), (5, _), (7, _), (8, _)] (by repeat (first | exact True.intro | refine And.intro rfl ?_)) ?_
    refine TC.seq ?_
    refine TC.seq ?_
    refine TC.region ?_
    refine TL.pure (PV.move rfl) rfl (by decide) ?_
    refine TL.pure (PV.loadBox rfl Tb.agg_23 (by repeat (first | exact List.Mem.head _ | refine List.Mem.tail _ ?_ | refine List.mem_append_right _ ?_)) rfl) rfl (by decide) ?_
    refine TL.call rfl Tb.gofn_61 (fun a w hs => rsquares_ok w m ho) rfl (by decide) (fun _ _ => ?_)
    refine TL.pure (PV.lss rfl rfl) rfl (by decide) ?_
    refine TL.nil ?_
    refine TQ.thenC ?_
    first | refine TC.condD rfl (fun hlt => ?_) (fun hlt => ?_) | refine TC.cond rfl (fun hlt => ?_) (fun hlt => ?_)
    · skip
      refine TC.skip ?_
      refine TQ.thenC ?_
      refine TC.block ?_
      refine TC.seq ?_
      refine TC.any Tb.mixed rfl rfl ?_
      refine TA.op (OpOK.pure (PV.move rfl) rfl (by decide)) (by decide) ?_
      refine TA.op (OpOK.pure (PV.move rfl) rfl (by decide)) (by decide) ?_
      refine TA.op (OpOK.call rfl Tb.gofn_31 (fun a w hs => rHas_ok w x.2.1 _ hW63 (by omega)) rfl (by decide)) (by decide) ?_
      refine TA.op (OpOK.pure ((by first | exact PV.notD rfl | exact PV.not rfl)) rfl (by decide)) (by decide) ?_
      refine TA.op (OpOK.pure (PV.move rfl) rfl (by decide)) (by decide) ?_
      first | refine TA.splitD 23 rfl (fun hb => ?_) (fun hb => ?_) | refine TA.split 23 rfl (fun hb => ?_) (fun hb => ?_)
      · skip
        refine TA.op (OpOK.pure (PV.loadBox rfl Tb.agg_23 (by repeat (first | exact List.Mem.head _ | refine List.Mem.tail _ ?_ | refine List.mem_append_right _ ?_)) rfl) rfl (by decide)) (by decide) ?_
        refine TA.op (OpOK.pure (PV.move rfl) rfl (by decide)) (by decide) ?_
        refine TA.op (OpOK.pure (PV.move rfl) rfl (by decide)) (by decide) ?_
        refine TA.op (OpOK.call rfl Tb.gofn_75 (fun a w hs => around_ok w m ho _ hW63 _ (by omega)) rfl (by decide)) (by decide) ?_
        refine TA.op (OpOK.pure (PV.fieldAddr rfl Tb.fo_23_2) rfl (by decide)) (by decide) ?_
        refine TA.op (OpOK.pure (PV.load rfl Tb.one_3 (by repeat (first | exact List.Mem.head _ | refine List.Mem.tail _ ?_ | refine List.mem_append_right _ ?_)) rfl) rfl (by decide)) (by decide) ?_
        refine TA.op (OpOK.pure (PV.geq rfl rfl) rfl (by decide)) (by decide) ?_
        refine TA.op (OpOK.pure (PV.pickT rfl rfl) rfl (by decide)) (by decide) ?_
        show TQ _ _ _ _ _
        refine TQ.thenC ?_
        first | refine TC.condD rfl (fun hge => ?_) (fun hge => ?_) | refine TC.cond rfl (fun hge => ?_) (fun hge => ?_)
        · skip
          have hpt := hx9.1.put ho hS (by omega) (rdB_yes hb hge)
          have hsn := ofN_snoc x.2.2.2 x.1
          refine TC.seq ?_
          refine TC.region ?_
          refine TL.pure (PV.move rfl) rfl (by decide) ?_
          refine TL.pure (PV.move rfl) rfl (by decide) ?_
          refine TL.pure (PV.conv Tb.int_3 Tb.int_43 rfl (conv_u (by omega))) rfl (by decide) ?_
          refine TL.pure (PV.shlK rfl rfl (by omega) (by omega) (shl_nat (by omega))) rfl (by decide) ?_
          refine TL.pure (PV.orK rfl rfl (i64_or_nat hW63 (p63 (by omega)))) rfl (by decide) ?_
          refine TL.pure (PV.assign rfl) rfl (by decide) ?_
          refine TL.nil ?_
          refine TQ.thenC ?_
          refine TC.seq ?_
          refine TC.region ?_
          refine TL.pure (PV.move rfl) rfl (by decide) ?_
          refine TL.pure (PV.move rfl) rfl (by decide) ?_
          refine TL.buildSlice (cs := #[.int .i64 x.1]) rfl Tb.sl_24 Tb.zi_3 (by decide) (fill_i _) (by decide) rfl (by decide) (fun bE hbE => ?_)
          refine TL.appendI (x0 := (x.2.2.1, ofN x.2.2.2)) rfl rfl (by repeat (first | exact List.Mem.head _ | refine List.Mem.tail _ ?_ | refine List.mem_append_right _ ?_)) hx9.2 (by repeat (first | exact TakeH.here _ _ _ _ | apply TakeH.tail | apply TakeH.app)) (by show (ofN x.2.2.2).length ≤ 1000000; rw [List.length_map]; omega) rfl (by decide) (fun hh hho => ?_)
          refine TL.pure (PV.assign rfl) rfl (by decide) ?_
          refine TL.nil ?_
          refine TQ.thenC ?_
          refine TC.region ?_
          refine TL.pure (PV.assign rfl) rfl (by decide) ?_
          refine TL.nil ?_
          refine TQ.blkN ?_
          refine TQ.thenN ?_
          refine TQ.backK (0, x.2.1 ||| 2 ^ x.1, hh, x.2.2.2 ++ [x.1]) (And.intro rfl (And.intro rfl (And.intro (by show some _ = some (gval _ (ofN (x.2.2.2 ++ [x.1])).length); rw [hsn]) True.intro))) (by repeat (first | exact True.intro | refine And.intro rfl ?_)) (by show List.Sublist (gbI (_, ofN (x.2.2.2 ++ [x.1])) ++ _) _; rw [hsn]; exact List.Sublist.append_left (List.sublist_cons_self _ _) _) ⟨hpt.1, by show goI (_, ofN (x.2.2.2 ++ [x.1])); rw [hsn]; exact hho⟩ (by have h1 := hpt.2; have h2 := Mo.pc_le hpt.1.lt (by omega); simp only; omega)
        · skip
          refine TC.region ?_
          refine TL.pure (PV.move rfl) rfl (by decide) ?_
          refine TL.pure (PV.add rfl rfl (by omega)) rfl (by decide) ?_
          refine TL.pure (PV.assign rfl) rfl (by decide) ?_
          refine TL.nil ?_
          refine TQ.blkN ?_
          refine TQ.thenN ?_
          refine TQ.backK (x.1 + 1, x.2.1, x.2.2) (by repeat (first | exact True.intro | refine And.intro rfl ?_)) (by repeat (first | exact True.intro | refine And.intro rfl ?_)) (List.Sublist.refl _) ⟨hx9.1.skip (by omega) (rdB_no2 hge), hx9.2⟩ (by simp only; omega)
      · skip
        refine TA.op (OpOK.skip rfl) (by decide) ?_
        refine TA.op (OpOK.skip rfl) (by decide) ?_
        refine TA.op (OpOK.skip rfl) (by decide) ?_
        refine TA.op (OpOK.skip rfl) (by decide) ?_
        refine TA.op (OpOK.skip rfl) (by decide) ?_
        refine TA.op (OpOK.skip rfl) (by decide) ?_
        refine TA.op (OpOK.skip rfl) (by decide) ?_
        refine TA.op (OpOK.pure (PV.pickF rfl rfl) rfl (by decide)) (by decide) ?_
        show TQ _ _ _ _ _
        refine TQ.thenC ?_
        refine TC.condF rfl ?_
        refine TC.region ?_
        refine TL.pure (PV.move rfl) rfl (by decide) ?_
        refine TL.pure (PV.add rfl rfl (by omega)) rfl (by decide) ?_
        refine TL.pure (PV.assign rfl) rfl (by decide) ?_
        refine TL.nil ?_
        refine TQ.blkN ?_
        refine TQ.thenN ?_
        refine TQ.backK (x.1 + 1, x.2.1, x.2.2) (by repeat (first | exact True.intro | refine And.intro rfl ?_)) (by repeat (first | exact True.intro | refine And.intro rfl ?_)) (List.Sublist.refl _) ⟨hx9.1.skip (by omega) (rdB_no1 hb), hx9.2⟩ (by simp only; omega)
    · skip
      refine TC.exit ?_
      refine TQ.thenE ?_
      refine TQ.thenE ?_
      refine TQ.blkS ?_
      refine TQ.thenC ?_
      refine TC.seq ?_
      have hdn := (show x.1 = m.N by omega) ▸ hx9.1
      refine TC.region ?_
      refine TL.pure (PV.move rfl) rfl (by decide) ?_
      refine TL.pure (PV.assign rfl) rfl (by decide) ?_
      refine TL.pure (PV.assign rfl) rfl (by decide) ?_
      refine TL.nil ?_
      refine TQ.thenC ?_
      refine TC.ret ?_
      refine TQ.retE2 rfl rfl rfl ?_
      exact ⟨(gval x.2.2.1 (ofN x.2.2.2).length, gbI (x.2.2.1, ofN x.2.2.2)), by rw [hgv], by rw [oL_ok ho hS, ← hdn.done]; exact RdI.g hx9.2, List.sublist_append_left _ _⟩

set_option maxRecDepth 100000 in
theorem Neighbors_ok (w0 : World) (ht : TzAt w0) (r c k s9 : Int) :
    Calls Tryd.prog 17 #[.agg #[.int .i64 r, .int .i64 c, .int .i64 k], .int .i64 s9] w0 (Post (X := Value × Heap) (fun x => .tuple #[x.1, .int .i64 (nE r c k s9)]) (fun x => RdI (nL r c k s9) x) (fun x => x.2) w0) := by
  refine calls Tryd.func17 rfl (n := 21) rfl (by simp) ?_
  refine TC.seq ?_
  refine TC.region ?_
  refine TL.box rfl rfl (by decide) (fun b0 hb0 => ?_)
  refine TL.pure (PV.assign rfl) rfl (by decide) ?_
  refine TL.pure (PV.assign rfl) rfl (by decide) ?_
  refine TL.nil ?_
  refine TQ.thenC ?_
  refine TC.seq ?_
  refine TC.seq ?_
  refine TC.region ?_
  refine TL.pure (PV.loadBox rfl Tb.agg_23 (by repeat (first | exact List.Mem.head _ | refine List.Mem.tail _ ?_ | refine List.mem_append_right _ ?_)) rfl) rfl (by decide) ?_
  refine TL.call rfl Tb.gofn_19 (fun a w hs => validate_ok w _ _ _) rfl (by decide) (fun _ _ => ?_)
  refine TL.pure (PV.assign rfl) rfl (by decide) ?_
  refine TL.nil ?_
  refine TQ.thenC ?_
  refine TC.seq ?_
  refine TC.region ?_
  refine TL.pure (PV.move rfl) rfl (by decide) ?_
  refine TL.pure (PV.neq rfl rfl) rfl (by decide) ?_
  refine TL.nil ?_
  refine TQ.thenC ?_
  first | refine TC.condD rfl (fun hv => ?_) (fun hv => ?_) | refine TC.cond rfl (fun hv => ?_) (fun hv => ?_)
  · skip
    refine TC.seq ?_
    refine TC.region ?_
    refine TL.pure (PV.move rfl) rfl (by decide) ?_
    refine TL.pure (PV.assign rfl) rfl (by decide) ?_
    refine TL.pure (PV.assign rfl) rfl (by decide) ?_
    refine TL.nil ?_
    refine TQ.thenC ?_
    refine TC.ret ?_
    refine TQ.thenR ?_
    refine TQ.retE2 rfl rfl rfl ?_
    exact ⟨(.slice none 0 0, []), by rw [nE_v hv], by rw [nL_no (by rw [nE_v hv]; exact hv)]; exact RdI.nil, List.nil_sublist _⟩
  · skip
    obtain ⟨m, ho, rfl, rfl, rfl⟩ := vI_is (show vI r c k = 0 by omega)
    have hN := ho.N36
    have hen := nE_ok ho s9
    refine TC.skip ?_
    refine TQ.thenC ?_
    refine TC.seq ?_
    refine TC.seq ?_
    refine TC.region ?_
    refine TL.pure (PV.loadBox rfl Tb.agg_23 (by repeat (first | exact List.Mem.head _ | refine List.Mem.tail _ ?_ | refine List.mem_append_right _ ?_)) rfl) rfl (by decide) ?_
    refine TL.pure (PV.move rfl) rfl (by decide) ?_
    refine TL.call rfl Tb.gofn_56 (fun a w hs => isSquare_ok w m ho _) rfl (by decide) (fun _ _ => ?_)
    refine TL.pure ((by first | exact PV.notD rfl | exact PV.not rfl)) rfl (by decide) ?_
    refine TL.nil ?_
    refine TQ.thenC ?_
    first | refine TC.condD rfl (fun hsq => ?_) (fun hsq => ?_) | refine TC.cond rfl (fun hsq => ?_) (fun hsq => ?_)
    · skip
      refine TC.seq ?_
      refine TC.region ?_
      refine TL.pure (PV.assign rfl) rfl (by decide) ?_
      refine TL.pure (PV.assign rfl) rfl (by decide) ?_
      refine TL.nil ?_
      refine TQ.thenC ?_
      refine TC.ret ?_
      refine TQ.thenR ?_
      refine TQ.retE2 rfl rfl rfl ?_
      rw [if_neg (by simpa using hsq)] at hen
      exact ⟨(.slice none 0 0, []), by rw [hen], by rw [nL_no (by rw [hen]; decide)]; exact RdI.nil, List.nil_sublist _⟩
    · skip
      obtain ⟨q, rfl⟩ : ∃ q : Nat, s9 = q := ⟨s9.toNat, by simp at hsq; omega⟩
      have hqN : q < m.N := by simp at hsq; omega
      have hnb := nb_lt ho hqN
      have hn63 := set63 ho hnb
      refine TC.skip ?_
      refine TQ.thenC ?_
      refine TC.seq ?_
      refine TC.region ?_
      refine TL.pure (PV.loadBox rfl Tb.agg_23 (by repeat (first | exact List.Mem.head _ | refine List.Mem.tail _ ?_ | refine List.mem_append_right _ ?_)) rfl) rfl (by decide) ?_
      refine TL.pure (PV.move rfl) rfl (by decide) ?_
      refine TL.call rfl Tb.gofn_59 (fun a w hs => neighbors_ok w m ho q hqN) rfl (by decide) (fun _ _ => ?_)
      refine TL.call rfl Tb.gofn_58 (fun a w hs => squares_ok w _) rfl (by decide) (fun y9 hy9 => ?_)
      refine TL.callW (fun x : Value × Heap => x.1) (fun x => RdI (ofN (Mo.sqL (Mo.nb m q))) x) (fun x => x.2 ++ ((y9, Obj.cells #[.int .i64 (Mo.nb m q : Nat)] 3 (0, 0)) :: [(b0, Obj.cells #[.int .i64 m.R, .int .i64 m.C, .int .i64 m.K] 23 (0, 0))])) rfl Tb.gofn_57 (fun a w hs => listOfS_ok (ht) y9 (Mo.nb m q) hn63 (sq_len36 ho hnb) hs.new) rfl (by decide) (fun z9 hz9 => ?_)
      refine TL.pure (PV.assign rfl) rfl (by decide) ?_
      refine TL.pure (PV.assign rfl) rfl (by decide) ?_
      refine TL.nil ?_
      refine TQ.thenC ?_
      refine TC.ret ?_
      refine TQ.retE2 rfl rfl rfl ?_
      rw [if_pos (by omega)] at hen
      exact ⟨z9, by rw [hen], by rw [nL_ok ho hqN, ← sq_nbF ho hqN]; exact hz9, List.sublist_append_left _ _⟩

set_option maxRecDepth 100000 in
theorem rNeighbors_ok (w0 : World) (r c k s9 : Int) :
    Calls Tryd.prog 18 #[.agg #[.int .i64 r, .int .i64 c, .int .i64 k], .int .i64 s9] w0 (Post (X := Value × Heap) (fun x => .tuple #[x.1, .int .i64 (nE r c k s9)]) (fun x => RdI (nL r c k s9) x) (fun x => x.2) w0) := by
  refine calls Tryd.func18 rfl (n := 21) rfl (by simp) ?_
  refine TC.seq ?_
  refine TC.region ?_
  refine TL.box rfl rfl (by decide) (fun b0 hb0 => ?_)
  refine TL.pure (PV.assign rfl) rfl (by decide) ?_
  refine TL.pure (PV.assign rfl) rfl (by decide) ?_
  refine TL.nil ?_
  refine TQ.thenC ?_
  refine TC.seq ?_
  refine TC.region ?_
  refine TL.pure (PV.loadBox rfl Tb.agg_23 (by repeat (first | exact List.Mem.head _ | refine List.Mem.tail _ ?_ | refine List.mem_append_right _ ?_)) rfl) rfl (by decide) ?_
  refine TL.call rfl Tb.gofn_20 (fun a w hs => rvalidate_ok w _ _ _) rfl (by decide) (fun _ _ => ?_)
  refine TL.pure (PV.assign rfl) rfl (by decide) ?_
  refine TL.nil ?_
  refine TQ.thenC ?_
  refine TC.seq ?_
  refine TC.seq ?_
  refine TC.region ?_
  refine TL.pure (PV.move rfl) rfl (by decide) ?_
  refine TL.pure (PV.neq rfl rfl) rfl (by decide) ?_
  refine TL.nil ?_
  refine TQ.thenC ?_
  first | refine TC.condD rfl (fun hv => ?_) (fun hv => ?_) | refine TC.cond rfl (fun hv => ?_) (fun hv => ?_)
  · skip
    refine TC.seq ?_
    refine TC.region ?_
    refine TL.pure (PV.move rfl) rfl (by decide) ?_
    refine TL.pure (PV.assign rfl) rfl (by decide) ?_
    refine TL.pure (PV.assign rfl) rfl (by decide) ?_
    refine TL.nil ?_
    refine TQ.thenC ?_
    refine TC.ret ?_
    refine TQ.thenR ?_
    refine TQ.retE2 rfl rfl rfl ?_
    exact ⟨(.slice none 0 0, []), by rw [nE_v hv], by rw [nL_no (by rw [nE_v hv]; exact hv)]; exact RdI.nil, List.nil_sublist _⟩
  · skip
    obtain ⟨m, ho, rfl, rfl, rfl⟩ := vI_is (show vI r c k = 0 by omega)
    have hN := ho.N36
    have hen := nE_ok ho s9
    refine TC.skip ?_
    refine TQ.thenC ?_
    refine TC.seq ?_
    refine TC.seq ?_
    refine TC.region ?_
    refine TL.pure (PV.move rfl) rfl (by decide) ?_
    refine TL.pure (PV.loadBox rfl Tb.agg_23 (by repeat (first | exact List.Mem.head _ | refine List.Mem.tail _ ?_ | refine List.mem_append_right _ ?_)) rfl) rfl (by decide) ?_
    refine TL.call rfl Tb.gofn_61 (fun a w hs => rsquares_ok w m ho) rfl (by decide) (fun _ _ => ?_)
    refine TL.pure (PV.sub rfl rfl (by omega)) rfl (by decide) ?_
    refine TL.call rfl Tb.gofn_60 (fun a w hs => within_ok w _ _ _) rfl (by decide) (fun _ _ => ?_)
    refine TL.pure ((by first | exact PV.notD rfl | exact PV.not rfl)) rfl (by decide) ?_
    refine TL.nil ?_
    refine TQ.thenC ?_
    first | refine TC.condD rfl (fun hsq => ?_) (fun hsq => ?_) | refine TC.cond rfl (fun hsq => ?_) (fun hsq => ?_)
    · skip
      refine TC.seq ?_
      refine TC.region ?_
      refine TL.pure (PV.assign rfl) rfl (by decide) ?_
      refine TL.pure (PV.assign rfl) rfl (by decide) ?_
      refine TL.nil ?_
      refine TQ.thenC ?_
      refine TC.ret ?_
      refine TQ.thenR ?_
      refine TQ.retE2 rfl rfl rfl ?_
      rw [if_neg (by simp at hsq; omega)] at hen
      exact ⟨(.slice none 0 0, []), by rw [hen], by rw [nL_no (by rw [hen]; decide)]; exact RdI.nil, List.nil_sublist _⟩
    · skip
      obtain ⟨q, rfl⟩ : ∃ q : Nat, s9 = q := ⟨s9.toNat, by simp at hsq; omega⟩
      have hqN : q < m.N := by simp at hsq; omega
      refine TC.skip ?_
      refine TQ.thenC ?_
      refine TC.seq ?_
      refine TC.region ?_
      refine TL.pure (PV.loadBox rfl Tb.agg_23 (by repeat (first | exact List.Mem.head _ | refine List.Mem.tail _ ?_ | refine List.mem_append_right _ ?_)) rfl) rfl (by decide) ?_
      refine TL.pure (PV.move rfl) rfl (by decide) ?_
      refine TL.call rfl Tb.gofn_62 (fun a w hs => rneighbors_ok w m ho q hqN) rfl (by decide) (fun z9 hz9 => ?_)
      refine TL.pure (PV.assign rfl) rfl (by decide) ?_
      refine TL.pure (PV.assign rfl) rfl (by decide) ?_
      refine TL.nil ?_
      refine TQ.thenC ?_
      refine TC.ret ?_
      refine TQ.retE2 rfl rfl rfl ?_
      rw [if_pos (by omega)] at hen
      exact ⟨z9, by rw [hen], by rw [nL_ok ho hqN]; exact hz9, List.sublist_append_left _ _⟩

end Go.Proofs.YtaeobkgogipceaaDoor
