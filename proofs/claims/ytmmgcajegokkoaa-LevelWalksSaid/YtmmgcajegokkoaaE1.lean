/- The equations of a survey, in memory. -/
import Derived.Test.YtmmgcajegokkoaaD1
set_option linter.unusedVariables false
set_option linter.unusedSimpArgs false
namespace Go.Proofs.Ytmmgcajegokkoaa
open Go.Sx Go.RowKit

abbrev outB (bO : Nat) (ids : List Nat) (c : Nat) : Nat × Obj := (bO, .cells (heads ids c ++ []).toArray 31 (0, 0))
theorem row_end1 {N : Nat} {first loads : List Int} {i : Nat} (h : (i : Int) = first.getD i 0) :
    (m0 N first loads i ++ [List.replicate (N + 1) 0]).set i (((m0 N first loads i ++ [List.replicate (N + 1) 0]).getD i []).set i 1) = m0 N first loads (i + 1) := by
  rw [setM_last (m0_len _ _ _ _), m0_succ, rowInit, if_pos h]
theorem row_end2 {N : Nat} {first loads : List Int} {i : Nat} (h : ¬ (i : Int) = first.getD i 0) :
    (m0 N first loads i ++ [List.replicate (N + 1) 0]).set i (((m0 N first loads i ++ [List.replicate (N + 1) 0]).getD i []).set N (loads.getD i 0)) = m0 N first loads (i + 1) := by
  rw [setM_last (m0_len _ _ _ _), m0_succ, rowInit, if_neg h]
theorem snoc_len {m : List (List Int)} {r : List Int} {i c : Nat} (h : m.length = i) (hr : r.length = c) : ((m ++ [r]).getD i []).length = c := by
  subst h; simpa [List.getD] using hr
theorem len_snoc {α : Type} {l : List α} {a : α} {i : Nat} (h : l.length = i) : i < (l ++ [a]).length := by simp; omega


set_option maxRecDepth 100000 in
set_option maxHeartbeats 1000000 in
theorem equations_ok (w0 : World) (n : Int) (p : Option Addr) (cap : Nat) (rs : List Rd) (hr : RdsAt w0 p rs) (hv : Valid n rs) (pl : Option Addr) (cl : Nat) (loads : List Int) (hla : IntsAt w0 pl loads) (hll : loads.length = n.toNat) (B : Int) (hB : 1 ≤ B ∧ B ≤ 1000000000000000) (hlb : Bd loads B) :
    Calls Try.prog 105 #[sv n p rs.length cap, .slice pl n.toNat cl] w0 (Post (X := Nat × List Nat) (fun x => .slice (some ⟨x.1, 0, none⟩) n.toNat n.toNat) (fun x => x.2.length = n.toNat) (fun x => outB x.1 x.2 (n.toNat + 1) :: rowsH 3 x.2 (eqM n.toNat rs loads)) w0) := by
  have hp := hv.pts
  have hl := hv.len
  obtain ⟨N, rfl⟩ : ∃ N : Nat, n = N := ⟨n.toNat, by omega⟩
  have hll : loads.length = N := hll
  refine calls Try.func105 rfl (n := 128) rfl (by simp) ?_
  refine TC.seq ?_
  refine TC.region ?_
  refine TL.box rfl rfl (by decide) (fun b0 hb0 => ?_)
  refine TL.pure (PV.assign rfl) rfl (by decide) ?_
  refine TL.nil ?_
  refine TQ.thenC ?_
  refine TC.seq ?_
  refine TC.region ?_
  refine TL.pure (PV.loadBox rfl Tb.agg_24 (by repeat (first | exact List.Mem.head _ | refine List.Mem.tail _ ?_ | refine List.mem_append_right _ ?_)) rfl) rfl (by decide) ?_
  refine TL.call rfl Tb.gofn_81 (fun a w hs => firsts_ok w _ _ _ _ (hr.new hs.new) hv) rfl (by decide) (fun bF _ => ?_)
  refine TL.pure (PV.assign rfl) rfl (by decide) ?_
  refine TL.nil ?_
  refine TQ.thenC ?_
  refine TC.seq ?_
  refine TC.region ?_
  refine TL.pure (PV.fieldAddr rfl Tb.fo_24_0) rfl (by decide) ?_
  refine TL.pure (PV.load rfl Tb.one_3 (by repeat (first | exact List.Mem.head _ | refine List.Mem.tail _ ?_ | refine List.mem_append_right _ ?_)) rfl) rfl (by decide) ?_
  refine TL.make rfl rfl Tb.sl_27 Tb.zi_31 rfl rfl (by omega) (by omega) rfl (by decide) (fun b1 hb1 => ?_)
  refine TL.pure (PV.assign rfl) rfl (by decide) ?_
  refine TL.nil ?_
  refine TQ.thenC ?_
  refine TC.seq ?_
  refine TC.seq ?_
  refine TC.region ?_
  refine TL.pure (PV.move rfl) rfl (by decide) ?_
  refine TL.pure (PV.len rfl Tb.sl_27) rfl (by decide) ?_
  refine TL.pure (PV.move rfl) rfl (by decide) ?_
  refine TL.nil ?_
  refine TQ.thenC ?_
  refine TC.block ?_
  refine TC.loopK [1, 2, 4, 5, 6, 16] (X := Nat × List Nat) (fun x => x.1 ≤ N ∧ x.2.length = x.1) (fun x => [(17, .int .i64 x.1)]) (fun x => (b1, .cells (heads x.2 (N + 1) ++ List.replicate (N - x.1) (Value.slice none 0 0)).toArray 31 (0, 0)) :: (rowsH 3 x.2 (m0 N (firstsL N rs) loads x.1) ++ [arrI bF (firstsL N rs), (b0, .cells #[.int .i64 N, .slice p rs.length cap] 24 (0, 0))])) (fun x => N - x.1) (0, []) ⟨Nat.zero_le _, rfl⟩ (by repeat (first | exact True.intro | refine And.intro rfl ?_)) (by repeat (first | exact List.Sublist.slnil | exact List.nil_sublist _ | exact List.Sublist.refl _ | refine List.Sublist.cons_cons _ ?_ | refine List.Sublist.cons _ ?_ | refine List.Sublist.trans ?_ (List.sublist_append_right _ _))) ?_
  intro x hx
  refine TC.seq ?_
  refine TC.region ?_
  refine TL.pure (PV.lss rfl rfl) rfl (by decide) ?_
  refine TL.nil ?_
  refine TQ.thenC ?_
  refine TC.seq ?_
  first | refine TC.condD rfl (fun hlt => ?_) (fun hlt => ?_) | refine TC.cond rfl (fun hlt => ?_) (fun hlt => ?_)
  · skip
    refine TC.skip ?_
    refine TQ.thenC ?_
    refine TC.seq ?_
    refine TC.block ?_
    refine TC.seq ?_
    refine TC.region ?_
    refine TL.pure (PV.move rfl) rfl (by decide) ?_
    refine TL.pure (PV.assign rfl) rfl (by decide) ?_
    refine TL.nil ?_
    refine TQ.thenC ?_
    refine TC.seq ?_
    refine TC.region ?_
    obtain ⟨k, hk⟩ : ∃ k, N - x.1 = k + 1 := ⟨N - x.1 - 1, by omega⟩
    rw [hk]
    have hfl := firstsL_len N rs
    simp only [Int.toNat_natCast] at hfl
    obtain ⟨qa, rfl, hqa⟩ := hla x.1 (by omega)
    refine TL.pure (PV.move rfl) rfl (by decide) ?_
    refine TL.pure (PV.move rfl) rfl (by decide) ?_
    refine TL.pure (PV.fieldAddr rfl Tb.fo_24_0) rfl (by decide) ?_
    refine TL.pure (PV.load rfl Tb.one_3 (by repeat (first | exact List.Mem.head _ | refine List.Mem.tail _ ?_ | refine List.mem_append_right _ ?_)) rfl) rfl (by decide) ?_
    refine TL.pure (PV.add rfl rfl (by omega)) rfl (by decide) ?_
    refine TL.makeI rfl rfl Tb.sl_31 Tb.zi_3 (k := N + 1) rfl (by omega) (by omega) rfl (by decide) (fun b2 hb2 => ?_)
    refine TL.pure (PV.index1 rfl rfl Tb.elm_27 rfl (by omega)) rfl (by decide) ?_
    refine TL.storeHead rfl rfl Tb.cells_31 hx.2 (by repeat (first | exact Upd.head _ | apply Upd.tail | apply Upd.appR)) rfl rfl ?_
    refine TL.perm (perm_row (by rw [hx.2, m0_len])) ?_
    refine TL.nil ?_
    refine TQ.thenC ?_
    refine TC.seq ?_
    refine TC.region ?_
    refine TL.pure (PV.move rfl) rfl (by decide) ?_
    refine TL.pure (PV.move rfl) rfl (by decide) ?_
    refine TL.pure (PV.move rfl) rfl (by decide) ?_
    refine TL.pure (PV.index1 rfl rfl Tb.elm_31 rfl (by omega)) rfl (by decide) ?_
    refine TL.pure (PV.loadI rfl Tb.one_3 (by repeat (first | exact List.Mem.head _ | refine List.Mem.tail _ ?_ | refine List.mem_append_right _ ?_)) (by omega)) rfl (by decide) ?_
    refine TL.pure (PV.eql rfl rfl) rfl (by decide) ?_
    refine TL.nil ?_
    refine TQ.thenC ?_
    first | refine TC.condD rfl (fun heq => ?_) (fun heq => ?_) | refine TC.cond rfl (fun heq => ?_) (fun heq => ?_)
    · skip
      refine TC.region ?_
      refine TL.pure (PV.move rfl) rfl (by decide) ?_
      refine TL.pure (PV.move rfl) rfl (by decide) ?_
      refine TL.pure (PV.index1 rfl rfl Tb.elm_27 rfl (by omega)) rfl (by decide) ?_
      refine TL.pure (PV.loadHead rfl Tb.one_31 (by repeat (first | exact List.Mem.head _ | refine List.Mem.tail _ ?_ | refine List.mem_append_right _ ?_)) (len_snoc hx.2)) rfl (by decide) ?_
      refine TL.pure (PV.move rfl) rfl (by decide) ?_
      refine TL.pure (PV.index1 rfl rfl Tb.elm_31 rfl (by omega)) rfl (by decide) ?_
      refine TL.storeRow (m := m0 N (firstsL N rs) loads x.1 ++ [List.replicate (N + 1) 0]) rfl rfl Tb.cells_3 (Upd.tail _ (Upd.appL _ (upd_rowsH _ (len_snoc hx.2) (len_snoc (m0_len _ _ _ _))))) (by rw [snoc_len (m0_len _ _ _ _) List.length_replicate]; omega) rfl rfl ?_
      refine TL.nil ?_
      refine TQ.blkN ?_
      refine TQ.thenC ?_
      refine TC.region ?_
      refine TL.pure (PV.add rfl rfl (by omega)) rfl (by decide) ?_
      refine TL.pure (PV.move rfl) rfl (by decide) ?_
      refine TL.nil ?_
      refine TQ.thenN ?_
      first | rw [row_end1 heq] | rw [row_end2 heq]
      rw [show k = N - (x.1 + 1) by omega]
      refine TQ.backK (x.1 + 1, x.2 ++ [b2]) (by repeat (first | exact True.intro | refine And.intro rfl ?_)) (by repeat (first | exact True.intro | refine And.intro rfl ?_)) (by repeat (first | exact List.Sublist.slnil | exact List.nil_sublist _ | exact List.Sublist.refl _ | refine List.Sublist.cons_cons _ ?_ | refine List.Sublist.cons _ ?_ | refine List.Sublist.trans ?_ (List.sublist_append_right _ _))) ⟨by simp only; omega, by simp [hx.2]⟩ (by simp only; omega)
    · skip
      refine TC.draw 11 Tb.mixed (by kernel_rfl) ?_
      simp only [List.take_succ_cons, List.take_zero, List.drop_succ_cons, List.drop_zero]
      refine TS.pure (PV.move rfl) rfl (by decide) ?_
      refine TS.pure (PV.move rfl) rfl (by decide) ?_
      refine TS.pure (PV.index1 rfl rfl Tb.elm_27 rfl (by omega)) rfl (by decide) ?_
      refine TS.pure (PV.loadHead rfl Tb.one_31 (by repeat (first | exact List.Mem.head _ | refine List.Mem.tail _ ?_ | refine List.mem_append_right _ ?_)) (len_snoc hx.2)) rfl (by decide) ?_
      refine TS.pure (PV.fieldAddr rfl Tb.fo_24_0) rfl (by decide) ?_
      refine TS.pure (PV.load rfl Tb.one_3 (by repeat (first | exact List.Mem.head _ | refine List.Mem.tail _ ?_ | refine List.mem_append_right _ ?_)) rfl) rfl (by decide) ?_
      refine TS.pure (PV.move rfl) rfl (by decide) ?_
      refine TS.pure (PV.move rfl) rfl (by decide) ?_
      refine TS.pure (PV.indexA rfl rfl rfl Tb.elm_31 rfl (by omega)) rfl (by decide) ?_
      refine TS.pure (PV.loadOld rfl Tb.one_3 hqa) rfl (by decide) ?_
      refine TS.pure (PV.index1 rfl rfl Tb.elm_31 rfl (by omega)) rfl (by decide) ?_
      refine TS.nil ?_
      refine TL.storeRow (m := m0 N (firstsL N rs) loads x.1 ++ [List.replicate (N + 1) 0]) rfl rfl Tb.cells_3 (Upd.tail _ (Upd.appL _ (upd_rowsH _ (len_snoc hx.2) (len_snoc (m0_len _ _ _ _))))) (by rw [snoc_len (m0_len _ _ _ _) List.length_replicate]; omega) rfl rfl ?_
      refine TL.nil ?_
      refine TQ.blkN ?_
      refine TQ.thenC ?_
      refine TC.region ?_
      refine TL.pure (PV.add rfl rfl (by omega)) rfl (by decide) ?_
      refine TL.pure (PV.move rfl) rfl (by decide) ?_
      refine TL.nil ?_
      refine TQ.thenN ?_
      first | rw [row_end1 heq] | rw [row_end2 heq]
      rw [show k = N - (x.1 + 1) by omega]
      refine TQ.backK (x.1 + 1, x.2 ++ [b2]) (by repeat (first | exact True.intro | refine And.intro rfl ?_)) (by repeat (first | exact True.intro | refine And.intro rfl ?_)) (by repeat (first | exact List.Sublist.slnil | exact List.nil_sublist _ | exact List.Sublist.refl _ | refine List.Sublist.cons_cons _ ?_ | refine List.Sublist.cons _ ?_ | refine List.Sublist.trans ?_ (List.sublist_append_right _ _))) ⟨by simp only; omega, by simp [hx.2]⟩ (by simp only; omega)
  · skip
    refine TC.exit ?_
    refine TQ.thenE ?_
    refine TQ.thenE ?_
    refine TQ.blkS ?_
    refine TQ.thenC ?_
    refine TC.seq ?_
    refine TC.seq ?_
    have hxN : x.1 = N := by omega
    rw [show N - x.1 = 0 by omega, hxN]
    refine TC.region ?_
    refine TL.pure (PV.fieldAddr rfl Tb.fo_24_1) rfl (by decide) ?_
    refine TL.pure (PV.load rfl Tb.one_22 (by repeat (first | exact List.Mem.head _ | refine List.Mem.tail _ ?_ | refine List.mem_append_right _ ?_)) rfl) rfl (by decide) ?_
    refine TL.pure (PV.len rfl Tb.sl_22) rfl (by decide) ?_
    refine TL.pure (PV.move rfl) rfl (by decide) ?_
    refine TL.nil ?_
    refine TQ.thenC ?_
    refine TC.block ?_
    refine TC.loopK [4, 5, 6, 52, 53] (X := Nat × List (List Int)) (fun y => y.1 ≤ rs.length ∧ y.2 = eqF (firstsL N rs) (m0 N (firstsL N rs) loads N) (rs.take y.1)) (fun y => [(54, .int .i64 y.1)]) (fun y => outB b1 x.2 (N + 1) :: (rowsH 3 x.2 y.2 ++ [arrI bF (firstsL N rs), (b0, .cells #[.int .i64 N, .slice p rs.length cap] 24 (0, 0))])) (fun y => rs.length - y.1) (0, m0 N (firstsL N rs) loads N) ⟨Nat.zero_le _, rfl⟩ (by repeat (first | exact True.intro | refine And.intro rfl ?_)) (by repeat (first | exact List.Sublist.slnil | exact List.nil_sublist _ | exact List.Sublist.refl _ | refine List.Sublist.cons_cons _ ?_ | refine List.Sublist.cons _ ?_ | refine List.Sublist.trans ?_ (List.sublist_append_right _ _))) ?_
    intro y hy
    refine TC.seq ?_
    refine TC.region ?_
    refine TL.pure (PV.lss rfl rfl) rfl (by decide) ?_
    refine TL.nil ?_
    refine TQ.thenC ?_
    refine TC.seq ?_
    first | refine TC.condD rfl (fun hlt2 => ?_) (fun hlt2 => ?_) | refine TC.cond rfl (fun hlt2 => ?_) (fun hlt2 => ?_)
    · skip
      refine TC.skip ?_
      refine TQ.thenC ?_
      refine TC.seq ?_
      refine TC.block ?_
      refine TC.seq ?_
      refine TC.region ?_
      have hv1 := hv.at (k := y.1) (by omega)
      obtain ⟨q, rfl, hq⟩ := hr y.1 (by omega)
      have hfl := firstsL_len N rs
      simp only [Int.toNat_natCast] at hfl
      have hS : Sh y.2 N (N + 1) := by rw [hy.2]; exact eqF_sh _ (m0_sh _ _ _ _)
      have hBM : BM y.2 (B + 96) := by rw [hy.2]; exact (eqF_bm (rs.take y.1) (all_take hv.all _) (m0_bm hB.1 hlb N)).mono (by simp only [List.length_take]; omega)
      have hrd : eqF (firstsL N rs) (m0 N (firstsL N rs) loads N) (rs.take (y.1 + 1)) = addR2 (firstsL N rs) (addR1 (firstsL N rs) y.2 (rs.getD y.1 default)) (rs.getD y.1 default) := by rw [eqF_take (by omega), ← hy.2]; rfl
      generalize rs.getD y.1 default = r at hq hv1 hrd
      have hy2 := hS.1
      have g1 := hBM r.fr.toNat r.fr.toNat
      have g2 := (hBM.addTo (i := r.fr.toNat) (j := r.fr.toNat) hv1.2.2.2.2.1 hv1.2.2.2.2.2) r.fr.toNat r.to.toNat
      have hlS : (addTo y.2 r.fr.toNat r.fr.toNat r.wt).length = N := (hS.set _ _ _).1
      refine TL.pure (PV.indexA rfl rfl rfl Tb.elm_22 rfl (by omega)) rfl (by decide) ?_
      refine TL.pure (PV.loadAggA rfl Tb.agg_61 rfl hq) rfl (by decide) ?_
      refine TL.alloc Tb.zero_61 rfl (by decide) (fun b3 hb3 => ?_)
      refine TL.storeAgg rfl rfl Tb.cells_61 (by repeat (first | exact Upd.head _ | apply Upd.tail | apply Upd.appR)) rfl rfl rfl rfl rfl ?_
      refine TL.nil ?_
      refine TQ.thenC ?_
      refine TC.seqK [4, 5, 6, 9, 52, 53, 54] (X := List (List Int)) (fun m1 => m1 = addR1 (firstsL N rs) y.2 r) (fun m1 => []) (fun m1 => (b3, .cells r.cells.toArray 61 (0, 0)) :: outB b1 x.2 (N + 1) :: (rowsH 3 x.2 m1 ++ [arrI bF (firstsL N rs), (b0, .cells #[.int .i64 N, .slice (some q) rs.length cap] 24 (0, 0))])) ?_ ?_
      · skip
        refine TC.seq ?_
        refine TC.any Tb.mixed rfl rfl ?_
        refine TA.op (OpOK.pure (PV.fieldAddr rfl Tb.fo_61_0) rfl (by decide)) (by decide) ?_
        refine TA.op (OpOK.pure (PV.load rfl Tb.one_3 (by repeat (first | exact List.Mem.head _ | refine List.Mem.tail _ ?_ | refine List.mem_append_right _ ?_)) rfl) rfl (by decide)) (by decide) ?_
        refine TA.op (OpOK.pure (PV.move rfl) rfl (by decide)) (by decide) ?_
        refine TA.op (OpOK.pure (PV.fieldAddr rfl Tb.fo_61_0) rfl (by decide)) (by decide) ?_
        refine TA.op (OpOK.pure (PV.load rfl Tb.one_3 (by repeat (first | exact List.Mem.head _ | refine List.Mem.tail _ ?_ | refine List.mem_append_right _ ?_)) rfl) rfl (by decide)) (by decide) ?_
        refine TA.op (OpOK.pure (PV.index1 rfl rfl Tb.elm_31 (Int.toNat_of_nonneg (by omega)).symm (by omega)) rfl (by decide)) (by decide) ?_
        refine TA.op (OpOK.pure (PV.loadI rfl Tb.one_3 (by repeat (first | exact List.Mem.head _ | refine List.Mem.tail _ ?_ | refine List.mem_append_right _ ?_)) (by omega)) rfl (by decide)) (by decide) ?_
        refine TA.op (OpOK.pure (PV.neq rfl rfl) rfl (by decide)) (by decide) ?_
        show TQ _ _ _ _ _
        refine TQ.thenC ?_
        first | refine TC.condD rfl (fun hfr => ?_) (fun hfr => ?_) | refine TC.cond rfl (fun hfr => ?_) (fun hfr => ?_)
        · skip
          refine TC.seq ?_
          refine TC.draw 13 Tb.mixed (by kernel_rfl) ?_
          simp only [List.take_succ_cons, List.take_zero, List.drop_succ_cons, List.drop_zero]
          refine TS.pure (PV.move rfl) rfl (by decide) ?_
          refine TS.pure (PV.fieldAddr rfl Tb.fo_61_0) rfl (by decide) ?_
          refine TS.pure (PV.load rfl Tb.one_3 (by repeat (first | exact List.Mem.head _ | refine List.Mem.tail _ ?_ | refine List.mem_append_right _ ?_)) rfl) rfl (by decide) ?_
          refine TS.pure (PV.index1 rfl rfl Tb.elm_27 (Int.toNat_of_nonneg (by omega)).symm (by omega)) rfl (by decide) ?_
          refine TS.pure (PV.loadHead rfl Tb.one_31 (by repeat (first | exact List.Mem.head _ | refine List.Mem.tail _ ?_ | refine List.mem_append_right _ ?_)) (by omega)) rfl (by decide) ?_
          refine TS.pure (PV.fieldAddr rfl Tb.fo_61_0) rfl (by decide) ?_
          refine TS.pure (PV.load rfl Tb.one_3 (by repeat (first | exact List.Mem.head _ | refine List.Mem.tail _ ?_ | refine List.mem_append_right _ ?_)) rfl) rfl (by decide) ?_
          refine TS.pure (PV.index1 rfl rfl Tb.elm_31 (Int.toNat_of_nonneg (by omega)).symm (by omega)) rfl (by decide) ?_
          refine TS.pure (PV.loadRow (m := y.2) rfl Tb.one_3 (.tail _ (.tail _ (List.mem_append_left _ (mem_rowsH (m := y.2) (by omega) (Nat.lt_of_lt_of_eq (by omega) hS.1.symm))))) (Nat.lt_of_lt_of_eq (by omega) (hS.2 r.fr.toNat (by omega)).symm)) rfl (by decide) ?_
          refine TS.pure (PV.fieldAddr rfl Tb.fo_61_3) rfl (by decide) ?_
          refine TS.pure (PV.load rfl Tb.one_3 (by repeat (first | exact List.Mem.head _ | refine List.Mem.tail _ ?_ | refine List.mem_append_right _ ?_)) rfl) rfl (by decide) ?_
          refine TS.pure (PV.add rfl rfl (by omega)) rfl (by decide) ?_
          refine TS.pure (PV.index1 rfl rfl Tb.elm_31 (Int.toNat_of_nonneg (by omega)).symm (by omega)) rfl (by decide) ?_
          refine TS.nil ?_
          refine TL.storeRow (m := y.2) rfl rfl Tb.cells_3 (Upd.tail _ (Upd.tail _ (Upd.appL _ (upd_rowsH (m := y.2) _ (by omega) (Nat.lt_of_lt_of_eq (by omega) hS.1.symm))))) (Nat.lt_of_lt_of_eq (by omega) (hS.2 r.fr.toNat (by omega)).symm) rfl rfl ?_
          refine TL.nil ?_
          refine TQ.thenC ?_
          refine TC.draw 13 Tb.mixed (by kernel_rfl) ?_
          simp only [List.take_succ_cons, List.take_zero, List.drop_succ_cons, List.drop_zero]
          refine TS.pure (PV.move rfl) rfl (by decide) ?_
          refine TS.pure (PV.fieldAddr rfl Tb.fo_61_0) rfl (by decide) ?_
          refine TS.pure (PV.load rfl Tb.one_3 (by repeat (first | exact List.Mem.head _ | refine List.Mem.tail _ ?_ | refine List.mem_append_right _ ?_)) rfl) rfl (by decide) ?_
          refine TS.pure (PV.index1 rfl rfl Tb.elm_27 (Int.toNat_of_nonneg (by omega)).symm (by omega)) rfl (by decide) ?_
          refine TS.pure (PV.loadHead rfl Tb.one_31 (by repeat (first | exact List.Mem.head _ | refine List.Mem.tail _ ?_ | refine List.mem_append_right _ ?_)) (by omega)) rfl (by decide) ?_
          refine TS.pure (PV.fieldAddr rfl Tb.fo_61_1) rfl (by decide) ?_
          refine TS.pure (PV.load rfl Tb.one_3 (by repeat (first | exact List.Mem.head _ | refine List.Mem.tail _ ?_ | refine List.mem_append_right _ ?_)) rfl) rfl (by decide) ?_
          refine TS.pure (PV.index1 rfl rfl Tb.elm_31 (Int.toNat_of_nonneg (by omega)).symm (by omega)) rfl (by decide) ?_
          refine TS.pure (PV.loadRow (m := addTo y.2 r.fr.toNat r.fr.toNat r.wt) rfl Tb.one_3 (.tail _ (.tail _ (List.mem_append_left _ (mem_rowsH (m := addTo y.2 r.fr.toNat r.fr.toNat r.wt) (by omega) (Nat.lt_of_lt_of_eq (by omega) (hS.set _ _ _).1.symm))))) (Nat.lt_of_lt_of_eq (by omega) ((hS.set _ _ _).2 r.fr.toNat (by omega)).symm)) rfl (by decide) ?_
          refine TS.pure (PV.fieldAddr rfl Tb.fo_61_3) rfl (by decide) ?_
          refine TS.pure (PV.load rfl Tb.one_3 (by repeat (first | exact List.Mem.head _ | refine List.Mem.tail _ ?_ | refine List.mem_append_right _ ?_)) rfl) rfl (by decide) ?_
          refine TS.pure (PV.sub rfl rfl (by omega)) rfl (by decide) ?_
          refine TS.pure (PV.index1 rfl rfl Tb.elm_31 (Int.toNat_of_nonneg (by omega)).symm (by omega)) rfl (by decide) ?_
          refine TS.nil ?_
          refine TL.storeRow (m := addTo y.2 r.fr.toNat r.fr.toNat r.wt) rfl rfl Tb.cells_3 (Upd.tail _ (Upd.tail _ (Upd.appL _ (upd_rowsH (m := addTo y.2 r.fr.toNat r.fr.toNat r.wt) _ (by omega) (Nat.lt_of_lt_of_eq (by omega) (hS.set _ _ _).1.symm))))) (Nat.lt_of_lt_of_eq (by omega) ((hS.set _ _ _).2 r.fr.toNat (by omega)).symm) rfl rfl ?_
          refine TL.nil ?_
          refine TQ.thenN ?_
          refine TQ.midK _ (by repeat (first | exact True.intro | refine And.intro rfl ?_)) (by repeat (first | exact True.intro | refine And.intro rfl ?_)) (by repeat (first | exact List.Sublist.slnil | exact List.nil_sublist _ | exact List.Sublist.refl _ | refine List.Sublist.cons_cons _ ?_ | refine List.Sublist.cons _ ?_ | refine List.Sublist.trans ?_ (List.sublist_append_right _ _))) (by first | (rw [addR1, if_pos hfr]; rfl) | (rw [addR1, if_neg hfr]))
        · skip
          refine TC.skip ?_
          refine TQ.thenN ?_
          refine TQ.midK _ (by repeat (first | exact True.intro | refine And.intro rfl ?_)) (by repeat (first | exact True.intro | refine And.intro rfl ?_)) (by repeat (first | exact List.Sublist.slnil | exact List.nil_sublist _ | exact List.Sublist.refl _ | refine List.Sublist.cons_cons _ ?_ | refine List.Sublist.cons _ ?_ | refine List.Sublist.trans ?_ (List.sublist_append_right _ _))) (by first | (rw [addR1, if_pos hfr]; rfl) | (rw [addR1, if_neg hfr]))
      · skip
        intro m1 hm1
        refine TC.seq ?_
        have hS1 : Sh m1 N (N + 1) := by rw [hm1]; exact hS.addR1 r
        have hBM1 : BM m1 (B + 102) := by rw [hm1]; exact (hBM.addR1 hv1.2.2.2.2.1 hv1.2.2.2.2.2).mono (by omega)
        have hm2 := hS1.1
        have g3 := hBM1 r.to.toNat r.to.toNat
        have g4 := (hBM1.addTo (i := r.to.toNat) (j := r.to.toNat) hv1.2.2.2.2.1 hv1.2.2.2.2.2) r.to.toNat r.fr.toNat
        have hlS1 : (addTo m1 r.to.toNat r.to.toNat r.wt).length = N := (hS1.set _ _ _).1
        refine TC.any Tb.mixed rfl rfl ?_
        refine TA.op (OpOK.pure (PV.fieldAddr rfl Tb.fo_61_1) rfl (by decide)) (by decide) ?_
        refine TA.op (OpOK.pure (PV.load rfl Tb.one_3 (by repeat (first | exact List.Mem.head _ | refine List.Mem.tail _ ?_ | refine List.mem_append_right _ ?_)) rfl) rfl (by decide)) (by decide) ?_
        refine TA.op (OpOK.pure (PV.move rfl) rfl (by decide)) (by decide) ?_
        refine TA.op (OpOK.pure (PV.fieldAddr rfl Tb.fo_61_1) rfl (by decide)) (by decide) ?_
        refine TA.op (OpOK.pure (PV.load rfl Tb.one_3 (by repeat (first | exact List.Mem.head _ | refine List.Mem.tail _ ?_ | refine List.mem_append_right _ ?_)) rfl) rfl (by decide)) (by decide) ?_
        refine TA.op (OpOK.pure (PV.index1 rfl rfl Tb.elm_31 (Int.toNat_of_nonneg (by omega)).symm (by omega)) rfl (by decide)) (by decide) ?_
        refine TA.op (OpOK.pure (PV.loadI rfl Tb.one_3 (by repeat (first | exact List.Mem.head _ | refine List.Mem.tail _ ?_ | refine List.mem_append_right _ ?_)) (by omega)) rfl (by decide)) (by decide) ?_
        refine TA.op (OpOK.pure (PV.neq rfl rfl) rfl (by decide)) (by decide) ?_
        show TQ _ _ _ _ _
        refine TQ.thenC ?_
        first | refine TC.condD rfl (fun hto => ?_) (fun hto => ?_) | refine TC.cond rfl (fun hto => ?_) (fun hto => ?_)
        · skip
          refine TC.seq ?_
          refine TC.draw 13 Tb.mixed (by kernel_rfl) ?_
          simp only [List.take_succ_cons, List.take_zero, List.drop_succ_cons, List.drop_zero]
          refine TS.pure (PV.move rfl) rfl (by decide) ?_
          refine TS.pure (PV.fieldAddr rfl Tb.fo_61_1) rfl (by decide) ?_
          refine TS.pure (PV.load rfl Tb.one_3 (by repeat (first | exact List.Mem.head _ | refine List.Mem.tail _ ?_ | refine List.mem_append_right _ ?_)) rfl) rfl (by decide) ?_
          refine TS.pure (PV.index1 rfl rfl Tb.elm_27 (Int.toNat_of_nonneg (by omega)).symm (by omega)) rfl (by decide) ?_
          refine TS.pure (PV.loadHead rfl Tb.one_31 (by repeat (first | exact List.Mem.head _ | refine List.Mem.tail _ ?_ | refine List.mem_append_right _ ?_)) (by omega)) rfl (by decide) ?_
          refine TS.pure (PV.fieldAddr rfl Tb.fo_61_1) rfl (by decide) ?_
          refine TS.pure (PV.load rfl Tb.one_3 (by repeat (first | exact List.Mem.head _ | refine List.Mem.tail _ ?_ | refine List.mem_append_right _ ?_)) rfl) rfl (by decide) ?_
          refine TS.pure (PV.index1 rfl rfl Tb.elm_31 (Int.toNat_of_nonneg (by omega)).symm (by omega)) rfl (by decide) ?_
          refine TS.pure (PV.loadRow (m := m1) rfl Tb.one_3 (.tail _ (.tail _ (List.mem_append_left _ (mem_rowsH (m := m1) (by omega) (Nat.lt_of_lt_of_eq (by omega) hS1.1.symm))))) (Nat.lt_of_lt_of_eq (by omega) (hS1.2 r.to.toNat (by omega)).symm)) rfl (by decide) ?_
          refine TS.pure (PV.fieldAddr rfl Tb.fo_61_3) rfl (by decide) ?_
          refine TS.pure (PV.load rfl Tb.one_3 (by repeat (first | exact List.Mem.head _ | refine List.Mem.tail _ ?_ | refine List.mem_append_right _ ?_)) rfl) rfl (by decide) ?_
          refine TS.pure (PV.add rfl rfl (by omega)) rfl (by decide) ?_
          refine TS.pure (PV.index1 rfl rfl Tb.elm_31 (Int.toNat_of_nonneg (by omega)).symm (by omega)) rfl (by decide) ?_
          refine TS.nil ?_
          refine TL.storeRow (m := m1) rfl rfl Tb.cells_3 (Upd.tail _ (Upd.tail _ (Upd.appL _ (upd_rowsH (m := m1) _ (by omega) (Nat.lt_of_lt_of_eq (by omega) hS1.1.symm))))) (Nat.lt_of_lt_of_eq (by omega) (hS1.2 r.to.toNat (by omega)).symm) rfl rfl ?_
          refine TL.nil ?_
          refine TQ.thenC ?_
          refine TC.draw 13 Tb.mixed (by kernel_rfl) ?_
          simp only [List.take_succ_cons, List.take_zero, List.drop_succ_cons, List.drop_zero]
          refine TS.pure (PV.move rfl) rfl (by decide) ?_
          refine TS.pure (PV.fieldAddr rfl Tb.fo_61_1) rfl (by decide) ?_
          refine TS.pure (PV.load rfl Tb.one_3 (by repeat (first | exact List.Mem.head _ | refine List.Mem.tail _ ?_ | refine List.mem_append_right _ ?_)) rfl) rfl (by decide) ?_
          refine TS.pure (PV.index1 rfl rfl Tb.elm_27 (Int.toNat_of_nonneg (by omega)).symm (by omega)) rfl (by decide) ?_
          refine TS.pure (PV.loadHead rfl Tb.one_31 (by repeat (first | exact List.Mem.head _ | refine List.Mem.tail _ ?_ | refine List.mem_append_right _ ?_)) (by omega)) rfl (by decide) ?_
          refine TS.pure (PV.fieldAddr rfl Tb.fo_61_0) rfl (by decide) ?_
          refine TS.pure (PV.load rfl Tb.one_3 (by repeat (first | exact List.Mem.head _ | refine List.Mem.tail _ ?_ | refine List.mem_append_right _ ?_)) rfl) rfl (by decide) ?_
          refine TS.pure (PV.index1 rfl rfl Tb.elm_31 (Int.toNat_of_nonneg (by omega)).symm (by omega)) rfl (by decide) ?_
          refine TS.pure (PV.loadRow (m := addTo m1 r.to.toNat r.to.toNat r.wt) rfl Tb.one_3 (.tail _ (.tail _ (List.mem_append_left _ (mem_rowsH (m := addTo m1 r.to.toNat r.to.toNat r.wt) (by omega) (Nat.lt_of_lt_of_eq (by omega) (hS1.set _ _ _).1.symm))))) (Nat.lt_of_lt_of_eq (by omega) ((hS1.set _ _ _).2 r.to.toNat (by omega)).symm)) rfl (by decide) ?_
          refine TS.pure (PV.fieldAddr rfl Tb.fo_61_3) rfl (by decide) ?_
          refine TS.pure (PV.load rfl Tb.one_3 (by repeat (first | exact List.Mem.head _ | refine List.Mem.tail _ ?_ | refine List.mem_append_right _ ?_)) rfl) rfl (by decide) ?_
          refine TS.pure (PV.sub rfl rfl (by omega)) rfl (by decide) ?_
          refine TS.pure (PV.index1 rfl rfl Tb.elm_31 (Int.toNat_of_nonneg (by omega)).symm (by omega)) rfl (by decide) ?_
          refine TS.nil ?_
          refine TL.storeRow (m := addTo m1 r.to.toNat r.to.toNat r.wt) rfl rfl Tb.cells_3 (Upd.tail _ (Upd.tail _ (Upd.appL _ (upd_rowsH (m := addTo m1 r.to.toNat r.to.toNat r.wt) _ (by omega) (Nat.lt_of_lt_of_eq (by omega) (hS1.set _ _ _).1.symm))))) (Nat.lt_of_lt_of_eq (by omega) ((hS1.set _ _ _).2 r.to.toNat (by omega)).symm) rfl rfl ?_
          refine TL.nil ?_
          refine TQ.blkN ?_
          refine TQ.thenC ?_
          refine TC.region ?_
          refine TL.pure (PV.add rfl rfl (by omega)) rfl (by decide) ?_
          refine TL.pure (PV.move rfl) rfl (by decide) ?_
          refine TL.nil ?_
          refine TQ.thenN ?_
          refine TQ.backK (y.1 + 1, _) (by repeat (first | exact True.intro | refine And.intro rfl ?_)) (by repeat (first | exact True.intro | refine And.intro rfl ?_)) (by repeat (first | exact List.Sublist.slnil | exact List.nil_sublist _ | exact List.Sublist.refl _ | refine List.Sublist.cons_cons _ ?_ | refine List.Sublist.cons _ ?_ | refine List.Sublist.trans ?_ (List.sublist_append_right _ _))) ⟨Int.ofNat_lt.1 hlt2, by rw [hrd, hm1]; first | (rw [addR2, if_pos hto]; rfl) | (rw [addR2, if_neg hto])⟩ (by simp only; omega)
        · skip
          refine TC.skip ?_
          refine TQ.blkN ?_
          refine TQ.thenC ?_
          refine TC.region ?_
          refine TL.pure (PV.add rfl rfl (by omega)) rfl (by decide) ?_
          refine TL.pure (PV.move rfl) rfl (by decide) ?_
          refine TL.nil ?_
          refine TQ.thenN ?_
          refine TQ.backK (y.1 + 1, _) (by repeat (first | exact True.intro | refine And.intro rfl ?_)) (by repeat (first | exact True.intro | refine And.intro rfl ?_)) (by repeat (first | exact List.Sublist.slnil | exact List.nil_sublist _ | exact List.Sublist.refl _ | refine List.Sublist.cons_cons _ ?_ | refine List.Sublist.cons _ ?_ | refine List.Sublist.trans ?_ (List.sublist_append_right _ _))) ⟨Int.ofNat_lt.1 hlt2, by rw [hrd, hm1]; first | (rw [addR2, if_pos hto]; rfl) | (rw [addR2, if_neg hto])⟩ (by simp only; omega)
    · skip
      refine TC.exit ?_
      refine TQ.thenE ?_
      refine TQ.thenE ?_
      refine TQ.blkS ?_
      refine TQ.thenC ?_
      refine TC.seq ?_
      refine TC.region ?_
      refine TL.pure (PV.move rfl) rfl (by decide) ?_
      refine TL.pure (PV.assign rfl) rfl (by decide) ?_
      refine TL.nil ?_
      refine TQ.thenC ?_
      refine TC.ret ?_
      refine TQ.retE1 rfl rfl ?_
      exact ⟨(b1, x.2), rfl, by simp only [Int.toNat_natCast]; omega, by rw [show eqM (N : Int).toNat rs loads = y.2 by rw [hy.2, List.take_of_length_le (by omega)]; rfl]; exact List.Sublist.cons_cons _ (List.sublist_append_left _ _)⟩

end Go.Proofs.Ytmmgcajegokkoaa
