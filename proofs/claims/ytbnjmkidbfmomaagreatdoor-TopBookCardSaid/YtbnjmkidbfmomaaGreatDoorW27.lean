/- Zf -/
import Derived.Test.YtbnjmkidbfmomaaGreatDoorW06
import Derived.Test.YtbnjmkidbfmomaaGreatDoorW18
import Derived.Test.YtbnjmkidbfmomaaGreatDoorW19
import Derived.Test.YtbnjmkidbfmomaaGreatDoorW22
set_option linter.unusedVariables false
set_option linter.unusedSimpArgs false
set_option maxRecDepth 100000
namespace Go.Proofs.YtbnjmkidbfmomaaGreatDoor
open Go.Sx Go.RowKit Go.Bt Go.Lib Go.Sand
theorem isLine_w (w0 : World) (L : List UInt8) :
    Calls Tryz.prog 80 #[str L] w0 (Post (X := Unit) (fun _ => .bool (rightS L)) (fun _ => True) (fun _ => []) w0) := by
  refine calls Tryz.func80 rfl (n := 16) rfl (by simp) ?_
  refine zr (za rfl (zk (zm rfl (zq (PV.lenS rfl Tb.str_9) rfl (zq (PV.geq rfl rfl) rfl (zm rfl (TL.sp 6 rfl (fun g1 => ?_) (fun g1 => ?_))))))))
  refine zm rfl (zq (PV.lenS rfl Tb.str_9) rfl (zq (PV.leq rfl rfl) rfl (zq (PV.pickT rfl rfl) rfl (zm rfl (TL.sp 11 rfl (fun g2 => ?_) (fun g2 => ?_))))))
  refine zm rfl (TL.call rfl Tb.gofn_124 (fun a w hs => cont_ok w L 10) rfl dc (fun _ _ => ?_))
  refine zq ((by first | exact PV.notD rfl | exact PV.not rfl)) rfl ?_
  refine zq (PV.pickT rfl rfl) rfl (za rfl (zt (TQ.retE1 rfl rfl ?_)))
  exact ⟨(), congrArg Value.bool (by unfold rightS; first | exact (decide_eq_false (fun h9 => by omega)).symm | exact (decide_eq_false (fun h9 => by simp only [Bool.false_eq_true, Bool.true_eq_false, decide_eq_true_eq, decide_eq_false_iff_not] at *; omega)).symm | exact decide_eq_decide.2 ⟨fun h9 => ⟨by omega, by omega, h9⟩, fun h9 => h9.2.2⟩), trivial, nils⟩
  refine zx rfl (zx rfl (zx rfl (zq (PV.pickF rfl rfl) rfl (za rfl (zt (TQ.retE1 rfl rfl ?_))))))
  exact ⟨(), congrArg Value.bool (by unfold rightS; first | exact (decide_eq_false (fun h9 => by omega)).symm | exact (decide_eq_false (fun h9 => by simp only [Bool.false_eq_true, Bool.true_eq_false, decide_eq_true_eq, decide_eq_false_iff_not] at *; omega)).symm | exact decide_eq_decide.2 ⟨fun h9 => ⟨by omega, by omega, h9⟩, fun h9 => h9.2.2⟩), trivial, nils⟩
  refine zx rfl (zx rfl (zx rfl (zq (PV.pickF rfl rfl) rfl (zm rfl (zx rfl (zx rfl (zx rfl (zq (PV.pickF rfl rfl) rfl (za rfl (zt (TQ.retE1 rfl rfl ?_)))))))))))
  exact ⟨(), congrArg Value.bool (by unfold rightS; first | exact (decide_eq_false (fun h9 => by omega)).symm | exact (decide_eq_false (fun h9 => by simp only [Bool.false_eq_true, Bool.true_eq_false, decide_eq_true_eq, decide_eq_false_iff_not] at *; omega)).symm | exact decide_eq_decide.2 ⟨fun h9 => ⟨by omega, by omega, h9⟩, fun h9 => h9.2.2⟩), trivial, nils⟩
set_option maxHeartbeats 1000000 in
theorem orderIn_w (w0 : World) (hW : WAt w0) (L : List UInt8) :
    Calls Tryz.prog 102 #[str L] w0 (Post (X := Nat) (fun b => prV (prsO L) b) (fun _ => True) (fun b => prD (prsO L) b) w0) := by
  refine calls Tryz.func102 rfl (n := 77) rfl (by simp) ?_
  refine zr (TL.alloc Tb.zero_144 rfl dc (fun b0 hb0 => ?_))
  refine za rfl (zn (TC.seq (zr (zm rfl (TL.call rfl Tb.gofn_80 (fun a w hs => isLine_w w L) rfl dc (fun _ _ => ?_))))))
  refine zq ((by first | exact PV.notD rfl | exact PV.not rfl)) rfl ?_
  refine zn (TC.cd rfl (fun hr => ?_) (fun hr => ?_))
  refine zr (zq (PV.build rfl Tb.zero_144 Tb.pl_144 rfl) rfl (TL.storeAgg rfl rfl Tb.cells_144 u9z rfl rfl rfl rfl rfl ?_))
  refine za rfl (zt (TQ.thenR (TQ.retR rfl (Res.agg rfl Tb.agg_144 m9z rfl (Res.tmp rfl Res.nil)) ?_)))
  simp only [tup]
  have hp : prsO L = none := prs_no1 (decide_eq_false hr)
  exact ⟨0, by rw [hp]; rfl, trivial, by rw [hp]; exact nils⟩
  refine TC.skip (TQ.thenC (zr (zm rfl (TL.call rfl Tb.gofn_147 (fun a w hs => split_ok w (hW.new hs.new) L (by have h9 := Decidable.not_not.1 hr; omega)) rfl dc (fun bw hbw => ?_)))))
  refine za rfl (zn (TC.seq ?_))
  have hp1 := spl_pos 32 L
  have hwl := spl_len 32 L
  refine TC.region (zm rfl (zq (PV.index (j := 0) rfl rfl Tb.elm_43 rfl hp1) rfl (zq (PV.loadG' rfl Tb.one_9 m9z (strs_at (j := 0) hp1)) rfl ?_)))
  refine TL.call rfl Tb.gofn_148 (fun a w hs => kindOf_ok w _) rfl dc (fun _ _ => ?_)
  refine zm rfl (zq (PV.extract rfl rfl) rfl (zq (PV.extract rfl rfl) rfl (zq (PV.extract rfl rfl) rfl (za rfl (za rfl (za rfl (zn (TC.seq (TC.seq ?_)))))))))
  have hc2 := kd_c2 (h := (spl 32 L).getD 0 [])
  refine TC.region (zm rfl (zq ((by first | exact PV.notD rfl | exact PV.not rfl)) rfl ?_))
  refine zm rfl (TL.sp 29 rfl (fun g5 => ?_) (fun g5 => ?_))
  refine zx rfl (zx rfl (zx rfl (zx rfl (zx rfl (zq (PV.pickT rfl rfl) rfl (zn (TC.condT rfl (zr (zq (PV.build rfl Tb.zero_144 Tb.pl_144 rfl) rfl (TL.storeAgg rfl rfl Tb.cells_144 u9z rfl rfl rfl rfl rfl ?_))))))))))
  refine za rfl (zt (TQ.thenR (TQ.retR rfl (Res.agg rfl Tb.agg_144 m9z rfl (Res.tmp rfl Res.nil)) ?_)))
  simp only [tup]
  have hp : prsO L = none := prs_no2 (by simpa using g5)
  exact ⟨0, by rw [hp]; rfl, trivial, by rw [hp]; exact nils⟩
  refine zm rfl (zq (PV.len rfl Tb.sl_43) rfl (zm rfl (zq (PV.add rfl rfl om) rfl (zq (PV.neq rfl rfl) rfl (zq (PV.pickF rfl rfl) rfl (zn (TC.cd rfl (fun h35 => ?_) (fun h35 => ?_))))))))
  refine zr (zq (PV.build rfl Tb.zero_144 Tb.pl_144 rfl) rfl (TL.storeAgg rfl rfl Tb.cells_144 u9z rfl rfl rfl rfl rfl ?_))
  refine za rfl (zt (TQ.thenR (TQ.retR rfl (Res.agg rfl Tb.agg_144 m9z rfl (Res.tmp rfl Res.nil)) ?_)))
  simp only [tup]
  have hp : prsO L = none := prs_no3 (by omega)
  exact ⟨0, by rw [hp]; rfl, trivial, by rw [hp]; exact nils⟩
  refine TC.skip (TQ.thenC (zr (zm rfl (TL.makeI rfl rfl Tb.sl_25 Tb.zi_3 rfl om om rfl dc (fun b1 hb1 => ?_)))))
  refine za rfl (zn (TC.seq (TC.seq (TC.sub (G' := [(b1, Obj.cells (intsA (fillZ (nmF (spl 32 L)) ((kdF ((spl 32 L).getD 0 [])).getD (0, 0)).2 0)) 3 (0, 0)), (bw, Obj.cells ((spl 32 L).map str).toArray 9 (0, 0)), (b0, Obj.cells #[.int .i64 0, .slice none 0 0] 144 (0, 0))]) (by rw [fillZ_zero]; exact List.Sublist.refl _) ?_))))
  refine TC.region (zm rfl (zq (PV.sliceL (l := 1) rfl rfl Tb.elm_43 rfl hp1) rfl (zq (PV.len rfl Tb.sl_43) rfl (zm rfl (zn (TC.block (TC.lit [(2, _), (5, _), (8, _), (40, _), (41, _), (42, _)] l9z ?_)))))))
  refine TC.loopK [2, 5, 8, 40, 41] (X := Nat) (fun k => k ≤ (spl 32 L).length - 1 ∧ ∀ j, j < k → isNum ((spl 32 L).getD (j + 1) []) = true) (fun k => [(42, .int .i64 (k : Nat))]) (fun k => [(b1, Obj.cells (intsA (fillZ (nmF (spl 32 L)) ((kdF ((spl 32 L).getD 0 [])).getD (0, 0)).2 k)) 3 (0, 0)), (bw, Obj.cells ((spl 32 L).map str).toArray 9 (0, 0)), (b0, Obj.cells #[.int .i64 0, .slice none 0 0] 144 (0, 0))]) (fun k => (spl 32 L).length - 1 - k) 0 ⟨Nat.zero_le _, fun j hj => absurd hj (Nat.not_lt_zero _)⟩ l9z s9z ?_
  intro k hk
  have hk1 := hk.1
  refine TC.lit [(2, _), (5, _), (8, _), (40, _), (41, _), (42, _)] l9z ?_
  refine zr (zq (PV.lss rfl rfl) rfl (zn (TC.seq (TC.cd rfl (fun hlt => ?_) (fun hlt => ?_)))))
  refine TC.skip (TQ.thenC (TC.seq (TC.block (TC.seq ?_))))
  have hcut := cutA_1 (b := bw) (n := (spl 32 L).length) (by omega)
  refine TC.region (zm rfl (zq (PV.indexA (j := k) rfl hcut rfl Tb.elm_43 rfl om) rfl (zq (M.PV.loadW rfl Tb.one_9 (fun w hn => by rw [add_off]; exact hn.cell m9z (strs_at1 (j := k) om))) rfl ?_)))
  refine za rfl (za rfl (zk (zm rfl (TL.call rfl Tb.gofn_149 (fun a w hs => atoi_ok w (hW.new hs.new) _ (by have := hwl (k + 1); omega)) rfl dc (fun x hx9 => ?_)))))
  refine zm rfl (zq (PV.extract rfl rfl) rfl (zq (PV.extract rfl rfl) rfl (za rfl (za rfl (zn (TC.seq (TC.seq ?_)))))))
  have hxb := hx9.1
  refine TC.region (zm rfl (zq (PV.neqErr rfl) rfl (zm rfl (TL.sp 54 rfl (fun g1 => ?_) (fun g1 => ?_)))))
  refine zx rfl (zx rfl (zq (PV.pickT rfl rfl) rfl (zm rfl (zx rfl (zx rfl (zq (PV.pickT rfl rfl) rfl (zm rfl (zx rfl (zx rfl (zx rfl (zx rfl (zq (PV.pickT rfl rfl) rfl (zn (TC.condT rfl (zr (zq (PV.build rfl Tb.zero_144 Tb.pl_144 rfl) rfl (TL.storeAgg rfl rfl Tb.cells_144 u9z rfl rfl rfl rfl rfl ?_)))))))))))))))))
  refine za rfl (zt (TQ.thenR (TQ.blkR (TQ.thenR (TQ.thenR (TQ.blkR (TQ.thenR (TQ.retR rfl (Res.agg rfl Tb.agg_144 m9z rfl (Res.tmp rfl Res.nil)) ?_))))))))
  simp only [tup]
  have hp : prsO L = none := prs_no4 (k := k) (by omega) (isNum_no hx9.2 (fun h9 => by rw [h9.1] at g1; cases g1))
  exact ⟨0, by rw [hp]; rfl, trivial, by rw [hp]; exact nils⟩
  refine zm rfl (zq (PV.lss rfl rfl) rfl (zq (PV.pickF rfl rfl) rfl (zm rfl (TL.sp 58 rfl (fun g2 => ?_) (fun g2 => ?_)))))
  refine zx rfl (zx rfl (zq (PV.pickT rfl rfl) rfl (zm rfl (zx rfl (zx rfl (zx rfl (zx rfl (zq (PV.pickT rfl rfl) rfl (zn (TC.condT rfl (zr (zq (PV.build rfl Tb.zero_144 Tb.pl_144 rfl) rfl (TL.storeAgg rfl rfl Tb.cells_144 u9z rfl rfl rfl rfl rfl ?_)))))))))))))
  refine za rfl (zt (TQ.thenR (TQ.blkR (TQ.thenR (TQ.thenR (TQ.blkR (TQ.thenR (TQ.retR rfl (Res.agg rfl Tb.agg_144 m9z rfl (Res.tmp rfl Res.nil)) ?_))))))))
  simp only [tup]
  have hp : prsO L = none := prs_no4 (k := k) (by omega) (isNum_no hx9.2 (fun h9 => absurd g2 (by omega)))
  exact ⟨0, by rw [hp]; rfl, trivial, by rw [hp]; exact nils⟩
  refine zm rfl (zq (PV.gtr rfl rfl) rfl (zq (PV.pickF rfl rfl) rfl (zm rfl (TL.sp 62 rfl (fun g3 => ?_) (fun g3 => ?_)))))
  refine zx rfl (zx rfl (zx rfl (zx rfl (zq (PV.pickT rfl rfl) rfl (zn (TC.condT rfl (zr (zq (PV.build rfl Tb.zero_144 Tb.pl_144 rfl) rfl (TL.storeAgg rfl rfl Tb.cells_144 u9z rfl rfl rfl rfl rfl ?_)))))))))
  refine za rfl (zt (TQ.thenR (TQ.blkR (TQ.thenR (TQ.thenR (TQ.blkR (TQ.thenR (TQ.retR rfl (Res.agg rfl Tb.agg_144 m9z rfl (Res.tmp rfl Res.nil)) ?_))))))))
  simp only [tup]
  have hp : prsO L = none := prs_no4 (k := k) (by omega) (isNum_no hx9.2 (fun h9 => absurd g3 (by omega)))
  exact ⟨0, by rw [hp]; rfl, trivial, by rw [hp]; exact nils⟩
  refine zm rfl (TL.call rfl Tb.gofn_78 (fun a w hs => itoa_ok w (hW.new hs.new) _ om om) rfl dc (fun _ _ => ?_))
  refine zm rfl (zq (PV.neqS rfl rfl) rfl (zq (PV.pickF rfl rfl) rfl (zn (TC.cd rfl (fun g4 => ?_) (fun g4 => ?_)))))
  refine zr (zq (PV.build rfl Tb.zero_144 Tb.pl_144 rfl) rfl (TL.storeAgg rfl rfl Tb.cells_144 u9z rfl rfl rfl rfl rfl ?_))
  refine za rfl (zt (TQ.thenR (TQ.blkR (TQ.thenR (TQ.thenR (TQ.blkR (TQ.thenR (TQ.retR rfl (Res.agg rfl Tb.agg_144 m9z rfl (Res.tmp rfl Res.nil)) ?_))))))))
  simp only [tup]
  have hp : prsO L = none := prs_no4 (k := k) (by omega) (isNum_no hx9.2 (fun h9 => g4 h9.2.2.2))
  exact ⟨0, by rw [hp]; rfl, trivial, by rw [hp]; exact nils⟩
  refine TC.skip (TQ.thenC ?_)
  have hyes := isNum_yes (w := (spl 32 L).getD (k + 1) []) (v := x.1) (by omega) (by omega) (Decidable.not_not.1 g4)
  refine TC.region (zm rfl (zm rfl (zm rfl (zq (PV.index1 (j := k) rfl rfl Tb.elm_25 rfl om) rfl (TL.storeI (xs := fillZ (nmF (spl 32 L)) ((kdF ((spl 32 L).getD 0 [])).getD (0, 0)).2 k) (j := k) rfl rfl Tb.cells_3 u9z (by rw [fillZ_len]; omega) rfl rfl ?_)))))
  refine TL.nil (TQ.blkN (TQ.thenC (TC.region (zq (PV.add rfl rfl om) rfl (zm rfl (TL.nil (TQ.thenN (TQ.sub (G' := [(b1, Obj.cells (intsA (fillZ (nmF (spl 32 L)) ((kdF ((spl 32 L).getD 0 [])).getD (0, 0)).2 (k + 1))) 3 (0, 0)), (bw, Obj.cells ((spl 32 L).map str).toArray 9 (0, 0)), (b0, Obj.cells #[.int .i64 0, .slice none 0 0] 144 (0, 0))]) (by rw [← fillZ_set om]; show List.Sublist _ [(b1, Obj.cells (intsA ((fillZ (nmF (spl 32 L)) ((kdF ((spl 32 L).getD 0 [])).getD (0, 0)).2 k).set k _)) 3 (0, 0)), _, _]; rw [show nmF (spl 32 L) k = x.1 from hyes.2]; exact List.Sublist.refl _) ?_))))))))
  refine TQ.backK (k + 1) l9z l9z s9z ⟨by omega, fun j hj => if e : j < k then hk.2 j e else (show k = j by omega) ▸ hyes.1⟩ om
  refine TC.exit (TQ.thenE (TQ.thenE (TQ.blkS (TQ.thenC (zr (zm rfl (zm rfl (zq (PV.build rfl Tb.zero_144 Tb.pl_144 rfl) rfl (TL.storeAgg rfl rfl Tb.cells_144 u9z rfl rfl rfl rfl rfl ?_)))))))))
  refine za rfl (zt (TQ.retR rfl (Res.agg rfl Tb.agg_144 m9z rfl (Res.tmp rfl Res.nil)) ?_))
  simp only [tup]
  have hke : k = (spl 32 L).length - 1 := by omega
  have hsm : kdF ((spl 32 L).getD 0 []) = some (((kdF ((spl 32 L).getD 0 [])).getD (0, 0)).1, ((kdF ((spl 32 L).getD 0 [])).getD (0, 0)).2) := by cases h9 : kdF ((spl 32 L).getD 0 []) with | none => rw [h9] at g5; cases g5 | some kc => rfl
  have hp := prs_yes hsm (by omega) (fun j hj => hk.2 j (by omega))
  exact ⟨b1, prV_mk hp, trivial, by rw [hp]; show List.Sublist [(b1, Obj.cells (intsA ((List.range ((kdF ((spl 32 L).getD 0 [])).getD (0, 0)).2).map (nmF (spl 32 L)))) 3 (0, 0))] _; rw [← fillZ_all, show ((kdF ((spl 32 L).getD 0 [])).getD (0, 0)).2 = k by omega]; exact s9z⟩
theorem after_nW (w0 w : World) (hW : WAt w0) (s : St) (hv : SV s) (u : SU) (c : Co) (v : TV) (hi : Inv s c) (b : Nat) (ho : HD) (hgo : goR stR ho c.ords) (Z : Heap) (hN : New w0 w (coB b s u 1 c v ho :: Z)) (Zf : Heap) (hZf : List.Sublist Zf Z) (hS : ∀ w9, New w0 w9 Zf → SiteAt w9 s u) (hT : ∀ w9, New w0 w9 Zf → TurAt w9 c v) (t : List UInt8) (hp : prsO t = none) :
    Calls Tryz.prog 64 #[.pointer (some ⟨b, 0, none⟩), str t] w (Post (X := TV × Heap) (fun y => afV (doI s c t) t (afC s c t) y.1) (fun y => ∀ w9, New w0 w9 (y.2 ++ Zf) → TurAt w9 (afC s c t) y.1) (fun y => y.2 ++ (coB b s u 1 c v ho :: Z)) w0) := by
  refine callsM hN Tryz.func64 rfl (n := 49) rfl (by simp) ?_
  refine zr (TL.alloc Tb.zero_101 rfl dc (fun b0 hb0 => ?_))
  refine za rfl (zk (zm rfl (TL.call rfl Tb.gofn_102 (fun a w hs => (by have h := orderIn_w w (hW.new hs.new) t; rw [hp] at h; exact h)) rfl dc (fun bn _ => ?_))))
  refine zm rfl (zq (PV.extract rfl rfl) rfl (zq (PV.extract rfl rfl) rfl (TL.alloc Tb.zero_144 rfl dc (fun b1 hb1 => ?_))))
  refine TL.storeAgg rfl rfl Tb.cells_144 u9z rfl rfl rfl rfl rfl ?_
  refine za rfl (zn (TC.seq (zr (zm rfl (zq (PV.not rfl) rfl (zn (TC.condT rfl (zr (zq (PV.build rfl Tb.zero_101 Tb.pl_101 rfl) rfl (zm rfl (zq (PV.build rfl Tb.zero_109 Tb.pl_109 rfl) rfl (zq (PV.makeIface rfl kr) rfl (TL.storeAgg rfl rfl Tb.cells_101 u9z rfl rfl rfl rfl rfl ?_)))))))))))))
  refine za rfl (zt (TQ.thenR (TQ.retR rfl (Res.agg rfl Tb.agg_101 m9z rfl (Res.tmp rfl Res.nil)) ?_)))
  simp only [tup]
  have hE := do_none (s := s) (c := c) hp
  have hA : afC s c t = c := by unfold afC; rw [hp]
  exact ⟨(v, []), by rw [afV_e (by rw [hE]; decide), hE]; rfl, by rw [hA]; exact hT, s9z⟩
set_option maxHeartbeats 1000000 in
theorem after_yW (w0 w : World) (hW : WAt w0) (s : St) (hv : SV s) (u : SU) (c : Co) (v : TV) (hi : Inv s c) (b : Nat) (ho : HD) (hgo : goR stR ho c.ords) (Z : Heap) (hN : New w0 w (coB b s u 1 c v ho :: Z)) (Zf : Heap) (hZf : List.Sublist Zf Z) (hS : ∀ w9, New w0 w9 Zf → SiteAt w9 s u) (hT : ∀ w9, New w0 w9 Zf → TurAt w9 c v) (t : List UInt8) (o : Od) (hp : prsO t = some o) :
    Calls Tryz.prog 64 #[.pointer (some ⟨b, 0, none⟩), str t] w (Post (X := TV × Heap) (fun y => afV (doI s c t) t (afC s c t) y.1) (fun y => ∀ w9, New w0 w9 (y.2 ++ Zf) → TurAt w9 (afC s c t) y.1) (fun y => y.2 ++ (coB b s u 1 c v ho :: Z)) w0) := by
  refine callsM hN Tryz.func64 rfl (n := 49) rfl (by simp) ?_
  refine zr (TL.alloc Tb.zero_101 rfl dc (fun b0 hb0 => ?_))
  refine za rfl (zk (zm rfl (TL.call rfl Tb.gofn_102 (fun a w hs => (by have h := orderIn_w w (hW.new hs.new) t; rw [hp] at h; exact h)) rfl dc (fun bn _ => ?_))))
  refine zm rfl (zq (PV.extract rfl rfl) rfl (zq (PV.extract rfl rfl) rfl (TL.alloc Tb.zero_144 rfl dc (fun b1 hb1 => ?_))))
  refine TL.storeAgg rfl rfl Tb.cells_144 u9z rfl rfl rfl rfl rfl ?_
  refine za rfl (zn (TC.seq (zr (zm rfl (zq (PV.not rfl) rfl (zn (TC.condF rfl (TC.skip (TQ.thenC (TC.seq (zr (zm rfl (zq (PV.nilCheck rfl) rfl (zq (PV.fieldAddr rfl Tb.fo_103_3) rfl (zq (PV.load rfl Tb.one_43 m9z rfl) rfl ?_)))))))))))))))
  refine zq (PV.lenO rfl hgo) rfl (zq (PV.eql rfl rfl) rfl (zn (TC.cd rfl (fun gl => ?_) (fun gl => ?_))))
  refine zr (zq (PV.build rfl Tb.zero_101 Tb.pl_101 rfl) rfl (zm rfl (zq (PV.build rfl Tb.zero_109 Tb.pl_109 rfl) rfl (zq (PV.makeIface rfl kr) rfl (TL.storeAgg rfl rfl Tb.cells_101 u9z rfl rfl rfl rfl rfl ?_)))))
  refine za rfl (zt (TQ.thenR (TQ.retR rfl (Res.agg rfl Tb.agg_101 m9z rfl (Res.tmp rfl Res.nil)) ?_)))
  simp only [tup]
  have hE := do_full (s := s) (c := c) hp (by omega)
  exact ⟨(v, []), by rw [afV_e (by rw [hE]; decide), hE]; rfl, by rw [af_full hp (by omega)]; exact hT, s9z⟩
  refine TC.skip (TQ.thenC (zr (zm rfl (zq (PV.nilCheck rfl) rfl (zq (PV.fieldAddr rfl Tb.fo_103_2) rfl (zq (PV.loadMid (cs := coL s u 1 c v (gval ho c.ords.length)) (off := 8) (k := 9) (vs := tyL c v) rfl Tb.agg_101 m9z rfl rfl) rfl ?_))))))
  refine TL.alloc Tb.zero_101 rfl dc (fun b2 hb2 => ?_)
  refine TL.storeAgg rfl rfl Tb.cells_101 u9z rfl rfl rfl rfl rfl ?_
  refine zn (TC.seq (TC.seq (TC.sub (G' := (b2, Obj.cells (tyL c v).toArray 101 (0, 0)) :: ((b1, Obj.cells [.int .i64 (o.k : Nat), .slice (some ⟨bn, 0, none⟩) o.ns.length o.ns.length].toArray 144 (0, 0)) :: (bn, Obj.cells (intsA o.ns) 3 (0, 0)) :: (b0, Obj.cells tyZ.toArray 101 (0, 0)) :: coB b s u 1 c v ho :: Z)) (List.Sublist.refl _) ?_)))
  refine TC.draw 5 Tb.mixed kr ?_
  simp only [List.take_succ_cons, List.take_zero, List.drop_succ_cons, List.drop_zero]
  refine TS.pure (PV.move rfl) rfl dc ?_
  refine TS.pure (PV.nilCheck rfl) rfl dc ?_
  refine TS.pure (PV.fieldAddr rfl Tb.fo_103_0) rfl dc ?_
  refine TS.pure (PV.loadMid (cs := coL s u 1 c v (gval ho c.ords.length)) (off := 0) (k := 6) (vs := siL s u) rfl Tb.agg_90 m9z rfl rfl) rfl dc ?_
  refine TS.pure (PV.loadBox (cs := [.int .i64 (o.k : Nat), .slice (some ⟨bn, 0, none⟩) o.ns.length o.ns.length]) rfl Tb.agg_144 m9z rfl) rfl dc ?_
  refine TS.nil ?_
  refine TL.callW (X := TV × Heap) (fun _ => .int .i64 (actI s c o)) (fun y => ∀ w9, New w0 w9 (y.2 ++ ((bn, Obj.cells (intsA o.ns) 3 (0, 0)) :: Zf)) → TurAt w9 (chgC s c o) y.1) (fun y => (b2, Obj.cells (tyL (chgC s c o) y.1).toArray 101 (0, 0)) :: (y.2 ++ ((b1, Obj.cells [.int .i64 (o.k : Nat), .slice (some ⟨bn, 0, none⟩) o.ns.length o.ns.length].toArray 144 (0, 0)) :: (bn, Obj.cells (intsA o.ns) 3 (0, 0)) :: (b0, Obj.cells tyZ.toArray 101 (0, 0)) :: coB b s u 1 c v ho :: Z))) rfl Tb.gofn_103 (fun a w hs => change_ok w0 w s hv u c v hi b2 ((b1, Obj.cells [.int .i64 (o.k : Nat), .slice (some ⟨bn, 0, none⟩) o.ns.length o.ns.length].toArray 144 (0, 0)) :: (bn, Obj.cells (intsA o.ns) 3 (0, 0)) :: (b0, Obj.cells tyZ.toArray 101 (0, 0)) :: coB b s u 1 c v ho :: Z) hs.new ((bn, Obj.cells (intsA o.ns) 3 (0, 0)) :: Zf) (List.Sublist.cons _ (List.Sublist.cons_cons _ (List.Sublist.cons _ (List.Sublist.cons _ hZf)))) (fun w9 h9 => hS w9 (h9.sub (List.sublist_cons_self _ _))) (fun w9 h9 => hT w9 (h9.sub (List.sublist_cons_self _ _))) hW.tz o (od_ok hp) _ _ (fun w9 h9 => IntsAt.arr h9 (.head _))) rfl dc (fun y hy => ?_)
  refine za rfl (zk (zm rfl (zq (PV.neq rfl rfl) rfl (zn (TC.cd rfl (fun ge => ?_) (fun ge => ?_))))))
  refine zr (zq (PV.build rfl Tb.zero_101 Tb.pl_101 rfl) rfl (zm rfl (zm rfl (zq (PV.build rfl Tb.zero_109 Tb.pl_109 rfl) rfl (zq (PV.makeIface rfl kr) rfl (TL.storeAgg rfl rfl Tb.cells_101 u9z rfl rfl rfl rfl rfl ?_))))))
  refine za rfl (zt (TQ.thenR (TQ.retR rfl (Res.agg rfl Tb.agg_101 m9z rfl (Res.tmp rfl Res.nil)) ?_)))
  simp only [tup]
  have hE := do_some (s := s) (c := c) hp (by have := hi.ol; omega)
  have hA := af_some (s := s) (c := c) hp (by have := hi.ol; omega)
  exact ⟨(y.1, y.2 ++ [(bn, Obj.cells (intsA o.ns) 3 (0, 0))]), by rw [afV_e (by rw [hE]; exact ge), hE]; rfl, by rw [hA]; exact fun w9 h9 => hy w9 (by rw [List.append_assoc] at h9; exact h9), (by show List.Sublist ((y.2 ++ [_]) ++ (_ :: Z)) _; rw [List.append_assoc]; exact List.Sublist.cons _ (List.Sublist.append (List.Sublist.refl _) (List.Sublist.cons _ (List.Sublist.cons_cons _ (List.Sublist.cons _ (List.Sublist.refl _))))))⟩
  refine TC.skip (TQ.thenC (zr (zq (PV.loadBox rfl Tb.agg_101 m9z rfl) rfl ?_)))
  refine TL.storeAgg rfl rfl Tb.cells_101 u9z rfl rfl rfl rfl rfl ?_
  refine za rfl (zt (TQ.retR rfl (Res.agg rfl Tb.agg_101 m9z rfl (Res.tmp rfl Res.nil)) ?_))
  simp only [tup]
  have hE := do_some (s := s) (c := c) hp (by have := hi.ol; omega)
  have hA := af_some (s := s) (c := c) hp (by have := hi.ol; omega)
  exact ⟨(y.1, y.2 ++ [(bn, Obj.cells (intsA o.ns) 3 (0, 0))]), by rw [afV_0 (by rw [hE]; exact Decidable.not_not.1 ge), hA], by rw [hA]; exact fun w9 h9 => hy w9 (by rw [List.append_assoc] at h9; exact h9), (by show List.Sublist ((y.2 ++ [_]) ++ (_ :: Z)) _; rw [List.append_assoc]; exact List.Sublist.cons _ (List.Sublist.append (List.Sublist.refl _) (List.Sublist.cons _ (List.Sublist.cons_cons _ (List.Sublist.cons _ (List.Sublist.refl _))))))⟩
theorem after_okW (w0 w : World) (hW : WAt w0) (s : St) (hv : SV s) (u : SU) (c : Co) (v : TV) (hi : Inv s c) (b : Nat) (ho : HD) (hgo : goR stR ho c.ords) (Z : Heap) (hN : New w0 w (coB b s u 1 c v ho :: Z)) (Zf : Heap) (hZf : List.Sublist Zf Z) (hS : ∀ w9, New w0 w9 Zf → SiteAt w9 s u) (hT : ∀ w9, New w0 w9 Zf → TurAt w9 c v) (t : List UInt8) :
    Calls Tryz.prog 64 #[.pointer (some ⟨b, 0, none⟩), str t] w (Post (X := TV × Heap) (fun y => afV (doI s c t) t (afC s c t) y.1) (fun y => ∀ w9, New w0 w9 (y.2 ++ Zf) → TurAt w9 (afC s c t) y.1) (fun y => y.2 ++ (coB b s u 1 c v ho :: Z)) w0) := by
  cases hp : prsO t with
  | none => exact after_nW w0 w hW s hv u c v hi b ho hgo Z hN Zf hZf hS hT t hp
  | some o => exact after_yW w0 w hW s hv u c v hi b ho hgo Z hN Zf hZf hS hT t o hp
set_option maxHeartbeats 1000000 in
theorem Do_eW (w0 w : World) (hW : WAt w0) (s : St) (hv : SV s) (u : SU) (c : Co) (v : TV) (hi : Inv s c) (b : Nat) (ho : HD) (hgo : goR stR ho c.ords) (Z : Heap) (hN : New w0 w (coB b s u 0 c v ho :: (gbR stR 9 ho c.ords ++ Z))) (Zf : Heap) (hZf : List.Sublist Zf Z) (hS : ∀ w9, New w0 w9 Zf → SiteAt w9 s u) (hT : ∀ w9, New w0 w9 Zf → TurAt w9 c v) (t : List UInt8) (he : doI s c t ≠ 0) :
    Calls Tryz.prog 18 #[.pointer (some ⟨b, 0, none⟩), str t] w (Post (X := TV × HD × Heap) (fun _ => .int .i64 (doI s c t)) (fun y => goR stR y.2.1 (doC s c t).ords ∧ ∀ w9, New w0 w9 (y.2.2 ++ Zf) → TurAt w9 (doC s c t) y.1) (fun y => coB b s u 0 (doC s c t) y.1 y.2.1 :: (gbR stR 9 y.2.1 (doC s c t).ords ++ (y.2.2 ++ Z))) w0) := by
  refine callsDfM hN Tryz.func18 rfl (n := 42) rfl (by simp) ?_
  refine TG.seq (TG.region o9z kr ?_)
  refine za rfl (TL.nil (TQ.thenG (TG.seq (TG.seq (TG.region o9z kr ?_)))))
  refine zm rfl (TL.call rfl Tb.gofn_61 (fun a w hs => isNone_ok w b s.need (Inv.need hv) (hs.new.cell m9z rfl)) rfl dc (fun _ _ => ?_))
  refine TL.nil (TQ.thenG (TG.condF rfl ?_))
  refine TG.skip (TQ.thenG (TG.seq (TG.region o9z kr ?_)))
  refine zm rfl (zq (PV.nilCheck rfl) rfl (zq (PV.fieldAddr rfl Tb.fo_103_1) rfl (TL.callW (X := Unit) (fun _ => .tuple #[]) (fun _ => True) (fun _ => coB b s u 1 c v ho :: (gbR stR 9 ho c.ords ++ Z)) rfl Tb.gofn_62 (fun a w hs => lock_co hs.new) rfl dc (fun _ _ => ?_))))
  refine TL.nil (TQ.thenG (TG.seq (TG.regionL ?_)))
  refine TGL.pre 3 o9z (by kernel_rfl) ?_
  simp only [List.take_succ_cons, List.take_zero, List.drop_succ_cons, List.drop_zero]
  refine zm rfl (zq (PV.nilCheck rfl) rfl (zq (PV.fieldAddr rfl Tb.fo_103_1) rfl (TL.nil (TQ.thenL ?_))))
  refine TGL.defer (fun a w hs => resolve_fn rfl hs rfl) ?_
  refine TGL.opsAll o9z (by kernel_rfl) (TL.nil ?_)
  refine TQ.thenG (TG.seq (TG.region o9z kr ?_))
  refine zm rfl (zm rfl (TL.callW (X := TV × Heap) (fun _ => .tuple #[.agg tyZ.toArray, .iface 109 (.agg #[str t, .int .i64 (doI s c t)])]) (fun y => ∀ w9, New w0 w9 (y.2 ++ Zf) → TurAt w9 (afC s c t) y.1) (fun y => y.2 ++ (coB b s u 1 c v ho :: (gbR stR 9 ho c.ords ++ Z))) rfl Tb.gofn_64 (fun a w hs => (after_okW w0 w hW s hv u c v hi b ho hgo _ hs.new Zf (hZf.trans (List.sublist_append_right _ _)) hS hT t).mono fun _ _ ⟨y, e1, e2, e3⟩ => ⟨y, by rw [e1]; exact congrArg Ending.returned (afV_e he), e2, e3⟩) rfl dc (fun y hy => ?_)))
  refine zm rfl (zq (PV.extract rfl rfl) rfl (zq (PV.extract rfl rfl) rfl (TL.alloc Tb.zero_101 rfl dc (fun b0 hb0 => ?_))))
  refine TL.storeAgg rfl rfl Tb.cells_101 u9z rfl rfl rfl rfl rfl ?_
  refine za rfl (TL.nil (TQ.thenG (TG.seq (TG.region o9z kr ?_))))
  refine TL.alloc Tb.zero_109 rfl dc (fun b1 hb1 => ?_)
  refine TL.nil (TQ.thenG (TG.seq (TG.seq (TG.region o9z kr ?_))))
  refine zm rfl (zq (PV.makeIface rfl kr) rfl (TL.callW (X := Unit) (fun _ => .bool true) (fun _ => True) (fun _ => (b1, Obj.cells #[str t, .int .i64 (doI s c t)] 109 (0, 0)) :: (b0, Obj.cells tyZ.toArray 101 (0, 0)) :: (y.2 ++ (coB b s u 1 c v ho :: (gbR stR 9 ho c.ords ++ Z)))) rfl Tb.gofn_65 (fun a w hs => as_new (hW.new hs.new) rfl rfl hs.new) rfl dc (fun _ _ => ?_)))
  refine TL.nil (TQ.thenG (TG.condT rfl ?_))
  refine TG.seq (TG.region o9z kr ?_)
  refine zq (PV.fieldAddr rfl Tb.fo_109_1) rfl (zq (PV.load rfl Tb.one_31 m9z rfl) rfl ?_)
  refine za rfl (TL.nil (TQ.thenG (TG.ret (TQ.gthenR (TQ.retD (caps := []) (G' := (b1, Obj.cells #[str t, .int .i64 (doI s c t)] 109 (0, 0)) :: (b0, Obj.cells tyZ.toArray 101 (0, 0)) :: (y.2 ++ (coB b s u 0 c v ho :: (gbR stR 9 ho c.ords ++ Z)))) Tb.gofn_63 (unlock_new (cs := (coL s u 1 c v (gval ho c.ords.length)).toArray) u9z rfl) ?_)))))
  refine TQ.retE1 rfl rfl ?_
  exact ⟨(v, ho, []), rfl, by rw [doC_no he]; exact ⟨hgo, hT⟩, by rw [doC_no he]; exact s9z⟩
set_option maxHeartbeats 1000000 in
theorem Do_yW (w0 w : World) (hW : WAt w0) (s : St) (hv : SV s) (u : SU) (c : Co) (v : TV) (hi : Inv s c) (b : Nat) (ho : HD) (hgo : goR stR ho c.ords) (Z : Heap) (hN : New w0 w (coB b s u 0 c v ho :: (gbR stR 9 ho c.ords ++ Z))) (Zf : Heap) (hZf : List.Sublist Zf Z) (hS : ∀ w9, New w0 w9 Zf → SiteAt w9 s u) (hT : ∀ w9, New w0 w9 Zf → TurAt w9 c v) (t : List UInt8) (he : doI s c t = 0) :
    Calls Tryz.prog 18 #[.pointer (some ⟨b, 0, none⟩), str t] w (Post (X := TV × HD × Heap) (fun _ => .int .i64 (doI s c t)) (fun y => goR stR y.2.1 (doC s c t).ords ∧ ∀ w9, New w0 w9 (y.2.2 ++ Zf) → TurAt w9 (doC s c t) y.1) (fun y => coB b s u 0 (doC s c t) y.1 y.2.1 :: (gbR stR 9 y.2.1 (doC s c t).ords ++ (y.2.2 ++ Z))) w0) := by
  have hol := hi.ol
  refine callsDfM hN Tryz.func18 rfl (n := 42) rfl (by simp) ?_
  refine TG.seq (TG.region o9z kr ?_)
  refine za rfl (TL.nil (TQ.thenG (TG.seq (TG.seq (TG.region o9z kr ?_)))))
  refine zm rfl (TL.call rfl Tb.gofn_61 (fun a w hs => isNone_ok w b s.need (Inv.need hv) (hs.new.cell m9z rfl)) rfl dc (fun _ _ => ?_))
  refine TL.nil (TQ.thenG (TG.condF rfl ?_))
  refine TG.skip (TQ.thenG (TG.seq (TG.region o9z kr ?_)))
  refine zm rfl (zq (PV.nilCheck rfl) rfl (zq (PV.fieldAddr rfl Tb.fo_103_1) rfl (TL.callW (X := Unit) (fun _ => .tuple #[]) (fun _ => True) (fun _ => coB b s u 1 c v ho :: (gbR stR 9 ho c.ords ++ Z)) rfl Tb.gofn_62 (fun a w hs => lock_co hs.new) rfl dc (fun _ _ => ?_))))
  refine TL.nil (TQ.thenG (TG.seq (TG.regionL ?_)))
  refine TGL.pre 3 o9z (by kernel_rfl) ?_
  simp only [List.take_succ_cons, List.take_zero, List.drop_succ_cons, List.drop_zero]
  refine zm rfl (zq (PV.nilCheck rfl) rfl (zq (PV.fieldAddr rfl Tb.fo_103_1) rfl (TL.nil (TQ.thenL ?_))))
  refine TGL.defer (fun a w hs => resolve_fn rfl hs rfl) ?_
  refine TGL.opsAll o9z (by kernel_rfl) (TL.nil ?_)
  refine TQ.thenG (TG.seq (TG.region o9z kr ?_))
  refine zm rfl (zm rfl (TL.callW (X := TV × Heap) (fun y => .tuple #[.agg (tyL (afC s c t) y.1).toArray, .nilIface]) (fun y => ∀ w9, New w0 w9 (y.2 ++ Zf) → TurAt w9 (afC s c t) y.1) (fun y => y.2 ++ (coB b s u 1 c v ho :: (gbR stR 9 ho c.ords ++ Z))) rfl Tb.gofn_64 (fun a w hs => (after_okW w0 w hW s hv u c v hi b ho hgo _ hs.new Zf (hZf.trans (List.sublist_append_right _ _)) hS hT t).mono fun _ _ ⟨y, e1, e2, e3⟩ => ⟨y, by rw [e1]; exact congrArg Ending.returned (afV_0 he), e2, e3⟩) rfl dc (fun y hy => ?_)))
  refine zm rfl (zq (PV.extract rfl rfl) rfl (zq (PV.extract rfl rfl) rfl (TL.alloc Tb.zero_101 rfl dc (fun b0 hb0 => ?_))))
  refine TL.storeAgg rfl rfl Tb.cells_101 u9z rfl rfl rfl rfl rfl ?_
  refine za rfl (TL.nil (TQ.thenG (TG.seq (TG.region o9z kr ?_))))
  refine TL.alloc Tb.zero_109 rfl dc (fun b1 hb1 => ?_)
  refine TL.nil (TQ.thenG (TG.seq (TG.seq (TG.region o9z kr ?_))))
  refine zm rfl (zq (PV.makeIface rfl kr) rfl (TL.callW (X := Unit) (fun _ => .bool false) (fun _ => True) (fun _ => (b1, Obj.cells #[str [], .int .i64 0] 109 (0, 0)) :: (b0, Obj.cells (tyL (afC s c t) y.1).toArray 101 (0, 0)) :: (y.2 ++ (coB b s u 1 c v ho :: (gbR stR 9 ho c.ords ++ Z)))) rfl Tb.gofn_65 (fun a w hs => (as_nil _ w).mono fun _ _ ⟨h1, h2⟩ => ⟨(), h1, trivial, by rw [h2]; exact hs.new⟩) rfl dc (fun _ _ => ?_)))
  refine TL.nil (TQ.thenG (TG.condF rfl ?_))
  refine TG.skip (TQ.thenG (TG.seq (TG.region o9z kr ?_)))
  refine zm rfl (zq (PV.loadBox (cs := tyL (afC s c t) y.1) rfl Tb.agg_101 m9z rfl) rfl ?_)
  refine zq (PV.nilCheck rfl) rfl (zq (PV.fieldAddr rfl Tb.fo_103_2) rfl (TL.storeMid (cs := coL s u 1 c v (gval ho c.ords.length)) (cs' := coL s u 1 (afC s c t) y.1 (gval ho c.ords.length)) (off := 8) (k := 9) (vs := tyL (afC s c t) y.1) rfl rfl Tb.cells_101 u9z rfl rfl (Nat.le_of_ble_eq_true rfl) rfl rfl rfl ?_))
  refine TL.nil (TQ.thenG (TG.seq (TG.region o9z kr ?_)))
  refine zm rfl (zm rfl (zq (PV.nilCheck rfl) rfl (zq (PV.fieldAddr rfl Tb.fo_103_3) rfl (zq (PV.load rfl Tb.one_43 m9z rfl) rfl ?_))))
  refine zm rfl (TL.buildSlice (cs := #[str t]) rfl Tb.sl_43 Tb.zi_9 dc (fill_s t) dc rfl dc (fun bI hbI => ?_))
  refine TL.appendRec (R := stR) (h0 := ho) (ys := c.ords) (r := t) Tb.sl_43 Tb.zi_9 rfl rfl rfl m9z hgo h9z om om rfl dc (fun h9 ho9 => ?_)
  refine zq (PV.nilCheck rfl) rfl (zq (PV.fieldAddr rfl Tb.fo_103_3) rfl (TL.store rfl rfl Tb.cells_43 (gval_one _ _) u9z e9z rfl rfl ?_))
  refine TL.nil (TQ.thenG (TG.seq (TG.sub (G' := gbR stR 9 h9 (c.ords ++ [t]) ++ (y.2 ++ (coB b s u 1 { afC s c t with ords := c.ords ++ [t] } y.1 h9 :: Z))) (List.Sublist.append (List.Sublist.refl _) (List.Sublist.cons _ (List.Sublist.cons _ (List.Sublist.cons _ (List.Sublist.refl _))))) ?_)))
  refine TG.perm (G' := coB b s u 1 { afC s c t with ords := c.ords ++ [t] } y.1 h9 :: (gbR stR 9 h9 (c.ords ++ [t]) ++ (y.2 ++ Z))) (List.perm_middle.symm.trans (List.Perm.append_left _ List.perm_middle.symm)) ?_
  refine TG.region o9z kr ?_
  refine za rfl (TL.nil (TQ.thenG (TG.ret (TQ.retD (caps := []) (G' := coB b s u 0 { afC s c t with ords := c.ords ++ [t] } y.1 h9 :: (gbR stR 9 h9 (c.ords ++ [t]) ++ (y.2 ++ Z))) Tb.gofn_63 (unlock_new (cs := (coL s u 1 { afC s c t with ords := c.ords ++ [t] } y.1 (gval h9 (c.ords ++ [t]).length)).toArray) (Upd.head _) rfl) ?_))))
  refine TQ.retE1 rfl rfl ?_
  exact ⟨(y.1, h9, y.2), by rw [he], by rw [do_af he]; exact ⟨ho9, fun w9 hn9 => ⟨(hy w9 hn9).ah, (hy w9 hn9).at_⟩⟩, by rw [do_af he]; exact List.Sublist.refl _⟩
theorem Do_okW (w0 w : World) (hW : WAt w0) (s : St) (hv : SV s) (u : SU) (c : Co) (v : TV) (hi : Inv s c) (b : Nat) (ho : HD) (hgo : goR stR ho c.ords) (Z : Heap) (hN : New w0 w (coB b s u 0 c v ho :: (gbR stR 9 ho c.ords ++ Z))) (Zf : Heap) (hZf : List.Sublist Zf Z) (hS : ∀ w9, New w0 w9 Zf → SiteAt w9 s u) (hT : ∀ w9, New w0 w9 Zf → TurAt w9 c v) (t : List UInt8) :
    Calls Tryz.prog 18 #[.pointer (some ⟨b, 0, none⟩), str t] w (Post (X := TV × HD × Heap) (fun _ => .int .i64 (doI s c t)) (fun y => goR stR y.2.1 (doC s c t).ords ∧ ∀ w9, New w0 w9 (y.2.2 ++ Zf) → TurAt w9 (doC s c t) y.1) (fun y => coB b s u 0 (doC s c t) y.1 y.2.1 :: (gbR stR 9 y.2.1 (doC s c t).ords ++ (y.2.2 ++ Z))) w0) := by
  by_cases he : doI s c t = 0
  · exact Do_yW w0 w hW s hv u c v hi b ho hgo Z hN Zf hZf hS hT t he
  · exact Do_eW w0 w hW s hv u c v hi b ho hgo Z hN Zf hZf hS hT t he
section
variable {w0 w : World} {s : St} {c : Co} {b : Nat} {p : CP} {R : Heap}
theorem Do_pW (hW : WAt w0) (hv : SV s) (hi : Inv s c) (hk : CPk w0 s c p) (hN : New w0 w (hp0 s c b p ++ R)) (t : List UInt8) :
    Calls Tryz.prog 18 #[pt b, str t] w (Post (X := CP) (fun _ => .int .i64 (doI s c t)) (fun p' => CPk w0 s (doC s c t) p') (fun p' => hp0 s (doC s c t) b p' ++ R) w0) :=
  (Do_okW w0 w hW s hv p.u c p.v hi b p.ho hk.go (p.Z ++ R) (by rw [hp0_r] at hN; exact hN) p.Z (List.sublist_append_left _ _) hk.site hk.tur t).mono fun _ _ ⟨y, e1, e2, e3⟩ =>
    ⟨⟨p.u, y.1, y.2.1, y.2.2 ++ p.Z⟩, e1, ⟨e2.1, fun w9 hn => hk.site w9 (hn.sub (List.sublist_append_right _ _)), e2.2⟩, by show New w0 _ (hp0 s (doC s c t) b ⟨p.u, y.1, y.2.1, y.2.2 ++ p.Z⟩ ++ R); rw [hp0_r, List.append_assoc]; exact e3⟩
end
end Go.Proofs.YtbnjmkidbfmomaaGreatDoor
