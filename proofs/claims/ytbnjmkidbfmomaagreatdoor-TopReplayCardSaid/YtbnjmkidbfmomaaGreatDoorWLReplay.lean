/- The law Replay: contract. -/
import Derived.Test.YtbnjmkidbfmomaaGreatDoorW28
set_option linter.unusedVariables false
set_option linter.unusedSimpArgs false
set_option maxRecDepth 100000
namespace Go.Proofs.YtbnjmkidbfmomaaGreatDoor
open Go.Sx Go.RowKit Go.Bt Go.Lib Go.Sand
theorem TopReplay_e (w0 : World) (hW : WAt w0) (s : St) (f : FV) (hf : FmAt w0 s f) (pl : Option Addr) (cl : Nat) (L : List (List UInt8)) (hL : StrsAt w0 pl L) (hl63 : L.length ≤ 9223372036854775807) (n : Int) (he : s.newI ≠ 0) :
    Calls Tryz.prog 15 #[.agg (fmT s f pl cl L n).toArray] w0 (Post (X := Unit) (fun _ => .bool true) (fun _ => True) (fun _ => []) w0) := by
  refine calls Tryz.func15 rfl (n := 155) rfl (by simp) ?_
  refine zr (TL.box rfl rfl dc (fun b0 hb0 => ?_))
  refine za rfl (zn (TC.seq (zr (TL.call rfl Tb.gofn_46 (fun a w hs => Sum_day w) rfl dc (fun _ _ => ?_)))))
  refine zq (PV.no (PV.neq rfl rfl) (fun h9 => h9 rfl)) rfl ?_
  refine zn (TC.condF rfl (TC.skip (TQ.thenC (zr (zq (PV.loadBox (cs := fmT s f pl cl L n) rfl Tb.agg_81 m9z rfl) rfl ?_)))))
  refine TL.call rfl Tb.gofn_57 (fun a w hs => firm_e w (hW.new hs.new) s f (hf.new hs.new) pl cl L (hL.new hs.new) hl63 n he) rfl dc (fun _ _ => ?_)
  refine zm rfl (zq (PV.extract rfl rfl) rfl (zq (PV.extract rfl rfl) rfl (zq (PV.extract rfl rfl) rfl (za rfl (za rfl (za rfl (zn (TC.seq (zr (zm rfl (zq ((by first | exact PV.notD rfl | exact PV.not rfl)) rfl ?_)))))))))))
  refine zn (TC.condT rfl (zr (za rfl (zt (TQ.thenR (TQ.retE1 rfl rfl ?_))))))
  exact ⟨(), rfl, trivial, nils⟩
set_option maxHeartbeats 2000000 in
theorem TopReplay_y (w0 : World) (hW : WAt w0) (s : St) (f : FV) (hf : FmAt w0 s f) (pl : Option Addr) (cl : Nat) (L : List (List UInt8)) (hL : StrsAt w0 pl L) (hl63 : L.length ≤ 9223372036854775807) (n : Int) (he : s.newI = 0) :
    Calls Tryz.prog 15 #[.agg (fmT s f pl cl L n).toArray] w0 (Post (X := Unit) (fun _ => .bool true) (fun _ => True) (fun _ => []) w0) := by
  have hv : SV s := sv_of he
  have hlg := sv_small hv
  refine calls Tryz.func15 rfl (n := 155) rfl (by simp) ?_
  refine zr (TL.box rfl rfl dc (fun b0 hb0 => ?_))
  refine za rfl (zn (TC.seq (zr (TL.call rfl Tb.gofn_46 (fun a w hs => Sum_day w) rfl dc (fun _ _ => ?_)))))
  refine zq (PV.no (PV.neq rfl rfl) (fun h9 => h9 rfl)) rfl ?_
  refine zn (TC.condF rfl (TC.skip (TQ.thenC (zr (zq (PV.loadBox (cs := fmT s f pl cl L n) rfl Tb.agg_81 m9z rfl) rfl ?_)))))
  refine TL.callW (X := Nat × (Nat × CP) × HD) (fun y => .tuple #[pt y.2.1.1, .slice (gp y.2.2) (stC s L y.1).ords.length (gc y.2.2), .bool true]) (fun y => CPk w0 s (stC s L y.1) y.2.1.2 ∧ goR stR y.2.2 (stC s L y.1).ords) (fun y => hp0 s (stC s L y.1) y.2.1.1 y.2.1.2 ++ (gbR stR 9 y.2.2 (stC s L y.1).ords ++ [(b0, Obj.cells (fmT s f pl cl L n).toArray 81 (0, 0))])) rfl Tb.gofn_57 (fun a w hs => firm_y w0 w _ hs.new hW s f hf pl cl L hL hl63 n he) rfl dc (fun y hy => ?_)
  refine zm rfl (zq (PV.extract rfl rfl) rfl (zq (PV.extract rfl rfl) rfl (zq (PV.extract rfl rfl) rfl (za rfl (za rfl (za rfl (zn (TC.seq (zr (zm rfl (zq ((by first | exact PV.notD rfl | exact PV.not rfl)) rfl ?_)))))))))))
  refine zn (TC.condF rfl (TC.skip (TQ.thenC (TC.seq ?_))))
  have hif := stC_inv hv L y.1
  have hrc := stC_rc s L y.1
  have hol9 := hif.ol
  refine TC.mixV [true, true, true, true, true, true, true, false, false, true, true, true, true, true, true, true] [(b0, Obj.cells (fmT s f pl cl L n).toArray 81 (0, 0))] 16 Tb.mixed rfl kr kr kr kr s9z ?_
  refine zv 0 rfl kr (PV.fieldAddr rfl Tb.fo_81_0) rfl (zv 1 rfl kr (PV.loadMid (cs := fmT s f pl cl L n) (off := 0) (k := 1) (vs := [.slice f.p s.W.length f.cp]) rfl Tb.agg_24 m9z rfl rfl) rfl ?_)
  refine zv 2 rfl kr (PV.fieldAddr rfl Tb.fo_81_1) rfl (zv 3 rfl kr (PV.loadMid (cs := fmT s f pl cl L n) (off := 1) (k := 2) (vs := [.slice f.q s.K.length f.cq, .slice f.r s.g.length f.cr]) rfl Tb.agg_27 m9z rfl rfl) rfl ?_)
  refine zv 4 rfl kr (PV.fieldAddr rfl Tb.fo_81_2) rfl (zv 5 rfl kr (PV.load (v := .int .i64 s.need) rfl Tb.one_3 m9z rfl) rfl ?_)
  refine zv 6 rfl kr (PV.move rfl) rfl (TV.step [7] kr dc rfl ⟨⟨_, rfl, ?_⟩, trivial⟩)
  refine TL.callW (X := Unit) (fun _ => str (bookL dI (stC s L y.1).ords).2) (fun _ => True) (fun _ => hp0 s (stC s L y.1) y.2.1.1 y.2.1.2 ++ (gbR stR 9 y.2.2 (stC s L y.1).ords ++ [(b0, Obj.cells (fmT s f pl cl L n).toArray 81 (0, 0))])) rfl Tb.gofn_28 (fun a w hs => Book_p hW hv hif hy.1 hs.new) rfl dc (fun _ _ => ?_)
  refine TL.nil (TV.next (.inl s9z) ?_)
  refine TV.step [8] kr dc rfl ⟨⟨_, rfl, ?_⟩, trivial⟩
  refine TL.callW (X := Nat × CP) (fun y2 => .tuple #[pt y2.1, .int .i64 ((stC s L y.1).ords.length : Nat), .int .i64 0]) (fun y2 => CPk w0 s (stC s L y.1) y2.2) (fun y2 => hp0 s (stC s L y.1) y2.1 y2.2 ++ (hp0 s (stC s L y.1) y.2.1.1 y.2.1.2 ++ (gbR stR 9 y.2.2 (stC s L y.1).ords ++ [(b0, Obj.cells (fmT s f pl cl L n).toArray 81 (0, 0))]))) rfl Tb.gofn_40 (fun a w hs => Replay_l hs.new hW (fun w9 hn => hf.new hn) hlg hif.bl he hif.read hrc.ok rfl hrc.fin) rfl dc (fun y2 hy2 => ?_)
  refine TL.nil (TV.next (.inl s9z) ?_)
  refine zv 9 rfl kr (PV.move rfl) rfl (zv 10 rfl kr (PV.extract rfl rfl) rfl (zv 11 rfl kr (PV.extract rfl rfl) rfl (zv 12 rfl kr (PV.extract rfl rfl) rfl (zv 13 rfl kr (PV.assign rfl) rfl (zv 14 rfl kr (PV.assign rfl) rfl (zv 15 rfl kr (PV.assign rfl) rfl (TV.done kr ?_)))))))
  refine TQ.thenC (TC.seq (zr (zm rfl (zq (PV.no (PV.neq rfl rfl) (fun h9 => h9 rfl)) rfl ?_))))
  refine zm rfl (zm rfl (zq (PV.eqPtr rfl) rfl (zq (PV.pickF rfl rfl) rfl (zm rfl (zm rfl (zm rfl (zq (PV.len rfl Tb.sl_43) rfl (zq (PV.no (PV.neq rfl rfl) (fun h9 => h9 rfl)) rfl ?_))))))))
  refine zq (PV.pickF rfl rfl) rfl (zm rfl (zm rfl (zm rfl (TL.callW (X := Unit) (fun _ => .bool true) (fun _ => True) (fun _ => hp0 s (stC s L y.1) y2.1 y2.2 ++ (hp0 s (stC s L y.1) y.2.1.1 y.2.1.2 ++ (gbR stR 9 y.2.2 (stC s L y.1).ords ++ [(b0, Obj.cells (fmT s f pl cl L n).toArray 81 (0, 0))]))) rfl Tb.gofn_58 (fun a w hs => same_ok hW hv hif hy2 hy.1 hs.new) rfl dc (fun _ _ => ?_)))))
  refine zq (PV.not rfl) rfl (zq (PV.pickF rfl rfl) rfl (zm rfl (zm rfl (TL.callW (X := Unit) (fun _ => .bool true) (fun _ => True) (fun _ => hp0 s (stC s L y.1) y2.1 y2.2 ++ (hp0 s (stC s L y.1) y.2.1.1 y.2.1.2 ++ (gbR stR 9 y.2.2 (stC s L y.1).ords ++ [(b0, Obj.cells (fmT s f pl cl L n).toArray 81 (0, 0))]))) rfl Tb.gofn_29 (fun a w hs => calls_swap (Audit_p hW hv hif hrc hy.1 (New.swap hs.new))) rfl dc (fun _ _ => ?_)))))
  refine zq (PV.not rfl) rfl (zq (PV.pickF rfl rfl) rfl (zn (TC.condF rfl (TC.skip (TQ.thenC (TC.seq ?_))))))
  obtain ⟨k, hk, hke⟩ := pick_k n (stC s L y.1).ords.length
  have htl : ((stC s L y.1).ords.take k).length = k := by rw [List.length_take]; omega
  have hat : ∀ i, i < ((stC s L y.1).ords.take k).length → doI s (stC s ((stC s L y.1).ords.take k) i) (((stC s L y.1).ords.take k).getD i []) = 0 := fun i hi => by rw [htl] at hi; rw [stC_take (by omega), getD_take hi]; exact hrc.ok i (by omega)
  have hik := stC_inv hv (stC s L y.1).ords k
  refine TC.region (zq (PV.fieldAddr rfl Tb.fo_81_4) rfl (zq (PV.load (v := .int .i64 n) rfl Tb.one_3 m9z rfl) rfl ?_))
  refine zq (PV.conv Tb.int_3 Tb.int_55 rfl rfl) rfl (zm rfl (zq (PV.len rfl Tb.sl_43) rfl (zq (PV.add rfl rfl om) rfl (zq (PV.conv (v := (((stC s L y.1).ords.length : Nat) : Int) + 1) Tb.int_3 Tb.int_55 rfl (by rw [IntKind.wrap_u64]; omega)) rfl ?_))))
  refine zq (PV.to (PV.remU rfl rfl om (by rw [hke]; omega)) (by rw [hke])) rfl ?_
  refine zq (PV.conv (v := (k : Int)) Tb.int_55 Tb.int_3 rfl (by rw [IntKind.wrap_i64]; omega)) rfl ?_
  refine za rfl (zk (zm rfl (zm rfl (zq (PV.to (PV.sliceH (h := k) rfl rfl Tb.elm_43 rfl (Nat.le_trans hk (goR_cap hy.2))) (by rw [cutA_0])) rfl ?_))))
  refine TL.call rfl Tb.gofn_48 (fun a w hs => Write_c w (hW.new hs.new) hif hk _ _ ((ords_at hs.new r9z hy.2).take k)) rfl dc (fun _ _ => ?_)
  refine zm rfl (zq (PV.extract rfl rfl) rfl (zq (PV.extract rfl rfl) rfl (za rfl (za rfl (zk (zq (PV.fieldAddr rfl Tb.fo_81_0) rfl (zq (PV.loadMid (cs := fmT s f pl cl L n) (off := 0) (k := 1) (vs := [.slice f.p s.W.length f.cp]) rfl Tb.agg_24 m9z rfl rfl) rfl ?_)))))))
  refine zq (PV.fieldAddr rfl Tb.fo_81_1) rfl (zq (PV.loadMid (cs := fmT s f pl cl L n) (off := 1) (k := 2) (vs := [.slice f.q s.K.length f.cq, .slice f.r s.g.length f.cr]) rfl Tb.agg_27 m9z rfl rfl) rfl ?_)
  refine zq (PV.fieldAddr rfl Tb.fo_81_2) rfl (zq (PV.load (v := .int .i64 s.need) rfl Tb.one_3 m9z rfl) rfl ?_)
  refine zm rfl (TL.callW (X := Nat × CP) (fun y3 => .tuple #[pt y3.1, .int .i64 (k : Nat), .int .i64 0]) (fun y3 => CPk w0 s (stC s (stC s L y.1).ords k) y3.2) (fun y3 => hp0 s (stC s (stC s L y.1).ords k) y3.1 y3.2 ++ (hp0 s (stC s L y.1) y2.1 y2.2 ++ (hp0 s (stC s L y.1) y.2.1.1 y.2.1.2 ++ (gbR stR 9 y.2.2 (stC s L y.1).ords ++ [(b0, Obj.cells (fmT s f pl cl L n).toArray 81 (0, 0))])))) rfl Tb.gofn_40 (fun a w hs => Replay_l hs.new hW (fun w9 hn => hf.new hn) hlg (bl_take hif k) he (hif.readT k) hat htl (stC_take (Nat.le_refl _))) rfl dc (fun y3 hy3 => ?_))
  refine zm rfl (zq (PV.extract rfl rfl) rfl (zq (PV.extract rfl rfl) rfl (zq (PV.extract rfl rfl) rfl (za rfl (za rfl (za rfl (zn (TC.seq (zr (zm rfl (zq (PV.no (PV.neq rfl rfl) (fun h9 => h9 rfl)) rfl ?_)))))))))))
  refine zm rfl (zm rfl (zq (PV.no (PV.neq rfl rfl) (fun h9 => h9 rfl)) rfl ?_))
  refine zq (PV.pickF rfl rfl) rfl (zm rfl (zm rfl (zq (PV.eqPtr rfl) rfl (zq (PV.pickF rfl rfl) rfl (zm rfl (zm rfl (zm rfl (zq (PV.no (PV.neq rfl rfl) (fun h9 => h9 rfl)) rfl ?_))))))))
  refine zq (PV.pickF rfl rfl) rfl (zn (TC.condF rfl (TC.skip (TQ.thenC (zr (zq (PV.fieldAddr rfl Tb.fo_81_0) rfl (zq (PV.loadMid (cs := fmT s f pl cl L n) (off := 0) (k := 1) (vs := [.slice f.p s.W.length f.cp]) rfl Tb.agg_24 m9z rfl rfl) rfl ?_)))))))
  refine zq (PV.fieldAddr rfl Tb.fo_81_1) rfl (zq (PV.loadMid (cs := fmT s f pl cl L n) (off := 1) (k := 2) (vs := [.slice f.q s.K.length f.cq, .slice f.r s.g.length f.cr]) rfl Tb.agg_27 m9z rfl rfl) rfl ?_)
  refine zq (PV.fieldAddr rfl Tb.fo_81_2) rfl (zq (PV.load (v := .int .i64 s.need) rfl Tb.one_3 m9z rfl) rfl ?_)
  refine TL.callW (X := Nat × CP) (fun y4 => .tuple #[pt y4.1, .int .i64 0]) (fun y4 => CPk w0 s (co0 s) y4.2) (fun y4 => hp0 s (co0 s) y4.1 y4.2 ++ (hp0 s (stC s (stC s L y.1).ords k) y3.1 y3.2 ++ (hp0 s (stC s L y.1) y2.1 y2.2 ++ (hp0 s (stC s L y.1) y.2.1.1 y.2.1.2 ++ (gbR stR 9 y.2.2 (stC s L y.1).ords ++ [(b0, Obj.cells (fmT s f pl cl L n).toArray 81 (0, 0))]))))) rfl Tb.gofn_59 (fun a w hs => New_s hs.new (hf.new hs.new) hlg he) rfl dc (fun y4 hy4 => ?_)
  refine zm rfl (zq (PV.extract rfl rfl) rfl (zq (PV.extract rfl rfl) rfl (za rfl (za rfl (zn (TC.seq (zr (zm rfl (zq (PV.no (PV.neq rfl rfl) (fun h9 => h9 rfl)) rfl ?_)))))))))
  refine zm rfl (zm rfl (zq (PV.eqPtr rfl) rfl (zq (PV.pickF rfl rfl) rfl (zn (TC.condF rfl (TC.skip (TQ.thenC (TC.seq (zr (za rfl (zn (TC.block (TC.loopK [3, 4, 9, 11, 13] (X := Nat × CP) (fun x => x.1 ≤ k ∧ CPk w0 s (stC s (stC s L y.1).ords x.1) x.2) (fun x => [(15, .int .i64 (x.1 : Nat))]) (fun x => hp0 s (stC s (stC s L y.1).ords x.1) y4.1 x.2 ++ (hp0 s (stC s (stC s L y.1).ords k) y3.1 y3.2 ++ (hp0 s (stC s L y.1) y2.1 y2.2 ++ (hp0 s (stC s L y.1) y.2.1.1 y.2.1.2 ++ (gbR stR 9 y.2.2 (stC s L y.1).ords ++ [(b0, Obj.cells (fmT s f pl cl L n).toArray 81 (0, 0))]))))) (fun x => k - x.1) (0, y4.2) ⟨Nat.zero_le _, hy4⟩ l9z (List.Sublist.refl _) ?_)))))))))))))
  intro x hx
  have hx1 := hx.1
  refine TC.seq (zr (zm rfl (zm rfl (zq (PV.lss rfl rfl) rfl (zn (TC.cd rfl (fun hlt1 => ?_) (fun hlt1 => ?_)))))))
  refine TC.skip (TQ.thenC (TC.seq (TC.block (TC.seq ?_))))
  obtain ⟨q9, q9p, q9v⟩ := ords_now hy.2 (k := x.1) (by omega)
  have hix := stC_inv hv (stC s L y.1).ords x.1
  have hok9 := hrc.ok x.1 (by omega)
  refine TC.region (zm rfl (zm rfl (zm rfl (zq (PV.indexA rfl q9p rfl Tb.elm_43 rfl om) rfl (zq (PV.loadO (h := y.2.2) (L := (stC s L y.1).ords) (k := x.1) rfl Tb.one_9 r9z q9v) rfl ?_)))))
  refine TL.callW (X := CP) (fun _ => .int .i64 (doI s (stC s (stC s L y.1).ords x.1) ((stC s L y.1).ords.getD x.1 []))) (fun p1 => CPk w0 s (doC s (stC s (stC s L y.1).ords x.1) ((stC s L y.1).ords.getD x.1 [])) p1) (fun p1 => hp0 s (doC s (stC s (stC s L y.1).ords x.1) ((stC s L y.1).ords.getD x.1 [])) y4.1 p1 ++ (hp0 s (stC s (stC s L y.1).ords k) y3.1 y3.2 ++ (hp0 s (stC s L y.1) y2.1 y2.2 ++ (hp0 s (stC s L y.1) y.2.1.1 y.2.1.2 ++ (gbR stR 9 y.2.2 (stC s L y.1).ords ++ [(b0, Obj.cells (fmT s f pl cl L n).toArray 81 (0, 0))]))))) rfl Tb.gofn_18 (fun a w hs => Do_pW hW hv hix hx.2 hs.new _) rfl dc (fun p1 hp1 => ?_)
  refine zq (PV.no (PV.neq rfl rfl) (fun h9 => h9 hok9)) rfl ?_
  refine zn (TC.condF rfl (TC.skip (TQ.blkN (TQ.thenC (TC.region (zm rfl (zq (PV.add rfl rfl om) rfl (za rfl (TL.nil (TQ.thenN (TQ.backK (x.1 + 1, p1) l9z l9z (by rw [stC_succ om]; exact List.Sublist.refl _) ⟨by simp only; omega, by rw [stC_succ om]; exact hp1⟩ (by simp only; omega))))))))))))
  refine TC.exit (TQ.thenE (TQ.thenE (TQ.blkS (TQ.thenC (TC.seq (TC.seq ?_))))))
  have hxe : x.1 = k := by omega
  have hx4 : CPk w0 s (stC s (stC s L y.1).ords k) x.2 := by have h9 := hx.2; rw [hxe] at h9; exact h9
  refine TC.congrG (G' := hp0 s (stC s (stC s L y.1).ords k) y4.1 x.2 ++ (hp0 s (stC s (stC s L y.1).ords k) y3.1 y3.2 ++ (hp0 s (stC s L y.1) y2.1 y2.2 ++ (hp0 s (stC s L y.1) y.2.1.1 y.2.1.2 ++ (gbR stR 9 y.2.2 (stC s L y.1).ords ++ [(b0, Obj.cells (fmT s f pl cl L n).toArray 81 (0, 0))]))))) (by rw [hxe]) ?_
  refine TC.perm (G' := hp0 s (stC s (stC s L y.1).ords k) y3.1 y3.2 ++ (hp0 s (stC s (stC s L y.1).ords k) y4.1 x.2 ++ (hp0 s (stC s L y.1) y2.1 y2.2 ++ (hp0 s (stC s L y.1) y.2.1.1 y.2.1.2 ++ (gbR stR 9 y.2.2 (stC s L y.1).ords ++ [(b0, Obj.cells (fmT s f pl cl L n).toArray 81 (0, 0))]))))) (perm_of fun c9 => by simp only [List.map_append, List.sum_append, List.map_nil, List.sum_nil]; omega) ?_
  refine TC.region (zm rfl (zm rfl (TL.callW (X := Unit) (fun _ => .bool true) (fun _ => True) (fun _ => hp0 s (stC s (stC s L y.1).ords k) y3.1 y3.2 ++ (hp0 s (stC s (stC s L y.1).ords k) y4.1 x.2 ++ (hp0 s (stC s L y.1) y2.1 y2.2 ++ (hp0 s (stC s L y.1) y.2.1.1 y.2.1.2 ++ (gbR stR 9 y.2.2 (stC s L y.1).ords ++ [(b0, Obj.cells (fmT s f pl cl L n).toArray 81 (0, 0))]))))) rfl Tb.gofn_58 (fun a w hs => same_ok hW hv hik hy3 hx4 hs.new) rfl dc (fun _ _ => ?_))))
  refine zq (PV.not rfl) rfl (zn (TC.condF rfl (TC.skip (TQ.thenC (TC.seq (zr (zm rfl (za rfl (zn (TC.block (TC.loopK [3, 4, 11] (X := Nat × CP) (fun u => k ≤ u.1 ∧ u.1 ≤ (stC s L y.1).ords.length ∧ CPk w0 s (stC s (stC s L y.1).ords u.1) u.2) (fun u => [(16, .int .i64 (u.1 : Nat))]) (fun u => hp0 s (stC s (stC s L y.1).ords u.1) y3.1 u.2 ++ (hp0 s (stC s (stC s L y.1).ords k) y4.1 x.2 ++ (hp0 s (stC s L y.1) y2.1 y2.2 ++ (hp0 s (stC s L y.1) y.2.1.1 y.2.1.2 ++ (gbR stR 9 y.2.2 (stC s L y.1).ords ++ [(b0, Obj.cells (fmT s f pl cl L n).toArray 81 (0, 0))]))))) (fun u => (stC s L y.1).ords.length - u.1) (k, y3.2) ⟨Nat.le_refl _, hk, hy3⟩ l9z (List.Sublist.refl _) ?_)))))))))))
  intro u hu
  have hu1 := hu.1
  have hu2 := hu.2.1
  refine TC.seq (zr (zm rfl (zm rfl (zq (PV.len rfl Tb.sl_43) rfl (zq (PV.lss rfl rfl) rfl (zn (TC.cd rfl (fun hlt2 => ?_) (fun hlt2 => ?_))))))))
  refine TC.skip (TQ.thenC (TC.seq (TC.block (TC.seq ?_))))
  obtain ⟨q9, q9p, q9v⟩ := ords_now hy.2 (k := u.1) (by omega)
  have hiu := stC_inv hv (stC s L y.1).ords u.1
  have hok9 := hrc.ok u.1 (by omega)
  refine TC.region (zm rfl (zm rfl (zm rfl (zq (PV.indexA rfl q9p rfl Tb.elm_43 rfl om) rfl (zq (PV.loadO (h := y.2.2) (L := (stC s L y.1).ords) (k := u.1) rfl Tb.one_9 r9z q9v) rfl ?_)))))
  refine TL.callW (X := CP) (fun _ => .int .i64 (doI s (stC s (stC s L y.1).ords u.1) ((stC s L y.1).ords.getD u.1 []))) (fun p1 => CPk w0 s (doC s (stC s (stC s L y.1).ords u.1) ((stC s L y.1).ords.getD u.1 [])) p1) (fun p1 => hp0 s (doC s (stC s (stC s L y.1).ords u.1) ((stC s L y.1).ords.getD u.1 [])) y3.1 p1 ++ (hp0 s (stC s (stC s L y.1).ords k) y4.1 x.2 ++ (hp0 s (stC s L y.1) y2.1 y2.2 ++ (hp0 s (stC s L y.1) y.2.1.1 y.2.1.2 ++ (gbR stR 9 y.2.2 (stC s L y.1).ords ++ [(b0, Obj.cells (fmT s f pl cl L n).toArray 81 (0, 0))]))))) rfl Tb.gofn_18 (fun a w hs => Do_pW hW hv hiu hu.2.2 hs.new _) rfl dc (fun p1 hp1 => ?_)
  refine zq (PV.no (PV.neq rfl rfl) (fun h9 => h9 hok9)) rfl ?_
  refine zn (TC.condF rfl (TC.skip (TQ.blkN (TQ.thenC (TC.region (zm rfl (zq (PV.add rfl rfl om) rfl (za rfl (TL.nil (TQ.thenN (TQ.backK (u.1 + 1, p1) l9z l9z (by rw [stC_succ om]; exact List.Sublist.refl _) ⟨by simp only; omega, by simp only; omega, by rw [stC_succ om]; exact hp1⟩ (by simp only; omega))))))))))))
  refine TC.exit (TQ.thenE (TQ.thenE (TQ.blkS (TQ.thenC (TC.seq ?_)))))
  have hue : u.1 = (stC s L y.1).ords.length := by omega
  have hu3 : CPk w0 s (stC s L y.1) u.2 := by have h9 := hu.2.2; rw [hue, hrc.fin] at h9; exact h9
  refine TC.congrG (G' := hp0 s (stC s L y.1) y3.1 u.2 ++ (hp0 s (stC s (stC s L y.1).ords k) y4.1 x.2 ++ (hp0 s (stC s L y.1) y2.1 y2.2 ++ (hp0 s (stC s L y.1) y.2.1.1 y.2.1.2 ++ (gbR stR 9 y.2.2 (stC s L y.1).ords ++ [(b0, Obj.cells (fmT s f pl cl L n).toArray 81 (0, 0))]))))) (by rw [hue, hrc.fin]) ?_
  refine TC.perm (G' := hp0 s (stC s L y.1) y3.1 u.2 ++ (hp0 s (stC s L y.1) y.2.1.1 y.2.1.2 ++ (hp0 s (stC s (stC s L y.1).ords k) y4.1 x.2 ++ (hp0 s (stC s L y.1) y2.1 y2.2 ++ (gbR stR 9 y.2.2 (stC s L y.1).ords ++ [(b0, Obj.cells (fmT s f pl cl L n).toArray 81 (0, 0))]))))) (perm_of fun c9 => by simp only [List.map_append, List.sum_append, List.map_nil, List.sum_nil]; omega) ?_
  refine TC.region (zm rfl (zm rfl (TL.callW (X := Unit) (fun _ => .bool true) (fun _ => True) (fun _ => hp0 s (stC s L y.1) y3.1 u.2 ++ (hp0 s (stC s L y.1) y.2.1.1 y.2.1.2 ++ (hp0 s (stC s (stC s L y.1).ords k) y4.1 x.2 ++ (hp0 s (stC s L y.1) y2.1 y2.2 ++ (gbR stR 9 y.2.2 (stC s L y.1).ords ++ [(b0, Obj.cells (fmT s f pl cl L n).toArray 81 (0, 0))]))))) rfl Tb.gofn_58 (fun a w hs => same_ok hW hv hif hu3 hy.1 hs.new) rfl dc (fun _ _ => ?_))))
  refine za rfl (zt (TQ.retE1 rfl rfl ?_))
  exact ⟨(), rfl, trivial, nils⟩
theorem TopReplay_ok (w0 : World) (hW : WAt w0) (s : St) (f : FV) (hf : FmAt w0 s f) (pl : Option Addr) (cl : Nat) (L : List (List UInt8)) (hL : StrsAt w0 pl L) (hl63 : L.length ≤ 9223372036854775807) (n : Int) :
    Calls Tryz.prog 15 #[.agg (fmT s f pl cl L n).toArray] w0 (Post (X := Unit) (fun _ => .bool true) (fun _ => True) (fun _ => []) w0) := by
  by_cases he : s.newI = 0
  · exact TopReplay_y w0 hW s f hf pl cl L hL hl63 n he
  · exact TopReplay_e w0 hW s f hf pl cl L hL hl63 n he
end Go.Proofs.YtbnjmkidbfmomaaGreatDoor
