/- The law Company: contract. -/
import Derived.Test.YtbnjmkidbfmomaaGreatDoorW26
set_option linter.unusedVariables false
set_option linter.unusedSimpArgs false
set_option maxRecDepth 100000
namespace Go.Proofs.YtbnjmkidbfmomaaGreatDoor
open Go.Sx Go.RowKit Go.Bt Go.Lib Go.Sand
set_option maxHeartbeats 2000000 in
theorem TopCompany_ok_e (w0 : World) (hW : WAt w0) (s : St) (f : FV) (hf : FmAt w0 s f) (hw63 : s.W.length ≤ 9223372036854775807) (hk63 : s.K.length ≤ 9223372036854775807) (pl : Option Addr) (cl : Nat) (L : List (List UInt8)) (hL : StrsAt w0 pl L) (hl63 : L.length ≤ 9223372036854775807) (hcl : L.length ≤ cl) (n : Int) (hn : -9223372036854775808 ≤ n ∧ n ≤ 9223372036854775807) (he : s.newI ≠ 0) :
    Calls Tryz.prog 17 #[.agg (fmL s f).toArray, .slice pl L.length cl, .int .i64 n] w0 (Post (X := Unit) (fun _ => .bool true) (fun _ => True) (fun _ => []) w0) := by
  refine calls Tryz.func17 rfl (n := 263) rfl (by simp) ?_
  refine zr (TL.box rfl rfl dc (fun b0 hb0 => ?_))
  refine za rfl (zk (TL.call rfl Tb.gofn_46 (fun a w hs => Sum_98 w) rfl dc (fun _ _ => ?_)))
  refine za rfl (zn (TC.seq (zr (zm rfl (zq (PV.no (PV.neq rfl rfl) (fun h9 => h9 rfl)) rfl ?_)))))
  refine zn (TC.condF rfl (TC.skip (TQ.thenC (TC.seq (zr (zq (PV.loadBox (cs := fmL s f) rfl Tb.agg_29 m9z rfl) rfl ?_))))))
  refine TL.call rfl Tb.gofn_30 (fun a w hs => Large_s (hf.new hs.new) hw63 hk63) rfl dc (fun _ _ => ?_)
  refine zm rfl (TL.sp 30 rfl (fun hlg => ?_) (fun hlg => ?_))
  refine zx rfl (zx rfl (zq (PV.pickT rfl rfl) rfl (zn (TC.condT rfl (zr (za rfl (zt (TQ.thenR (TQ.retE1 rfl rfl ?_)))))))))
  exact ⟨(), rfl, trivial, nils⟩
  refine zm rfl (TL.call rfl Tb.gofn_35 (fun a w hs => Long_ok w pl cl L (hL.new hs.new) hl63) rfl dc (fun _ _ => ?_))
  refine zq (PV.pickF rfl rfl) rfl (zn (TC.cd rfl (fun hlo => ?_) (fun hlo => ?_)))
  refine zr (za rfl (zt (TQ.thenR (TQ.retE1 rfl rfl ?_))))
  exact ⟨(), rfl, trivial, nils⟩
  refine TC.skip (TQ.thenC (zr (zq (PV.fieldAddr rfl Tb.fo_29_0) rfl (zq (PV.loadMid (cs := fmL s f) (off := 0) (k := 1) (vs := [.slice f.p s.W.length f.cp]) rfl Tb.agg_24 m9z rfl rfl) rfl ?_))))
  refine zq (PV.fieldAddr rfl Tb.fo_29_1) rfl (zq (PV.loadMid (cs := fmL s f) (off := 1) (k := 2) (vs := [.slice f.q s.K.length f.cq, .slice f.r s.g.length f.cr]) rfl Tb.agg_27 m9z rfl rfl) rfl ?_)
  refine zq (PV.fieldAddr rfl Tb.fo_29_2) rfl (zq (PV.load (v := .int .i64 s.need) rfl Tb.one_3 m9z rfl) rfl ?_)
  refine TL.call rfl Tb.gofn_59 (fun a w hs => New_se (hf.new hs.new) hlg he) rfl dc (fun _ _ => ?_)
  refine zm rfl (zq (PV.extract rfl rfl) rfl (zq (PV.extract rfl rfl) rfl (za rfl (za rfl (zn (TC.seq (zr (zm rfl (zq (PV.yes (PV.neq rfl rfl) he) rfl (zn (TC.condT rfl (zr (zq (PV.fieldAddr rfl Tb.fo_29_0) rfl (zq (PV.loadMid (cs := fmL s f) (off := 0) (k := 1) (vs := [.slice f.p s.W.length f.cp]) rfl Tb.agg_24 m9z rfl rfl) rfl ?_))))))))))))))
  refine zq (PV.fieldAddr rfl Tb.fo_29_1) rfl (zq (PV.loadMid (cs := fmL s f) (off := 1) (k := 2) (vs := [.slice f.q s.K.length f.cq, .slice f.r s.g.length f.cr]) rfl Tb.agg_27 m9z rfl rfl) rfl ?_)
  refine zq (PV.fieldAddr rfl Tb.fo_29_2) rfl (zq (PV.load (v := .int .i64 s.need) rfl Tb.one_3 m9z rfl) rfl ?_)
  refine TL.callW (X := Unit) (fun _ => .tuple #[.pointer none, .int .i64 0, .int .i64 s.newI]) (fun _ => True) (fun _ => [(b0, Obj.cells (fmL s f).toArray 29 (0, 0))]) rfl Tb.gofn_40 (fun a w hs => Replay_0 hs.new hW (fun w9 hn => hf.new hn) hlg he) rfl dc (fun _ _ => ?_)
  refine zm rfl (zq (PV.extract rfl rfl) rfl (zq (PV.extract rfl rfl) rfl (zq (PV.extract rfl rfl) rfl (za rfl (za rfl (za rfl (zk (zm rfl (zm rfl (zq (PV.yes (PV.eql rfl rfl) rfl) rfl (zm rfl (zm rfl (zq (PV.yes (PV.eql rfl rfl) rfl) rfl (zq (PV.pickT rfl rfl) rfl (zm rfl (zm rfl (zq (PV.eqPtr rfl) rfl (zq (PV.pickT rfl rfl) rfl (za rfl (zt (TQ.thenR (TQ.retE1 rfl rfl ?_))))))))))))))))))))))
  exact ⟨(), rfl, trivial, nils⟩
set_option maxHeartbeats 2000000 in
theorem TopCompany_ok_y (w0 : World) (hW : WAt w0) (s : St) (f : FV) (hf : FmAt w0 s f) (hw63 : s.W.length ≤ 9223372036854775807) (hk63 : s.K.length ≤ 9223372036854775807) (pl : Option Addr) (cl : Nat) (L : List (List UInt8)) (hL : StrsAt w0 pl L) (hl63 : L.length ≤ 9223372036854775807) (hcl : L.length ≤ cl) (n : Int) (hn : -9223372036854775808 ≤ n ∧ n ≤ 9223372036854775807) (he : s.newI = 0) :
    Calls Tryz.prog 17 #[.agg (fmL s f).toArray, .slice pl L.length cl, .int .i64 n] w0 (Post (X := Unit) (fun _ => .bool true) (fun _ => True) (fun _ => []) w0) := by
  have hv : SV s := sv_of he
  refine calls Tryz.func17 rfl (n := 263) rfl (by simp) ?_
  refine zr (TL.box rfl rfl dc (fun b0 hb0 => ?_))
  refine za rfl (zk (TL.call rfl Tb.gofn_46 (fun a w hs => Sum_98 w) rfl dc (fun _ _ => ?_)))
  refine za rfl (zn (TC.seq (zr (zm rfl (zq (PV.no (PV.neq rfl rfl) (fun h9 => h9 rfl)) rfl ?_)))))
  refine zn (TC.condF rfl (TC.skip (TQ.thenC (TC.seq (zr (zq (PV.loadBox (cs := fmL s f) rfl Tb.agg_29 m9z rfl) rfl ?_))))))
  refine TL.call rfl Tb.gofn_30 (fun a w hs => Large_s (hf.new hs.new) hw63 hk63) rfl dc (fun _ _ => ?_)
  refine zm rfl (TL.sp 30 rfl (fun hlg => ?_) (fun hlg => ?_))
  refine zx rfl (zx rfl (zq (PV.pickT rfl rfl) rfl (zn (TC.condT rfl (zr (za rfl (zt (TQ.thenR (TQ.retE1 rfl rfl ?_)))))))))
  exact ⟨(), rfl, trivial, nils⟩
  refine zm rfl (TL.call rfl Tb.gofn_35 (fun a w hs => Long_ok w pl cl L (hL.new hs.new) hl63) rfl dc (fun _ _ => ?_))
  refine zq (PV.pickF rfl rfl) rfl (zn (TC.cd rfl (fun hlo => ?_) (fun hlo => ?_)))
  refine zr (za rfl (zt (TQ.thenR (TQ.retE1 rfl rfl ?_))))
  exact ⟨(), rfl, trivial, nils⟩
  refine TC.skip (TQ.thenC (zr (zq (PV.fieldAddr rfl Tb.fo_29_0) rfl (zq (PV.loadMid (cs := fmL s f) (off := 0) (k := 1) (vs := [.slice f.p s.W.length f.cp]) rfl Tb.agg_24 m9z rfl rfl) rfl ?_))))
  refine zq (PV.fieldAddr rfl Tb.fo_29_1) rfl (zq (PV.loadMid (cs := fmL s f) (off := 1) (k := 2) (vs := [.slice f.q s.K.length f.cq, .slice f.r s.g.length f.cr]) rfl Tb.agg_27 m9z rfl rfl) rfl ?_)
  refine zq (PV.fieldAddr rfl Tb.fo_29_2) rfl (zq (PV.load (v := .int .i64 s.need) rfl Tb.one_3 m9z rfl) rfl ?_)
  refine TL.callW (X := Nat × CP) (fun y => .tuple #[pt y.1, .int .i64 0]) (fun y => CPk w0 s (co0 s) y.2) (fun y => hp0 s (co0 s) y.1 y.2 ++ [(b0, Obj.cells (fmL s f).toArray 29 (0, 0))]) rfl Tb.gofn_59 (fun a w hs => New_s hs.new (hf.new hs.new) hlg he) rfl dc (fun y hy => ?_)
  refine zm rfl (zq (PV.extract rfl rfl) rfl (zq (PV.extract rfl rfl) rfl (za rfl (za rfl (zn (TC.seq (zr (zm rfl (zq (PV.no (PV.neq rfl rfl) (fun h9 => h9 rfl)) rfl ?_)))))))))
  refine zn (TC.condF rfl (TC.skip (TQ.thenC (TC.seq (zr (zm rfl (zq (PV.eqPtr rfl) rfl (zn (TC.condF rfl (TC.skip (TQ.thenC (TC.seqK [2, 3, 8] (X := Nat × CP) (fun v => v.1 ≤ L.length ∧ CPk w0 s (stC s L v.1) v.2) (fun v => [(13, .int .i64 (v.1 : Nat))]) (fun v => hp0 s (stC s L v.1) y.1 v.2 ++ [(b0, Obj.cells (fmL s f).toArray 29 (0, 0))]) ?_ ?_))))))))))))
  refine TC.seq ?_
  obtain ⟨h400, h30, h300, hb400⟩ := few_400 hlo
  refine TC.region (za rfl (zn (TC.block (TC.loopK [1, 2, 3, 8] (X := Nat × CP) (fun x => x.1 ≤ L.length ∧ CPk w0 s (stC s L x.1) x.2) (fun x => [(13, .int .i64 (x.1 : Nat))]) (fun x => hp0 s (stC s L x.1) y.1 x.2 ++ [(b0, Obj.cells (fmL s f).toArray 29 (0, 0))]) (fun x => L.length - x.1) (0, y.2) ⟨Nat.zero_le _, hy⟩ l9z (List.Sublist.refl _) ?_))))
  intro x hx
  have hx1 := hx.1
  refine TC.seq (zr (zm rfl (zm rfl (zq (PV.len rfl Tb.sl_43) rfl (zq (PV.lss rfl rfl) rfl (zm rfl (TL.sp 74 rfl (fun ha => ?_) (fun ha => ?_))))))))
  refine zm rfl (zq (PV.lss rfl rfl) rfl (zq (PV.pickT rfl rfl) rfl (zn (TC.cd rfl (fun hb => ?_) (fun hb => ?_)))))
  refine TC.skip (TQ.thenC (TC.seq (TC.block (TC.seq ?_))))
  have hix := stC_inv hv L x.1
  have hid := hix.any (L.getD x.1 []) hv
  obtain ⟨q9, q9p, q9v⟩ := hL x.1 (by omega)
  have h40 := hb400 x.1
  refine TC.region (zm rfl (TL.callW (X := Unit) (fun _ => str (bookL dI (stC s L x.1).ords).2) (fun _ => True) (fun _ => hp0 s (stC s L x.1) y.1 x.2 ++ [(b0, Obj.cells (fmL s f).toArray 29 (0, 0))]) rfl Tb.gofn_28 (fun a w hs => Book_p hW hv hix hx.2 hs.new) rfl dc (fun _ _ => ?_)))
  refine za rfl (zk (zm rfl (zm rfl (zm rfl (zq (PV.indexA rfl q9p rfl Tb.elm_43 rfl om) rfl (zq (PV.loadOld rfl Tb.one_9 q9v) rfl (TL.callW (X := CP) (fun _ => .int .i64 (doI s (stC s L x.1) (L.getD x.1 []))) (fun p1 => CPk w0 s (doC s (stC s L x.1) (L.getD x.1 [])) p1) (fun p1 => hp0 s (doC s (stC s L x.1) (L.getD x.1 [])) y.1 p1 ++ [(b0, Obj.cells (fmL s f).toArray 29 (0, 0))]) rfl Tb.gofn_18 (fun a w hs => Do_p hW hv hix hx.2 hs.new _ om) rfl dc (fun p1 hp1 => ?_))))))))
  refine zq (PV.neq rfl rfl) rfl (zm rfl (TL.sp 89 rfl (fun hd => ?_) (fun hd => ?_)))
  refine zm rfl (TL.callW (X := Unit) (fun _ => str (bookL dI (doC s (stC s L x.1) (L.getD x.1 [])).ords).2) (fun _ => True) (fun _ => hp0 s (doC s (stC s L x.1) (L.getD x.1 [])) y.1 p1 ++ [(b0, Obj.cells (fmL s f).toArray 29 (0, 0))]) rfl Tb.gofn_28 (fun a w hs => Book_p hW hv hid hp1 hs.new) rfl dc (fun _ _ => ?_))
  refine zm rfl (zq (PV.no (PV.neqS rfl rfl) (fun h9 => h9 (by rw [doC_no hd]))) rfl ?_)
  refine zq (PV.pickT rfl rfl) rfl (zm rfl (zm rfl (zq (PV.loadBox (cs := fmL s f) rfl Tb.agg_29 m9z rfl) rfl ?_)))
  refine TL.callW (X := Unit) (fun _ => .bool true) (fun _ => True) (fun _ => hp0 s (doC s (stC s L x.1) (L.getD x.1 [])) y.1 p1 ++ [(b0, Obj.cells (fmL s f).toArray 29 (0, 0))]) rfl Tb.gofn_38 (fun a w hs => Balanced_ok hv hid hp1 hf hs.new) rfl dc (fun _ _ => ?_)
  refine zq (PV.not rfl) rfl (zq (PV.pickF rfl rfl) rfl (zn (TC.condF rfl (TC.skip (TQ.blkN (TQ.thenC (TC.region (zm rfl (zq (PV.add rfl rfl om) rfl (za rfl (TL.nil (TQ.thenN (TQ.backK (x.1 + 1, p1) l9z l9z (by rw [stC_succ om]; exact List.Sublist.refl _) ⟨by simp only; omega, by rw [stC_succ om]; exact hp1⟩ (by simp only; omega))))))))))))))
  refine zx rfl (zx rfl (zx rfl (zx rfl (zq (PV.pickF rfl rfl) rfl (zm rfl (zm rfl (zq (PV.loadBox (cs := fmL s f) rfl Tb.agg_29 m9z rfl) rfl ?_)))))))
  refine TL.callW (X := Unit) (fun _ => .bool true) (fun _ => True) (fun _ => hp0 s (doC s (stC s L x.1) (L.getD x.1 [])) y.1 p1 ++ [(b0, Obj.cells (fmL s f).toArray 29 (0, 0))]) rfl Tb.gofn_38 (fun a w hs => Balanced_ok hv hid hp1 hf hs.new) rfl dc (fun _ _ => ?_)
  refine zq (PV.not rfl) rfl (zq (PV.pickF rfl rfl) rfl (zn (TC.condF rfl (TC.skip (TQ.blkN (TQ.thenC (TC.region (zm rfl (zq (PV.add rfl rfl om) rfl (za rfl (TL.nil (TQ.thenN (TQ.backK (x.1 + 1, p1) l9z l9z (by rw [stC_succ om]; exact List.Sublist.refl _) ⟨by simp only; omega, by rw [stC_succ om]; exact hp1⟩ (by simp only; omega))))))))))))))
  refine TC.exit (TQ.thenE (TQ.thenE (TQ.blkS (TQ.thenN (TQ.midK x l9z l9z (List.Sublist.refl _) hx)))))
  refine zx rfl (zx rfl (zq (PV.pickF rfl rfl) rfl (zn (TC.condF rfl (TC.exit (TQ.thenE (TQ.thenE (TQ.blkS (TQ.thenN (TQ.midK x l9z l9z (List.Sublist.refl _) hx))))))))))
  intro v hvv
  refine TC.seq ?_
  have hif := stC_inv hv L v.1
  have hrc := stC_rc s L v.1
  have hbl := hif.bl
  have hol9 := hif.ol
  refine TC.region (zm rfl (TL.callW (X := Unit) (fun _ => str (bookL dI (stC s L v.1).ords).2) (fun _ => True) (fun _ => hp0 s (stC s L v.1) y.1 v.2 ++ [(b0, Obj.cells (fmL s f).toArray 29 (0, 0))]) rfl Tb.gofn_28 (fun a w hs => Book_p hW hv hif hvv.2 hs.new) rfl dc (fun _ _ => ?_)))
  refine za rfl (zk (zm rfl (TL.call rfl Tb.gofn_43 (fun a w hs => read_c w (hW.new hs.new) hif) rfl dc (fun hr hhr => ?_))))
  refine zm rfl (zq (PV.extract rfl rfl) rfl (zq (PV.extract rfl rfl) rfl (za rfl (za rfl (zn (TC.seq ?_))))))
  obtain ⟨k, hk, hke⟩ := pick_k n (bookL dI (stC s L v.1).ords).2.length
  refine TC.region (zm rfl (zq (PV.conv Tb.int_3 Tb.int_55 rfl rfl) rfl (zm rfl (zq (PV.lenS rfl Tb.str_9) rfl (zq (PV.add rfl rfl om) rfl (zq (PV.conv (v := (((bookL dI (stC s L v.1).ords).2.length : Nat) : Int) + 1) Tb.int_3 Tb.int_55 rfl (by rw [IntKind.wrap_u64]; omega)) rfl ?_))))))
  refine zq (PV.to (PV.remU rfl rfl om (by rw [hke]; omega)) (by rw [hke])) rfl ?_
  refine zq (PV.conv (v := (k : Int)) Tb.int_55 Tb.int_3 rfl (by rw [IntKind.wrap_i64]; omega)) rfl ?_
  refine za rfl (zn (TC.seq ?_))
  obtain ⟨j, r, hjl, hrd, hrk, hcut⟩ := part_all hif hk
  have htl : ((stC s L v.1).ords.take j).length = j := by rw [List.length_take]; omega
  have hat : ∀ i, i < ((stC s L v.1).ords.take j).length → doI s (stC s ((stC s L v.1).ords.take j) i) (((stC s L v.1).ords.take j).getD i []) = 0 := fun i hi => by rw [htl] at hi; rw [stC_take (by omega), getD_take hi]; exact hrc.ok i (by omega)
  refine TC.region (zm rfl (zm rfl (zq (PV.slSt (h := k) rfl rfl Tb.str_9 rfl hk) rfl (TL.call rfl Tb.gofn_43 (fun a w hs => read_pt w (hW.new hs.new) hif k hjl hrd) rfl dc (fun hq hhq => ?_)))))
  refine zm rfl (zq (PV.extract rfl rfl) rfl (zq (PV.extract rfl rfl) rfl (za rfl (za rfl (zn (TC.seq (zr (zm rfl (zq (PV.no (PV.neqS (M := []) rfl rfl) (fun h9 => h9 rfl)) rfl ?_)))))))))
  refine zm rfl (zm rfl (zq (PV.len rfl Tb.sl_43) rfl (zm rfl (zq (PV.len rfl Tb.sl_43) rfl (zq (PV.no (PV.gtr rfl rfl) om) rfl (zq (PV.pickF rfl rfl) rfl (zm rfl (zm rfl (zm rfl (zm rfl (zq (PV.len rfl Tb.sl_43) rfl (zm rfl (zq (PV.len rfl Tb.sl_43) rfl (zq (PV.slice43 (h := j) rfl rfl rfl rfl rfl (Nat.le_trans hjl (goR_cap hhr))) rfl (TL.call rfl Tb.gofn_45 (fun a w hs => sameT_is2 w _ _ ((stC s L v.1).ords.take j) (ords_at hs.new r9z hhq) _ _ ((ords_at hs.new r9z hhr).take j) j htl om) rfl dc (fun _ _ => ?_))))))))))))))))
  refine zq (PV.not rfl) rfl (zq (PV.pickF rfl rfl) rfl (zn (TC.condF rfl (TC.skip (TQ.thenC (TC.seq (TC.mixV [true, true, true, true, true, true, true, true, true, true, true, true, false, true, true, true, true, true, true, true] [(b0, Obj.cells (fmL s f).toArray 29 (0, 0))] 20 Tb.mixed rfl kr kr kr kr s9z ?_)))))))
  refine zv 0 rfl kr (PV.fieldAddr rfl Tb.fo_29_0) rfl (zv 1 rfl kr (PV.loadMid (cs := fmL s f) (off := 0) (k := 1) (vs := [.slice f.p s.W.length f.cp]) rfl Tb.agg_24 m9z rfl rfl) rfl ?_)
  refine zv 2 rfl kr (PV.fieldAddr rfl Tb.fo_29_1) rfl (zv 3 rfl kr (PV.loadMid (cs := fmL s f) (off := 1) (k := 2) (vs := [.slice f.q s.K.length f.cq, .slice f.r s.g.length f.cr]) rfl Tb.agg_27 m9z rfl rfl) rfl ?_)
  refine zv 4 rfl kr (PV.fieldAddr rfl Tb.fo_29_2) rfl (zv 5 rfl kr (PV.load (v := .int .i64 s.need) rfl Tb.one_3 m9z rfl) rfl ?_)
  refine zv 6 rfl kr (PV.move rfl) rfl (zv 7 rfl kr (PV.move rfl) rfl (zv 8 rfl kr (PV.move rfl) rfl (zv 9 rfl kr (PV.lenS rfl Tb.str_9) rfl (zv 10 rfl kr (PV.sub rfl rfl om) rfl (zv 11 rfl kr (PV.to (PV.slSt (h := k - r.length) rfl rfl Tb.str_9 om om) (by rw [hcut])) rfl ?_)))))
  refine TV.step [12] kr dc rfl ⟨⟨_, rfl, ?_⟩, trivial⟩
  refine TL.callW (X := Nat × CP) (fun y2 => .tuple #[pt y2.1, .int .i64 (j : Nat), .int .i64 0]) (fun y2 => CPk w0 s (stC s (stC s L v.1).ords j) y2.2) (fun y2 => hp0 s (stC s (stC s L v.1).ords j) y2.1 y2.2 ++ (gbR stR 9 hq ((stC s L v.1).ords.take j) ++ (gbR stR 9 hr (stC s L v.1).ords ++ (hp0 s (stC s L v.1) y.1 v.2 ++ [(b0, Obj.cells (fmL s f).toArray 29 (0, 0))])))) rfl Tb.gofn_40 (fun a w hs => Replay_l hs.new hW (fun w9 hn => hf.new hn) hlg (bl_take hif j) he (hif.readT j) hat htl (stC_take (Nat.le_refl _))) rfl dc (fun y2 hy2 => ?_)
  refine TL.nil (TV.next (.inl s9z) ?_)
  refine zv 13 rfl kr (PV.move rfl) rfl (zv 14 rfl kr (PV.extract rfl rfl) rfl (zv 15 rfl kr (PV.extract rfl rfl) rfl (zv 16 rfl kr (PV.extract rfl rfl) rfl (zv 17 rfl kr (PV.assign rfl) rfl (zv 18 rfl kr (PV.assign rfl) rfl (zv 19 rfl kr (PV.assign rfl) rfl (TV.done kr ?_)))))))
  refine TQ.thenC (TC.seq (zr (zm rfl (zq (PV.no (PV.neq rfl rfl) (fun h9 => h9 rfl)) rfl ?_))))
  refine zm rfl (zm rfl (zq (PV.eqPtr rfl) rfl (zq (PV.pickF rfl rfl) rfl (zm rfl (zm rfl (zm rfl (zq (PV.len rfl Tb.sl_43) rfl (zq (PV.no (PV.neq rfl rfl) (fun h9 => h9 rfl)) rfl ?_))))))))
  refine zq (PV.pickF rfl rfl) rfl (zn (TC.condF rfl (TC.skip (TQ.thenC (TC.seq (zr (zm rfl (za rfl (zn (TC.block (TC.loopK [2, 8, 15, 16, 19, 20] (X := Nat × CP) (fun u => j ≤ u.1 ∧ u.1 ≤ (stC s L v.1).ords.length ∧ CPk w0 s (stC s (stC s L v.1).ords u.1) u.2) (fun u => [(22, .int .i64 (u.1 : Nat))]) (fun u => hp0 s (stC s (stC s L v.1).ords u.1) y2.1 u.2 ++ (gbR stR 9 hq ((stC s L v.1).ords.take j) ++ (gbR stR 9 hr (stC s L v.1).ords ++ (hp0 s (stC s L v.1) y.1 v.2 ++ [(b0, Obj.cells (fmL s f).toArray 29 (0, 0))])))) (fun u => (stC s L v.1).ords.length - u.1) (j, y2.2) ⟨Nat.le_refl _, hjl, hy2⟩ l9z (List.Sublist.refl _) ?_)))))))))))
  intro u hu
  have hu1 := hu.1
  have hu2 := hu.2.1
  refine TC.seq (zr (zm rfl (zm rfl (zq (PV.len rfl Tb.sl_43) rfl (zq (PV.lss rfl rfl) rfl (zn (TC.cd rfl (fun hlt2 => ?_) (fun hlt2 => ?_))))))))
  refine TC.skip (TQ.thenC (TC.seq (TC.block (TC.seq ?_))))
  obtain ⟨q9, q9p, q9v⟩ := ords_now hhr (k := u.1) (by omega)
  have hiu := stC_inv hv (stC s L v.1).ords u.1
  have hok9 := hrc.ok u.1 (by omega)
  have ho40 := ords_40 hif u.1
  refine TC.region (zm rfl (zm rfl (zm rfl (zq (PV.indexA rfl q9p rfl Tb.elm_43 rfl om) rfl (zq (PV.loadO (h := hr) (L := (stC s L v.1).ords) (k := u.1) rfl Tb.one_9 r9z q9v) rfl ?_)))))
  refine TL.callW (X := CP) (fun _ => .int .i64 (doI s (stC s (stC s L v.1).ords u.1) ((stC s L v.1).ords.getD u.1 []))) (fun p1 => CPk w0 s (doC s (stC s (stC s L v.1).ords u.1) ((stC s L v.1).ords.getD u.1 [])) p1) (fun p1 => hp0 s (doC s (stC s (stC s L v.1).ords u.1) ((stC s L v.1).ords.getD u.1 [])) y2.1 p1 ++ (gbR stR 9 hq ((stC s L v.1).ords.take j) ++ (gbR stR 9 hr (stC s L v.1).ords ++ (hp0 s (stC s L v.1) y.1 v.2 ++ [(b0, Obj.cells (fmL s f).toArray 29 (0, 0))])))) rfl Tb.gofn_18 (fun a w hs => Do_p hW hv hiu hu.2.2 hs.new _ om) rfl dc (fun p1 hp1 => ?_)
  refine zq (PV.no (PV.neq rfl rfl) (fun h9 => h9 hok9)) rfl ?_
  refine zn (TC.condF rfl (TC.skip (TQ.blkN (TQ.thenC (TC.region (zm rfl (zq (PV.add rfl rfl om) rfl (za rfl (TL.nil (TQ.thenN (TQ.backK (u.1 + 1, p1) l9z l9z (by rw [stC_succ om]; exact List.Sublist.refl _) ⟨by simp only; omega, by simp only; omega, by rw [stC_succ om]; exact hp1⟩ (by simp only; omega))))))))))))
  refine TC.exit (TQ.thenE (TQ.thenE (TQ.blkS (TQ.thenC (TC.seq ?_)))))
  have hue : u.1 = (stC s L v.1).ords.length := by omega
  have hu3 : CPk w0 s (stC s L v.1) u.2 := by have h9 := hu.2.2; rw [hue, hrc.fin] at h9; exact h9
  refine TC.congrG (G' := hp0 s (stC s L v.1) y2.1 u.2 ++ (gbR stR 9 hq ((stC s L v.1).ords.take j) ++ (gbR stR 9 hr (stC s L v.1).ords ++ (hp0 s (stC s L v.1) y.1 v.2 ++ [(b0, Obj.cells (fmL s f).toArray 29 (0, 0))])))) (by rw [hue, hrc.fin]) ?_
  refine TC.region (zm rfl (zm rfl (zm rfl (zq (PV.lenS rfl Tb.str_9) rfl (zq (PV.sub rfl rfl om) rfl (zq (PV.to (PV.slSt (h := k - r.length) rfl rfl Tb.str_9 om om) (by rw [hcut])) rfl ?_))))))
  refine zm rfl (TL.call rfl Tb.gofn_52 (fun a w hs => Merge_j w (hW.new hs.new) hif hjl) rfl dc (fun _ _ => ?_))
  refine zm rfl (zq (PV.extract rfl rfl) rfl (zq (PV.extract rfl rfl) rfl (zq (PV.extract rfl rfl) rfl (za rfl (za rfl (za rfl (zn (TC.seq (TC.perm (G' := hp0 s (stC s L v.1) y2.1 u.2 ++ (hp0 s (stC s L v.1) y.1 v.2 ++ (gbR stR 9 hq ((stC s L v.1).ords.take j) ++ (gbR stR 9 hr (stC s L v.1).ords ++ [(b0, Obj.cells (fmL s f).toArray 29 (0, 0))])))) (perm_of fun c9 => by simp only [List.map_append, List.sum_append, List.map_nil, List.sum_nil]; omega) ?_)))))))))
  have h5 := hv.n5
  have h4 := hv.d4
  have htl9 := hif.tl' hv
  have hhl9 := hif.hl
  refine TC.region (zm rfl (TL.callW (X := Unit) (fun _ => str (bookL dI (stC s L v.1).ords).2) (fun _ => True) (fun _ => hp0 s (stC s L v.1) y2.1 u.2 ++ (hp0 s (stC s L v.1) y.1 v.2 ++ (gbR stR 9 hq ((stC s L v.1).ords.take j) ++ (gbR stR 9 hr (stC s L v.1).ords ++ [(b0, Obj.cells (fmL s f).toArray 29 (0, 0))])))) rfl Tb.gofn_28 (fun a w hs => Book_p hW hv hif hu3 hs.new) rfl dc (fun _ _ => ?_)))
  refine zm rfl (zq (PV.yes (PV.eqS rfl rfl) rfl) rfl (zm rfl (zm rfl (TL.callW (X := Unit) (fun _ => .int .i64 (stC s L v.1).money) (fun _ => True) (fun _ => hp0 s (stC s L v.1) y2.1 u.2 ++ (hp0 s (stC s L v.1) y.1 v.2 ++ (gbR stR 9 hq ((stC s L v.1).ords.take j) ++ (gbR stR 9 hr (stC s L v.1).ords ++ [(b0, Obj.cells (fmL s f).toArray 29 (0, 0))])))) rfl Tb.gofn_21 (fun a w hs => Money_p hv hs.new) rfl dc (fun _ _ => ?_)))))
  refine zm rfl (TL.callW (X := Unit) (fun _ => .int .i64 (stC s L v.1).money) (fun _ => True) (fun _ => hp0 s (stC s L v.1) y2.1 u.2 ++ (hp0 s (stC s L v.1) y.1 v.2 ++ (gbR stR 9 hq ((stC s L v.1).ords.take j) ++ (gbR stR 9 hr (stC s L v.1).ords ++ [(b0, Obj.cells (fmL s f).toArray 29 (0, 0))])))) rfl Tb.gofn_21 (fun a w hs => calls_swap (Money_p hv (New.swap hs.new))) rfl dc (fun _ _ => ?_))
  refine zq (PV.yes (PV.eql rfl rfl) rfl) rfl (zq (PV.pickT rfl rfl) rfl (zm rfl (zm rfl (TL.callW (X := Unit) (fun _ => .int .i64 ((stC s L v.1).wet : Nat)) (fun _ => True) (fun _ => hp0 s (stC s L v.1) y2.1 u.2 ++ (hp0 s (stC s L v.1) y.1 v.2 ++ (gbR stR 9 hq ((stC s L v.1).ords.take j) ++ (gbR stR 9 hr (stC s L v.1).ords ++ [(b0, Obj.cells (fmL s f).toArray 29 (0, 0))])))) rfl Tb.gofn_20 (fun a w hs => Wet_p hv hs.new) rfl dc (fun _ _ => ?_)))))
  refine zm rfl (TL.callW (X := Unit) (fun _ => .int .i64 ((stC s L v.1).wet : Nat)) (fun _ => True) (fun _ => hp0 s (stC s L v.1) y2.1 u.2 ++ (hp0 s (stC s L v.1) y.1 v.2 ++ (gbR stR 9 hq ((stC s L v.1).ords.take j) ++ (gbR stR 9 hr (stC s L v.1).ords ++ [(b0, Obj.cells (fmL s f).toArray 29 (0, 0))])))) rfl Tb.gofn_20 (fun a w hs => calls_swap (Wet_p hv (New.swap hs.new))) rfl dc (fun _ _ => ?_))
  refine zq (PV.yes (PV.eql rfl rfl) rfl) rfl (zq (PV.pickT rfl rfl) rfl (zm rfl (zm rfl (TL.callW (X := Unit) (fun _ => .int .i64 (stC s L v.1).grd) (fun _ => True) (fun _ => hp0 s (stC s L v.1) y2.1 u.2 ++ (hp0 s (stC s L v.1) y.1 v.2 ++ (gbR stR 9 hq ((stC s L v.1).ords.take j) ++ (gbR stR 9 hr (stC s L v.1).ords ++ [(b0, Obj.cells (fmL s f).toArray 29 (0, 0))])))) rfl Tb.gofn_24 (fun a w hs => Ground_p hv hs.new) rfl dc (fun _ _ => ?_)))))
  refine zm rfl (TL.callW (X := Unit) (fun _ => .int .i64 (stC s L v.1).grd) (fun _ => True) (fun _ => hp0 s (stC s L v.1) y2.1 u.2 ++ (hp0 s (stC s L v.1) y.1 v.2 ++ (gbR stR 9 hq ((stC s L v.1).ords.take j) ++ (gbR stR 9 hr (stC s L v.1).ords ++ [(b0, Obj.cells (fmL s f).toArray 29 (0, 0))])))) rfl Tb.gofn_24 (fun a w hs => calls_swap (Ground_p hv (New.swap hs.new))) rfl dc (fun _ _ => ?_))
  refine zq (PV.yes (PV.eql rfl rfl) rfl) rfl (zq (PV.pickT rfl rfl) rfl (zm rfl (zm rfl (TL.callW (X := Unit) (fun _ => .int .i64 (stC s L v.1).day) (fun _ => True) (fun _ => hp0 s (stC s L v.1) y2.1 u.2 ++ (hp0 s (stC s L v.1) y.1 v.2 ++ (gbR stR 9 hq ((stC s L v.1).ords.take j) ++ (gbR stR 9 hr (stC s L v.1).ords ++ [(b0, Obj.cells (fmL s f).toArray 29 (0, 0))])))) rfl Tb.gofn_19 (fun a w hs => Day_p hv hs.new) rfl dc (fun _ _ => ?_)))))
  refine zm rfl (TL.callW (X := Unit) (fun _ => .int .i64 (stC s L v.1).day) (fun _ => True) (fun _ => hp0 s (stC s L v.1) y2.1 u.2 ++ (hp0 s (stC s L v.1) y.1 v.2 ++ (gbR stR 9 hq ((stC s L v.1).ords.take j) ++ (gbR stR 9 hr (stC s L v.1).ords ++ [(b0, Obj.cells (fmL s f).toArray 29 (0, 0))])))) rfl Tb.gofn_19 (fun a w hs => calls_swap (Day_p hv (New.swap hs.new))) rfl dc (fun _ _ => ?_))
  refine zq (PV.yes (PV.eql rfl rfl) rfl) rfl (zq (PV.pickT rfl rfl) rfl (zm rfl (zm rfl (TL.callW (X := HD) (fun h => .slice (gp h) (stC s L v.1).tur.length (gc h)) (fun h => goI (h, (stC s L v.1).tur)) (fun h => gbI (h, (stC s L v.1).tur) ++ (hp0 s (stC s L v.1) y2.1 u.2 ++ (hp0 s (stC s L v.1) y.1 v.2 ++ (gbR stR 9 hq ((stC s L v.1).ords.take j) ++ (gbR stR 9 hr (stC s L v.1).ords ++ [(b0, Obj.cells (fmL s f).toArray 29 (0, 0))]))))) rfl Tb.gofn_26 (fun a w hs => Turves_p hv hif hu3 hs.new) rfl dc (fun h1 hh1 => ?_)))))
  refine zm rfl (TL.callW (X := HD) (fun h => .slice (gp h) (stC s L v.1).tur.length (gc h)) (fun h => goI (h, (stC s L v.1).tur)) (fun h => gbI (h, (stC s L v.1).tur) ++ (gbI (h1, (stC s L v.1).tur) ++ (hp0 s (stC s L v.1) y2.1 u.2 ++ (hp0 s (stC s L v.1) y.1 v.2 ++ (gbR stR 9 hq ((stC s L v.1).ords.take j) ++ (gbR stR 9 hr (stC s L v.1).ords ++ [(b0, Obj.cells (fmL s f).toArray 29 (0, 0))])))))) rfl Tb.gofn_26 (fun a w hs => calls_pm (fun _ => (perm_of fun c9 => by simp only [List.map_append, List.sum_append, List.map_nil, List.sum_nil]; omega)) (Turves_p (R := gbI (h1, (stC s L v.1).tur) ++ (hp0 s (stC s L v.1) y2.1 u.2 ++ (gbR stR 9 hq ((stC s L v.1).ords.take j) ++ (gbR stR 9 hr (stC s L v.1).ords ++ [(b0, Obj.cells (fmL s f).toArray 29 (0, 0))])))) hv hif hvv.2 (hs.new.perm (perm_of fun c9 => by simp only [List.map_append, List.sum_append, List.map_nil, List.sum_nil]; omega)))) rfl dc (fun h2 hh2 => ?_))
  refine TL.call rfl Tb.gofn_60 (fun a w hs => same5_is w _ _ (stC s L v.1).tur (IntsAt.g (x := (h1, (stC s L v.1).tur)) hs.new r9z hh1) _ _ (IntsAt.g (x := (h2, (stC s L v.1).tur)) hs.new r9z hh2) om) rfl dc (fun _ _ => ?_)
  refine zq (PV.pickT rfl rfl) rfl (zm rfl (zm rfl (TL.callW (X := HD) (fun h => .slice (gp h) (stC s L v.1).hol.length (gc h)) (fun h => goI (h, (stC s L v.1).hol)) (fun h => gbI (h, (stC s L v.1).hol) ++ (hp0 s (stC s L v.1) y2.1 u.2 ++ (hp0 s (stC s L v.1) y.1 v.2 ++ (gbR stR 9 hq ((stC s L v.1).ords.take j) ++ (gbR stR 9 hr (stC s L v.1).ords ++ [(b0, Obj.cells (fmL s f).toArray 29 (0, 0))]))))) rfl Tb.gofn_25 (fun a w hs => Hollow_p hv hif hu3 (hs.new.sub ((List.sublist_append_right _ _).trans (List.sublist_append_right _ _)))) rfl dc (fun h3 hh3 => ?_))))
  refine zm rfl (TL.callW (X := HD) (fun h => .slice (gp h) (stC s L v.1).hol.length (gc h)) (fun h => goI (h, (stC s L v.1).hol)) (fun h => gbI (h, (stC s L v.1).hol) ++ (gbI (h3, (stC s L v.1).hol) ++ (hp0 s (stC s L v.1) y2.1 u.2 ++ (hp0 s (stC s L v.1) y.1 v.2 ++ (gbR stR 9 hq ((stC s L v.1).ords.take j) ++ (gbR stR 9 hr (stC s L v.1).ords ++ [(b0, Obj.cells (fmL s f).toArray 29 (0, 0))])))))) rfl Tb.gofn_25 (fun a w hs => calls_pm (fun _ => (perm_of fun c9 => by simp only [List.map_append, List.sum_append, List.map_nil, List.sum_nil]; omega)) (Hollow_p (R := gbI (h3, (stC s L v.1).hol) ++ (hp0 s (stC s L v.1) y2.1 u.2 ++ (gbR stR 9 hq ((stC s L v.1).ords.take j) ++ (gbR stR 9 hr (stC s L v.1).ords ++ [(b0, Obj.cells (fmL s f).toArray 29 (0, 0))])))) hv hif hvv.2 (hs.new.perm (perm_of fun c9 => by simp only [List.map_append, List.sum_append, List.map_nil, List.sum_nil]; omega)))) rfl dc (fun h4 hh4 => ?_))
  refine TL.call rfl Tb.gofn_60 (fun a w hs => same5_is w _ _ (stC s L v.1).hol (IntsAt.g (x := (h3, (stC s L v.1).hol)) hs.new r9z hh3) _ _ (IntsAt.g (x := (h4, (stC s L v.1).hol)) hs.new r9z hh4) om) rfl dc (fun _ _ => ?_)
  refine zq (PV.pickT rfl rfl) rfl (zm rfl (zm rfl (zq (PV.yes (PV.eql rfl rfl) rfl) rfl (zq (PV.pickT rfl rfl) rfl (zm rfl (zm rfl (zm rfl (zq (PV.yes (PV.eqS rfl rfl) rfl) rfl (zq (PV.pickT rfl rfl) rfl (zm rfl (zm rfl (zm rfl (zq (PV.len rfl Tb.sl_43) rfl (zq (PV.yes (PV.eql rfl rfl) rfl) rfl (zq (PV.pickT rfl rfl) rfl (zm rfl (zm rfl (TL.callW (X := Unit) (fun _ => .bool true) (fun _ => True) (fun _ => hp0 s (stC s L v.1) y2.1 u.2 ++ (hp0 s (stC s L v.1) y.1 v.2 ++ (gbR stR 9 hq ((stC s L v.1).ords.take j) ++ (gbR stR 9 hr (stC s L v.1).ords ++ [(b0, Obj.cells (fmL s f).toArray 29 (0, 0))])))) rfl Tb.gofn_29 (fun a w hs => calls_swap (Audit_p hW hv hif hrc hvv.2 (New.swap (hs.new.sub ((List.sublist_append_right _ _).trans (List.sublist_append_right _ _)))))) rfl dc (fun _ _ => ?_)))))))))))))))))))
  refine zq (PV.pickT rfl rfl) rfl (za rfl (zt (TQ.retE1 rfl rfl ?_)))
  exact ⟨(), rfl, trivial, nils⟩
theorem TopCompany_ok (w0 : World) (hW : WAt w0) (s : St) (f : FV) (hf : FmAt w0 s f) (hw63 : s.W.length ≤ 9223372036854775807) (hk63 : s.K.length ≤ 9223372036854775807) (pl : Option Addr) (cl : Nat) (L : List (List UInt8)) (hL : StrsAt w0 pl L) (hl63 : L.length ≤ 9223372036854775807) (hcl : L.length ≤ cl) (n : Int) (hn : -9223372036854775808 ≤ n ∧ n ≤ 9223372036854775807) :
    Calls Tryz.prog 17 #[.agg (fmL s f).toArray, .slice pl L.length cl, .int .i64 n] w0 (Post (X := Unit) (fun _ => .bool true) (fun _ => True) (fun _ => []) w0) := by
  by_cases he : s.newI = 0
  · exact TopCompany_ok_y w0 hW s f hf hw63 hk63 pl cl L hL hl63 hcl n hn he
  · exact TopCompany_ok_e w0 hW s f hf hw63 hk63 pl cl L hL hl63 hcl n hn he
end Go.Proofs.YtbnjmkidbfmomaaGreatDoor
