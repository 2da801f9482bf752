/- The law Runs: contract. -/
import Derived.Test.YtbnjmkidbfmomaaGreatDoorQ34
import Derived.Test.YtbnjmkidbfmomaaGreatDoorQ36
set_option linter.unusedVariables false
set_option linter.unusedSimpArgs false
set_option maxRecDepth 100000
namespace Go.Proofs.YtbnjmkidbfmomaaGreatDoor
open Go.Sx Go.RowKit Go.Bt Go.Lib Go.Sand
theorem Run_e (w0 : World) (s : St) (f : FV) (hf : FmAt w0 s f) (hlg : s.large = false) (pl : Option Addr) (cl : Nat) (L : List (List UInt8)) (he : s.newI ≠ 0) :
    Calls Tryz.prog 50 #[.agg #[.slice f.p s.W.length f.cp], .agg #[.slice f.q s.K.length f.cq, .slice f.r s.g.length f.cr], .int .i64 s.need, .slice pl L.length cl] w0 (Post (X := Unit) (fun _ => .tuple #[.slice none 0 0, str [], .int .i64 s.newI]) (fun _ => True) (fun _ => []) w0) := by
  refine calls Tryz.func50 rfl (n := 49) rfl (by simp) ?_
  refine zr (TL.box rfl rfl dc (fun b0 hb0 => ?_))
  refine TL.box rfl rfl dc (fun b1 hb1 => ?_)
  refine za rfl (za rfl (za rfl (zk (zq (PV.loadBox (cs := [.slice f.p s.W.length f.cp]) rfl Tb.agg_24 m9z rfl) rfl ?_))))
  refine zq (PV.loadBox (cs := [.slice f.q s.K.length f.cq, .slice f.r s.g.length f.cr]) rfl Tb.agg_27 m9z rfl) rfl ?_
  refine zm rfl (TL.call rfl Tb.gofn_59 (fun a w hs => New_se (hf.new hs.new) hlg he) rfl dc (fun _ _ => ?_))
  refine zm rfl (zq (PV.extract rfl rfl) rfl (zq (PV.extract rfl rfl) rfl (za rfl (za rfl (zn (TC.seq (zr (zm rfl (zq (PV.yes (PV.neq rfl rfl) he) rfl (zn (TC.condT rfl (zr (zm rfl (za rfl (za rfl (za rfl (zt (TQ.thenR (TQ.retE3 rfl rfl rfl rfl ?_)))))))))))))))))))
  exact ⟨(), rfl, trivial, nils⟩
theorem Run_l (w0 w : World) (R : Heap) (hN : New w0 w R) (hW : WAt w0) (s : St) (f : FV) (hf : FmAt w0 s f) (hlg : s.large = false) (pl : Option Addr) (cl : Nat) (L : List (List UInt8)) (hL : StrsAt w0 pl L) (hl400 : ∀ j, (L.getD j []).length ≤ 400) (he : s.newI = 0) (hl : 100 < L.length) :
    Calls Tryz.prog 50 #[.agg #[.slice f.p s.W.length f.cp], .agg #[.slice f.q s.K.length f.cq, .slice f.r s.g.length f.cr], .int .i64 s.need, .slice pl L.length cl] w (Post (X := Unit) (fun _ => .tuple #[.slice none 0 0, str [], .int .i64 3]) (fun _ => True) (fun _ => R) w0) := by
  refine callsM hN Tryz.func50 rfl (n := 49) rfl (by simp) ?_
  refine zr (TL.box rfl rfl dc (fun b0 hb0 => ?_))
  refine TL.box rfl rfl dc (fun b1 hb1 => ?_)
  refine za rfl (za rfl (za rfl (zk (zq (PV.loadBox (cs := [.slice f.p s.W.length f.cp]) rfl Tb.agg_24 m9z rfl) rfl ?_))))
  refine zq (PV.loadBox (cs := [.slice f.q s.K.length f.cq, .slice f.r s.g.length f.cr]) rfl Tb.agg_27 m9z rfl) rfl ?_
  refine zm rfl (TL.callW (X := Nat × CP) (fun y => .tuple #[pt y.1, .int .i64 0]) (fun y => CPk w0 s (co0 s) y.2) (fun y => hp0 s (co0 s) y.1 y.2 ++ ((b1, Obj.cells #[.slice f.q s.K.length f.cq, .slice f.r s.g.length f.cr] 27 (0, 0)) :: (b0, Obj.cells #[.slice f.p s.W.length f.cp] 24 (0, 0)) :: R)) rfl Tb.gofn_59 (fun a w hs => New_s hs.new (hf.new hs.new) hlg he) rfl dc (fun y hy => ?_))
  refine zm rfl (zq (PV.extract rfl rfl) rfl (zq (PV.extract rfl rfl) rfl (za rfl (za rfl (zn (TC.seq (zr (zm rfl (zq (PV.no (PV.neq rfl rfl) (fun h9 => h9 rfl)) rfl ?_)))))))))
  refine zn (TC.condF rfl (TC.skip (TQ.thenC (TC.seq (zr (zm rfl (zq (PV.len rfl Tb.sl_43) rfl (zq (PV.yes (PV.gtr rfl rfl) om) rfl (zn (TC.condT rfl (zr (za rfl (za rfl (za rfl (zt (TQ.thenR (TQ.retE3 rfl rfl rfl rfl ?_)))))))))))))))))
  exact ⟨(), rfl, trivial, s9z⟩
set_option maxHeartbeats 1000000 in
theorem Run_y (w0 w : World) (R : Heap) (hN : New w0 w R) (hW : WAt w0) (s : St) (f : FV) (hf : FmAt w0 s f) (hlg : s.large = false) (pl : Option Addr) (cl : Nat) (L : List (List UInt8)) (hL : StrsAt w0 pl L) (hl400 : ∀ j, (L.getD j []).length ≤ 400) (he : s.newI = 0) (hl : ¬ 100 < L.length) :
    Calls Tryz.prog 50 #[.agg #[.slice f.p s.W.length f.cp], .agg #[.slice f.q s.K.length f.cq, .slice f.r s.g.length f.cr], .int .i64 s.need, .slice pl L.length cl] w (Post (X := Nat) (fun b2 => .tuple #[.slice (some ⟨b2, 0, none⟩) L.length L.length, str (bookL dI (stC s L L.length).ords).2, .int .i64 0]) (fun _ => True) (fun b2 => (b2, Obj.cells (intsA (esZ s L L.length)) 31 (0, 0)) :: R) w0) := by
  have hv : SV s := sv_of he
  refine callsM hN Tryz.func50 rfl (n := 49) rfl (by simp) ?_
  refine zr (TL.box rfl rfl dc (fun b0 hb0 => ?_))
  refine TL.box rfl rfl dc (fun b1 hb1 => ?_)
  refine za rfl (za rfl (za rfl (zk (zq (PV.loadBox (cs := [.slice f.p s.W.length f.cp]) rfl Tb.agg_24 m9z rfl) rfl ?_))))
  refine zq (PV.loadBox (cs := [.slice f.q s.K.length f.cq, .slice f.r s.g.length f.cr]) rfl Tb.agg_27 m9z rfl) rfl ?_
  refine zm rfl (TL.callW (X := Nat × CP) (fun y => .tuple #[pt y.1, .int .i64 0]) (fun y => CPk w0 s (co0 s) y.2) (fun y => hp0 s (co0 s) y.1 y.2 ++ ((b1, Obj.cells #[.slice f.q s.K.length f.cq, .slice f.r s.g.length f.cr] 27 (0, 0)) :: (b0, Obj.cells #[.slice f.p s.W.length f.cp] 24 (0, 0)) :: R)) rfl Tb.gofn_59 (fun a w hs => New_s hs.new (hf.new hs.new) hlg he) rfl dc (fun y hy => ?_))
  refine zm rfl (zq (PV.extract rfl rfl) rfl (zq (PV.extract rfl rfl) rfl (za rfl (za rfl (zn (TC.seq (zr (zm rfl (zq (PV.no (PV.neq rfl rfl) (fun h9 => h9 rfl)) rfl ?_)))))))))
  refine zn (TC.condF rfl (TC.skip (TQ.thenC (TC.seq (zr (zm rfl (zq (PV.len rfl Tb.sl_43) rfl (zq (PV.no (PV.gtr rfl rfl) om) rfl (zn (TC.condF rfl (TC.skip (TQ.thenC (zr (zm rfl (zq (PV.len rfl Tb.sl_43) rfl (TL.makeI rfl rfl Tb.sl_68 Tb.zi_31 rfl om om rfl dc (fun b2 hb2 => ?_)))))))))))))))))
  refine za rfl (zn (TC.seq (zr (zm rfl (zq (PV.len rfl Tb.sl_43) rfl (zm rfl (zn (TC.block (TC.loopK [8, 9, 10, 11, 13, 32, 33] (X := Nat × CP) (fun x => x.1 ≤ L.length ∧ CPk w0 s (stC s L x.1) x.2) (fun x => [(34, .int .i64 (x.1 : Nat))]) (fun x => (b2, Obj.cells (intsA (esZ s L x.1)) 31 (0, 0)) :: (hp0 s (stC s L x.1) y.1 x.2 ++ ((b1, Obj.cells #[.slice f.q s.K.length f.cq, .slice f.r s.g.length f.cr] 27 (0, 0)) :: (b0, Obj.cells #[.slice f.p s.W.length f.cp] 24 (0, 0)) :: R))) (fun x => L.length - x.1) (0, y.2) ⟨Nat.zero_le _, hy⟩ l9z (by unfold esZ; rw [fillZ_zero]; exact List.Sublist.refl _) ?_)))))))))
  intro x hx
  have hx1 := hx.1
  refine zr (zq (PV.lss rfl rfl) rfl (zn (TC.seq (TC.cd rfl (fun hlt => ?_) (fun hlt => ?_)))))
  refine TC.skip (TQ.thenC (TC.seq (TC.block (TC.seq ?_))))
  obtain ⟨q9, q9p, q9v⟩ := hL x.1 (by omega)
  have hix := stC_inv hv L x.1
  have h40 := hl400 x.1
  refine TC.region (zm rfl (zq (PV.indexA rfl q9p rfl Tb.elm_43 rfl om) rfl (zq (PV.loadOld rfl Tb.one_9 q9v) rfl (za rfl (za rfl (zn (TC.perm (G' := hp0 s (stC s L x.1) y.1 x.2 ++ ((b2, Obj.cells (intsA (esZ s L x.1)) 31 (0, 0)) :: ((b1, Obj.cells #[.slice f.q s.K.length f.cq, .slice f.r s.g.length f.cr] 27 (0, 0)) :: (b0, Obj.cells #[.slice f.p s.W.length f.cp] 24 (0, 0)) :: R))) (List.perm_middle) ?_)))))))
  refine TC.region (zm rfl (zm rfl (zm rfl (zm rfl (TL.callW (X := CP) (fun _ => .int .i64 (doI s (stC s L x.1) (L.getD x.1 []))) (fun p1 => CPk w0 s (doC s (stC s L x.1) (L.getD x.1 [])) p1) (fun p1 => hp0 s (doC s (stC s L x.1) (L.getD x.1 [])) y.1 p1 ++ ((b2, Obj.cells (intsA (esZ s L x.1)) 31 (0, 0)) :: ((b1, Obj.cells #[.slice f.q s.K.length f.cq, .slice f.r s.g.length f.cr] 27 (0, 0)) :: (b0, Obj.cells #[.slice f.p s.W.length f.cp] 24 (0, 0)) :: R))) rfl Tb.gofn_18 (fun a w hs => Do_p hW hv hix hx.2 hs.new _ om) rfl dc (fun p1 hp1 => ?_))))))
  refine zq (PV.index1 (j := x.1) rfl rfl Tb.elm_68 rfl om) rfl (TL.storeIv (j := x.1) (xs := esZ s L x.1) (xs' := esZ s L (x.1 + 1)) rfl rfl Tb.cells_31 (fillZ_set (f := esF s L) om) u9z (by rw [fillZ_len]; omega) rfl rfl ?_)
  refine TL.nil (TQ.blkN (TQ.thenC (TC.region (zq (PV.add rfl rfl om) rfl (zm rfl (TL.nil (TQ.thenN (TQ.perm (G' := (b2, Obj.cells (intsA (esZ s L (x.1 + 1))) 31 (0, 0)) :: (hp0 s (doC s (stC s L x.1) (L.getD x.1 [])) y.1 p1 ++ ((b1, Obj.cells #[.slice f.q s.K.length f.cq, .slice f.r s.g.length f.cr] 27 (0, 0)) :: (b0, Obj.cells #[.slice f.p s.W.length f.cp] 24 (0, 0)) :: R))) List.perm_middle.symm ?_))))))))
  refine TQ.backK (x.1 + 1, p1) l9z l9z (by rw [stC_succ om]; exact List.Sublist.refl _) ⟨by simp only; omega, by rw [stC_succ om]; exact hp1⟩ (by simp only; omega)
  refine TC.exit (TQ.thenE (TQ.thenE (TQ.blkS (TQ.thenC (TC.seq (TC.perm (G' := hp0 s (stC s L x.1) y.1 x.2 ++ ((b2, Obj.cells (intsA (esZ s L x.1)) 31 (0, 0)) :: ((b1, Obj.cells #[.slice f.q s.K.length f.cq, .slice f.r s.g.length f.cr] 27 (0, 0)) :: (b0, Obj.cells #[.slice f.p s.W.length f.cp] 24 (0, 0)) :: R))) (List.perm_middle) ?_))))))
  have hix := stC_inv hv L x.1
  have hke : x.1 = L.length := by omega
  refine TC.region (zm rfl (zm rfl (TL.callW (X := Unit) (fun _ => str (bookL dI (stC s L x.1).ords).2) (fun _ => True) (fun _ => hp0 s (stC s L x.1) y.1 x.2 ++ ((b2, Obj.cells (intsA (esZ s L x.1)) 31 (0, 0)) :: ((b1, Obj.cells #[.slice f.q s.K.length f.cq, .slice f.r s.g.length f.cr] 27 (0, 0)) :: (b0, Obj.cells #[.slice f.p s.W.length f.cp] 24 (0, 0)) :: R))) rfl Tb.gofn_28 (fun a w hs => Book_p hW hv hix hx.2 hs.new) rfl dc (fun _ _ => ?_))))
  refine za rfl (za rfl (za rfl (zt (TQ.retE3 rfl rfl rfl rfl ?_))))
  exact ⟨b2, by rw [hke], trivial, by rw [hke]; exact (List.Sublist.cons_cons _ s9z).trans (List.sublist_append_right _ _)⟩
set_option maxHeartbeats 2000000 in
theorem BogRuns_e (w0 : World) (hW : WAt w0) (s : St) (f : FV) (hf : FmAt w0 s f) (hw63 : s.W.length ≤ 9223372036854775807) (hk63 : s.K.length ≤ 9223372036854775807) (pl : Option Addr) (cl : Nat) (L : List (List UInt8)) (hL : StrsAt w0 pl L) (hl63 : L.length ≤ 9223372036854775807) (hcl : L.length ≤ cl) (he : s.newI ≠ 0) :
    Calls Tryz.prog 11 #[.agg (fmL s f).toArray, .slice pl L.length cl] w0 (Post (X := Unit) (fun _ => .bool true) (fun _ => True) (fun _ => []) w0) := by
  refine calls Tryz.func11 rfl (n := 124) rfl (by simp) ?_
  refine zr (TL.box rfl rfl dc (fun b0 hb0 => ?_))
  refine za rfl (zn (TC.seq (zr (zq (PV.loadBox (cs := fmL s f) rfl Tb.agg_29 m9z rfl) rfl ?_))))
  refine TL.call rfl Tb.gofn_30 (fun a w hs => Large_s (hf.new hs.new) hw63 hk63) rfl dc (fun _ _ => ?_)
  refine zm rfl (TL.sp 16 rfl (fun hlg => ?_) (fun hlg => ?_))
  refine zx rfl (zx rfl (zq (PV.pickT rfl rfl) rfl (zn (TC.condT rfl (zr (TL.call rfl Tb.gofn_31 (fun a w hs => sane_ok w (hW.new hs.new)) rfl dc (fun _ _ => ?_)))))))
  refine za rfl (zt (TQ.thenR (TQ.retE1 rfl rfl ?_)))
  exact ⟨(), rfl, trivial, nils⟩
  refine zm rfl (TL.call rfl Tb.gofn_35 (fun a w hs => Long_ok w pl cl L (hL.new hs.new) hl63) rfl dc (fun _ _ => ?_))
  refine zq (PV.pickF rfl rfl) rfl (zn (TC.cd rfl (fun hlo => ?_) (fun hlo => ?_)))
  refine zr (TL.call rfl Tb.gofn_31 (fun a w hs => sane_ok w (hW.new hs.new)) rfl dc (fun _ _ => ?_))
  refine za rfl (zt (TQ.thenR (TQ.retE1 rfl rfl ?_)))
  exact ⟨(), rfl, trivial, nils⟩
  refine TC.skip (TQ.thenC (zr (zq (PV.fieldAddr rfl Tb.fo_29_0) rfl (zq (PV.loadMid (cs := fmL s f) (off := 0) (k := 1) (vs := [.slice f.p s.W.length f.cp]) rfl Tb.agg_24 m9z rfl rfl) rfl ?_))))
  refine zq (PV.fieldAddr rfl Tb.fo_29_1) rfl (zq (PV.loadMid (cs := fmL s f) (off := 1) (k := 2) (vs := [.slice f.q s.K.length f.cq, .slice f.r s.g.length f.cr]) rfl Tb.agg_27 m9z rfl rfl) rfl ?_)
  refine zq (PV.fieldAddr rfl Tb.fo_29_2) rfl (zq (PV.load (v := .int .i64 s.need) rfl Tb.one_3 m9z rfl) rfl ?_)
  refine zm rfl (TL.call rfl Tb.gofn_50 (fun a w hs => Run_e w s f (hf.new hs.new) hlg pl cl L he) rfl dc (fun _ _ => ?_))
  refine zm rfl (zq (PV.extract rfl rfl) rfl (zq (PV.extract rfl rfl) rfl (zq (PV.extract rfl rfl) rfl (za rfl (za rfl (za rfl (zk (zq (PV.loadBox (cs := fmL s f) rfl Tb.agg_29 m9z rfl) rfl ?_))))))))
  refine TL.call rfl Tb.gofn_32 (fun a w hs => Begin_e w (hW.new hs.new) s f (hf.new hs.new) hlg he) rfl dc (fun _ _ => ?_)
  refine zm rfl (zq (PV.extract rfl rfl) rfl (zq (PV.extract rfl rfl) rfl (zq (PV.extract rfl rfl) rfl (za rfl (za rfl (za rfl (zn (TC.seq (zr (zm rfl (zq (PV.not rfl) rfl (zn (TC.condT rfl (zr (zq (PV.fieldAddr rfl Tb.fo_29_0) rfl (zq (PV.loadMid (cs := fmL s f) (off := 0) (k := 1) (vs := [.slice f.p s.W.length f.cp]) rfl Tb.agg_24 m9z rfl rfl) rfl ?_))))))))))))))))
  refine zq (PV.fieldAddr rfl Tb.fo_29_1) rfl (zq (PV.loadMid (cs := fmL s f) (off := 1) (k := 2) (vs := [.slice f.q s.K.length f.cq, .slice f.r s.g.length f.cr]) rfl Tb.agg_27 m9z rfl rfl) rfl ?_)
  refine zq (PV.fieldAddr rfl Tb.fo_29_2) rfl (zq (PV.load (v := .int .i64 s.need) rfl Tb.one_3 m9z rfl) rfl ?_)
  refine TL.call rfl Tb.gofn_51 (fun a w hs => rNew_se (hf.new hs.new) hlg he) rfl dc (fun _ _ => ?_)
  refine zm rfl (zq (PV.extract rfl rfl) rfl (zq (PV.extract rfl rfl) rfl (za rfl (za rfl (zk (zm rfl (zm rfl (zq (PV.yes (PV.eql rfl rfl) rfl) rfl (zm rfl (zm rfl (zq (PV.yes (PV.neq rfl rfl) he) rfl (zq (PV.pickT rfl rfl) rfl (zm rfl (zm rfl (zq (PV.len rfl Tb.sl_68) rfl (zq (PV.yes (PV.eql rfl rfl) rfl) rfl (zq (PV.pickT rfl rfl) rfl (zm rfl (zm rfl (zq (PV.yes (PV.eqS (M := []) rfl rfl) rfl) rfl (zq (PV.pickT rfl rfl) rfl (zm rfl (zm rfl (zq (PV.eqPtr38 rfl) rfl (zq (PV.pickT rfl rfl) rfl (zm rfl (TL.call rfl Tb.gofn_31 (fun a w hs => sane_ok w (hW.new hs.new)) rfl dc (fun _ _ => ?_))))))))))))))))))))))))))))
  refine zq (PV.pickT rfl rfl) rfl (za rfl (zt (TQ.thenR (TQ.retE1 rfl rfl ?_))))
  exact ⟨(), rfl, trivial, nils⟩
set_option maxHeartbeats 2000000 in
theorem BogRuns_l (w0 : World) (hW : WAt w0) (s : St) (f : FV) (hf : FmAt w0 s f) (hw63 : s.W.length ≤ 9223372036854775807) (hk63 : s.K.length ≤ 9223372036854775807) (pl : Option Addr) (cl : Nat) (L : List (List UInt8)) (hL : StrsAt w0 pl L) (hl63 : L.length ≤ 9223372036854775807) (hcl : L.length ≤ cl) (he : s.newI = 0) (hl : 100 < L.length) :
    Calls Tryz.prog 11 #[.agg (fmL s f).toArray, .slice pl L.length cl] w0 (Post (X := Unit) (fun _ => .bool true) (fun _ => True) (fun _ => []) w0) := by
  refine calls Tryz.func11 rfl (n := 124) rfl (by simp) ?_
  refine zr (TL.box rfl rfl dc (fun b0 hb0 => ?_))
  refine za rfl (zn (TC.seq (zr (zq (PV.loadBox (cs := fmL s f) rfl Tb.agg_29 m9z rfl) rfl ?_))))
  refine TL.call rfl Tb.gofn_30 (fun a w hs => Large_s (hf.new hs.new) hw63 hk63) rfl dc (fun _ _ => ?_)
  refine zm rfl (TL.sp 16 rfl (fun hlg => ?_) (fun hlg => ?_))
  refine zx rfl (zx rfl (zq (PV.pickT rfl rfl) rfl (zn (TC.condT rfl (zr (TL.call rfl Tb.gofn_31 (fun a w hs => sane_ok w (hW.new hs.new)) rfl dc (fun _ _ => ?_)))))))
  refine za rfl (zt (TQ.thenR (TQ.retE1 rfl rfl ?_)))
  exact ⟨(), rfl, trivial, nils⟩
  refine zm rfl (TL.call rfl Tb.gofn_35 (fun a w hs => Long_ok w pl cl L (hL.new hs.new) hl63) rfl dc (fun _ _ => ?_))
  refine zq (PV.pickF rfl rfl) rfl (zn (TC.cd rfl (fun hlo => ?_) (fun hlo => ?_)))
  refine zr (TL.call rfl Tb.gofn_31 (fun a w hs => sane_ok w (hW.new hs.new)) rfl dc (fun _ _ => ?_))
  refine za rfl (zt (TQ.thenR (TQ.retE1 rfl rfl ?_)))
  exact ⟨(), rfl, trivial, nils⟩
  refine TC.skip (TQ.thenC (TC.seq ?_))
  obtain ⟨h400, h30, h300, hb400⟩ := few_400 hlo
  refine TC.region (zq (PV.fieldAddr rfl Tb.fo_29_0) rfl (zq (PV.loadMid (cs := fmL s f) (off := 0) (k := 1) (vs := [.slice f.p s.W.length f.cp]) rfl Tb.agg_24 m9z rfl rfl) rfl ?_))
  refine zq (PV.fieldAddr rfl Tb.fo_29_1) rfl (zq (PV.loadMid (cs := fmL s f) (off := 1) (k := 2) (vs := [.slice f.q s.K.length f.cq, .slice f.r s.g.length f.cr]) rfl Tb.agg_27 m9z rfl rfl) rfl ?_)
  refine zq (PV.fieldAddr rfl Tb.fo_29_2) rfl (zq (PV.load (v := .int .i64 s.need) rfl Tb.one_3 m9z rfl) rfl ?_)
  refine zm rfl (TL.callW (X := Unit) (fun _ => .tuple #[.slice none 0 0, str [], .int .i64 3]) (fun _ => True) (fun _ => [(b0, Obj.cells (fmL s f).toArray 29 (0, 0))]) rfl Tb.gofn_50 (fun a w hs => Run_l w0 w _ hs.new hW s f hf hlg pl cl L hL hb400 he hl) rfl dc (fun _ _ => ?_))
  refine zm rfl (zq (PV.extract rfl rfl) rfl (zq (PV.extract rfl rfl) rfl (zq (PV.extract rfl rfl) rfl (za rfl (za rfl (za rfl (zk (zq (PV.loadBox (cs := fmL s f) rfl Tb.agg_29 m9z rfl) rfl ?_))))))))
  refine TL.callW (X := (Nat × CP) × Nat × RQ) (fun y => .tuple #[pt y.1.1, pt y.2.1, .bool true]) (fun y => CPk w0 s (co0 s) y.1.2 ∧ RQk w0 s (co0 s) y.2.2) (fun y => hp0 s (co0 s) y.1.1 y.1.2 ++ (hq0 s (co0 s) y.2.1 y.2.2 ++ [(b0, Obj.cells (fmL s f).toArray 29 (0, 0))])) rfl Tb.gofn_32 (fun a w hs => Begin_y w0 w _ hs.new hW s f hf hlg he) rfl dc (fun y hy => ?_)
  refine zm rfl (zq (PV.extract rfl rfl) rfl (zq (PV.extract rfl rfl) rfl (zq (PV.extract rfl rfl) rfl (za rfl (za rfl (za rfl (zn (TC.seq (zr (zm rfl (zq (PV.not rfl) rfl (zn (TC.condF rfl (TC.skip (TQ.thenC (TC.seq (zr (zm rfl (zq (PV.len rfl Tb.sl_43) rfl (zq (PV.yes (PV.gtr rfl rfl) om) rfl (zn (TC.condT rfl (zr (zm rfl (zq (PV.yes (PV.eql rfl rfl) rfl) rfl (zm rfl (zm rfl (zq (PV.len rfl Tb.sl_68) rfl (zq (PV.yes (PV.eql rfl rfl) rfl) rfl (zq (PV.pickT rfl rfl) rfl (zm rfl (zm rfl (zq (PV.yes (PV.eqS (M := []) rfl rfl) rfl) rfl (zq (PV.pickT rfl rfl) rfl (zm rfl (TL.call rfl Tb.gofn_31 (fun a w hs => sane_ok w (hW.new hs.new)) rfl dc (fun _ _ => ?_)))))))))))))))))))))))))))))))))))))
  refine zq (PV.pickT rfl rfl) rfl (za rfl (zt (TQ.thenR (TQ.retE1 rfl rfl ?_))))
  exact ⟨(), rfl, trivial, nils⟩
set_option maxHeartbeats 2000000 in
theorem BogRuns_y (w0 : World) (hW : WAt w0) (s : St) (f : FV) (hf : FmAt w0 s f) (hw63 : s.W.length ≤ 9223372036854775807) (hk63 : s.K.length ≤ 9223372036854775807) (pl : Option Addr) (cl : Nat) (L : List (List UInt8)) (hL : StrsAt w0 pl L) (hl63 : L.length ≤ 9223372036854775807) (hcl : L.length ≤ cl) (he : s.newI = 0) (hl : ¬ 100 < L.length) :
    Calls Tryz.prog 11 #[.agg (fmL s f).toArray, .slice pl L.length cl] w0 (Post (X := Unit) (fun _ => .bool true) (fun _ => True) (fun _ => []) w0) := by
  have hv : SV s := sv_of he
  refine calls Tryz.func11 rfl (n := 124) rfl (by simp) ?_
  refine zr (TL.box rfl rfl dc (fun b0 hb0 => ?_))
  refine za rfl (zn (TC.seq (zr (zq (PV.loadBox (cs := fmL s f) rfl Tb.agg_29 m9z rfl) rfl ?_))))
  refine TL.call rfl Tb.gofn_30 (fun a w hs => Large_s (hf.new hs.new) hw63 hk63) rfl dc (fun _ _ => ?_)
  refine zm rfl (TL.sp 16 rfl (fun hlg => ?_) (fun hlg => ?_))
  refine zx rfl (zx rfl (zq (PV.pickT rfl rfl) rfl (zn (TC.condT rfl (zr (TL.call rfl Tb.gofn_31 (fun a w hs => sane_ok w (hW.new hs.new)) rfl dc (fun _ _ => ?_)))))))
  refine za rfl (zt (TQ.thenR (TQ.retE1 rfl rfl ?_)))
  exact ⟨(), rfl, trivial, nils⟩
  refine zm rfl (TL.call rfl Tb.gofn_35 (fun a w hs => Long_ok w pl cl L (hL.new hs.new) hl63) rfl dc (fun _ _ => ?_))
  refine zq (PV.pickF rfl rfl) rfl (zn (TC.cd rfl (fun hlo => ?_) (fun hlo => ?_)))
  refine zr (TL.call rfl Tb.gofn_31 (fun a w hs => sane_ok w (hW.new hs.new)) rfl dc (fun _ _ => ?_))
  refine za rfl (zt (TQ.thenR (TQ.retE1 rfl rfl ?_)))
  exact ⟨(), rfl, trivial, nils⟩
  refine TC.skip (TQ.thenC (TC.seq ?_))
  obtain ⟨h400, h30, h300, hb400⟩ := few_400 hlo
  refine TC.region (zq (PV.fieldAddr rfl Tb.fo_29_0) rfl (zq (PV.loadMid (cs := fmL s f) (off := 0) (k := 1) (vs := [.slice f.p s.W.length f.cp]) rfl Tb.agg_24 m9z rfl rfl) rfl ?_))
  refine zq (PV.fieldAddr rfl Tb.fo_29_1) rfl (zq (PV.loadMid (cs := fmL s f) (off := 1) (k := 2) (vs := [.slice f.q s.K.length f.cq, .slice f.r s.g.length f.cr]) rfl Tb.agg_27 m9z rfl rfl) rfl ?_)
  refine zq (PV.fieldAddr rfl Tb.fo_29_2) rfl (zq (PV.load (v := .int .i64 s.need) rfl Tb.one_3 m9z rfl) rfl ?_)
  refine zm rfl (TL.callW (X := Nat) (fun bE => .tuple #[.slice (some ⟨bE, 0, none⟩) L.length L.length, str (bookL dI (stC s L L.length).ords).2, .int .i64 0]) (fun _ => True) (fun bE => (bE, Obj.cells (intsA (esZ s L L.length)) 31 (0, 0)) :: [(b0, Obj.cells (fmL s f).toArray 29 (0, 0))]) rfl Tb.gofn_50 (fun a w hs => Run_y w0 w _ hs.new hW s f hf hlg pl cl L hL hb400 he hl) rfl dc (fun bE _ => ?_))
  refine zm rfl (zq (PV.extract rfl rfl) rfl (zq (PV.extract rfl rfl) rfl (zq (PV.extract rfl rfl) rfl (za rfl (za rfl (za rfl (zk (zq (PV.loadBox (cs := fmL s f) rfl Tb.agg_29 m9z rfl) rfl ?_))))))))
  refine TL.callW (X := (Nat × CP) × Nat × RQ) (fun y => .tuple #[pt y.1.1, pt y.2.1, .bool true]) (fun y => CPk w0 s (co0 s) y.1.2 ∧ RQk w0 s (co0 s) y.2.2) (fun y => hp0 s (co0 s) y.1.1 y.1.2 ++ (hq0 s (co0 s) y.2.1 y.2.2 ++ ((bE, Obj.cells (intsA (esZ s L L.length)) 31 (0, 0)) :: [(b0, Obj.cells (fmL s f).toArray 29 (0, 0))]))) rfl Tb.gofn_32 (fun a w hs => Begin_y w0 w _ hs.new hW s f hf hlg he) rfl dc (fun y hy => ?_)
  refine zm rfl (zq (PV.extract rfl rfl) rfl (zq (PV.extract rfl rfl) rfl (zq (PV.extract rfl rfl) rfl (za rfl (za rfl (za rfl (zn (TC.seq (zr (zm rfl (zq (PV.not rfl) rfl (zn (TC.condF rfl (TC.skip (TQ.thenC (TC.seq (zr (zm rfl (zq (PV.len rfl Tb.sl_43) rfl (zq (PV.no (PV.gtr rfl rfl) om) rfl (zn (TC.condF rfl (TC.skip (TQ.thenC (TC.seq (zr (zm rfl (zq (PV.no (PV.neq rfl rfl) (fun h9 => h9 rfl)) rfl ?_))))))))))))))))))))))))))))
  refine zm rfl (zm rfl (zq (PV.len rfl Tb.sl_68) rfl (zm rfl (zq (PV.len rfl Tb.sl_43) rfl (zq (PV.no (PV.neq rfl rfl) (fun h9 => h9 rfl)) rfl ?_)))))
  refine zq (PV.pickF rfl rfl) rfl (zn (TC.condF rfl (TC.skip (TQ.thenC (TC.seq (zr (za rfl (zn (TC.block (TC.loopK [1, 5, 6, 8] (X := Nat × CP) (fun x => x.1 ≤ L.length ∧ CPk w0 s (stC s L x.1) x.2) (fun x => [(13, .int .i64 (x.1 : Nat))]) (fun x => hp0 s (stC s L x.1) y.1.1 x.2 ++ (hq0 s (co0 s) y.2.1 y.2.2 ++ ((bE, Obj.cells (intsA (esZ s L L.length)) 31 (0, 0)) :: [(b0, Obj.cells (fmL s f).toArray 29 (0, 0))]))) (fun x => L.length - x.1) (0, y.1.2) ⟨Nat.zero_le _, hy.1⟩ l9z (List.Sublist.refl _) ?_))))))))))
  intro x hx
  have hx1 := hx.1
  refine TC.seq (zr (zm rfl (zm rfl (zq (PV.len rfl Tb.sl_43) rfl (zq (PV.lss rfl rfl) rfl (zn (TC.cd rfl (fun hlt => ?_) (fun hlt => ?_))))))))
  refine TC.skip (TQ.thenC (TC.seq (TC.block (TC.seq ?_))))
  obtain ⟨q9, q9p, q9v⟩ := hL x.1 (by omega)
  have hix := stC_inv hv L x.1
  have h40 := hb400 x.1
  refine TC.mixV [true, true, true, true, true, false, true, true, true, true, true] [(bE, Obj.cells (intsA (esZ s L L.length)) 31 (0, 0))] 11 Tb.mixed rfl kr kr kr kr s9z ?_
  refine zv 0 rfl kr (PV.move rfl) rfl (zv 1 rfl kr (PV.move rfl) rfl (zv 2 rfl kr (PV.move rfl) rfl (zv 3 rfl kr (PV.indexA rfl q9p rfl Tb.elm_43 rfl om) rfl (zv 4 rfl kr (PV.loadOld rfl Tb.one_9 q9v) rfl (zv 6 rfl kr (PV.move rfl) rfl (zv 7 rfl kr (PV.move rfl) rfl (zv 8 rfl kr (PV.index1 (j := x.1) rfl rfl Tb.elm_68 rfl om) rfl (zv 9 rfl kr (C.PV.loadIv (xs := esZ s L L.length) (j := x.1) (v := doI s (stC s L x.1) (L.getD x.1 [])) rfl Tb.one_31 m9z (by rw [fillZ_len]; omega) (es_at om)) rfl ?_))))))))
  refine TV.step [5] kr dc rfl ⟨⟨_, rfl, ?_⟩, trivial⟩
  refine TL.callW (X := CP) (fun _ => .int .i64 (doI s (stC s L x.1) (L.getD x.1 []))) (fun p1 => CPk w0 s (doC s (stC s L x.1) (L.getD x.1 [])) p1) (fun p1 => hp0 s (doC s (stC s L x.1) (L.getD x.1 [])) y.1.1 p1 ++ (hq0 s (co0 s) y.2.1 y.2.2 ++ ((bE, Obj.cells (intsA (esZ s L L.length)) 31 (0, 0)) :: [(b0, Obj.cells (fmL s f).toArray 29 (0, 0))]))) rfl Tb.gofn_18 (fun a w hs => Do_p hW hv hix hx.2 hs.new _ om) rfl dc (fun p1 hp1 => ?_)
  refine TL.nil (TV.next (.inl s9z) ?_)
  refine zv 10 rfl kr (PV.no (PV.neq rfl rfl) (fun h9 => h9 rfl)) rfl ?_
  refine TV.done kr ?_
  refine TQ.thenC (TC.condF rfl (TC.skip (TQ.blkN (TQ.thenC (TC.region (zm rfl (zq (PV.add rfl rfl om) rfl (za rfl (TL.nil (TQ.thenN (TQ.backK (x.1 + 1, p1) l9z l9z (by rw [stC_succ om]; exact List.Sublist.refl _) ⟨by simp only; omega, by rw [stC_succ om]; exact hp1⟩ (by simp only; omega))))))))))))
  refine TC.exit (TQ.thenE (TQ.thenE (TQ.blkS (TQ.thenC (TC.seq ?_)))))
  have hke : x.1 = L.length := by omega
  have hix := stC_inv hv L x.1
  refine TC.region (zm rfl (TL.callW (X := Unit) (fun _ => str (bookL dI (stC s L x.1).ords).2) (fun _ => True) (fun _ => hp0 s (stC s L x.1) y.1.1 x.2 ++ (hq0 s (co0 s) y.2.1 y.2.2 ++ ((bE, Obj.cells (intsA (esZ s L L.length)) 31 (0, 0)) :: [(b0, Obj.cells (fmL s f).toArray 29 (0, 0))]))) rfl Tb.gofn_28 (fun a w hs => Book_p hW hv hix hx.2 hs.new) rfl dc (fun _ _ => ?_)))
  refine zm rfl (zq (PV.yes (PV.eqS rfl rfl) (by rw [hke])) rfl ?_)
  refine zm rfl (TL.call rfl Tb.gofn_31 (fun a w hs => sane_ok w (hW.new hs.new)) rfl dc (fun _ _ => ?_))
  refine zq (PV.pickT rfl rfl) rfl (za rfl (zt (TQ.retE1 rfl rfl ?_)))
  exact ⟨(), rfl, trivial, nils⟩
theorem BogRuns_ok (w0 : World) (hW : WAt w0) (s : St) (f : FV) (hf : FmAt w0 s f) (hw63 : s.W.length ≤ 9223372036854775807) (hk63 : s.K.length ≤ 9223372036854775807) (pl : Option Addr) (cl : Nat) (L : List (List UInt8)) (hL : StrsAt w0 pl L) (hl63 : L.length ≤ 9223372036854775807) (hcl : L.length ≤ cl) :
    Calls Tryz.prog 11 #[.agg (fmL s f).toArray, .slice pl L.length cl] w0 (Post (X := Unit) (fun _ => .bool true) (fun _ => True) (fun _ => []) w0) := by
  by_cases he : s.newI = 0
  · by_cases hl : 100 < L.length
    · exact BogRuns_l w0 hW s f hf hw63 hk63 pl cl L hL hl63 hcl he hl
    · exact BogRuns_y w0 hW s f hf hw63 hk63 pl cl L hL hl63 hcl he hl
  · exact BogRuns_e w0 hW s f hf hw63 hk63 pl cl L hL hl63 hcl he
end Go.Proofs.YtbnjmkidbfmomaaGreatDoor
