/- The law Balances: contract. -/
import Derived.Test.YtbnjmkidbfmomaaGreatDoorV33
set_option linter.unusedVariables false
set_option linter.unusedSimpArgs false
set_option maxRecDepth 100000
namespace Go.Proofs.YtbnjmkidbfmomaaGreatDoor
open Go.Sx Go.RowKit Go.Bt Go.Lib Go.Sand
set_option maxHeartbeats 2000000 in
theorem BogBalances_ok_e (w0 : World) (hW : WAt w0) (s : St) (f : FV) (hf : FmAt w0 s f) (hw63 : s.W.length ≤ 9223372036854775807) (hk63 : s.K.length ≤ 9223372036854775807) (pl : Option Addr) (cl : Nat) (L : List (List UInt8)) (hL : StrsAt w0 pl L) (hl63 : L.length ≤ 9223372036854775807) (hcl : L.length ≤ cl) (he : s.newI ≠ 0) :
    Calls Tryz.prog 6 #[.agg (fmL s f).toArray, .slice pl L.length cl] w0 (Post (X := Unit) (fun _ => .bool true) (fun _ => True) (fun _ => []) w0) := by
  refine calls Tryz.func6 rfl (n := 45) rfl (by simp) ?_
  refine zr (TL.box rfl rfl dc (fun b0 hb0 => ?_))
  refine za rfl (zn (TC.seq (zr (zq (PV.loadBox (cs := fmL s f) rfl Tb.agg_29 m9z rfl) rfl ?_))))
  refine TL.call rfl Tb.gofn_30 (fun a w hs => Large_s (hf.new hs.new) hw63 hk63) rfl dc (fun _ _ => ?_)
  refine zm rfl (TL.sp 11 rfl (fun hlg => ?_) (fun hlg => ?_))
  refine zx rfl (zx rfl (zq (PV.pickT rfl rfl) rfl (zn (TC.condT rfl (zr (TL.call rfl Tb.gofn_31 (fun a w hs => sane_ok w (hW.new hs.new)) rfl dc (fun _ _ => ?_)))))))
  refine za rfl (zt (TQ.thenR (TQ.retE1 rfl rfl ?_)))
  exact ⟨(), rfl, trivial, nils⟩
  refine zm rfl (TL.call rfl Tb.gofn_35 (fun a w hs => Long_ok w pl cl L (hL.new hs.new) hl63) rfl dc (fun _ _ => ?_))
  refine zq (PV.pickF rfl rfl) rfl (zn (TC.cd rfl (fun hlo => ?_) (fun hlo => ?_)))
  refine zr (TL.call rfl Tb.gofn_31 (fun a w hs => sane_ok w (hW.new hs.new)) rfl dc (fun _ _ => ?_))
  refine za rfl (zt (TQ.thenR (TQ.retE1 rfl rfl ?_)))
  exact ⟨(), rfl, trivial, nils⟩
  refine TC.skip (TQ.thenC (zr (zq (PV.loadBox (cs := fmL s f) rfl Tb.agg_29 m9z rfl) rfl ?_)))
  refine TL.call rfl Tb.gofn_32 (fun a w hs => Begin_e w (hW.new hs.new) s f (hf.new hs.new) hlg he) rfl dc (fun _ _ => ?_)
  refine zm rfl (zq (PV.extract rfl rfl) rfl (zq (PV.extract rfl rfl) rfl (zq (PV.extract rfl rfl) rfl (za rfl (za rfl (za rfl (zn (TC.seq (zr (zm rfl (zq (PV.not rfl) rfl (zn (TC.condT rfl (zr (zq (PV.loadBox (cs := fmL s f) rfl Tb.agg_29 m9z rfl) rfl ?_)))))))))))))))
  refine TL.call rfl Tb.gofn_33 (fun a w hs => failed_ok w (hW.new hs.new) s f (hf.new hs.new) hlg he) rfl dc (fun _ _ => ?_)
  refine za rfl (zt (TQ.thenR (TQ.retE1 rfl rfl ?_)))
  exact ⟨(), rfl, trivial, nils⟩
set_option maxHeartbeats 2000000 in
theorem BogBalances_ok_y (w0 : World) (hW : WAt w0) (s : St) (f : FV) (hf : FmAt w0 s f) (hw63 : s.W.length ≤ 9223372036854775807) (hk63 : s.K.length ≤ 9223372036854775807) (pl : Option Addr) (cl : Nat) (L : List (List UInt8)) (hL : StrsAt w0 pl L) (hl63 : L.length ≤ 9223372036854775807) (hcl : L.length ≤ cl) (he : s.newI = 0) :
    Calls Tryz.prog 6 #[.agg (fmL s f).toArray, .slice pl L.length cl] w0 (Post (X := Unit) (fun _ => .bool true) (fun _ => True) (fun _ => []) w0) := by
  have hv : SV s := sv_of he
  refine calls Tryz.func6 rfl (n := 45) rfl (by simp) ?_
  refine zr (TL.box rfl rfl dc (fun b0 hb0 => ?_))
  refine za rfl (zn (TC.seq (zr (zq (PV.loadBox (cs := fmL s f) rfl Tb.agg_29 m9z rfl) rfl ?_))))
  refine TL.call rfl Tb.gofn_30 (fun a w hs => Large_s (hf.new hs.new) hw63 hk63) rfl dc (fun _ _ => ?_)
  refine zm rfl (TL.sp 11 rfl (fun hlg => ?_) (fun hlg => ?_))
  refine zx rfl (zx rfl (zq (PV.pickT rfl rfl) rfl (zn (TC.condT rfl (zr (TL.call rfl Tb.gofn_31 (fun a w hs => sane_ok w (hW.new hs.new)) rfl dc (fun _ _ => ?_)))))))
  refine za rfl (zt (TQ.thenR (TQ.retE1 rfl rfl ?_)))
  exact ⟨(), rfl, trivial, nils⟩
  refine zm rfl (TL.call rfl Tb.gofn_35 (fun a w hs => Long_ok w pl cl L (hL.new hs.new) hl63) rfl dc (fun _ _ => ?_))
  refine zq (PV.pickF rfl rfl) rfl (zn (TC.cd rfl (fun hlo => ?_) (fun hlo => ?_)))
  refine zr (TL.call rfl Tb.gofn_31 (fun a w hs => sane_ok w (hW.new hs.new)) rfl dc (fun _ _ => ?_))
  refine za rfl (zt (TQ.thenR (TQ.retE1 rfl rfl ?_)))
  exact ⟨(), rfl, trivial, nils⟩
  refine TC.skip (TQ.thenC (zr (zq (PV.loadBox (cs := fmL s f) rfl Tb.agg_29 m9z rfl) rfl ?_)))
  refine TL.callW (X := (Nat × CP) × Nat × RQ) (fun y => .tuple #[pt y.1.1, pt y.2.1, .bool true]) (fun y => CPk w0 s (co0 s) y.1.2 ∧ RQk w0 s (co0 s) y.2.2) (fun y => hp0 s (co0 s) y.1.1 y.1.2 ++ (hq0 s (co0 s) y.2.1 y.2.2 ++ [(b0, Obj.cells (fmL s f).toArray 29 (0, 0))])) rfl Tb.gofn_32 (fun a w hs => Begin_y w0 w _ hs.new hW s f hf hlg he) rfl dc (fun y hy => ?_)
  refine zm rfl (zq (PV.extract rfl rfl) rfl (zq (PV.extract rfl rfl) rfl (zq (PV.extract rfl rfl) rfl (za rfl (za rfl (za rfl (zn (TC.seq (zr (zm rfl (zq (PV.not rfl) rfl (zn (TC.condF rfl (TC.skip (TQ.thenC (zr (zm rfl (TL.callW (X := Option Addr × Nat × Heap) (fun z => .slice z.1 (L.take 30).length z.2.1) (fun z => (∀ w9, New w0 w9 z.2.2 → StrsAt w9 z.1 (L.take 30)) ∧ ∀ k, k < (L.take 30).length → ∃ q, z.1 = some q ∧ ∀ w8, New w0 w8 z.2.2 → w8.cell? (q.add (k * 1)) = some (str ((L.take 30).getD k []))) (fun z => hp0 s (co0 s) y.1.1 y.1.2 ++ (hq0 s (co0 s) y.2.1 y.2.2 ++ (z.2.2 ++ [(b0, Obj.cells (fmL s f).toArray 29 (0, 0))]))) rfl Tb.gofn_36 (fun a w hs => few_w hs.new pl cl L hL hcl) rfl dc (fun z hz => ?_)))))))))))))))))))
  refine za rfl (zn (TC.seq (TC.seq ?_)))
  obtain ⟨h400, h30, h300, hb400⟩ := few_400 hlo
  refine TC.region (za rfl (zn (TC.block (TC.loopK [1, 2, 5] (X := Nat × CP) (fun x => x.1 ≤ (L.take 30).length ∧ CPk w0 s (stC s (L.take 30) x.1) x.2) (fun x => [(8, .int .i64 (x.1 : Nat))]) (fun x => hp0 s (stC s (L.take 30) x.1) y.1.1 x.2 ++ (hq0 s (co0 s) y.2.1 y.2.2 ++ (z.2.2 ++ [(b0, Obj.cells (fmL s f).toArray 29 (0, 0))]))) (fun x => (L.take 30).length - x.1) (0, y.1.2) ⟨Nat.zero_le _, hy.1⟩ l9z (List.Sublist.refl _) ?_))))
  intro x hx
  have hx1 := hx.1
  refine TC.seq (zr (zm rfl (zm rfl (zq (PV.len rfl Tb.sl_43) rfl (zq (PV.lss rfl rfl) rfl (zn (TC.cd rfl (fun hlt => ?_) (fun hlt => ?_))))))))
  refine TC.skip (TQ.thenC (TC.seq (TC.block (TC.seq ?_))))
  obtain ⟨q9, q9p, q9v⟩ := hz.2 x.1 (by omega)
  have hix := stC_inv hv (L.take 30) x.1
  have hid := hix.any ((L.take 30).getD x.1 []) hv
  have hlo1 := h400 x.1
  refine TC.region (zm rfl (zm rfl (zm rfl (zq (PV.indexA rfl q9p rfl Tb.elm_43 rfl om) rfl (zq (PV.loadN rfl Tb.one_9 ((List.sublist_append_left _ _).trans ((List.sublist_append_right _ _).trans (List.sublist_append_right _ _))) q9v) rfl ?_)))))
  refine TL.callW (X := CP) (fun _ => .int .i64 (doI s (stC s (L.take 30) x.1) ((L.take 30).getD x.1 []))) (fun p1 => CPk w0 s (doC s (stC s (L.take 30) x.1) ((L.take 30).getD x.1 [])) p1) (fun p1 => hp0 s (doC s (stC s (L.take 30) x.1) ((L.take 30).getD x.1 [])) y.1.1 p1 ++ (hq0 s (co0 s) y.2.1 y.2.2 ++ (z.2.2 ++ [(b0, Obj.cells (fmL s f).toArray 29 (0, 0))]))) rfl Tb.gofn_18 (fun a w hs => Do_p hW hv hix hx.2 hs.new _ om) rfl dc (fun p1 hp1 => ?_)
  refine zk (zm rfl (zq (PV.loadBox (cs := fmL s f) rfl Tb.agg_29 m9z rfl) rfl ?_))
  refine TL.callW (X := Unit) (fun _ => .bool true) (fun _ => True) (fun _ => hp0 s (doC s (stC s (L.take 30) x.1) ((L.take 30).getD x.1 [])) y.1.1 p1 ++ (hq0 s (co0 s) y.2.1 y.2.2 ++ (z.2.2 ++ [(b0, Obj.cells (fmL s f).toArray 29 (0, 0))]))) rfl Tb.gofn_38 (fun a w hs => Balanced_ok hv hid hp1 hf hs.new) rfl dc (fun _ _ => ?_)
  refine zq (PV.not rfl) rfl (zn (TC.condF rfl (TC.skip (TQ.blkN (TQ.thenC (TC.region (zm rfl (zq (PV.add rfl rfl om) rfl (za rfl (TL.nil (TQ.thenN (TQ.backK (x.1 + 1, p1) l9z l9z (by rw [stC_succ om]; exact List.Sublist.refl _) ⟨by simp only; omega, by rw [stC_succ om]; exact hp1⟩ (by simp only; omega)))))))))))))
  refine TC.exit (TQ.thenE (TQ.thenE (TQ.blkS (TQ.thenC (zr (TL.call rfl Tb.gofn_31 (fun a w hs => sane_ok w (hW.new hs.new)) rfl dc (fun _ _ => ?_)))))))
  refine za rfl (zt (TQ.retE1 rfl rfl ?_))
  exact ⟨(), rfl, trivial, nils⟩
theorem BogBalances_ok (w0 : World) (hW : WAt w0) (s : St) (f : FV) (hf : FmAt w0 s f) (hw63 : s.W.length ≤ 9223372036854775807) (hk63 : s.K.length ≤ 9223372036854775807) (pl : Option Addr) (cl : Nat) (L : List (List UInt8)) (hL : StrsAt w0 pl L) (hl63 : L.length ≤ 9223372036854775807) (hcl : L.length ≤ cl) :
    Calls Tryz.prog 6 #[.agg (fmL s f).toArray, .slice pl L.length cl] w0 (Post (X := Unit) (fun _ => .bool true) (fun _ => True) (fun _ => []) w0) := by
  by_cases he : s.newI = 0
  · exact BogBalances_ok_y w0 hW s f hf hw63 hk63 pl cl L hL hl63 hcl he
  · exact BogBalances_ok_e w0 hW s f hf hw63 hk63 pl cl L hL hl63 hcl he
end Go.Proofs.YtbnjmkidbfmomaaGreatDoor
