/- The law Refuses: contract. -/
import Derived.Test.YtbnjmkidbfmomaaGreatDoorQ35
set_option linter.unusedVariables false
set_option linter.unusedSimpArgs false
set_option maxRecDepth 100000
namespace Go.Proofs.YtbnjmkidbfmomaaGreatDoor
open Go.Sx Go.RowKit Go.Bt Go.Lib Go.Sand
set_option maxHeartbeats 2000000 in
theorem BogRefuses_ok_e (w0 : World) (hW : WAt w0) (s : St) (f : FV) (hf : FmAt w0 s f) (hw63 : s.W.length ≤ 9223372036854775807) (hk63 : s.K.length ≤ 9223372036854775807) (pl : Option Addr) (cl : Nat) (L : List (List UInt8)) (hL : StrsAt w0 pl L) (hl63 : L.length ≤ 9223372036854775807) (hcl : L.length ≤ cl) (o : List UInt8) (he : s.newI ≠ 0) :
    Calls Tryz.prog 12 #[.agg (fmL s f).toArray, .slice pl L.length cl, str o] w0 (Post (X := Unit) (fun _ => .bool true) (fun _ => True) (fun _ => []) w0) := by
  refine calls Tryz.func12 rfl (n := 74) rfl (by simp) ?_
  refine zr (TL.box rfl rfl dc (fun b0 hb0 => ?_))
  refine za rfl (zn (TC.seq (zr (zq (PV.loadBox (cs := fmL s f) rfl Tb.agg_29 m9z rfl) rfl ?_))))
  refine TL.call rfl Tb.gofn_30 (fun a w hs => Large_s (hf.new hs.new) hw63 hk63) rfl dc (fun _ _ => ?_)
  refine zm rfl (TL.sp 14 rfl (fun hlg => ?_) (fun hlg => ?_))
  refine zx rfl (zx rfl (zq (PV.pickT rfl rfl) rfl (zm rfl (zx rfl (zx rfl (zx rfl (zq (PV.pickT rfl rfl) rfl (zn (TC.condT rfl (zr (TL.call rfl Tb.gofn_31 (fun a w hs => sane_ok w (hW.new hs.new)) rfl dc (fun _ _ => ?_))))))))))))
  refine za rfl (zt (TQ.thenR (TQ.retE1 rfl rfl ?_)))
  exact ⟨(), rfl, trivial, nils⟩
  refine zm rfl (TL.call rfl Tb.gofn_35 (fun a w hs => Long_ok w pl cl L (hL.new hs.new) hl63) rfl dc (fun _ _ => ?_))
  refine zq (PV.pickF rfl rfl) rfl (zm rfl (TL.sp 18 rfl (fun hlo => ?_) (fun hlo => ?_)))
  refine zx rfl (zx rfl (zx rfl (zq (PV.pickT rfl rfl) rfl (zn (TC.condT rfl (zr (TL.call rfl Tb.gofn_31 (fun a w hs => sane_ok w (hW.new hs.new)) rfl dc (fun _ _ => ?_))))))))
  refine za rfl (zt (TQ.thenR (TQ.retE1 rfl rfl ?_)))
  exact ⟨(), rfl, trivial, nils⟩
  refine zm rfl (zq (PV.lenS rfl Tb.str_9) rfl (zq (PV.gtr rfl rfl) rfl (zq (PV.pickF rfl rfl) rfl (zn (TC.cd rfl (fun hol => ?_) (fun hol => ?_))))))
  refine zr (TL.call rfl Tb.gofn_31 (fun a w hs => sane_ok w (hW.new hs.new)) rfl dc (fun _ _ => ?_))
  refine za rfl (zt (TQ.thenR (TQ.retE1 rfl rfl ?_)))
  exact ⟨(), rfl, trivial, nils⟩
  refine TC.skip (TQ.thenC (zr (zq (PV.loadBox (cs := fmL s f) rfl Tb.agg_29 m9z rfl) rfl ?_)))
  refine TL.call rfl Tb.gofn_32 (fun a w hs => Begin_e w (hW.new hs.new) s f (hf.new hs.new) hlg he) rfl dc (fun _ _ => ?_)
  refine zm rfl (zq (PV.extract rfl rfl) rfl (zq (PV.extract rfl rfl) rfl (zq (PV.extract rfl rfl) rfl (za rfl (za rfl (za rfl (zn (TC.seq (zr (zm rfl (zq (PV.not rfl) rfl (zn (TC.condT rfl (zr (zq (PV.loadBox (cs := fmL s f) rfl Tb.agg_29 m9z rfl) rfl ?_)))))))))))))))
  refine TL.call rfl Tb.gofn_33 (fun a w hs => failed_ok w (hW.new hs.new) s f (hf.new hs.new) hlg he) rfl dc (fun _ _ => ?_)
  refine za rfl (zt (TQ.thenR (TQ.retE1 rfl rfl ?_)))
  exact ⟨(), rfl, trivial, nils⟩
set_option maxHeartbeats 2000000 in
theorem BogRefuses_ok_y (w0 : World) (hW : WAt w0) (s : St) (f : FV) (hf : FmAt w0 s f) (hw63 : s.W.length ≤ 9223372036854775807) (hk63 : s.K.length ≤ 9223372036854775807) (pl : Option Addr) (cl : Nat) (L : List (List UInt8)) (hL : StrsAt w0 pl L) (hl63 : L.length ≤ 9223372036854775807) (hcl : L.length ≤ cl) (o : List UInt8) (he : s.newI = 0) :
    Calls Tryz.prog 12 #[.agg (fmL s f).toArray, .slice pl L.length cl, str o] w0 (Post (X := Unit) (fun _ => .bool true) (fun _ => True) (fun _ => []) w0) := by
  have hv : SV s := sv_of he
  refine calls Tryz.func12 rfl (n := 74) rfl (by simp) ?_
  refine zr (TL.box rfl rfl dc (fun b0 hb0 => ?_))
  refine za rfl (zn (TC.seq (zr (zq (PV.loadBox (cs := fmL s f) rfl Tb.agg_29 m9z rfl) rfl ?_))))
  refine TL.call rfl Tb.gofn_30 (fun a w hs => Large_s (hf.new hs.new) hw63 hk63) rfl dc (fun _ _ => ?_)
  refine zm rfl (TL.sp 14 rfl (fun hlg => ?_) (fun hlg => ?_))
  refine zx rfl (zx rfl (zq (PV.pickT rfl rfl) rfl (zm rfl (zx rfl (zx rfl (zx rfl (zq (PV.pickT rfl rfl) rfl (zn (TC.condT rfl (zr (TL.call rfl Tb.gofn_31 (fun a w hs => sane_ok w (hW.new hs.new)) rfl dc (fun _ _ => ?_))))))))))))
  refine za rfl (zt (TQ.thenR (TQ.retE1 rfl rfl ?_)))
  exact ⟨(), rfl, trivial, nils⟩
  refine zm rfl (TL.call rfl Tb.gofn_35 (fun a w hs => Long_ok w pl cl L (hL.new hs.new) hl63) rfl dc (fun _ _ => ?_))
  refine zq (PV.pickF rfl rfl) rfl (zm rfl (TL.sp 18 rfl (fun hlo => ?_) (fun hlo => ?_)))
  refine zx rfl (zx rfl (zx rfl (zq (PV.pickT rfl rfl) rfl (zn (TC.condT rfl (zr (TL.call rfl Tb.gofn_31 (fun a w hs => sane_ok w (hW.new hs.new)) rfl dc (fun _ _ => ?_))))))))
  refine za rfl (zt (TQ.thenR (TQ.retE1 rfl rfl ?_)))
  exact ⟨(), rfl, trivial, nils⟩
  refine zm rfl (zq (PV.lenS rfl Tb.str_9) rfl (zq (PV.gtr rfl rfl) rfl (zq (PV.pickF rfl rfl) rfl (zn (TC.cd rfl (fun hol => ?_) (fun hol => ?_))))))
  refine zr (TL.call rfl Tb.gofn_31 (fun a w hs => sane_ok w (hW.new hs.new)) rfl dc (fun _ _ => ?_))
  refine za rfl (zt (TQ.thenR (TQ.retE1 rfl rfl ?_)))
  exact ⟨(), rfl, trivial, nils⟩
  refine TC.skip (TQ.thenC (zr (zq (PV.loadBox (cs := fmL s f) rfl Tb.agg_29 m9z rfl) rfl ?_)))
  refine TL.callW (X := (Nat × CP) × Nat × RQ) (fun y => .tuple #[pt y.1.1, pt y.2.1, .bool true]) (fun y => CPk w0 s (co0 s) y.1.2 ∧ RQk w0 s (co0 s) y.2.2) (fun y => hp0 s (co0 s) y.1.1 y.1.2 ++ (hq0 s (co0 s) y.2.1 y.2.2 ++ [(b0, Obj.cells (fmL s f).toArray 29 (0, 0))])) rfl Tb.gofn_32 (fun a w hs => Begin_y w0 w _ hs.new hW s f hf hlg he) rfl dc (fun y hy => ?_)
  refine zm rfl (zq (PV.extract rfl rfl) rfl (zq (PV.extract rfl rfl) rfl (zq (PV.extract rfl rfl) rfl (za rfl (za rfl (za rfl (zn (TC.seq (zr (zm rfl (zq (PV.not rfl) rfl (zn (TC.condF rfl (TC.skip (TQ.thenC (TC.seq (TC.seq ?_)))))))))))))))))
  obtain ⟨h400, h30, h300, hb400⟩ := few_400 hlo
  have hif := stC_inv hv (L.take 30) (L.take 30).length
  refine TC.region (zm rfl (zm rfl (zm rfl (TL.callW (X := Option Addr × Nat × Heap) (fun z => .slice z.1 (L.take 30).length z.2.1) (fun z => (∀ w9, New w0 w9 z.2.2 → StrsAt w9 z.1 (L.take 30)) ∧ ∀ k, k < (L.take 30).length → ∃ q, z.1 = some q ∧ ∀ w8, New w0 w8 z.2.2 → w8.cell? (q.add (k * 1)) = some (str ((L.take 30).getD k []))) (fun z => hp0 s (co0 s) y.1.1 y.1.2 ++ (hq0 s (co0 s) y.2.1 y.2.2 ++ (z.2.2 ++ [(b0, Obj.cells (fmL s f).toArray 29 (0, 0))]))) rfl Tb.gofn_36 (fun a w hs => few_w hs.new pl cl L hL hcl) rfl dc (fun z hz => ?_)))))
  refine TL.callW (X := CP × RQ) (fun _ => .bool true) (fun v => CPk w0 s (stC s (L.take 30) (L.take 30).length) v.1 ∧ RQk w0 s (stC s (L.take 30) (L.take 30).length) v.2) (fun v => hp0 s (stC s (L.take 30) (L.take 30).length) y.1.1 v.1 ++ (hq0 s (stC s (L.take 30) (L.take 30).length) y.2.1 v.2 ++ (z.2.2 ++ [(b0, Obj.cells (fmL s f).toArray 29 (0, 0))]))) rfl Tb.gofn_39 (fun a w hs => all_ok hW hv hy.1 hy.2 hs.new z.1 z.2.1 (L.take 30) z.2.2 (List.sublist_append_left _ _) hz.1 h400 om) rfl dc (fun v hvv => ?_)
  refine zq (PV.not rfl) rfl (zn (TC.condF rfl (TC.skip (TQ.thenC (TC.seq (zr (zm rfl (zm rfl (TL.callW (X := CP) (fun _ => .int .i64 (doI s (stC s (L.take 30) (L.take 30).length) o)) (fun p1 => CPk w0 s (doC s (stC s (L.take 30) (L.take 30).length) o) p1) (fun p1 => hp0 s (doC s (stC s (L.take 30) (L.take 30).length) o) y.1.1 p1 ++ (hq0 s (stC s (L.take 30) (L.take 30).length) y.2.1 v.2 ++ (z.2.2 ++ [(b0, Obj.cells (fmL s f).toArray 29 (0, 0))]))) rfl Tb.gofn_18 (fun a w hs => Do_p hW hv hif hvv.1 hs.new _ om) rfl dc (fun p1 hp1 => ?_))))))))))
  refine zq (PV.neq rfl rfl) rfl (zn (TC.cd rfl (fun hne => ?_) (fun hne => ?_)))
  rw [doC_no hne] at hp1
  refine TC.congrG (G' := hp0 s (stC s (L.take 30) (L.take 30).length) y.1.1 p1 ++ (hq0 s (stC s (L.take 30) (L.take 30).length) y.2.1 v.2 ++ (z.2.2 ++ [(b0, Obj.cells (fmL s f).toArray 29 (0, 0))]))) (by rw [doC_no hne]) ?_
  refine zr (zm rfl (zm rfl (TL.callW (X := Unit) (fun _ => .bool true) (fun _ => True) (fun _ => hp0 s (stC s (L.take 30) (L.take 30).length) y.1.1 p1 ++ (hq0 s (stC s (L.take 30) (L.take 30).length) y.2.1 v.2 ++ (z.2.2 ++ [(b0, Obj.cells (fmL s f).toArray 29 (0, 0))]))) rfl Tb.gofn_34 (fun a w hs => Equal_ok hW hv hif hp1 hvv.2 hs.new) rfl dc (fun _ _ => ?_))))
  refine zm rfl (TL.call rfl Tb.gofn_31 (fun a w hs => sane_ok w (hW.new hs.new)) rfl dc (fun _ _ => ?_))
  refine zq (PV.pickT rfl rfl) rfl (za rfl (zt (TQ.thenR (TQ.retE1 rfl rfl ?_))))
  exact ⟨(), rfl, trivial, nils⟩
  have hne0 := Decidable.not_not.1 hne
  have hio := hif.any o hv
  have hoo := doC_ords hne0
  have hol9 := hif.ol
  refine TC.congrG (G' := hp0 s (doC s (stC s (L.take 30) (L.take 30).length) o) y.1.1 p1 ++ (rcB y.2.1 s v.2.u (stC s (L.take 30) (L.take 30).length) v.2.v v.2.ho :: rcH (stC s (L.take 30) (L.take 30).length) v.2.v :: (gbI (v.2.v.ht, (stC s (L.take 30) (L.take 30).length).tur) ++ (gbR stR 9 v.2.ho (stC s (L.take 30) (L.take 30).length).ords ++ (v.2.Z ++ (z.2.2 ++ [(b0, Obj.cells (fmL s f).toArray 29 (0, 0))])))))) (by rw [hq0_r]) ?_
  refine TC.skip (TQ.thenC (zr (zm rfl (TL.callW (X := Unit) (fun _ => str (bookL dI (doC s (stC s (L.take 30) (L.take 30).length) o).ords).2) (fun _ => True) (fun _ => hp0 s (doC s (stC s (L.take 30) (L.take 30).length) o) y.1.1 p1 ++ (rcB y.2.1 s v.2.u (stC s (L.take 30) (L.take 30).length) v.2.v v.2.ho :: rcH (stC s (L.take 30) (L.take 30).length) v.2.v :: (gbI (v.2.v.ht, (stC s (L.take 30) (L.take 30).length).tur) ++ (gbR stR 9 v.2.ho (stC s (L.take 30) (L.take 30).length).ords ++ (v.2.Z ++ (z.2.2 ++ [(b0, Obj.cells (fmL s f).toArray 29 (0, 0))])))))) rfl Tb.gofn_28 (fun a w hs => Book_p hW hv hio hp1 hs.new) rfl dc (fun _ _ => ?_)))))
  refine TL.call rfl Tb.gofn_43 (fun a w hs => read_c w (hW.new hs.new) hio) rfl dc (fun hr hhr => ?_)
  refine zm rfl (zq (PV.extract rfl rfl) rfl (zq (PV.extract rfl rfl) rfl (za rfl (za rfl (zk (zm rfl (zq (PV.yes (PV.eqS (M := []) rfl rfl) rfl) rfl (zm rfl (zm rfl (TL.buildSlice0 Tb.sl_43 Tb.zi_9 rfl dc (fun bE hbE => ?_)))))))))))
  refine zm rfl (zq (PV.nilCheck rfl) rfl (zq (PV.fieldAddr rfl Tb.fo_54_12) rfl (zq (PV.load (v := .slice (gp v.2.ho) (stC s (L.take 30) (L.take 30).length).ords.length (gc v.2.ho)) rfl Tb.one_43 m9z (by show some (gval v.2.ho (stC s (L.take 30) (L.take 30).length).ords.length) = _; rw [ords_len hvv.2.go])) rfl ?_)))
  refine TL.append0 (news := rcs stR (stC s (L.take 30) (L.take 30).length).ords) rfl rfl Tb.sl_43 Tb.zi_9 rfl (Take.head _) (fun w' hN => strs_src Tb.sl_43 rfl (ords_at hN r9z hvv.2.go)) om om rfl dc (fun h1 hh1 => ?_)
  refine zm rfl (TL.buildSlice (cs := #[str o]) rfl Tb.sl_43 Tb.zi_9 dc (fill_s o) dc rfl dc (fun bI hbI => ?_))
  refine TL.appendRec (R := stR) (h0 := h1) (ys := (stC s (L.take 30) (L.take 30).length).ords) (r := o) Tb.sl_43 Tb.zi_9 rfl rfl rfl m9z hh1 h9z om om rfl dc (fun h9 ho9 => ?_)
  refine TL.call rfl Tb.gofn_45 (fun a w hs => sameT_g w _ _ (doC s (stC s (L.take 30) (L.take 30).length) o).ords (ords_at hs.new r9z hhr) h9 ((stC s (L.take 30) (L.take 30).length).ords ++ [o]) ho9 (ords_at hs.new r9z ho9) (by have := hio.ol; omega) hoo) rfl dc (fun _ _ => ?_)
  refine zq (PV.pickT rfl rfl) rfl (zm rfl (TL.call rfl Tb.gofn_31 (fun a w hs => sane_ok w (hW.new hs.new)) rfl dc (fun _ _ => ?_)))
  refine zq (PV.pickT rfl rfl) rfl (za rfl (zt (TQ.retE1 rfl rfl ?_)))
  exact ⟨(), rfl, trivial, nils⟩
theorem BogRefuses_ok (w0 : World) (hW : WAt w0) (s : St) (f : FV) (hf : FmAt w0 s f) (hw63 : s.W.length ≤ 9223372036854775807) (hk63 : s.K.length ≤ 9223372036854775807) (pl : Option Addr) (cl : Nat) (L : List (List UInt8)) (hL : StrsAt w0 pl L) (hl63 : L.length ≤ 9223372036854775807) (hcl : L.length ≤ cl) (o : List UInt8) :
    Calls Tryz.prog 12 #[.agg (fmL s f).toArray, .slice pl L.length cl, str o] w0 (Post (X := Unit) (fun _ => .bool true) (fun _ => True) (fun _ => []) w0) := by
  by_cases he : s.newI = 0
  · exact BogRefuses_ok_y w0 hW s f hf hw63 hk63 pl cl L hL hl63 hcl o he
  · exact BogRefuses_ok_e w0 hW s f hf hw63 hk63 pl cl L hL hl63 hcl o he
end Go.Proofs.YtbnjmkidbfmomaaGreatDoor
