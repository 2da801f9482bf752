/- The law Hollows: contract. -/
import Derived.Test.YtbnjmkidbfmomaaGreatDoorV33
set_option linter.unusedVariables false
set_option linter.unusedSimpArgs false
set_option maxRecDepth 100000
namespace Go.Proofs.YtbnjmkidbfmomaaGreatDoor
open Go.Sx Go.RowKit Go.Bt Go.Lib Go.Sand
set_option maxHeartbeats 2000000 in
theorem BogHollows_ok_e (w0 : World) (hW : WAt w0) (s : St) (f : FV) (hf : FmAt w0 s f) (hw63 : s.W.length ≤ 9223372036854775807) (hk63 : s.K.length ≤ 9223372036854775807) (pl : Option Addr) (cl : Nat) (L : List (List UInt8)) (hL : StrsAt w0 pl L) (hl63 : L.length ≤ 9223372036854775807) (hcl : L.length ≤ cl) (he : s.newI ≠ 0) :
    Calls Tryz.prog 14 #[.agg (fmL s f).toArray, .slice pl L.length cl] w0 (Post (X := Unit) (fun _ => .bool true) (fun _ => True) (fun _ => []) w0) := by
  refine calls Tryz.func14 rfl (n := 71) rfl (by simp) ?_
  refine zr (TL.box rfl rfl dc (fun b0 hb0 => ?_))
  refine za rfl (zn (TC.seq (zr (zq (PV.loadBox (cs := fmL s f) rfl Tb.agg_29 m9z rfl) rfl ?_))))
  refine TL.call rfl Tb.gofn_30 (fun a w hs => Large_s (hf.new hs.new) hw63 hk63) rfl dc (fun _ _ => ?_)
  refine zm rfl (TL.sp 13 rfl (fun hlg => ?_) (fun hlg => ?_))
  refine zx rfl (zx rfl (zq (PV.pickT rfl rfl) rfl (zn (TC.condT rfl (zr (TL.call rfl Tb.gofn_31 (fun a w hs => sane_ok w (hW.new hs.new)) rfl dc (fun _ _ => ?_)))))))
  refine za rfl (zt (TQ.thenR (TQ.retE1 rfl rfl ?_)))
  exact ⟨(), rfl, trivial, nils⟩
  refine zm rfl (TL.call rfl Tb.gofn_35 (fun a w hs => Long_ok w pl cl L (hL.new hs.new) hl63) rfl dc (fun _ _ => ?_))
  refine zq (PV.pickF rfl rfl) rfl (zn (TC.cd rfl (fun hlo => ?_) (fun hlo => ?_)))
  refine zr (TL.call rfl Tb.gofn_31 (fun a w hs => sane_ok w (hW.new hs.new)) rfl dc (fun _ _ => ?_))
  refine za rfl (zt (TQ.thenR (TQ.retE1 rfl rfl ?_)))
  exact ⟨(), rfl, trivial, nils⟩
  refine TC.skip (TQ.thenC (zr (zq (PV.loadBox (cs := fmL s f) rfl Tb.agg_29 m9z rfl) rfl ?_)))
  refine TL.call rfl Tb.gofn_32 (fun a w hs => Begin_e w (hW.new hs.new) s f (hf.new hs.new) hlg he) rfl dc (fun _ _ => ?_)
  refine zm rfl (zq (PV.extract rfl rfl) rfl (zq (PV.extract rfl rfl) rfl (zq (PV.extract rfl rfl) rfl (za rfl (za rfl (za rfl (zn (TC.seq (zr (zm rfl (zq (PV.not rfl) rfl (zn (TC.condT rfl (zr (zq (PV.loadBox (cs := fmL s f) rfl Tb.agg_29 m9z rfl) rfl ?_)))))))))))))))
  refine TL.call rfl Tb.gofn_33 (fun a w hs => failed_ok w (hW.new hs.new) s f (hf.new hs.new) hlg he) rfl dc (fun _ _ => ?_)
  refine za rfl (zt (TQ.thenR (TQ.retE1 rfl rfl ?_)))
  exact ⟨(), rfl, trivial, nils⟩
set_option maxHeartbeats 2000000 in
theorem BogHollows_ok_y (w0 : World) (hW : WAt w0) (s : St) (f : FV) (hf : FmAt w0 s f) (hw63 : s.W.length ≤ 9223372036854775807) (hk63 : s.K.length ≤ 9223372036854775807) (pl : Option Addr) (cl : Nat) (L : List (List UInt8)) (hL : StrsAt w0 pl L) (hl63 : L.length ≤ 9223372036854775807) (hcl : L.length ≤ cl) (he : s.newI = 0) :
    Calls Tryz.prog 14 #[.agg (fmL s f).toArray, .slice pl L.length cl] w0 (Post (X := Unit) (fun _ => .bool true) (fun _ => True) (fun _ => []) w0) := by
  have hv : SV s := sv_of he
  refine calls Tryz.func14 rfl (n := 71) rfl (by simp) ?_
  refine zr (TL.box rfl rfl dc (fun b0 hb0 => ?_))
  refine za rfl (zn (TC.seq (zr (zq (PV.loadBox (cs := fmL s f) rfl Tb.agg_29 m9z rfl) rfl ?_))))
  refine TL.call rfl Tb.gofn_30 (fun a w hs => Large_s (hf.new hs.new) hw63 hk63) rfl dc (fun _ _ => ?_)
  refine zm rfl (TL.sp 13 rfl (fun hlg => ?_) (fun hlg => ?_))
  refine zx rfl (zx rfl (zq (PV.pickT rfl rfl) rfl (zn (TC.condT rfl (zr (TL.call rfl Tb.gofn_31 (fun a w hs => sane_ok w (hW.new hs.new)) rfl dc (fun _ _ => ?_)))))))
  refine za rfl (zt (TQ.thenR (TQ.retE1 rfl rfl ?_)))
  exact ⟨(), rfl, trivial, nils⟩
  refine zm rfl (TL.call rfl Tb.gofn_35 (fun a w hs => Long_ok w pl cl L (hL.new hs.new) hl63) rfl dc (fun _ _ => ?_))
  refine zq (PV.pickF rfl rfl) rfl (zn (TC.cd rfl (fun hlo => ?_) (fun hlo => ?_)))
  refine zr (TL.call rfl Tb.gofn_31 (fun a w hs => sane_ok w (hW.new hs.new)) rfl dc (fun _ _ => ?_))
  refine za rfl (zt (TQ.thenR (TQ.retE1 rfl rfl ?_)))
  exact ⟨(), rfl, trivial, nils⟩
  refine TC.skip (TQ.thenC (zr (zq (PV.loadBox (cs := fmL s f) rfl Tb.agg_29 m9z rfl) rfl ?_)))
  refine TL.callW (X := (Nat × CP) × Nat × RQ) (fun y => .tuple #[pt y.1.1, pt y.2.1, .bool true]) (fun y => CPk w0 s (co0 s) y.1.2 ∧ RQk w0 s (co0 s) y.2.2) (fun y => hp0 s (co0 s) y.1.1 y.1.2 ++ (hq0 s (co0 s) y.2.1 y.2.2 ++ [(b0, Obj.cells (fmL s f).toArray 29 (0, 0))])) rfl Tb.gofn_32 (fun a w hs => Begin_y w0 w _ hs.new hW s f hf hlg he) rfl dc (fun y hy => ?_)
  refine zm rfl (zq (PV.extract rfl rfl) rfl (zq (PV.extract rfl rfl) rfl (zq (PV.extract rfl rfl) rfl (za rfl (za rfl (za rfl (zn (TC.seq (zr (zm rfl (zq (PV.not rfl) rfl (zn (TC.condF rfl (TC.skip (TQ.thenC (zr (zm rfl (TL.callW (X := Option Addr × Nat × Heap) (fun z => .slice z.1 (L.take 30).length z.2.1) (fun z => (∀ w9, New w0 w9 z.2.2 → StrsAt w9 z.1 (L.take 30)) ∧ ∀ k, k < (L.take 30).length → ∃ q, z.1 = some q ∧ ∀ w8, New w0 w8 z.2.2 → w8.cell? (q.add (k * 1)) = some (str ((L.take 30).getD k []))) (fun z => hp0 s (co0 s) y.1.1 y.1.2 ++ (hq0 s (co0 s) y.2.1 y.2.2 ++ (z.2.2 ++ [(b0, Obj.cells (fmL s f).toArray 29 (0, 0))]))) rfl Tb.gofn_36 (fun a w hs => few_w hs.new pl cl L hL hcl) rfl dc (fun z hz => ?_)))))))))))))))))))
  refine za rfl (zn (TC.seq (TC.seq ?_)))
  obtain ⟨h400, h30, h300, hb400⟩ := few_400 hlo
  refine TC.region (za rfl (zn (TC.block (TC.loopK [1, 2, 5] (X := Nat × CP) (fun x => x.1 ≤ (L.take 30).length ∧ CPk w0 s (stC s (L.take 30) x.1) x.2) (fun x => [(8, .int .i64 (x.1 : Nat))]) (fun x => hp0 s (stC s (L.take 30) x.1) y.1.1 x.2 ++ (hq0 s (co0 s) y.2.1 y.2.2 ++ (z.2.2 ++ [(b0, Obj.cells (fmL s f).toArray 29 (0, 0))]))) (fun x => (L.take 30).length - x.1) (0, y.1.2) ⟨Nat.zero_le _, hy.1⟩ l9z (List.Sublist.refl _) ?_))))
  intro x hx
  have hx1 := hx.1
  refine TC.seq (zr (zm rfl (zm rfl (zq (PV.len rfl Tb.sl_43) rfl (zq (PV.lss rfl rfl) rfl (zn (TC.cd rfl (fun hlt => ?_) (fun hlt => ?_))))))))
  refine TC.skip (TQ.thenC (TC.seq (TC.block (TC.seq ?_))))
  obtain ⟨q9, q9p, q9v⟩ := hz.2 x.1 (by omega)
  have hix := stC_inv hv (L.take 30) x.1
  have hid := hix.any ((L.take 30).getD x.1 []) hv
  have hlo1 := h400 x.1
  refine TC.region (zm rfl (zm rfl (zm rfl (zq (PV.indexA rfl q9p rfl Tb.elm_43 rfl om) rfl (zq (PV.loadN rfl Tb.one_9 ((List.sublist_append_left _ _).trans ((List.sublist_append_right _ _).trans (List.sublist_append_right _ _))) q9v) rfl ?_)))))
  refine TL.callW (X := CP) (fun _ => .int .i64 (doI s (stC s (L.take 30) x.1) ((L.take 30).getD x.1 []))) (fun p1 => CPk w0 s (doC s (stC s (L.take 30) x.1) ((L.take 30).getD x.1 [])) p1) (fun p1 => hp0 s (doC s (stC s (L.take 30) x.1) ((L.take 30).getD x.1 [])) y.1.1 p1 ++ (hq0 s (co0 s) y.2.1 y.2.2 ++ (z.2.2 ++ [(b0, Obj.cells (fmL s f).toArray 29 (0, 0))]))) rfl Tb.gofn_18 (fun a w hs => Do_p hW hv hix hx.2 hs.new _ om) rfl dc (fun p1 hp1 => ?_)
  refine zn (TC.seq (TC.mixV [true, true, true, false, false, true, true, true, true, true] [(b0, Obj.cells (fmL s f).toArray 29 (0, 0))] 10 Tb.mixed rfl kr kr kr kr s9z ?_))
  refine zv 0 rfl kr (PV.fieldAddr rfl Tb.fo_29_1) rfl (zv 1 rfl kr (PV.loadMid (cs := fmL s f) (off := 1) (k := 2) (vs := [.slice f.q s.K.length f.cq, .slice f.r s.g.length f.cr]) rfl Tb.agg_27 m9z rfl rfl) rfl ?_)
  refine zv 2 rfl kr (PV.move rfl) rfl (TV.step [3] kr dc rfl ⟨⟨_, rfl, ?_⟩, trivial⟩)
  refine TL.callW (X := HD) (fun h => .slice (gp h) (doC s (stC s (L.take 30) x.1) ((L.take 30).getD x.1 [])).tur.length (gc h)) (fun h => goI (h, (doC s (stC s (L.take 30) x.1) ((L.take 30).getD x.1 [])).tur)) (fun h => gbI (h, (doC s (stC s (L.take 30) x.1) ((L.take 30).getD x.1 [])).tur) ++ (hp0 s (doC s (stC s (L.take 30) x.1) ((L.take 30).getD x.1 [])) y.1.1 p1 ++ (hq0 s (co0 s) y.2.1 y.2.2 ++ (z.2.2 ++ [(b0, Obj.cells (fmL s f).toArray 29 (0, 0))])))) rfl Tb.gofn_26 (fun a w hs => Turves_p hv hid hp1 hs.new) rfl dc (fun h2 hh2 => ?_)
  refine TL.nil (TV.next (.inl s9z) ?_)
  refine TV.step [4] kr dc rfl ⟨⟨_, rfl, ?_⟩, trivial⟩
  refine TL.call rfl Tb.gofn_54 (fun a w hs => rcalm_v w hv hid f.q f.cq (hf.new hs.new).lk f.r f.cr (hf.new hs.new).lg _ _ (IntsAt.g (x := (h2, (doC s (stC s (L.take 30) x.1) ((L.take 30).getD x.1 [])).tur)) hs.new r9z hh2)) rfl dc (fun _ _ => ?_)
  refine TL.nil (TV.next (.inl s9z) ?_)
  refine zv 5 rfl kr (PV.move rfl) rfl (zv 6 rfl kr (PV.extract rfl rfl) rfl (zv 7 rfl kr (PV.extract rfl rfl) rfl (zv 8 rfl kr (PV.assign rfl) rfl (zv 9 rfl kr (PV.assign rfl) rfl (TV.done kr ?_)))))
  refine TQ.thenC (TC.seq (TC.mixV [true, true, true, false, false, true, true, true, true, true, true, true, true, true, true, true, true, false, true, true] [(b0, Obj.cells (fmL s f).toArray 29 (0, 0))] 20 Tb.mixed rfl kr kr kr kr s9z ?_))
  refine zv 0 rfl kr (PV.fieldAddr rfl Tb.fo_29_0) rfl (zv 1 rfl kr (PV.loadMid (cs := fmL s f) (off := 0) (k := 1) (vs := [.slice f.p s.W.length f.cp]) rfl Tb.agg_24 m9z rfl rfl) rfl ?_)
  refine zv 2 rfl kr (PV.move rfl) rfl (TV.step [3] kr dc rfl ⟨⟨_, rfl, ?_⟩, trivial⟩)
  refine TL.callW (X := HD) (fun h => .slice (gp h) (doC s (stC s (L.take 30) x.1) ((L.take 30).getD x.1 [])).hol.length (gc h)) (fun h => goI (h, (doC s (stC s (L.take 30) x.1) ((L.take 30).getD x.1 [])).hol)) (fun h => gbI (h, (doC s (stC s (L.take 30) x.1) ((L.take 30).getD x.1 [])).hol) ++ (hp0 s (doC s (stC s (L.take 30) x.1) ((L.take 30).getD x.1 [])) y.1.1 p1 ++ (hq0 s (co0 s) y.2.1 y.2.2 ++ (z.2.2 ++ [(b0, Obj.cells (fmL s f).toArray 29 (0, 0))])))) rfl Tb.gofn_25 (fun a w hs => Hollow_p hv hid hp1 (hs.new.sub (List.sublist_append_right _ _))) rfl dc (fun h3 hh3 => ?_)
  refine TL.nil (TV.next (.inl s9z) ?_)
  refine TV.step [4] kr dc rfl ⟨⟨_, rfl, ?_⟩, trivial⟩
  refine TL.call rfl Tb.gofn_55 (fun a w hs => ch_v w hv hid f.p f.cp (hf.new hs.new).lw _ _ (IntsAt.g (x := (h3, (doC s (stC s (L.take 30) x.1) ((L.take 30).getD x.1 [])).hol)) hs.new r9z hh3)) rfl dc (fun _ _ => ?_)
  refine TL.nil (TV.next (.inl s9z) ?_)
  refine zv 5 rfl kr (PV.no (PV.neq rfl rfl) (fun h9 => h9 rfl)) rfl ?_
  refine zv 6 rfl kr (PV.move rfl) rfl (zv 7 rfl kr (PV.move rfl) rfl (zv 8 rfl kr (PV.no (PV.neq rfl rfl) (fun h9 => h9 rfl)) rfl ?_))
  refine zv 9 rfl kr (PV.pickF rfl rfl) rfl (zv 10 rfl kr (PV.move rfl) rfl (zv 11 rfl kr (PV.move rfl) rfl (zv 12 rfl kr (PV.not rfl) rfl (zv 13 rfl kr (PV.pickF rfl rfl) rfl (zv 14 rfl kr (PV.move rfl) rfl (zv 15 rfl kr (PV.move rfl) rfl (zv 16 rfl kr (PV.loadBox (cs := fmL s f) rfl Tb.agg_29 m9z rfl) rfl ?_)))))))
  refine TV.step [17] kr dc rfl ⟨⟨_, rfl, ?_⟩, trivial⟩
  refine TL.callW (X := Unit) (fun _ => .bool true) (fun _ => True) (fun _ => hp0 s (doC s (stC s (L.take 30) x.1) ((L.take 30).getD x.1 [])) y.1.1 p1 ++ (hq0 s (co0 s) y.2.1 y.2.2 ++ (z.2.2 ++ [(b0, Obj.cells (fmL s f).toArray 29 (0, 0))]))) rfl Tb.gofn_56 (fun a w hs => dry_ok hv hid hp1 hf (hs.new.sub (List.sublist_append_right _ _))) rfl dc (fun _ _ => ?_)
  refine TL.nil (TV.next (.inl s9z) ?_)
  refine zv 18 rfl kr (PV.not rfl) rfl (zv 19 rfl kr (PV.pickF rfl rfl) rfl (TV.done kr ?_))
  refine TQ.thenC (TC.condF rfl (TC.skip (TQ.blkN (TQ.thenC (TC.region (zm rfl (zq (PV.add rfl rfl om) rfl (za rfl (TL.nil (TQ.thenN (TQ.backK (x.1 + 1, p1) l9z l9z (by rw [stC_succ om]; exact List.Sublist.refl _) ⟨by simp only; omega, by rw [stC_succ om]; exact hp1⟩ (by simp only; omega))))))))))))
  refine TC.exit (TQ.thenE (TQ.thenE (TQ.blkS (TQ.thenC (zr (TL.call rfl Tb.gofn_31 (fun a w hs => sane_ok w (hW.new hs.new)) rfl dc (fun _ _ => ?_)))))))
  refine za rfl (zt (TQ.retE1 rfl rfl ?_))
  exact ⟨(), rfl, trivial, nils⟩
theorem BogHollows_ok (w0 : World) (hW : WAt w0) (s : St) (f : FV) (hf : FmAt w0 s f) (hw63 : s.W.length ≤ 9223372036854775807) (hk63 : s.K.length ≤ 9223372036854775807) (pl : Option Addr) (cl : Nat) (L : List (List UInt8)) (hL : StrsAt w0 pl L) (hl63 : L.length ≤ 9223372036854775807) (hcl : L.length ≤ cl) :
    Calls Tryz.prog 14 #[.agg (fmL s f).toArray, .slice pl L.length cl] w0 (Post (X := Unit) (fun _ => .bool true) (fun _ => True) (fun _ => []) w0) := by
  by_cases he : s.newI = 0
  · exact BogHollows_ok_y w0 hW s f hf hw63 hk63 pl cl L hL hl63 hcl he
  · exact BogHollows_ok_e w0 hW s f hf hw63 hk63 pl cl L hL hl63 hcl he
end Go.Proofs.YtbnjmkidbfmomaaGreatDoor
