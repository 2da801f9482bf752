/- The law News: contract. -/
import Derived.Test.YtbnjmkidbfmomaaGreatDoorV34
set_option linter.unusedVariables false
set_option linter.unusedSimpArgs false
set_option maxRecDepth 100000
namespace Go.Proofs.YtbnjmkidbfmomaaGreatDoor
open Go.Sx Go.RowKit Go.Bt Go.Lib Go.Sand
set_option maxHeartbeats 2000000 in
theorem BogNews_ok_e (w0 : World) (hW : WAt w0) (s : St) (f : FV) (hf : FmAt w0 s f) (hw63 : s.W.length ≤ 9223372036854775807) (hk63 : s.K.length ≤ 9223372036854775807) (o : List UInt8) (he : s.newI ≠ 0) :
    Calls Tryz.prog 3 #[.agg (fmL s f).toArray, str o] w0 (Post (X := Unit) (fun _ => .bool true) (fun _ => True) (fun _ => []) w0) := by
  refine calls Tryz.func3 rfl (n := 81) rfl (by simp) ?_
  refine zr (TL.box rfl rfl dc (fun b0 hb0 => ?_))
  refine za rfl (zk (za rfl (zn (TC.seq (zr (zm rfl (zm rfl (TL.call rfl Tb.gofn_18 (fun a w hs => Do_nil w o) rfl dc (fun _ _ => ?_)))))))))
  refine zq (PV.no (PV.neq rfl rfl) (fun h9 => h9 rfl)) rfl ?_
  refine zm rfl (zm rfl (TL.call rfl Tb.gofn_19 (fun a w hs => Day_nil w) rfl dc (fun _ _ => ?_)))
  refine zm rfl (TL.call rfl Tb.gofn_20 (fun a w hs => Wet_nil w) rfl dc (fun _ _ => ?_))
  refine zq (PV.add rfl rfl om) rfl (zm rfl (TL.call rfl Tb.gofn_21 (fun a w hs => Money_nil w) rfl dc (fun _ _ => ?_)))
  refine zq (PV.add rfl rfl om) rfl (zm rfl (TL.call rfl Tb.gofn_22 (fun a w hs => Cut_nil w) rfl dc (fun _ _ => ?_)))
  refine zq (PV.add rfl rfl om) rfl (zm rfl (TL.call rfl Tb.gofn_23 (fun a w hs => Loaded_nil w) rfl dc (fun _ _ => ?_)))
  refine zq (PV.add rfl rfl om) rfl (zm rfl (TL.call rfl Tb.gofn_24 (fun a w hs => Ground_nil w) rfl dc (fun _ _ => ?_)))
  refine zq (PV.add rfl rfl om) rfl (zq (PV.no (PV.neq rfl rfl) (fun h9 => h9 rfl)) rfl ?_)
  refine zq (PV.pickF rfl rfl) rfl (zm rfl (zm rfl (TL.call rfl Tb.gofn_25 (fun a w hs => Hollow_nil w) rfl dc (fun _ _ => ?_))))
  refine zq (PV.len rfl Tb.sl_25) rfl (zq (PV.no (PV.neq rfl rfl) (fun h9 => h9 rfl)) rfl ?_)
  refine zq (PV.pickF rfl rfl) rfl (zm rfl (zm rfl (TL.call rfl Tb.gofn_26 (fun a w hs => Turves_nil w) rfl dc (fun _ _ => ?_))))
  refine zq (PV.len rfl Tb.sl_25) rfl (zq (PV.no (PV.neq rfl rfl) (fun h9 => h9 rfl)) rfl ?_)
  refine zq (PV.pickF rfl rfl) rfl (zm rfl (zm rfl (TL.call rfl Tb.gofn_27 (fun a w hs => Shut_nil w) rfl dc (fun _ _ => ?_))))
  refine zq (PV.pickF rfl rfl) rfl (zm rfl (zm rfl (TL.call rfl Tb.gofn_28 (fun a w hs => Book_nil w) rfl dc (fun _ _ => ?_))))
  refine zq (PV.no (PV.neqS (M := []) rfl rfl) (fun h9 => h9 rfl)) rfl ?_
  refine zq (PV.pickF rfl rfl) rfl (zm rfl (zm rfl (TL.call rfl Tb.gofn_29 (fun a w hs => Audit_nil w) rfl dc (fun _ _ => ?_))))
  refine zq (PV.pickF rfl rfl) rfl (zn (TC.condF rfl (TC.skip (TQ.thenC (TC.seq (zr (zq (PV.loadBox (cs := fmL s f) rfl Tb.agg_29 m9z rfl) rfl ?_)))))))
  refine TL.call rfl Tb.gofn_30 (fun a w hs => Large_s (hf.new hs.new) hw63 hk63) rfl dc (fun _ _ => ?_)
  refine zn (TC.cd rfl (fun hlg => ?_) (fun hlg => ?_))
  refine zr (TL.call rfl Tb.gofn_31 (fun a w hs => sane_ok w (hW.new hs.new)) rfl dc (fun _ _ => ?_))
  refine za rfl (zt (TQ.thenR (TQ.retE1 rfl rfl ?_)))
  exact ⟨(), rfl, trivial, nils⟩
  refine TC.skip (TQ.thenC (zr (zq (PV.loadBox (cs := fmL s f) rfl Tb.agg_29 m9z rfl) rfl ?_)))
  refine TL.call rfl Tb.gofn_32 (fun a w hs => Begin_e w (hW.new hs.new) s f (hf.new hs.new) hlg he) rfl dc (fun _ _ => ?_)
  refine zm rfl (zq (PV.extract rfl rfl) rfl (zq (PV.extract rfl rfl) rfl (zq (PV.extract rfl rfl) rfl (za rfl (za rfl (za rfl (zn (TC.seq (zr (zm rfl (zq (PV.not rfl) rfl (zn (TC.condT rfl (zr (zq (PV.loadBox (cs := fmL s f) rfl Tb.agg_29 m9z rfl) rfl ?_)))))))))))))))
  refine TL.call rfl Tb.gofn_33 (fun a w hs => failed_ok w (hW.new hs.new) s f (hf.new hs.new) hlg he) rfl dc (fun _ _ => ?_)
  refine za rfl (zt (TQ.thenR (TQ.retE1 rfl rfl ?_)))
  exact ⟨(), rfl, trivial, nils⟩
set_option maxHeartbeats 2000000 in
theorem BogNews_ok_y (w0 : World) (hW : WAt w0) (s : St) (f : FV) (hf : FmAt w0 s f) (hw63 : s.W.length ≤ 9223372036854775807) (hk63 : s.K.length ≤ 9223372036854775807) (o : List UInt8) (he : s.newI = 0) :
    Calls Tryz.prog 3 #[.agg (fmL s f).toArray, str o] w0 (Post (X := Unit) (fun _ => .bool true) (fun _ => True) (fun _ => []) w0) := by
  have hv : SV s := sv_of he
  refine calls Tryz.func3 rfl (n := 81) rfl (by simp) ?_
  refine zr (TL.box rfl rfl dc (fun b0 hb0 => ?_))
  refine za rfl (zk (za rfl (zn (TC.seq (zr (zm rfl (zm rfl (TL.call rfl Tb.gofn_18 (fun a w hs => Do_nil w o) rfl dc (fun _ _ => ?_)))))))))
  refine zq (PV.no (PV.neq rfl rfl) (fun h9 => h9 rfl)) rfl ?_
  refine zm rfl (zm rfl (TL.call rfl Tb.gofn_19 (fun a w hs => Day_nil w) rfl dc (fun _ _ => ?_)))
  refine zm rfl (TL.call rfl Tb.gofn_20 (fun a w hs => Wet_nil w) rfl dc (fun _ _ => ?_))
  refine zq (PV.add rfl rfl om) rfl (zm rfl (TL.call rfl Tb.gofn_21 (fun a w hs => Money_nil w) rfl dc (fun _ _ => ?_)))
  refine zq (PV.add rfl rfl om) rfl (zm rfl (TL.call rfl Tb.gofn_22 (fun a w hs => Cut_nil w) rfl dc (fun _ _ => ?_)))
  refine zq (PV.add rfl rfl om) rfl (zm rfl (TL.call rfl Tb.gofn_23 (fun a w hs => Loaded_nil w) rfl dc (fun _ _ => ?_)))
  refine zq (PV.add rfl rfl om) rfl (zm rfl (TL.call rfl Tb.gofn_24 (fun a w hs => Ground_nil w) rfl dc (fun _ _ => ?_)))
  refine zq (PV.add rfl rfl om) rfl (zq (PV.no (PV.neq rfl rfl) (fun h9 => h9 rfl)) rfl ?_)
  refine zq (PV.pickF rfl rfl) rfl (zm rfl (zm rfl (TL.call rfl Tb.gofn_25 (fun a w hs => Hollow_nil w) rfl dc (fun _ _ => ?_))))
  refine zq (PV.len rfl Tb.sl_25) rfl (zq (PV.no (PV.neq rfl rfl) (fun h9 => h9 rfl)) rfl ?_)
  refine zq (PV.pickF rfl rfl) rfl (zm rfl (zm rfl (TL.call rfl Tb.gofn_26 (fun a w hs => Turves_nil w) rfl dc (fun _ _ => ?_))))
  refine zq (PV.len rfl Tb.sl_25) rfl (zq (PV.no (PV.neq rfl rfl) (fun h9 => h9 rfl)) rfl ?_)
  refine zq (PV.pickF rfl rfl) rfl (zm rfl (zm rfl (TL.call rfl Tb.gofn_27 (fun a w hs => Shut_nil w) rfl dc (fun _ _ => ?_))))
  refine zq (PV.pickF rfl rfl) rfl (zm rfl (zm rfl (TL.call rfl Tb.gofn_28 (fun a w hs => Book_nil w) rfl dc (fun _ _ => ?_))))
  refine zq (PV.no (PV.neqS (M := []) rfl rfl) (fun h9 => h9 rfl)) rfl ?_
  refine zq (PV.pickF rfl rfl) rfl (zm rfl (zm rfl (TL.call rfl Tb.gofn_29 (fun a w hs => Audit_nil w) rfl dc (fun _ _ => ?_))))
  refine zq (PV.pickF rfl rfl) rfl (zn (TC.condF rfl (TC.skip (TQ.thenC (TC.seq (zr (zq (PV.loadBox (cs := fmL s f) rfl Tb.agg_29 m9z rfl) rfl ?_)))))))
  refine TL.call rfl Tb.gofn_30 (fun a w hs => Large_s (hf.new hs.new) hw63 hk63) rfl dc (fun _ _ => ?_)
  refine zn (TC.cd rfl (fun hlg => ?_) (fun hlg => ?_))
  refine zr (TL.call rfl Tb.gofn_31 (fun a w hs => sane_ok w (hW.new hs.new)) rfl dc (fun _ _ => ?_))
  refine za rfl (zt (TQ.thenR (TQ.retE1 rfl rfl ?_)))
  exact ⟨(), rfl, trivial, nils⟩
  refine TC.skip (TQ.thenC (zr (zq (PV.loadBox (cs := fmL s f) rfl Tb.agg_29 m9z rfl) rfl ?_)))
  refine TL.callW (X := (Nat × CP) × Nat × RQ) (fun y => .tuple #[pt y.1.1, pt y.2.1, .bool true]) (fun y => CPk w0 s (co0 s) y.1.2 ∧ RQk w0 s (co0 s) y.2.2) (fun y => hp0 s (co0 s) y.1.1 y.1.2 ++ (hq0 s (co0 s) y.2.1 y.2.2 ++ [(b0, Obj.cells (fmL s f).toArray 29 (0, 0))])) rfl Tb.gofn_32 (fun a w hs => Begin_y w0 w _ hs.new hW s f hf hlg he) rfl dc (fun y hy => ?_)
  refine zm rfl (zq (PV.extract rfl rfl) rfl (zq (PV.extract rfl rfl) rfl (zq (PV.extract rfl rfl) rfl (za rfl (za rfl (za rfl (zn (TC.seq (zr (zm rfl (zq (PV.not rfl) rfl (zn (TC.condF rfl (TC.skip (TQ.thenC (zr (zm rfl (zm rfl (TL.callW (X := Unit) (fun _ => .bool true) (fun _ => True) (fun _ => hp0 s (co0 s) y.1.1 y.1.2 ++ (hq0 s (co0 s) y.2.1 y.2.2 ++ [(b0, Obj.cells (fmL s f).toArray 29 (0, 0))])) rfl Tb.gofn_34 (fun a w hs => Equal_ok hW hv (Inv.zero hv) hy.1 hy.2 hs.new) rfl dc (fun _ _ => ?_))))))))))))))))))))
  refine zm rfl (zm rfl (TL.callW (X := Unit) (fun _ => .bool true) (fun _ => True) (fun _ => hp0 s (co0 s) y.1.1 y.1.2 ++ (hq0 s (co0 s) y.2.1 y.2.2 ++ [(b0, Obj.cells (fmL s f).toArray 29 (0, 0))])) rfl Tb.gofn_29 (fun a w hs => Audit_p hW hv (Inv.zero hv) (Rc.zero s) hy.1 hs.new) rfl dc (fun _ _ => ?_)))
  refine zq (PV.pickT rfl rfl) rfl (zm rfl (TL.call rfl Tb.gofn_31 (fun a w hs => sane_ok w (hW.new hs.new)) rfl dc (fun _ _ => ?_)))
  refine zq (PV.pickT rfl rfl) rfl (za rfl (zt (TQ.retE1 rfl rfl ?_)))
  exact ⟨(), rfl, trivial, nils⟩
theorem BogNews_ok (w0 : World) (hW : WAt w0) (s : St) (f : FV) (hf : FmAt w0 s f) (hw63 : s.W.length ≤ 9223372036854775807) (hk63 : s.K.length ≤ 9223372036854775807) (o : List UInt8) :
    Calls Tryz.prog 3 #[.agg (fmL s f).toArray, str o] w0 (Post (X := Unit) (fun _ => .bool true) (fun _ => True) (fun _ => []) w0) := by
  by_cases he : s.newI = 0
  · exact BogNews_ok_y w0 hW s f hf hw63 hk63 o he
  · exact BogNews_ok_e w0 hW s f hf hw63 hk63 o he
end Go.Proofs.YtbnjmkidbfmomaaGreatDoor
