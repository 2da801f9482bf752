/- The law Books: contract. -/
import Derived.Test.YtbnjmkidbfmomaaGreatDoorQ35
set_option linter.unusedVariables false
set_option linter.unusedSimpArgs false
set_option maxRecDepth 100000
namespace Go.Proofs.YtbnjmkidbfmomaaGreatDoor
open Go.Sx Go.RowKit Go.Bt Go.Lib Go.Sand
set_option maxHeartbeats 1000000 in
theorem BogBooks_e (w0 : World) (hW : WAt w0) (s : St) (f : FV) (hf : FmAt w0 s f) (hw63 : s.W.length ≤ 9223372036854775807) (hk63 : s.K.length ≤ 9223372036854775807) (t : List UInt8) (he : rpE s t ≠ 0) :
    Calls Tryz.prog 10 #[.agg (fmL s f).toArray, str t] w0 (Post (X := Unit) (fun _ => .bool true) (fun _ => True) (fun _ => []) w0) := by
  refine calls Tryz.func10 rfl (n := 68) rfl (by simp) ?_
  refine zr (TL.box rfl rfl dc (fun b0 hb0 => ?_))
  refine za rfl (zn (TC.seq (zr (zq (PV.loadBox (cs := fmL s f) rfl Tb.agg_29 m9z rfl) rfl ?_))))
  refine TL.call rfl Tb.gofn_30 (fun a w hs => Large_s (hf.new hs.new) hw63 hk63) rfl dc (fun _ _ => ?_)
  refine zm rfl (TL.sp 13 rfl (fun hlg => ?_) (fun hlg => ?_))
  refine zx rfl (zx rfl (zx rfl (zq (PV.pickT rfl rfl) rfl (zn (TC.condT rfl (zr (TL.call rfl Tb.gofn_31 (fun a w hs => sane_ok w (hW.new hs.new)) rfl dc (fun _ _ => ?_))))))))
  refine za rfl (zt (TQ.thenR (TQ.retE1 rfl rfl ?_)))
  exact ⟨(), rfl, trivial, nils⟩
  refine zm rfl (zq (PV.lenS rfl Tb.str_9) rfl (zq (PV.gtr rfl rfl) rfl (zq (PV.pickF rfl rfl) rfl (zn (TC.cd rfl (fun hol => ?_) (fun hol => ?_))))))
  refine zr (TL.call rfl Tb.gofn_31 (fun a w hs => sane_ok w (hW.new hs.new)) rfl dc (fun _ _ => ?_))
  refine za rfl (zt (TQ.thenR (TQ.retE1 rfl rfl ?_)))
  exact ⟨(), rfl, trivial, nils⟩
  refine TC.skip (TQ.thenC (zr (zq (PV.fieldAddr rfl Tb.fo_29_0) rfl (zq (PV.loadMid (cs := fmL s f) (off := 0) (k := 1) (vs := [.slice f.p s.W.length f.cp]) rfl Tb.agg_24 m9z rfl rfl) rfl ?_))))
  refine zq (PV.fieldAddr rfl Tb.fo_29_1) rfl (zq (PV.loadMid (cs := fmL s f) (off := 1) (k := 2) (vs := [.slice f.q s.K.length f.cq, .slice f.r s.g.length f.cr]) rfl Tb.agg_27 m9z rfl rfl) rfl ?_)
  refine zq (PV.fieldAddr rfl Tb.fo_29_2) rfl (zq (PV.load (v := .int .i64 s.need) rfl Tb.one_3 m9z rfl) rfl ?_)
  refine zm rfl (TL.callW (X := Unit) (fun _ => .tuple #[.pointer none, .int .i64 (rpN s t : Nat), .int .i64 (rpE s t)]) (fun _ => True) (fun _ => [(b0, Obj.cells (fmL s f).toArray 29 (0, 0))]) rfl Tb.gofn_40 (fun a w hs => Replay_none hs.new hW (fun w9 hn => hf.new hn) hlg om he) rfl dc (fun _ _ => ?_))
  refine zm rfl (zq (PV.extract rfl rfl) rfl (zq (PV.extract rfl rfl) rfl (zq (PV.extract rfl rfl) rfl (za rfl (za rfl (za rfl (zk (zq (PV.fieldAddr rfl Tb.fo_29_0) rfl (zq (PV.loadMid (cs := fmL s f) (off := 0) (k := 1) (vs := [.slice f.p s.W.length f.cp]) rfl Tb.agg_24 m9z rfl rfl) rfl ?_)))))))))
  refine zq (PV.fieldAddr rfl Tb.fo_29_1) rfl (zq (PV.loadMid (cs := fmL s f) (off := 1) (k := 2) (vs := [.slice f.q s.K.length f.cq, .slice f.r s.g.length f.cr]) rfl Tb.agg_27 m9z rfl rfl) rfl ?_)
  refine zq (PV.fieldAddr rfl Tb.fo_29_2) rfl (zq (PV.load (v := .int .i64 s.need) rfl Tb.one_3 m9z rfl) rfl ?_)
  refine zm rfl (TL.callW (X := Unit) (fun _ => .tuple #[.pointer none, .int .i64 (rpN s t : Nat), .int .i64 (rpE s t)]) (fun _ => True) (fun _ => [(b0, Obj.cells (fmL s f).toArray 29 (0, 0))]) rfl Tb.gofn_42 (fun a w hs => rReplay_none hs.new hW hf hlg om he) rfl dc (fun _ _ => ?_))
  refine zm rfl (zq (PV.extract rfl rfl) rfl (zq (PV.extract rfl rfl) rfl (zq (PV.extract rfl rfl) rfl (za rfl (za rfl (za rfl (zn (TC.seq (zr (zm rfl (zm rfl (zq (PV.no (PV.neq rfl rfl) (fun h9 => h9 rfl)) rfl ?_))))))))))))
  refine zm rfl (zm rfl (zm rfl (zq (PV.no (PV.neq rfl rfl) (fun h9 => h9 rfl)) rfl ?_)))
  refine zq (PV.pickF rfl rfl) rfl (zn (TC.condF rfl (TC.skip (TQ.thenC (TC.seq (zr (zm rfl (zq (PV.yes (PV.neq rfl rfl) he) rfl (zn (TC.condT rfl (zr (zm rfl (zq (PV.eqPtr rfl) rfl (zm rfl (TL.call rfl Tb.gofn_31 (fun a w hs => sane_ok w (hW.new hs.new)) rfl dc (fun _ _ => ?_))))))))))))))))
  refine zq (PV.pickT rfl rfl) rfl (za rfl (zt (TQ.thenR (TQ.retE1 rfl rfl ?_))))
  exact ⟨(), rfl, trivial, nils⟩
set_option maxHeartbeats 1000000 in
theorem BogBooks_y (w0 : World) (hW : WAt w0) (s : St) (f : FV) (hf : FmAt w0 s f) (hw63 : s.W.length ≤ 9223372036854775807) (hk63 : s.K.length ≤ 9223372036854775807) (t : List UInt8) (he : rpE s t = 0) :
    Calls Tryz.prog 10 #[.agg (fmL s f).toArray, str t] w0 (Post (X := Unit) (fun _ => .bool true) (fun _ => True) (fun _ => []) w0) := by
  have hv : SV s := sv_of (rp_new he)
  have hi := stC_inv hv (readL t).1 (readL t).1.length
  refine calls Tryz.func10 rfl (n := 68) rfl (by simp) ?_
  refine zr (TL.box rfl rfl dc (fun b0 hb0 => ?_))
  refine za rfl (zn (TC.seq (zr (zq (PV.loadBox (cs := fmL s f) rfl Tb.agg_29 m9z rfl) rfl ?_))))
  refine TL.call rfl Tb.gofn_30 (fun a w hs => Large_s (hf.new hs.new) hw63 hk63) rfl dc (fun _ _ => ?_)
  refine zm rfl (TL.sp 13 rfl (fun hlg => ?_) (fun hlg => ?_))
  refine zx rfl (zx rfl (zx rfl (zq (PV.pickT rfl rfl) rfl (zn (TC.condT rfl (zr (TL.call rfl Tb.gofn_31 (fun a w hs => sane_ok w (hW.new hs.new)) rfl dc (fun _ _ => ?_))))))))
  refine za rfl (zt (TQ.thenR (TQ.retE1 rfl rfl ?_)))
  exact ⟨(), rfl, trivial, nils⟩
  refine zm rfl (zq (PV.lenS rfl Tb.str_9) rfl (zq (PV.gtr rfl rfl) rfl (zq (PV.pickF rfl rfl) rfl (zn (TC.cd rfl (fun hol => ?_) (fun hol => ?_))))))
  refine zr (TL.call rfl Tb.gofn_31 (fun a w hs => sane_ok w (hW.new hs.new)) rfl dc (fun _ _ => ?_))
  refine za rfl (zt (TQ.thenR (TQ.retE1 rfl rfl ?_)))
  exact ⟨(), rfl, trivial, nils⟩
  refine TC.skip (TQ.thenC (zr (zq (PV.fieldAddr rfl Tb.fo_29_0) rfl (zq (PV.loadMid (cs := fmL s f) (off := 0) (k := 1) (vs := [.slice f.p s.W.length f.cp]) rfl Tb.agg_24 m9z rfl rfl) rfl ?_))))
  refine zq (PV.fieldAddr rfl Tb.fo_29_1) rfl (zq (PV.loadMid (cs := fmL s f) (off := 1) (k := 2) (vs := [.slice f.q s.K.length f.cq, .slice f.r s.g.length f.cr]) rfl Tb.agg_27 m9z rfl rfl) rfl ?_)
  refine zq (PV.fieldAddr rfl Tb.fo_29_2) rfl (zq (PV.load (v := .int .i64 s.need) rfl Tb.one_3 m9z rfl) rfl ?_)
  refine zm rfl (TL.callW (X := Nat × CP) (fun y => .tuple #[pt y.1, .int .i64 ((readL t).1.length : Nat), .int .i64 0]) (fun y => CPk w0 s (stC s (readL t).1 (readL t).1.length) y.2) (fun y => hp0 s (stC s (readL t).1 (readL t).1.length) y.1 y.2 ++ [(b0, Obj.cells (fmL s f).toArray 29 (0, 0))]) rfl Tb.gofn_40 (fun a w hs => Replay_some hs.new hW (fun w9 hn => hf.new hn) hlg om he) rfl dc (fun y hy => ?_))
  refine zm rfl (zq (PV.extract rfl rfl) rfl (zq (PV.extract rfl rfl) rfl (zq (PV.extract rfl rfl) rfl (za rfl (za rfl (za rfl (zk (zq (PV.fieldAddr rfl Tb.fo_29_0) rfl (zq (PV.loadMid (cs := fmL s f) (off := 0) (k := 1) (vs := [.slice f.p s.W.length f.cp]) rfl Tb.agg_24 m9z rfl rfl) rfl ?_)))))))))
  refine zq (PV.fieldAddr rfl Tb.fo_29_1) rfl (zq (PV.loadMid (cs := fmL s f) (off := 1) (k := 2) (vs := [.slice f.q s.K.length f.cq, .slice f.r s.g.length f.cr]) rfl Tb.agg_27 m9z rfl rfl) rfl ?_)
  refine zq (PV.fieldAddr rfl Tb.fo_29_2) rfl (zq (PV.load (v := .int .i64 s.need) rfl Tb.one_3 m9z rfl) rfl ?_)
  refine zm rfl (TL.callW (X := Nat × RQ) (fun z => .tuple #[pt z.1, .int .i64 ((readL t).1.length : Nat), .int .i64 0]) (fun z => RQk w0 s (stC s (readL t).1 (readL t).1.length) z.2) (fun z => hq0 s (stC s (readL t).1 (readL t).1.length) z.1 z.2 ++ (hp0 s (stC s (readL t).1 (readL t).1.length) y.1 y.2 ++ [(b0, Obj.cells (fmL s f).toArray 29 (0, 0))])) rfl Tb.gofn_42 (fun a w hs => rReplay_some hs.new hW hf hlg om he) rfl dc (fun z hz => ?_))
  refine zm rfl (zq (PV.extract rfl rfl) rfl (zq (PV.extract rfl rfl) rfl (zq (PV.extract rfl rfl) rfl (za rfl (za rfl (za rfl (zn (TC.seq (zr (zm rfl (zm rfl (zq (PV.no (PV.neq rfl rfl) (fun h9 => h9 rfl)) rfl ?_))))))))))))
  refine zm rfl (zm rfl (zm rfl (zq (PV.no (PV.neq rfl rfl) (fun h9 => h9 rfl)) rfl ?_)))
  refine zq (PV.pickF rfl rfl) rfl (zn (TC.condF rfl (TC.skip (TQ.thenC (TC.seq (zr (zm rfl (zq (PV.no (PV.neq rfl rfl) (fun h9 => h9 rfl)) rfl ?_))))))))
  refine zn (TC.condF rfl (TC.skip (TQ.thenC (TC.seq (TC.perm (G' := hp0 s (stC s (readL t).1 (readL t).1.length) y.1 y.2 ++ (hq0 s (stC s (readL t).1 (readL t).1.length) z.1 z.2 ++ [(b0, Obj.cells (fmL s f).toArray 29 (0, 0))])) (List.perm_append_comm_assoc _ _ _) ?_)))))
  refine TC.region (zm rfl (zq (PV.neqPtr rfl) rfl (zm rfl (zm rfl (zm rfl (TL.callW (X := Unit) (fun _ => .bool true) (fun _ => True) (fun _ => hp0 s (stC s (readL t).1 (readL t).1.length) y.1 y.2 ++ (hq0 s (stC s (readL t).1 (readL t).1.length) z.1 z.2 ++ [(b0, Obj.cells (fmL s f).toArray 29 (0, 0))])) rfl Tb.gofn_34 (fun a w hs => Equal_ok hW hv hi hy hz hs.new) rfl dc (fun _ _ => ?_)))))))
  refine zq (PV.pickT rfl rfl) rfl (zm rfl (TL.call rfl Tb.gofn_31 (fun a w hs => sane_ok w (hW.new hs.new)) rfl dc (fun _ _ => ?_)))
  refine zq (PV.pickT rfl rfl) rfl (za rfl (zt (TQ.retE1 rfl rfl ?_)))
  exact ⟨(), rfl, trivial, nils⟩
theorem BogBooks_ok (w0 : World) (hW : WAt w0) (s : St) (f : FV) (hf : FmAt w0 s f) (hw63 : s.W.length ≤ 9223372036854775807) (hk63 : s.K.length ≤ 9223372036854775807) (t : List UInt8) :
    Calls Tryz.prog 10 #[.agg (fmL s f).toArray, str t] w0 (Post (X := Unit) (fun _ => .bool true) (fun _ => True) (fun _ => []) w0) := by
  by_cases he : rpE s t = 0
  · exact BogBooks_y w0 hW s f hf hw63 hk63 t he
  · exact BogBooks_e w0 hW s f hf hw63 hk63 t he
end Go.Proofs.YtbnjmkidbfmomaaGreatDoor
