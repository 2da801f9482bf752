/- The law Replays: contract. -/
import Derived.Test.YtbnjmkidbfmomaaGreatDoorQ36
set_option linter.unusedVariables false
set_option linter.unusedSimpArgs false
set_option maxRecDepth 100000
namespace Go.Proofs.YtbnjmkidbfmomaaGreatDoor
open Go.Sx Go.RowKit Go.Bt Go.Lib Go.Sand
set_option maxHeartbeats 2000000 in
theorem BogReplays_ok_e (w0 : World) (hW : WAt w0) (s : St) (f : FV) (hf : FmAt w0 s f) (hw63 : s.W.length ≤ 9223372036854775807) (hk63 : s.K.length ≤ 9223372036854775807) (pl : Option Addr) (cl : Nat) (L : List (List UInt8)) (hL : StrsAt w0 pl L) (hl63 : L.length ≤ 9223372036854775807) (hcl : L.length ≤ cl) (n : Int) (hn : -9223372036854775808 ≤ n ∧ n ≤ 9223372036854775807) (he : s.newI ≠ 0) :
    Calls Tryz.prog 7 #[.agg (fmL s f).toArray, .slice pl L.length cl, .int .i64 n] w0 (Post (X := Unit) (fun _ => .bool true) (fun _ => True) (fun _ => []) w0) := by
  refine calls Tryz.func7 rfl (n := 143) rfl (by simp) ?_
  refine zr (TL.box rfl rfl dc (fun b0 hb0 => ?_))
  refine za rfl (zn (TC.seq (zr (zq (PV.loadBox (cs := fmL s f) rfl Tb.agg_29 m9z rfl) rfl ?_))))
  refine TL.call rfl Tb.gofn_30 (fun a w hs => Large_s (hf.new hs.new) hw63 hk63) rfl dc (fun _ _ => ?_)
  refine zm rfl (TL.sp 22 rfl (fun hlg => ?_) (fun hlg => ?_))
  refine zx rfl (zx rfl (zq (PV.pickT rfl rfl) rfl (zn (TC.condT rfl (zr (TL.call rfl Tb.gofn_31 (fun a w hs => sane_ok w (hW.new hs.new)) rfl dc (fun _ _ => ?_)))))))
  refine za rfl (zt (TQ.thenR (TQ.retE1 rfl rfl ?_)))
  exact ⟨(), rfl, trivial, nils⟩
  refine zm rfl (TL.call rfl Tb.gofn_35 (fun a w hs => Long_ok w pl cl L (hL.new hs.new) hl63) rfl dc (fun _ _ => ?_))
  refine zq (PV.pickF rfl rfl) rfl (zn (TC.cd rfl (fun hlo => ?_) (fun hlo => ?_)))
  refine zr (TL.call rfl Tb.gofn_31 (fun a w hs => sane_ok w (hW.new hs.new)) rfl dc (fun _ _ => ?_))
  refine za rfl (zt (TQ.thenR (TQ.retE1 rfl rfl ?_)))
  exact ⟨(), rfl, trivial, nils⟩
  refine TC.skip (TQ.thenC (zr (zq (PV.loadBox (cs := fmL s f) rfl Tb.agg_29 m9z rfl) rfl ?_)))
  refine TL.call rfl Tb.gofn_32 (fun a w hs => Begin_e w (hW.new hs.new) s f (hf.new hs.new) hlg he) rfl dc (fun _ _ => ?_)
  refine zm rfl (zq (PV.extract rfl rfl) rfl (zq (PV.extract rfl rfl) rfl (zq (PV.extract rfl rfl) rfl (za rfl (za rfl (za rfl (zn (TC.seq (zr (zm rfl (zq (PV.not rfl) rfl (zn (TC.condT rfl (zr (zq (PV.loadBox (cs := fmL s f) rfl Tb.agg_29 m9z rfl) rfl ?_)))))))))))))))
  refine TL.call rfl Tb.gofn_33 (fun a w hs => failed_ok w (hW.new hs.new) s f (hf.new hs.new) hlg he) rfl dc (fun _ _ => ?_)
  refine za rfl (zt (TQ.thenR (TQ.retE1 rfl rfl ?_)))
  exact ⟨(), rfl, trivial, nils⟩
set_option maxHeartbeats 2000000 in
theorem BogReplays_ok_y (w0 : World) (hW : WAt w0) (s : St) (f : FV) (hf : FmAt w0 s f) (hw63 : s.W.length ≤ 9223372036854775807) (hk63 : s.K.length ≤ 9223372036854775807) (pl : Option Addr) (cl : Nat) (L : List (List UInt8)) (hL : StrsAt w0 pl L) (hl63 : L.length ≤ 9223372036854775807) (hcl : L.length ≤ cl) (n : Int) (hn : -9223372036854775808 ≤ n ∧ n ≤ 9223372036854775807) (he : s.newI = 0) :
    Calls Tryz.prog 7 #[.agg (fmL s f).toArray, .slice pl L.length cl, .int .i64 n] w0 (Post (X := Unit) (fun _ => .bool true) (fun _ => True) (fun _ => []) w0) := by
  have hv : SV s := sv_of he
  refine calls Tryz.func7 rfl (n := 143) rfl (by simp) ?_
  refine zr (TL.box rfl rfl dc (fun b0 hb0 => ?_))
  refine za rfl (zn (TC.seq (zr (zq (PV.loadBox (cs := fmL s f) rfl Tb.agg_29 m9z rfl) rfl ?_))))
  refine TL.call rfl Tb.gofn_30 (fun a w hs => Large_s (hf.new hs.new) hw63 hk63) rfl dc (fun _ _ => ?_)
  refine zm rfl (TL.sp 22 rfl (fun hlg => ?_) (fun hlg => ?_))
  refine zx rfl (zx rfl (zq (PV.pickT rfl rfl) rfl (zn (TC.condT rfl (zr (TL.call rfl Tb.gofn_31 (fun a w hs => sane_ok w (hW.new hs.new)) rfl dc (fun _ _ => ?_)))))))
  refine za rfl (zt (TQ.thenR (TQ.retE1 rfl rfl ?_)))
  exact ⟨(), rfl, trivial, nils⟩
  refine zm rfl (TL.call rfl Tb.gofn_35 (fun a w hs => Long_ok w pl cl L (hL.new hs.new) hl63) rfl dc (fun _ _ => ?_))
  refine zq (PV.pickF rfl rfl) rfl (zn (TC.cd rfl (fun hlo => ?_) (fun hlo => ?_)))
  refine zr (TL.call rfl Tb.gofn_31 (fun a w hs => sane_ok w (hW.new hs.new)) rfl dc (fun _ _ => ?_))
  refine za rfl (zt (TQ.thenR (TQ.retE1 rfl rfl ?_)))
  exact ⟨(), rfl, trivial, nils⟩
  refine TC.skip (TQ.thenC (zr (zq (PV.loadBox (cs := fmL s f) rfl Tb.agg_29 m9z rfl) rfl ?_)))
  refine TL.callW (X := (Nat × CP) × Nat × RQ) (fun y => .tuple #[pt y.1.1, pt y.2.1, .bool true]) (fun y => CPk w0 s (co0 s) y.1.2 ∧ RQk w0 s (co0 s) y.2.2) (fun y => hp0 s (co0 s) y.1.1 y.1.2 ++ (hq0 s (co0 s) y.2.1 y.2.2 ++ [(b0, Obj.cells (fmL s f).toArray 29 (0, 0))])) rfl Tb.gofn_32 (fun a w hs => Begin_y w0 w _ hs.new hW s f hf hlg he) rfl dc (fun y hy => ?_)
  refine zm rfl (zq (PV.extract rfl rfl) rfl (zq (PV.extract rfl rfl) rfl (zq (PV.extract rfl rfl) rfl (za rfl (za rfl (za rfl (zn (TC.seq (zr (zm rfl (zq (PV.not rfl) rfl (zn (TC.condF rfl (TC.skip (TQ.thenC (TC.seq (TC.seq ?_)))))))))))))))))
  obtain ⟨h400, h30, h300, hb400⟩ := few_400 hlo
  have hif := stC_inv hv (L.take 30) (L.take 30).length
  have hrc := stC_rc s (L.take 30) (L.take 30).length
  have hol9 := hif.ol
  refine TC.region (zm rfl (zm rfl (zm rfl (TL.callW (X := Option Addr × Nat × Heap) (fun z => .slice z.1 (L.take 30).length z.2.1) (fun z => (∀ w9, New w0 w9 z.2.2 → StrsAt w9 z.1 (L.take 30)) ∧ ∀ k, k < (L.take 30).length → ∃ q, z.1 = some q ∧ ∀ w8, New w0 w8 z.2.2 → w8.cell? (q.add (k * 1)) = some (str ((L.take 30).getD k []))) (fun z => hp0 s (co0 s) y.1.1 y.1.2 ++ (hq0 s (co0 s) y.2.1 y.2.2 ++ (z.2.2 ++ [(b0, Obj.cells (fmL s f).toArray 29 (0, 0))]))) rfl Tb.gofn_36 (fun a w hs => few_w hs.new pl cl L hL hcl) rfl dc (fun z hz => ?_)))))
  refine TL.callW (X := CP × RQ) (fun _ => .bool true) (fun v => CPk w0 s (stC s (L.take 30) (L.take 30).length) v.1 ∧ RQk w0 s (stC s (L.take 30) (L.take 30).length) v.2) (fun v => hp0 s (stC s (L.take 30) (L.take 30).length) y.1.1 v.1 ++ (hq0 s (stC s (L.take 30) (L.take 30).length) y.2.1 v.2 ++ (z.2.2 ++ [(b0, Obj.cells (fmL s f).toArray 29 (0, 0))]))) rfl Tb.gofn_39 (fun a w hs => all_ok hW hv hy.1 hy.2 hs.new z.1 z.2.1 (L.take 30) z.2.2 (List.sublist_append_left _ _) hz.1 h400 om) rfl dc (fun v hvv => ?_)
  refine zq (PV.not rfl) rfl (zn (TC.condF rfl (TC.skip (TQ.thenC (TC.seq (TC.mixV [true, true, true, true, true, true, true, false, false, true, true, true, true, true, true, true] [(b0, Obj.cells (fmL s f).toArray 29 (0, 0))] 16 Tb.mixed rfl kr kr kr kr s9z ?_))))))
  refine zv 0 rfl kr (PV.fieldAddr rfl Tb.fo_29_0) rfl (zv 1 rfl kr (PV.loadMid (cs := fmL s f) (off := 0) (k := 1) (vs := [.slice f.p s.W.length f.cp]) rfl Tb.agg_24 m9z rfl rfl) rfl ?_)
  refine zv 2 rfl kr (PV.fieldAddr rfl Tb.fo_29_1) rfl (zv 3 rfl kr (PV.loadMid (cs := fmL s f) (off := 1) (k := 2) (vs := [.slice f.q s.K.length f.cq, .slice f.r s.g.length f.cr]) rfl Tb.agg_27 m9z rfl rfl) rfl ?_)
  refine zv 4 rfl kr (PV.fieldAddr rfl Tb.fo_29_2) rfl (zv 5 rfl kr (PV.load (v := .int .i64 s.need) rfl Tb.one_3 m9z rfl) rfl ?_)
  refine zv 6 rfl kr (PV.move rfl) rfl (TV.step [7] kr dc rfl ⟨⟨_, rfl, ?_⟩, trivial⟩)
  refine TL.callW (X := Unit) (fun _ => str (bookL dI (stC s (L.take 30) (L.take 30).length).ords).2) (fun _ => True) (fun _ => hp0 s (stC s (L.take 30) (L.take 30).length) y.1.1 v.1 ++ (hq0 s (stC s (L.take 30) (L.take 30).length) y.2.1 v.2 ++ (z.2.2 ++ [(b0, Obj.cells (fmL s f).toArray 29 (0, 0))]))) rfl Tb.gofn_28 (fun a w hs => Book_p hW hv hif hvv.1 hs.new) rfl dc (fun _ _ => ?_)
  refine TL.nil (TV.next (.inl s9z) ?_)
  refine TV.step [8] kr dc rfl ⟨⟨_, rfl, ?_⟩, trivial⟩
  refine TL.callW (X := Nat × CP) (fun y2 => .tuple #[pt y2.1, .int .i64 ((stC s (L.take 30) (L.take 30).length).ords.length : Nat), .int .i64 0]) (fun y2 => CPk w0 s (stC s (L.take 30) (L.take 30).length) y2.2) (fun y2 => hp0 s (stC s (L.take 30) (L.take 30).length) y2.1 y2.2 ++ (hp0 s (stC s (L.take 30) (L.take 30).length) y.1.1 v.1 ++ (hq0 s (stC s (L.take 30) (L.take 30).length) y.2.1 v.2 ++ (z.2.2 ++ [(b0, Obj.cells (fmL s f).toArray 29 (0, 0))])))) rfl Tb.gofn_40 (fun a w hs => Replay_l hs.new hW (fun w9 hn => hf.new hn) hlg hif.bl he hif.read hrc.ok rfl hrc.fin) rfl dc (fun y2 hy2 => ?_)
  refine TL.nil (TV.next (.inl s9z) ?_)
  refine zv 9 rfl kr (PV.move rfl) rfl (zv 10 rfl kr (PV.extract rfl rfl) rfl (zv 11 rfl kr (PV.extract rfl rfl) rfl (zv 12 rfl kr (PV.extract rfl rfl) rfl (zv 13 rfl kr (PV.assign rfl) rfl (zv 14 rfl kr (PV.assign rfl) rfl (zv 15 rfl kr (PV.assign rfl) rfl (TV.done kr ?_)))))))
  refine TQ.thenC (TC.seq (TC.seq (TC.perm (G' := hp0 s (stC s (L.take 30) (L.take 30).length) y2.1 y2.2 ++ (hq0 s (stC s (L.take 30) (L.take 30).length) y.2.1 v.2 ++ (hp0 s (stC s (L.take 30) (L.take 30).length) y.1.1 v.1 ++ (z.2.2 ++ [(b0, Obj.cells (fmL s f).toArray 29 (0, 0))])))) (List.Perm.append_left _ (List.perm_append_comm_assoc _ _ _)) ?_)))
  refine TC.region (zm rfl (zq (PV.no (PV.neq rfl rfl) (fun h9 => h9 rfl)) rfl ?_))
  refine zm rfl (zm rfl (zq (PV.eqPtr rfl) rfl (zq (PV.pickF rfl rfl) rfl (zm rfl (zm rfl (zm rfl (zq (PV.nilCheck rfl) rfl (zq (PV.fieldAddr rfl Tb.fo_54_12) rfl (zq (PV.load (v := .slice (gp v.2.ho) (stC s (L.take 30) (L.take 30).length).ords.length (gc v.2.ho)) rfl Tb.one_43 (List.mem_append_right _ (List.mem_append_left _ (List.Mem.head _))) (by show some (gval v.2.ho (stC s (L.take 30) (L.take 30).length).ords.length) = _; rw [ords_len hvv.2.go])) rfl ?_)))))))))
  refine zq (PV.len rfl Tb.sl_43) rfl (zq (PV.no (PV.neq rfl rfl) (fun h9 => h9 rfl)) rfl ?_)
  refine zq (PV.pickF rfl rfl) rfl (zm rfl (zm rfl (zm rfl (TL.callW (X := Unit) (fun _ => .bool true) (fun _ => True) (fun _ => hp0 s (stC s (L.take 30) (L.take 30).length) y2.1 y2.2 ++ (hq0 s (stC s (L.take 30) (L.take 30).length) y.2.1 v.2 ++ (hp0 s (stC s (L.take 30) (L.take 30).length) y.1.1 v.1 ++ (z.2.2 ++ [(b0, Obj.cells (fmL s f).toArray 29 (0, 0))])))) rfl Tb.gofn_34 (fun a w hs => Equal_ok hW hv hif hy2 hvv.2 hs.new) rfl dc (fun _ _ => ?_)))))
  refine zq (PV.not rfl) rfl (zq (PV.pickF rfl rfl) rfl (zn (TC.condF rfl (TC.skip (TQ.thenC (TC.seq ?_))))))
  obtain ⟨k, hk, hke⟩ := pick_k n (stC s (L.take 30) (L.take 30).length).ords.length
  have htl : ((stC s (L.take 30) (L.take 30).length).ords.take k).length = k := by rw [List.length_take]; omega
  have hit := stC_inv hv ((stC s (L.take 30) (L.take 30).length).ords.take k) k
  have hat : ∀ j, j < ((stC s (L.take 30) (L.take 30).length).ords.take k).length → doI s (stC s ((stC s (L.take 30) (L.take 30).length).ords.take k) j) (((stC s (L.take 30) (L.take 30).length).ords.take k).getD j []) = 0 := fun j hj => by rw [htl] at hj; rw [stC_take (by omega), getD_take hj]; exact hrc.ok j (by omega)
  refine TC.region (zm rfl (zq (PV.conv Tb.int_3 Tb.int_55 rfl rfl) rfl (zm rfl (zq (PV.nilCheck rfl) rfl (zq (PV.fieldAddr rfl Tb.fo_54_12) rfl (zq (PV.load (v := .slice (gp v.2.ho) (stC s (L.take 30) (L.take 30).length).ords.length (gc v.2.ho)) rfl Tb.one_43 (List.mem_append_right _ (List.mem_append_left _ (List.Mem.head _))) (by show some (gval v.2.ho (stC s (L.take 30) (L.take 30).length).ords.length) = _; rw [ords_len hvv.2.go])) rfl ?_))))))
  refine zq (PV.len rfl Tb.sl_43) rfl (zq (PV.add rfl rfl om) rfl (zq (PV.conv (v := (((stC s (L.take 30) (L.take 30).length).ords.length : Nat) : Int) + 1) Tb.int_3 Tb.int_55 rfl (by rw [IntKind.wrap_u64]; omega)) rfl ?_))
  refine zq (PV.to (PV.remU rfl rfl om (by rw [hke]; omega)) (by rw [hke])) rfl ?_
  refine zq (PV.conv (v := (k : Int)) Tb.int_55 Tb.int_3 rfl (by rw [IntKind.wrap_i64]; omega)) rfl ?_
  refine za rfl (zk (zm rfl (zq (PV.nilCheck rfl) rfl (zq (PV.fieldAddr rfl Tb.fo_54_12) rfl (zq (PV.load (v := .slice (gp v.2.ho) (stC s (L.take 30) (L.take 30).length).ords.length (gc v.2.ho)) rfl Tb.one_43 (List.mem_append_right _ (List.mem_append_left _ (List.Mem.head _))) (by show some (gval v.2.ho (stC s (L.take 30) (L.take 30).length).ords.length) = _; rw [ords_len hvv.2.go])) rfl ?_)))))
  refine zm rfl (zm rfl (zq (PV.slice43 (h := k) rfl rfl rfl rfl rfl (Nat.le_trans hk (goR_cap hvv.2.go))) rfl (TL.call rfl Tb.gofn_41 (fun a w hs => Text_j w (hW.new hs.new) _ _ ((stC s (L.take 30) (L.take 30).length).ords.take k) ((ords_at hs.new (fun y9 hy9 => List.mem_append_right _ (List.mem_append_left _ (List.Mem.tail _ (List.Mem.tail _ (List.mem_append_right _ (List.mem_append_left _ hy9)))))) hvv.2.go).take k) om (ords_j hif k) htl) rfl dc (fun _ _ => ?_))))
  refine za rfl (zk (zq (PV.fieldAddr rfl Tb.fo_29_0) rfl (zq (PV.loadMid (cs := fmL s f) (off := 0) (k := 1) (vs := [.slice f.p s.W.length f.cp]) rfl Tb.agg_24 m9z rfl rfl) rfl ?_)))
  refine zq (PV.fieldAddr rfl Tb.fo_29_1) rfl (zq (PV.loadMid (cs := fmL s f) (off := 1) (k := 2) (vs := [.slice f.q s.K.length f.cq, .slice f.r s.g.length f.cr]) rfl Tb.agg_27 m9z rfl rfl) rfl ?_)
  refine zq (PV.fieldAddr rfl Tb.fo_29_2) rfl (zq (PV.load (v := .int .i64 s.need) rfl Tb.one_3 m9z rfl) rfl ?_)
  refine zm rfl (TL.callW (X := Nat × CP) (fun y3 => .tuple #[pt y3.1, .int .i64 (k : Nat), .int .i64 0]) (fun y3 => CPk w0 s (stC s ((stC s (L.take 30) (L.take 30).length).ords.take k) k) y3.2) (fun y3 => hp0 s (stC s ((stC s (L.take 30) (L.take 30).length).ords.take k) k) y3.1 y3.2 ++ (hp0 s (stC s (L.take 30) (L.take 30).length) y2.1 y2.2 ++ (hq0 s (stC s (L.take 30) (L.take 30).length) y.2.1 v.2 ++ (hp0 s (stC s (L.take 30) (L.take 30).length) y.1.1 v.1 ++ (z.2.2 ++ [(b0, Obj.cells (fmL s f).toArray 29 (0, 0))]))))) rfl Tb.gofn_40 (fun a w hs => Replay_l hs.new hW (fun w9 hn => hf.new hn) hlg (bl_take hif k) he (hif.readT k) hat htl rfl) rfl dc (fun y3 hy3 => ?_))
  refine zm rfl (zq (PV.extract rfl rfl) rfl (zq (PV.extract rfl rfl) rfl (zq (PV.extract rfl rfl) rfl (za rfl (za rfl (za rfl (zk (zq (PV.fieldAddr rfl Tb.fo_29_0) rfl (zq (PV.loadMid (cs := fmL s f) (off := 0) (k := 1) (vs := [.slice f.p s.W.length f.cp]) rfl Tb.agg_24 m9z rfl rfl) rfl ?_)))))))))
  refine zq (PV.fieldAddr rfl Tb.fo_29_1) rfl (zq (PV.loadMid (cs := fmL s f) (off := 1) (k := 2) (vs := [.slice f.q s.K.length f.cq, .slice f.r s.g.length f.cr]) rfl Tb.agg_27 m9z rfl rfl) rfl ?_)
  refine zq (PV.fieldAddr rfl Tb.fo_29_2) rfl (zq (PV.load (v := .int .i64 s.need) rfl Tb.one_3 m9z rfl) rfl ?_)
  refine zm rfl (TL.callW (X := Nat × RQ) (fun y4 => .tuple #[pt y4.1, .int .i64 (k : Nat), .int .i64 0]) (fun y4 => RQk w0 s (stC s ((stC s (L.take 30) (L.take 30).length).ords.take k) k) y4.2) (fun y4 => hq0 s (stC s ((stC s (L.take 30) (L.take 30).length).ords.take k) k) y4.1 y4.2 ++ (hp0 s (stC s ((stC s (L.take 30) (L.take 30).length).ords.take k) k) y3.1 y3.2 ++ (hp0 s (stC s (L.take 30) (L.take 30).length) y2.1 y2.2 ++ (hq0 s (stC s (L.take 30) (L.take 30).length) y.2.1 v.2 ++ (hp0 s (stC s (L.take 30) (L.take 30).length) y.1.1 v.1 ++ (z.2.2 ++ [(b0, Obj.cells (fmL s f).toArray 29 (0, 0))])))))) rfl Tb.gofn_42 (fun a w hs => rReplay_l hs.new hW hf hlg (bl_take hif k) he (hif.readT k) hat htl rfl) rfl dc (fun y4 hy4 => ?_))
  refine zm rfl (zq (PV.extract rfl rfl) rfl (zq (PV.extract rfl rfl) rfl (zq (PV.extract rfl rfl) rfl (za rfl (za rfl (za rfl (zn (TC.seq (TC.perm (G' := hp0 s (stC s ((stC s (L.take 30) (L.take 30).length).ords.take k) k) y3.1 y3.2 ++ (hq0 s (stC s ((stC s (L.take 30) (L.take 30).length).ords.take k) k) y4.1 y4.2 ++ (hp0 s (stC s (L.take 30) (L.take 30).length) y2.1 y2.2 ++ (hq0 s (stC s (L.take 30) (L.take 30).length) y.2.1 v.2 ++ (hp0 s (stC s (L.take 30) (L.take 30).length) y.1.1 v.1 ++ (z.2.2 ++ [(b0, Obj.cells (fmL s f).toArray 29 (0, 0))])))))) (List.perm_append_comm_assoc _ _ _) ?_)))))))))
  refine TC.region (zm rfl (zq (PV.yes (PV.eql rfl rfl) rfl) rfl (zm rfl (zm rfl (zq (PV.yes (PV.eql rfl rfl) rfl) rfl (zq (PV.pickT rfl rfl) rfl (zm rfl (zm rfl (zq (PV.neqPtr rfl) rfl (zq (PV.pickT rfl rfl) rfl (zm rfl (zm rfl (zm rfl (zq (PV.yes (PV.eql rfl rfl) rfl) rfl (zq (PV.pickT rfl rfl) rfl (zm rfl (zm rfl (zm rfl (TL.callW (X := Unit) (fun _ => .bool true) (fun _ => True) (fun _ => hp0 s (stC s ((stC s (L.take 30) (L.take 30).length).ords.take k) k) y3.1 y3.2 ++ (hq0 s (stC s ((stC s (L.take 30) (L.take 30).length).ords.take k) k) y4.1 y4.2 ++ (hp0 s (stC s (L.take 30) (L.take 30).length) y2.1 y2.2 ++ (hq0 s (stC s (L.take 30) (L.take 30).length) y.2.1 v.2 ++ (hp0 s (stC s (L.take 30) (L.take 30).length) y.1.1 v.1 ++ (z.2.2 ++ [(b0, Obj.cells (fmL s f).toArray 29 (0, 0))])))))) rfl Tb.gofn_34 (fun a w hs => Equal_ok hW hv hit hy3 hy4 hs.new) rfl dc (fun _ _ => ?_))))))))))))))))))))
  refine zq (PV.pickT rfl rfl) rfl (zm rfl (TL.call rfl Tb.gofn_31 (fun a w hs => sane_ok w (hW.new hs.new)) rfl dc (fun _ _ => ?_)))
  refine zq (PV.pickT rfl rfl) rfl (za rfl (zt (TQ.retE1 rfl rfl ?_)))
  exact ⟨(), rfl, trivial, nils⟩
theorem BogReplays_ok (w0 : World) (hW : WAt w0) (s : St) (f : FV) (hf : FmAt w0 s f) (hw63 : s.W.length ≤ 9223372036854775807) (hk63 : s.K.length ≤ 9223372036854775807) (pl : Option Addr) (cl : Nat) (L : List (List UInt8)) (hL : StrsAt w0 pl L) (hl63 : L.length ≤ 9223372036854775807) (hcl : L.length ≤ cl) (n : Int) (hn : -9223372036854775808 ≤ n ∧ n ≤ 9223372036854775807) :
    Calls Tryz.prog 7 #[.agg (fmL s f).toArray, .slice pl L.length cl, .int .i64 n] w0 (Post (X := Unit) (fun _ => .bool true) (fun _ => True) (fun _ => []) w0) := by
  by_cases he : s.newI = 0
  · exact BogReplays_ok_y w0 hW s f hf hw63 hk63 pl cl L hL hl63 hcl n hn he
  · exact BogReplays_ok_e w0 hW s f hf hw63 hk63 pl cl L hL hl63 hcl n hn he
end Go.Proofs.YtbnjmkidbfmomaaGreatDoor
