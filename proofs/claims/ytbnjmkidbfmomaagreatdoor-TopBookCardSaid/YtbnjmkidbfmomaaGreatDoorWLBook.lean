/- The law Book: contract. -/
import Derived.Test.YtbnjmkidbfmomaaGreatDoorW28
set_option linter.unusedVariables false
set_option linter.unusedSimpArgs false
set_option maxRecDepth 100000
namespace Go.Proofs.YtbnjmkidbfmomaaGreatDoor
open Go.Sx Go.RowKit Go.Bt Go.Lib Go.Sand
theorem TopBook_e (w0 : World) (hW : WAt w0) (s : St) (f : FV) (hf : FmAt w0 s f) (pl : Option Addr) (cl : Nat) (L : List (List UInt8)) (hL : StrsAt w0 pl L) (hl63 : L.length ≤ 9223372036854775807) (n : Int) (he : s.newI ≠ 0) :
    Calls Tryz.prog 16 #[.agg (fmT s f pl cl L n).toArray] w0 (Post (X := Unit) (fun _ => .bool true) (fun _ => True) (fun _ => []) w0) := by
  refine calls Tryz.func16 rfl (n := 211) rfl (by simp) ?_
  refine zr (TL.box rfl rfl dc (fun b0 hb0 => ?_))
  refine za rfl (zn (TC.seq (zr (TL.call rfl Tb.gofn_43 (fun a w hs => Read_const w (hW.new hs.new)) rfl dc (fun h0 hh0 => ?_)))))
  refine zm rfl (zq (PV.extract rfl rfl) rfl (zq (PV.extract rfl rfl) rfl (za rfl (za rfl (zn (TC.seq ?_))))))
  obtain ⟨q0, q0p, q0v⟩ := ords_now hh0 (k := 0) (by decide)
  refine TC.region (zm rfl (zq (PV.len rfl Tb.sl_43) rfl (zq (PV.no (PV.neq rfl rfl) (fun h9 => h9 rfl)) rfl ?_)))
  refine zm rfl (zm rfl (zq (PV.indexA (j := 0) rfl q0p rfl Tb.elm_43 rfl dc) rfl (zq (PV.loadO (h := h0) (L := [[100, 97, 121]]) (k := 0) rfl Tb.one_9 r9z q0v) rfl ?_)))
  refine zq (PV.no (PV.neqS rfl rfl) (fun h9 => h9 rfl)) rfl ?_
  refine zq (PV.pickF rfl rfl) rfl (zm rfl (zm rfl (zq (PV.no (PV.neqS rfl rfl) (fun h9 => h9 rfl)) rfl ?_)))
  refine zq (PV.pickF rfl rfl) rfl (zn (TC.condF rfl (TC.skip (TQ.thenC (zr (zq (PV.loadBox (cs := fmT s f pl cl L n) rfl Tb.agg_81 m9z rfl) rfl ?_))))))
  refine TL.call rfl Tb.gofn_57 (fun a w hs => firm_e w (hW.new hs.new) s f (hf.new hs.new) pl cl L (hL.new hs.new) hl63 n he) rfl dc (fun _ _ => ?_)
  refine zm rfl (zq (PV.extract rfl rfl) rfl (zq (PV.extract rfl rfl) rfl (zq (PV.extract rfl rfl) rfl (za rfl (za rfl (za rfl (zn (TC.seq (zr (zm rfl (zq ((by first | exact PV.notD rfl | exact PV.not rfl)) rfl ?_)))))))))))
  refine zn (TC.condT rfl (zr (za rfl (zt (TQ.thenR (TQ.retE1 rfl rfl ?_))))))
  exact ⟨(), rfl, trivial, nils⟩
set_option maxHeartbeats 2000000 in
theorem TopBook_y (w0 : World) (hW : WAt w0) (s : St) (f : FV) (hf : FmAt w0 s f) (pl : Option Addr) (cl : Nat) (L : List (List UInt8)) (hL : StrsAt w0 pl L) (hl63 : L.length ≤ 9223372036854775807) (n : Int) (he : s.newI = 0) :
    Calls Tryz.prog 16 #[.agg (fmT s f pl cl L n).toArray] w0 (Post (X := Unit) (fun _ => .bool true) (fun _ => True) (fun _ => []) w0) := by
  have hv : SV s := sv_of he
  have hlg := sv_small hv
  refine calls Tryz.func16 rfl (n := 211) rfl (by simp) ?_
  refine zr (TL.box rfl rfl dc (fun b0 hb0 => ?_))
  refine za rfl (zn (TC.seq (zr (TL.call rfl Tb.gofn_43 (fun a w hs => Read_const w (hW.new hs.new)) rfl dc (fun h0 hh0 => ?_)))))
  refine zm rfl (zq (PV.extract rfl rfl) rfl (zq (PV.extract rfl rfl) rfl (za rfl (za rfl (zn (TC.seq ?_))))))
  obtain ⟨q0, q0p, q0v⟩ := ords_now hh0 (k := 0) (by decide)
  refine TC.region (zm rfl (zq (PV.len rfl Tb.sl_43) rfl (zq (PV.no (PV.neq rfl rfl) (fun h9 => h9 rfl)) rfl ?_)))
  refine zm rfl (zm rfl (zq (PV.indexA (j := 0) rfl q0p rfl Tb.elm_43 rfl dc) rfl (zq (PV.loadO (h := h0) (L := [[100, 97, 121]]) (k := 0) rfl Tb.one_9 r9z q0v) rfl ?_)))
  refine zq (PV.no (PV.neqS rfl rfl) (fun h9 => h9 rfl)) rfl ?_
  refine zq (PV.pickF rfl rfl) rfl (zm rfl (zm rfl (zq (PV.no (PV.neqS rfl rfl) (fun h9 => h9 rfl)) rfl ?_)))
  refine zq (PV.pickF rfl rfl) rfl (zn (TC.condF rfl (TC.skip (TQ.thenC (zr (zq (PV.loadBox (cs := fmT s f pl cl L n) rfl Tb.agg_81 m9z rfl) rfl ?_))))))
  refine TL.callW (X := Nat × (Nat × CP) × HD) (fun y => .tuple #[pt y.2.1.1, .slice (gp y.2.2) (stC s L y.1).ords.length (gc y.2.2), .bool true]) (fun y => CPk w0 s (stC s L y.1) y.2.1.2 ∧ goR stR y.2.2 (stC s L y.1).ords) (fun y => hp0 s (stC s L y.1) y.2.1.1 y.2.1.2 ++ (gbR stR 9 y.2.2 (stC s L y.1).ords ++ (gbR stR 9 h0 [[100, 97, 121]] ++ [(b0, Obj.cells (fmT s f pl cl L n).toArray 81 (0, 0))]))) rfl Tb.gofn_57 (fun a w hs => firm_y w0 w _ hs.new hW s f hf pl cl L hL hl63 n he) rfl dc (fun y hy => ?_)
  refine zm rfl (zq (PV.extract rfl rfl) rfl (zq (PV.extract rfl rfl) rfl (zq (PV.extract rfl rfl) rfl (za rfl (za rfl (za rfl (zn (TC.seq (zr (zm rfl (zq ((by first | exact PV.notD rfl | exact PV.not rfl)) rfl ?_)))))))))))
  refine zn (TC.condF rfl (TC.skip (TQ.thenC (TC.seq ?_))))
  have hif := stC_inv hv L y.1
  have hrc := stC_rc s L y.1
  have hol9 := hif.ol
  have hbl := hif.bl
  refine TC.region (zm rfl (TL.callW (X := Unit) (fun _ => str (bookL dI (stC s L y.1).ords).2) (fun _ => True) (fun _ => hp0 s (stC s L y.1) y.2.1.1 y.2.1.2 ++ (gbR stR 9 y.2.2 (stC s L y.1).ords ++ (gbR stR 9 h0 [[100, 97, 121]] ++ [(b0, Obj.cells (fmT s f pl cl L n).toArray 81 (0, 0))]))) rfl Tb.gofn_28 (fun a w hs => Book_p hW hv hif hy.1 hs.new) rfl dc (fun _ _ => ?_)))
  refine za rfl (zk (zm rfl (TL.call rfl Tb.gofn_48 (fun a w hs => Write_all w (hW.new hs.new) hif _ _ (ords_at hs.new r9z hy.2)) rfl dc (fun _ _ => ?_))))
  refine zm rfl (zq (PV.extract rfl rfl) rfl (zq (PV.extract rfl rfl) rfl (za rfl (za rfl (zn (TC.seq (zr (zm rfl (zq (PV.no (PV.neq rfl rfl) (fun h9 => h9 rfl)) rfl ?_)))))))))
  refine zm rfl (zm rfl (zm rfl (zq (PV.no (PV.neqS rfl rfl) (fun h9 => h9 rfl)) rfl ?_)))
  refine zq (PV.pickF rfl rfl) rfl (zn (TC.condF rfl (TC.skip (TQ.thenC (zr (zm rfl (TL.call rfl Tb.gofn_43 (fun a w hs => read_c w (hW.new hs.new) hif) rfl dc (fun hr hhr => ?_))))))))
  refine zm rfl (zq (PV.extract rfl rfl) rfl (zq (PV.extract rfl rfl) rfl (za rfl (za rfl (zn (TC.seq (zr (zm rfl (zq (PV.no (PV.neqS (M := []) rfl rfl) (fun h9 => h9 rfl)) rfl ?_)))))))))
  refine zm rfl (zm rfl (zq (PV.len rfl Tb.sl_43) rfl (zm rfl (zq (PV.len rfl Tb.sl_43) rfl (zq (PV.no (PV.neq rfl rfl) (fun h9 => h9 rfl)) rfl ?_)))))
  refine zq (PV.pickF rfl rfl) rfl (zn (TC.condF rfl (TC.skip (TQ.thenC (TC.seq (zr (za rfl (zn (TC.block (TC.loopK [1, 6, 8, 11] (X := Nat) (fun i => i ≤ (stC s L y.1).ords.length) (fun i => [(13, .int .i64 (i : Nat))]) (fun i => gbR stR 9 hr (stC s L y.1).ords ++ (hp0 s (stC s L y.1) y.2.1.1 y.2.1.2 ++ (gbR stR 9 y.2.2 (stC s L y.1).ords ++ (gbR stR 9 h0 [[100, 97, 121]] ++ [(b0, Obj.cells (fmT s f pl cl L n).toArray 81 (0, 0))])))) (fun i => (stC s L y.1).ords.length - i) 0 (Nat.zero_le _) l9z (List.Sublist.refl _) ?_))))))))))
  intro i hi9
  refine TC.seq (zr (zm rfl (zm rfl (zq (PV.len rfl Tb.sl_43) rfl (zq (PV.lss rfl rfl) rfl (zn (TC.cd rfl (fun hlt1 => ?_) (fun hlt1 => ?_))))))))
  refine TC.skip (TQ.thenC (TC.seq (TC.block (TC.seq ?_))))
  obtain ⟨q1, q1p, q1v⟩ := ords_now hhr (k := i) (by omega)
  obtain ⟨q2, q2p, q2v⟩ := ords_now hy.2 (k := i) (by omega)
  refine TC.mixV [true, true, true, true, true, true, true, true, true] _ 9 Tb.mixed rfl kr kr kr kr (List.Sublist.refl _) ?_
  refine zv 0 rfl kr (PV.move rfl) rfl (zv 1 rfl kr (PV.move rfl) rfl (zv 2 rfl kr (PV.indexA rfl q1p rfl Tb.elm_43 rfl om) rfl (zv 3 rfl kr (PV.loadO (h := hr) (L := (stC s L y.1).ords) (k := i) rfl Tb.one_9 r9z q1v) rfl ?_)))
  refine zv 4 rfl kr (PV.move rfl) rfl (zv 5 rfl kr (PV.move rfl) rfl (zv 6 rfl kr (PV.indexA rfl q2p rfl Tb.elm_43 rfl om) rfl (zv 7 rfl kr (PV.loadO (h := y.2.2) (L := (stC s L y.1).ords) (k := i) rfl Tb.one_9 r9z q2v) rfl ?_)))
  refine zv 8 rfl kr (PV.no (PV.neqS rfl rfl) (fun h9 => h9 rfl)) rfl ?_
  refine TV.done kr ?_
  refine TQ.thenC (TC.condF rfl (TC.skip (TQ.blkN (TQ.thenC (TC.region (zm rfl (zq (PV.add rfl rfl om) rfl (za rfl (TL.nil (TQ.thenN (TQ.backK (i + 1) l9z l9z (List.Sublist.refl _) om om)))))))))))
  refine TC.exit (TQ.thenE (TQ.thenE (TQ.blkS (TQ.thenC (TC.seq ?_)))))
  obtain ⟨k, hk, hke⟩ := pick_k n (bookL dI (stC s L y.1).ords).2.length
  refine TC.region (zq (PV.fieldAddr rfl Tb.fo_81_4) rfl (zq (PV.load (v := .int .i64 n) rfl Tb.one_3 m9z rfl) rfl ?_))
  refine zq (PV.conv Tb.int_3 Tb.int_55 rfl rfl) rfl (zm rfl (zq (PV.lenS rfl Tb.str_9) rfl (zq (PV.add rfl rfl om) rfl (zq (PV.conv (v := (((bookL dI (stC s L y.1).ords).2.length : Nat) : Int) + 1) Tb.int_3 Tb.int_55 rfl (by rw [IntKind.wrap_u64]; omega)) rfl ?_))))
  refine zq (PV.to (PV.remU rfl rfl om (by rw [hke]; omega)) (by rw [hke])) rfl ?_
  refine zq (PV.conv (v := (k : Int)) Tb.int_55 Tb.int_3 rfl (by rw [IntKind.wrap_i64]; omega)) rfl ?_
  refine za rfl (zn (TC.seq ?_))
  obtain ⟨j, r, hjl, hrd, hrk, hcut⟩ := part_all hif hk
  have htl : ((stC s L y.1).ords.take j).length = j := by rw [List.length_take]; omega
  have hat : ∀ i, i < ((stC s L y.1).ords.take j).length → doI s (stC s ((stC s L y.1).ords.take j) i) (((stC s L y.1).ords.take j).getD i []) = 0 := fun i hi => by rw [htl] at hi; rw [stC_take (by omega), getD_take hi]; exact hrc.ok i (by omega)
  refine TC.region (zm rfl (zm rfl (zq (PV.slSt (h := k) rfl rfl Tb.str_9 rfl hk) rfl (TL.call rfl Tb.gofn_43 (fun a w hs => read_pt w (hW.new hs.new) hif k hjl hrd) rfl dc (fun hq hhq => ?_)))))
  refine zm rfl (zq (PV.extract rfl rfl) rfl (zq (PV.extract rfl rfl) rfl (za rfl (za rfl (zn (TC.seq (zr (zm rfl (zq (PV.len rfl Tb.sl_43) rfl (zm rfl (zq (PV.len rfl Tb.sl_43) rfl (zq (PV.no (PV.gtr rfl rfl) om) rfl (zm rfl (zm rfl (zq (PV.lenS rfl Tb.str_9) rfl (zm rfl (zq (PV.no (PV.gtr rfl rfl) om) rfl (zq (PV.pickF rfl rfl) rfl (zn (TC.condF rfl (TC.skip (TQ.thenC (TC.seq (zr (za rfl (zn (TC.block (TC.loopK [1, 6, 8, 11, 12, 14] (X := Nat) (fun m => m ≤ j) (fun m => [(15, .int .i64 (m : Nat))]) (fun m => gbR stR 9 hq ((stC s L y.1).ords.take j) ++ (gbR stR 9 hr (stC s L y.1).ords ++ (hp0 s (stC s L y.1) y.2.1.1 y.2.1.2 ++ (gbR stR 9 y.2.2 (stC s L y.1).ords ++ (gbR stR 9 h0 [[100, 97, 121]] ++ [(b0, Obj.cells (fmT s f pl cl L n).toArray 81 (0, 0))]))))) (fun m => j - m) 0 (Nat.zero_le _) l9z (List.Sublist.refl _) ?_))))))))))))))))))))))))))))
  intro m hm9
  refine TC.seq (zr (zm rfl (zm rfl (zq (PV.len rfl Tb.sl_43) rfl (zq (PV.lss rfl rfl) rfl (zn (TC.cd rfl (fun hlt2 => ?_) (fun hlt2 => ?_))))))))
  refine TC.skip (TQ.thenC (TC.seq (TC.block (TC.seq ?_))))
  obtain ⟨q1, q1p, q1v⟩ := ords_now hhq (k := m) (by rw [htl]; omega)
  obtain ⟨q2, q2p, q2v⟩ := ords_now hy.2 (k := m) (by omega)
  refine TC.mixV [true, true, true, true, true, true, true, true, true] _ 9 Tb.mixed rfl kr kr kr kr (List.Sublist.refl _) ?_
  refine zv 0 rfl kr (PV.move rfl) rfl (zv 1 rfl kr (PV.move rfl) rfl (zv 2 rfl kr (PV.indexA rfl q1p rfl Tb.elm_43 rfl om) rfl (zv 3 rfl kr (PV.to (PV.loadO (h := hq) (L := (stC s L y.1).ords.take j) (k := m) rfl Tb.one_9 r9z q1v) (by rw [getD_take om])) rfl ?_)))
  refine zv 4 rfl kr (PV.move rfl) rfl (zv 5 rfl kr (PV.move rfl) rfl (zv 6 rfl kr (PV.indexA rfl q2p rfl Tb.elm_43 rfl om) rfl (zv 7 rfl kr (PV.loadO (h := y.2.2) (L := (stC s L y.1).ords) (k := m) rfl Tb.one_9 r9z q2v) rfl ?_)))
  refine zv 8 rfl kr (PV.no (PV.neqS rfl rfl) (fun h9 => h9 rfl)) rfl ?_
  refine TV.done kr ?_
  refine TQ.thenC (TC.condF rfl (TC.skip (TQ.blkN (TQ.thenC (TC.region (zm rfl (zq (PV.add rfl rfl om) rfl (za rfl (TL.nil (TQ.thenN (TQ.backK (m + 1) l9z l9z (List.Sublist.refl _) om om)))))))))))
  refine TC.exit (TQ.thenE (TQ.thenE (TQ.blkS (TQ.thenC (zr (zm rfl (zm rfl (zm rfl (zq (PV.lenS rfl Tb.str_9) rfl (zq (PV.sub rfl rfl om) rfl (zq (PV.to (PV.slSt (h := k - r.length) rfl rfl Tb.str_9 om om) (by rw [hcut])) rfl ?_)))))))))))
  refine za rfl (zk (zm rfl (zm rfl (TL.call rfl Tb.gofn_52 (fun a w hs => Merge_j w (hW.new hs.new) hif hjl) rfl dc (fun _ _ => ?_)))))
  refine zm rfl (zq (PV.extract rfl rfl) rfl (zq (PV.extract rfl rfl) rfl (zq (PV.extract rfl rfl) rfl (za rfl (za rfl (za rfl (zk (zm rfl (zm rfl (TL.call rfl Tb.gofn_52 (fun a w hs => Merge_j2 w (hW.new hs.new) hif hjl) rfl dc (fun _ _ => ?_)))))))))))
  refine zm rfl (zq (PV.extract rfl rfl) rfl (zq (PV.extract rfl rfl) rfl (zq (PV.extract rfl rfl) rfl (za rfl (za rfl (za rfl (zn (TC.seq (zr (zm rfl (zq (PV.no (PV.neq rfl rfl) (fun h9 => h9 rfl)) rfl ?_)))))))))))
  refine zm rfl (zm rfl (zq (PV.no (PV.neq rfl rfl) (fun h9 => h9 rfl)) rfl ?_))
  refine zq (PV.pickF rfl rfl) rfl (zm rfl (zm rfl (zm rfl (zq (PV.no (PV.neqS rfl rfl) (fun h9 => h9 rfl)) rfl ?_))))
  refine zq (PV.pickF rfl rfl) rfl (zm rfl (zm rfl (zm rfl (zq (PV.no (PV.neqS rfl rfl) (fun h9 => h9 rfl)) rfl ?_))))
  refine zq (PV.pickF rfl rfl) rfl (zm rfl (zm rfl (zm rfl (zq (PV.len rfl Tb.sl_43) rfl (zq (PV.no (PV.neq rfl rfl) (fun h9 => h9 rfl)) rfl ?_)))))
  refine zq (PV.pickF rfl rfl) rfl (zm rfl (zm rfl (zm rfl (zq (PV.no (PV.neq rfl rfl) (fun h9 => h9 rfl)) rfl ?_))))
  refine zq (PV.pickF rfl rfl) rfl (zn (TC.condF rfl (TC.skip (TQ.thenC (TC.seq (TC.mixV [true, true, true, true, true, true, true, true, true, false, true, true, true, true, true, true, true] [(b0, Obj.cells (fmT s f pl cl L n).toArray 81 (0, 0))] 17 Tb.mixed rfl kr kr kr kr s9z ?_))))))
  refine zv 0 rfl kr (PV.fieldAddr rfl Tb.fo_81_0) rfl (zv 1 rfl kr (PV.loadMid (cs := fmT s f pl cl L n) (off := 0) (k := 1) (vs := [.slice f.p s.W.length f.cp]) rfl Tb.agg_24 m9z rfl rfl) rfl ?_)
  refine zv 2 rfl kr (PV.fieldAddr rfl Tb.fo_81_1) rfl (zv 3 rfl kr (PV.loadMid (cs := fmT s f pl cl L n) (off := 1) (k := 2) (vs := [.slice f.q s.K.length f.cq, .slice f.r s.g.length f.cr]) rfl Tb.agg_27 m9z rfl rfl) rfl ?_)
  refine zv 4 rfl kr (PV.fieldAddr rfl Tb.fo_81_2) rfl (zv 5 rfl kr (PV.load (v := .int .i64 s.need) rfl Tb.one_3 m9z rfl) rfl ?_)
  refine zv 6 rfl kr (PV.move rfl) rfl (zv 7 rfl kr (PV.move rfl) rfl (zv 8 rfl kr (PV.slSt (h := k) rfl rfl Tb.str_9 rfl hk) rfl (TV.step [9] kr dc rfl ⟨⟨_, rfl, ?_⟩, trivial⟩)))
  refine TL.callW (X := Option Addr) (fun o => .tuple #[.pointer o, .int .i64 (rpN s ((bookL dI (stC s L y.1).ords).2.take k) : Nat), .int .i64 (rpE s ((bookL dI (stC s L y.1).ords).2.take k))]) (fun _ => True) (fun _ => gbR stR 9 hq ((stC s L y.1).ords.take j) ++ (gbR stR 9 hr (stC s L y.1).ords ++ (hp0 s (stC s L y.1) y.2.1.1 y.2.1.2 ++ (gbR stR 9 y.2.2 (stC s L y.1).ords ++ (gbR stR 9 h0 [[100, 97, 121]] ++ [(b0, Obj.cells (fmT s f pl cl L n).toArray 81 (0, 0))]))))) rfl Tb.gofn_40 (fun a w hs => Replay_any hs.new hW (fun w9 hn => hf.new hn) hlg he _ (by rw [List.length_take]; omega) (by rw [hrd]; exact hat)) rfl dc (fun o9 _ => ?_)
  refine TL.nil (TV.next (.inl s9z) ?_)
  refine zv 10 rfl kr (PV.move rfl) rfl (zv 11 rfl kr (PV.extract rfl rfl) rfl (zv 12 rfl kr (PV.extract rfl rfl) rfl (zv 13 rfl kr (PV.extract rfl rfl) rfl (zv 14 rfl kr (PV.assign rfl) rfl (zv 15 rfl kr (PV.assign rfl) rfl (zv 16 rfl kr (PV.assign rfl) rfl (TV.done kr ?_)))))))
  refine TQ.thenC (TC.seq (zr (zm rfl (zq (PV.neqS (M := []) rfl rfl) rfl (zn (TC.cd rfl (fun hrr => ?_) (fun hrr => ?_)))))))
  have hp9 := rp_2 (s := s) (t := (bookL dI (stC s L y.1).ords).2.take k) (fun h => h he) (by rw [hrd]; exact hrr)
  refine zr (zm rfl (zq (PV.yes (PV.eql rfl rfl) hp9.2) rfl (zm rfl (zm rfl (zq (PV.yes (PV.eql rfl rfl) (by rw [hp9.1]; rfl)) rfl ?_)))))
  refine zq (PV.pickT rfl rfl) rfl (za rfl (zt (TQ.thenR (TQ.retE1 rfl rfl ?_))))
  exact ⟨(), rfl, trivial, nils⟩
  have hp9 := rp_4 (s := s) (t := (bookL dI (stC s L y.1).ords).2.take k) (fun h => h he) (by rw [hrd]; exact hrr) (by rw [hrd]; exact hat)
  have hp8 : rpN s ((bookL dI (stC s L y.1).ords).2.take k) = j := by rw [hp9.1, hrd]; exact htl
  refine TC.skip (TQ.thenC (zr (zm rfl (zq (PV.yes (PV.eql rfl rfl) hp9.2) rfl (zm rfl (zm rfl (zm rfl (zq (PV.len rfl Tb.sl_43) rfl (zq (PV.yes (PV.eql rfl rfl) (by rw [hp8])) rfl ?_)))))))))
  refine zq (PV.pickT rfl rfl) rfl (za rfl (zt (TQ.retE1 rfl rfl ?_)))
  exact ⟨(), rfl, trivial, nils⟩
theorem TopBook_ok (w0 : World) (hW : WAt w0) (s : St) (f : FV) (hf : FmAt w0 s f) (pl : Option Addr) (cl : Nat) (L : List (List UInt8)) (hL : StrsAt w0 pl L) (hl63 : L.length ≤ 9223372036854775807) (n : Int) :
    Calls Tryz.prog 16 #[.agg (fmT s f pl cl L n).toArray] w0 (Post (X := Unit) (fun _ => .bool true) (fun _ => True) (fun _ => []) w0) := by
  by_cases he : s.newI = 0
  · exact TopBook_y w0 hW s f hf pl cl L hL hl63 n he
  · exact TopBook_e w0 hW s f hf pl cl L hL hl63 n he
end Go.Proofs.YtbnjmkidbfmomaaGreatDoor
