/- Yg Yh -/
import Derived.Test.YtbnjmkidbfmomaaGreatDoorQ06
import Derived.Test.YtbnjmkidbfmomaaGreatDoorQ32
set_option linter.unusedVariables false
set_option linter.unusedSimpArgs false
set_option maxRecDepth 100000
namespace Go.Proofs.YtbnjmkidbfmomaaGreatDoor
open Go.Sx Go.RowKit Go.Bt Go.Lib Go.Sand
theorem calls_in {f : FuncId} {args : Array Value} {w0 w : World} {X : Type} {V : X → Value} {F : X → Prop} {A R : Heap} {D : X → Heap} (h : Calls Tryz.prog f args w (Post V F D w)) (hN : New w0 w (A ++ R)) : Calls Tryz.prog f args w (Post V F (fun x => A ++ (D x ++ R)) w0) :=
  h.mono fun _ _ ⟨x, e1, e2, e3⟩ => ⟨x, e1, e2, (hN.trans e3).perm (List.perm_append_comm_assoc _ _ _)⟩
theorem os_40 (t : List UInt8) (j : Nat) : ((readL t).1.getD j []).length ≤ 40 := by
  by_cases hj : j < (readL t).1.length
  · have h1 := List.all_eq_true.1 (rd_sound 100 0 t).2.2.1 (readL t).1[j] (List.getElem_mem hj)
    have e : (readL t).1.getD j [] = (readL t).1[j] := by simp [List.getD, hj]
    rw [e]
    exact (right_of h1).2.1
  · have e : (readL t).1.getD j [] = [] := by rw [List.getD_eq_getElem?_getD, List.getElem?_eq_none (by omega)]; rfl
    rw [e]; exact Nat.zero_le _
noncomputable def rpV (s : St) (t : List UInt8) : Option (Nat × CP) → Value
  | none => .tuple #[.pointer none, .int .i64 (rpN s t : Nat), .int .i64 (rpE s t)]
  | some y => .tuple #[pt y.1, .int .i64 ((readL t).1.length : Nat), .int .i64 0]
noncomputable def rpF (w0 : World) (s : St) (t : List UInt8) : Option (Nat × CP) → Prop
  | none => rpE s t ≠ 0
  | some y => rpE s t = 0 ∧ rpN s t = (readL t).1.length ∧ CPk w0 s (stC s (readL t).1 (readL t).1.length) y.2
noncomputable def rpD (s : St) (t : List UInt8) (R : Heap) : Option (Nat × CP) → Heap
  | none => R
  | some y => hp0 s (stC s (readL t).1 (readL t).1.length) y.1 y.2 ++ R
noncomputable def rqF (w0 : World) (s : St) (t : List UInt8) : Option (Nat × RQ) → Prop
  | none => rpE s t ≠ 0
  | some y => rpE s t = 0 ∧ rpN s t = (readL t).1.length ∧ RQk w0 s (stC s (readL t).1 (readL t).1.length) y.2
noncomputable def rqV (s : St) (t : List UInt8) : Option (Nat × RQ) → Value
  | none => .tuple #[.pointer none, .int .i64 (rpN s t : Nat), .int .i64 (rpE s t)]
  | some y => .tuple #[pt y.1, .int .i64 ((readL t).1.length : Nat), .int .i64 0]
noncomputable def rqD (s : St) (t : List UInt8) (R : Heap) : Option (Nat × RQ) → Heap
  | none => R
  | some y => hq0 s (stC s (readL t).1 (readL t).1.length) y.1 y.2 ++ R
noncomputable def esF (s : St) (L : List (List UInt8)) (k : Nat) : Int := doI s (stC s L k) (L.getD k [])
set_option maxHeartbeats 1000000 in
theorem rReplay_e (w0 w : World) (R : Heap) (hN : New w0 w R) (hW : WAt w0) (s : St) (f : FV) (hf : FmAt w0 s f) (hlg : s.large = false) (t : List UInt8) (ht : t.length ≤ 1000000) (he : s.newI ≠ 0) :
    Calls Tryz.prog 42 #[.agg #[.slice f.p s.W.length f.cp], .agg #[.slice f.q s.K.length f.cq, .slice f.r s.g.length f.cr], .int .i64 s.need, str t] w (Post (X := Unit) (fun _ => .tuple #[.pointer none, .int .i64 (rpN s t : Nat), .int .i64 (rpE s t)]) (fun _ => True) (fun _ => R) w0) := by
  refine callsM hN Tryz.func42 rfl (n := 52) rfl (by simp) ?_
  refine zr (TL.box rfl rfl dc (fun b0 hb0 => ?_))
  refine TL.box rfl rfl dc (fun b1 hb1 => ?_)
  refine za rfl (za rfl (za rfl (zk (zq (PV.loadBox (cs := [.slice f.p s.W.length f.cp]) rfl Tb.agg_24 m9z rfl) rfl ?_))))
  refine zq (PV.loadBox (cs := [.slice f.q s.K.length f.cq, .slice f.r s.g.length f.cr]) rfl Tb.agg_27 m9z rfl) rfl ?_
  refine zm rfl (TL.call rfl Tb.gofn_51 (fun a w hs => rNew_se (hf.new hs.new) hlg he) rfl dc (fun _ _ => ?_))
  refine zm rfl (zq (PV.extract rfl rfl) rfl (zq (PV.extract rfl rfl) rfl (za rfl (za rfl (zn (TC.seq (zr (zm rfl (zq (PV.yes (PV.neq rfl rfl) he) rfl (zn (TC.condT rfl (zr (zm rfl (za rfl (za rfl (za rfl (zt (TQ.thenR (TQ.retE3 rfl rfl rfl rfl ?_)))))))))))))))))))
  have h9 := rp_1 (s := s) (t := t) he
  exact ⟨(), by rw [h9.1, h9.2]; rfl, trivial, s9z⟩
set_option maxHeartbeats 1000000 in
theorem rReplay_y (w0 w : World) (R : Heap) (hN : New w0 w R) (hW : WAt w0) (s : St) (f : FV) (hf : FmAt w0 s f) (hlg : s.large = false) (t : List UInt8) (ht : t.length ≤ 1000000) (he : s.newI = 0) :
    Calls Tryz.prog 42 #[.agg #[.slice f.p s.W.length f.cp], .agg #[.slice f.q s.K.length f.cq, .slice f.r s.g.length f.cr], .int .i64 s.need, str t] w (Post (X := Option (Nat × RQ)) (rqV s t) (rqF w0 s t) (rqD s t R) w0) := by
  have hv : SV s := sv_of he
  refine callsM hN Tryz.func42 rfl (n := 52) rfl (by simp) ?_
  refine zr (TL.box rfl rfl dc (fun b0 hb0 => ?_))
  refine TL.box rfl rfl dc (fun b1 hb1 => ?_)
  refine za rfl (za rfl (za rfl (zk (zq (PV.loadBox (cs := [.slice f.p s.W.length f.cp]) rfl Tb.agg_24 m9z rfl) rfl ?_))))
  refine zq (PV.loadBox (cs := [.slice f.q s.K.length f.cq, .slice f.r s.g.length f.cr]) rfl Tb.agg_27 m9z rfl) rfl ?_
  refine zm rfl (TL.callW (X := Nat × RQ) (fun y => .tuple #[pt y.1, .int .i64 0]) (fun y => RQk w0 s (co0 s) y.2) (fun y => hq0 s (co0 s) y.1 y.2 ++ ((b1, Obj.cells #[.slice f.q s.K.length f.cq, .slice f.r s.g.length f.cr] 27 (0, 0)) :: (b0, Obj.cells #[.slice f.p s.W.length f.cp] 24 (0, 0)) :: R)) rfl Tb.gofn_51 (fun a w hs => rNew_s hs.new hf hlg he) rfl dc (fun y hy => ?_))
  refine zm rfl (zq (PV.extract rfl rfl) rfl (zq (PV.extract rfl rfl) rfl (za rfl (za rfl (zn (TC.seq (zr (zm rfl (zq (PV.no (PV.neq rfl rfl) (fun h9 => h9 rfl)) rfl ?_)))))))))
  refine zn (TC.condF rfl (TC.skip (TQ.thenC (zr (zm rfl (TL.callW (X := HD) (fun h => .tuple #[.slice (gp h) (readL t).1.length (gc h), str (readL t).2]) (fun h => goR stR h (readL t).1) (fun h => hq0 s (co0 s) y.1 y.2 ++ (gbR stR 9 h (readL t).1 ++ ((b1, Obj.cells #[.slice f.q s.K.length f.cq, .slice f.r s.g.length f.cr] 27 (0, 0)) :: (b0, Obj.cells #[.slice f.p s.W.length f.cp] 24 (0, 0)) :: R))) rfl Tb.gofn_44 (fun a w hs => calls_in (rRead_ok w (hW.new hs.new) t ht) hs.new) rfl dc (fun h hh => ?_)))))))
  refine zm rfl (zq (PV.extract rfl rfl) rfl (zq (PV.extract rfl rfl) rfl (za rfl (za rfl (zn (TC.seq (zr (zm rfl (zq (PV.neqS (M := []) rfl rfl) rfl (zn (TC.cd rfl (fun hr => ?_) (fun hr => ?_))))))))))))
  refine zr (za rfl (za rfl (za rfl (zt (TQ.thenR (TQ.retE3 rfl rfl rfl rfl ?_))))))
  have h9 := rp_2 (s := s) (t := t) (fun h => h he) hr
  exact ⟨none, by show _ = Value.tuple _; rw [h9.1, h9.2]; rfl, by show rpE s t ≠ 0; rw [h9.2]; decide, s9z⟩
  refine TC.skip (TQ.thenC (TC.seq (zr (za rfl (zn (TC.block (TC.loopK [11, 13] (X := Nat × RQ) (fun x => x.1 ≤ (readL t).1.length ∧ RQk w0 s (stC s (readL t).1 x.1) x.2 ∧ ∀ j, j < x.1 → doI s (stC s (readL t).1 j) ((readL t).1.getD j []) = 0) (fun x => [(15, .int .i64 (x.1 : Nat))]) (fun x => hq0 s (stC s (readL t).1 x.1) y.1 x.2 ++ (gbR stR 9 h (readL t).1 ++ ((b1, Obj.cells #[.slice f.q s.K.length f.cq, .slice f.r s.g.length f.cr] 27 (0, 0)) :: (b0, Obj.cells #[.slice f.p s.W.length f.cp] 24 (0, 0)) :: R))) (fun x => (readL t).1.length - x.1) (0, y.2) ⟨Nat.zero_le _, hy, fun j hj => absurd hj (Nat.not_lt_zero _)⟩ l9z (List.Sublist.refl _) ?_)))))))
  intro x hx
  have hx1 := hx.1
  have h100 := rd_100 t
  refine TC.seq (zr (zm rfl (zm rfl (zq (PV.len rfl Tb.sl_43) rfl (zq (PV.lss rfl rfl) rfl (zn (TC.cd rfl (fun hlt => ?_) (fun hlt => ?_))))))))
  refine TC.skip (TQ.thenC (TC.seq (TC.block (TC.seq ?_))))
  obtain ⟨q9, q9p, q9v⟩ := ords_now hh (k := x.1) (by omega)
  have hix := stC_inv hv (readL t).1 x.1
  have h40 := os_40 t x.1
  refine TC.region (zm rfl (zm rfl (zm rfl (zq (PV.indexA rfl q9p rfl Tb.elm_43 rfl om) rfl (zq (PV.loadO (h := h) (L := (readL t).1) (k := x.1) rfl Tb.one_9 r9z q9v) rfl ?_)))))
  refine TL.callW (X := RQ) (fun _ => .int .i64 (doI s (stC s (readL t).1 x.1) ((readL t).1.getD x.1 []))) (fun p1 => RQk w0 s (doC s (stC s (readL t).1 x.1) ((readL t).1.getD x.1 [])) p1) (fun p1 => hq0 s (doC s (stC s (readL t).1 x.1) ((readL t).1.getD x.1 [])) y.1 p1 ++ (gbR stR 9 h (readL t).1 ++ ((b1, Obj.cells #[.slice f.q s.K.length f.cq, .slice f.r s.g.length f.cr] 27 (0, 0)) :: (b0, Obj.cells #[.slice f.p s.W.length f.cp] 24 (0, 0)) :: R))) rfl Tb.gofn_37 (fun a w hs => Do_q hW hv hix hx.2.1 hs.new _) rfl dc (fun p1 hp1 => ?_)
  refine za rfl (zk (zm rfl (zq (PV.neq rfl rfl) rfl (zn (TC.cd rfl (fun hz => ?_) (fun hz => ?_))))))
  refine zr (zm rfl (zm rfl (za rfl (za rfl (za rfl (zt (TQ.blkR (TQ.thenR (TQ.thenR (TQ.blkR (TQ.thenR (TQ.retE3 rfl rfl rfl rfl ?_))))))))))))
  have h9 := rp_3 (s := s) (t := t) (k := x.1) (fun h => h he) hr (by omega) hx.2.2 hz
  exact ⟨none, by show _ = Value.tuple _; rw [h9.1, h9.2], by show rpE s t ≠ 0; rw [h9.2]; exact hz, s9z⟩
  refine TC.skip (TQ.blkN (TQ.thenC (TC.region (zm rfl (zq (PV.add rfl rfl om) rfl (za rfl (TL.nil (TQ.thenN (TQ.backK (x.1 + 1, p1) l9z l9z (by rw [stC_succ om]; exact List.Sublist.refl _) ⟨by simp only; omega, by rw [stC_succ om]; exact hp1, fun j hj => if e : j = x.1 then (by subst e; exact Decidable.not_not.1 hz) else hx.2.2 j (by simp only at hj; omega)⟩ (by simp only; omega))))))))))
  refine TC.exit (TQ.thenE (TQ.thenE (TQ.blkS (TQ.thenC (zr (zm rfl (zm rfl (zq (PV.len rfl Tb.sl_43) rfl (za rfl (za rfl (za rfl (zt (TQ.retE3 rfl rfl rfl rfl ?_)))))))))))))
  have hke : x.1 = (readL t).1.length := by omega
  have h9 := rp_4 (s := s) (t := t) (fun h => h he) hr (fun j hj => hx.2.2 j (by omega))
  have hx2 := hx.2.1
  rw [hke] at hx2
  exact ⟨some (y.1, x.2), rfl, ⟨h9.2, h9.1, hx2⟩, by rw [hke]; exact List.Sublist.append_left s9z _⟩
set_option maxHeartbeats 1000000 in
theorem Replay_e (w0 w : World) (R : Heap) (hN : New w0 w R) (hW : WAt w0) (s : St) (f : FV) (hf : ∀ w9, New w0 w9 R → FmAt w9 s f) (hlg : s.large = false) (t : List UInt8) (ht : t.length ≤ 1000000) (he : s.newI ≠ 0) :
    Calls Tryz.prog 40 #[.agg #[.slice f.p s.W.length f.cp], .agg #[.slice f.q s.K.length f.cq, .slice f.r s.g.length f.cr], .int .i64 s.need, str t] w (Post (X := Unit) (fun _ => .tuple #[.pointer none, .int .i64 (rpN s t : Nat), .int .i64 (rpE s t)]) (fun _ => True) (fun _ => R) w0) := by
  refine callsM hN Tryz.func40 rfl (n := 53) rfl (by simp) ?_
  refine zr (TL.box rfl rfl dc (fun b0 hb0 => ?_))
  refine TL.box rfl rfl dc (fun b1 hb1 => ?_)
  refine za rfl (za rfl (za rfl (zk (zq (PV.loadBox (cs := [.slice f.p s.W.length f.cp]) rfl Tb.agg_24 m9z rfl) rfl ?_))))
  refine zq (PV.loadBox (cs := [.slice f.q s.K.length f.cq, .slice f.r s.g.length f.cr]) rfl Tb.agg_27 m9z rfl) rfl ?_
  refine zm rfl (TL.call rfl Tb.gofn_59 (fun a w hs => New_se (hf w (hs.new.sub s9z)) hlg he) rfl dc (fun _ _ => ?_))
  refine zm rfl (zq (PV.extract rfl rfl) rfl (zq (PV.extract rfl rfl) rfl (za rfl (za rfl (zn (TC.seq (zr (zm rfl (zq (PV.yes (PV.neq rfl rfl) he) rfl (zn (TC.condT rfl (zr (zm rfl (za rfl (za rfl (za rfl (zt (TQ.thenR (TQ.retE3 rfl rfl rfl rfl ?_)))))))))))))))))))
  have h9 := rp_1 (s := s) (t := t) he
  exact ⟨(), by rw [h9.1, h9.2]; rfl, trivial, s9z⟩
set_option maxHeartbeats 1000000 in
theorem Replay_y (w0 w : World) (R : Heap) (hN : New w0 w R) (hW : WAt w0) (s : St) (f : FV) (hf : ∀ w9, New w0 w9 R → FmAt w9 s f) (hlg : s.large = false) (t : List UInt8) (ht : t.length ≤ 1000000) (he : s.newI = 0) :
    Calls Tryz.prog 40 #[.agg #[.slice f.p s.W.length f.cp], .agg #[.slice f.q s.K.length f.cq, .slice f.r s.g.length f.cr], .int .i64 s.need, str t] w (Post (X := Option (Nat × CP)) (rpV s t) (rpF w0 s t) (rpD s t R) w0) := by
  have hv : SV s := sv_of he
  refine callsM hN Tryz.func40 rfl (n := 53) rfl (by simp) ?_
  refine zr (TL.box rfl rfl dc (fun b0 hb0 => ?_))
  refine TL.box rfl rfl dc (fun b1 hb1 => ?_)
  refine za rfl (za rfl (za rfl (zk (zq (PV.loadBox (cs := [.slice f.p s.W.length f.cp]) rfl Tb.agg_24 m9z rfl) rfl ?_))))
  refine zq (PV.loadBox (cs := [.slice f.q s.K.length f.cq, .slice f.r s.g.length f.cr]) rfl Tb.agg_27 m9z rfl) rfl ?_
  refine zm rfl (TL.callW (X := Nat × CP) (fun y => .tuple #[pt y.1, .int .i64 0]) (fun y => CPk w0 s (co0 s) y.2) (fun y => hp0 s (co0 s) y.1 y.2 ++ ((b1, Obj.cells #[.slice f.q s.K.length f.cq, .slice f.r s.g.length f.cr] 27 (0, 0)) :: (b0, Obj.cells #[.slice f.p s.W.length f.cp] 24 (0, 0)) :: R)) rfl Tb.gofn_59 (fun a w hs => New_s hs.new (hf w (hs.new.sub s9z)) hlg he) rfl dc (fun y hy => ?_))
  refine zm rfl (zq (PV.extract rfl rfl) rfl (zq (PV.extract rfl rfl) rfl (za rfl (za rfl (zn (TC.seq (zr (zm rfl (zq (PV.no (PV.neq rfl rfl) (fun h9 => h9 rfl)) rfl ?_)))))))))
  refine zn (TC.condF rfl (TC.skip (TQ.thenC (zr (zm rfl (TL.callW (X := HD) (fun h => .tuple #[.slice (gp h) (readL t).1.length (gc h), str (readL t).2]) (fun h => goR stR h (readL t).1) (fun h => hp0 s (co0 s) y.1 y.2 ++ (gbR stR 9 h (readL t).1 ++ ((b1, Obj.cells #[.slice f.q s.K.length f.cq, .slice f.r s.g.length f.cr] 27 (0, 0)) :: (b0, Obj.cells #[.slice f.p s.W.length f.cp] 24 (0, 0)) :: R))) rfl Tb.gofn_43 (fun a w hs => calls_in (Read_ok w (hW.new hs.new) t ht) hs.new) rfl dc (fun h hh => ?_)))))))
  refine zm rfl (zq (PV.extract rfl rfl) rfl (zq (PV.extract rfl rfl) rfl (za rfl (za rfl (zn (TC.seq (zr (zm rfl (zq (PV.neqS (M := []) rfl rfl) rfl (zn (TC.cd rfl (fun hr => ?_) (fun hr => ?_))))))))))))
  refine zr (za rfl (za rfl (za rfl (zt (TQ.thenR (TQ.retE3 rfl rfl rfl rfl ?_))))))
  have h9 := rp_2 (s := s) (t := t) (fun h => h he) hr
  exact ⟨none, by show _ = Value.tuple _; rw [h9.1, h9.2]; rfl, by show rpE s t ≠ 0; rw [h9.2]; decide, s9z⟩
  refine TC.skip (TQ.thenC (TC.seq (zr (zm rfl (zq (PV.len rfl Tb.sl_43) rfl (zm rfl (zn (TC.block (TC.loopK [11, 13, 35, 36] (X := Nat × CP) (fun x => x.1 ≤ (readL t).1.length ∧ CPk w0 s (stC s (readL t).1 x.1) x.2 ∧ ∀ j, j < x.1 → doI s (stC s (readL t).1 j) ((readL t).1.getD j []) = 0) (fun x => [(37, .int .i64 (x.1 : Nat))]) (fun x => hp0 s (stC s (readL t).1 x.1) y.1 x.2 ++ (gbR stR 9 h (readL t).1 ++ ((b1, Obj.cells #[.slice f.q s.K.length f.cq, .slice f.r s.g.length f.cr] 27 (0, 0)) :: (b0, Obj.cells #[.slice f.p s.W.length f.cp] 24 (0, 0)) :: R))) (fun x => (readL t).1.length - x.1) (0, y.2) ⟨Nat.zero_le _, hy, fun j hj => absurd hj (Nat.not_lt_zero _)⟩ l9z (List.Sublist.refl _) ?_)))))))))
  intro x hx
  have hx1 := hx.1
  have h100 := rd_100 t
  refine zr (zq (PV.lss rfl rfl) rfl (zn (TC.seq (TC.cd rfl (fun hlt => ?_) (fun hlt => ?_)))))
  refine TC.skip (TQ.thenC (TC.seq (TC.block (TC.seq ?_))))
  obtain ⟨q9, q9p, q9v⟩ := ords_now hh (k := x.1) (by omega)
  have hix := stC_inv hv (readL t).1 x.1
  have h40 := os_40 t x.1
  refine TC.region (zm rfl (zq (PV.indexA rfl q9p rfl Tb.elm_43 rfl om) rfl (zq (PV.loadO (h := h) (L := (readL t).1) (k := x.1) rfl Tb.one_9 r9z q9v) rfl ?_)))
  refine za rfl (za rfl (zk (zm rfl (zm rfl (TL.callW (X := CP) (fun _ => .int .i64 (doI s (stC s (readL t).1 x.1) ((readL t).1.getD x.1 []))) (fun p1 => CPk w0 s (doC s (stC s (readL t).1 x.1) ((readL t).1.getD x.1 [])) p1) (fun p1 => hp0 s (doC s (stC s (readL t).1 x.1) ((readL t).1.getD x.1 [])) y.1 p1 ++ (gbR stR 9 h (readL t).1 ++ ((b1, Obj.cells #[.slice f.q s.K.length f.cq, .slice f.r s.g.length f.cr] 27 (0, 0)) :: (b0, Obj.cells #[.slice f.p s.W.length f.cp] 24 (0, 0)) :: R))) rfl Tb.gofn_18 (fun a w hs => Do_p hW hv hix hx.2.1 hs.new _ om) rfl dc (fun p1 hp1 => ?_))))))
  refine za rfl (zk (zm rfl (zq (PV.neq rfl rfl) rfl (zn (TC.cd rfl (fun hz => ?_) (fun hz => ?_))))))
  refine zr (zm rfl (zm rfl (za rfl (za rfl (za rfl (zt (TQ.blkR (TQ.thenR (TQ.thenR (TQ.blkR (TQ.thenR (TQ.retE3 rfl rfl rfl rfl ?_))))))))))))
  have h9 := rp_3 (s := s) (t := t) (k := x.1) (fun h => h he) hr (by omega) hx.2.2 hz
  exact ⟨none, by show _ = Value.tuple _; rw [h9.1, h9.2], by show rpE s t ≠ 0; rw [h9.2]; exact hz, s9z⟩
  refine TC.skip (TQ.blkN (TQ.thenC (TC.region (zq (PV.add rfl rfl om) rfl (zm rfl (TL.nil (TQ.thenN (TQ.backK (x.1 + 1, p1) l9z l9z (by rw [stC_succ om]; exact List.Sublist.refl _) ⟨by simp only; omega, by rw [stC_succ om]; exact hp1, fun j hj => if e : j = x.1 then (by subst e; exact Decidable.not_not.1 hz) else hx.2.2 j (by simp only at hj; omega)⟩ (by simp only; omega)))))))))
  refine TC.exit (TQ.thenE (TQ.thenE (TQ.blkS (TQ.thenC (zr (zm rfl (zm rfl (zq (PV.len rfl Tb.sl_43) rfl (za rfl (za rfl (za rfl (zt (TQ.retE3 rfl rfl rfl rfl ?_)))))))))))))
  have hke : x.1 = (readL t).1.length := by omega
  have h9 := rp_4 (s := s) (t := t) (fun h => h he) hr (fun j hj => hx.2.2 j (by omega))
  have hx2 := hx.2.1
  rw [hke] at hx2
  exact ⟨some (y.1, x.2), rfl, ⟨h9.2, h9.1, hx2⟩, by rw [hke]; exact List.Sublist.append_left s9z _⟩
end Go.Proofs.YtbnjmkidbfmomaaGreatDoor
namespace Go.Proofs.YtbnjmkidbfmomaaGreatDoor
open Go.Sx Go.RowKit Go.Bt Go.Lib Go.Sand
noncomputable abbrev esZ (s : St) (L : List (List UInt8)) (k : Nat) : List Int := fillZ (esF s L) L.length k
theorem es_at {s : St} {L : List (List UInt8)} {k : Nat} (hk : k < L.length) : (esZ s L L.length).getD k 0 = doI s (stC s L k) (L.getD k []) := by
  unfold esZ
  rw [fillZ_all]
  simp [List.getD, hk, esF]
section
variable {P : Program} {n : Nat} {w0 : World} {E : Env} {G : Heap} {d : Option Nat} {ty : TypeId} {pos : String} {aft : Array Edge} {g : Option (Nat × Bool)}
end
end Go.Proofs.YtbnjmkidbfmomaaGreatDoor
