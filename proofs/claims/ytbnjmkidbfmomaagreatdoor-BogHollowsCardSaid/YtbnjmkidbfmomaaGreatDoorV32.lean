/- Yg Yh -/
import Derived.Test.YtbnjmkidbfmomaaGreatDoorV06
import Derived.Test.YtbnjmkidbfmomaaGreatDoorV30
set_option linter.unusedVariables false
set_option linter.unusedSimpArgs false
set_option maxRecDepth 100000
namespace Go.Proofs.YtbnjmkidbfmomaaGreatDoor
open Go.Sx Go.RowKit Go.Bt Go.Lib Go.Sand
theorem calls_in {f : FuncId} {args : Array Value} {w0 w : World} {X : Type} {V : X → Value} {F : X → Prop} {A R : Heap} {D : X → Heap} (h : Calls Tryz.prog f args w (Post V F D w)) (hN : New w0 w (A ++ R)) : Calls Tryz.prog f args w (Post V F (fun x => A ++ (D x ++ R)) w0) :=
  h.mono fun _ _ ⟨x, e1, e2, e3⟩ => ⟨x, e1, e2, (hN.trans e3).perm (List.perm_append_comm_assoc _ _ _)⟩
theorem os_40 (t : List UInt8) (j : Nat) : ((readL t).1.getD j []).length ≤ 40 := by
  by_cases hj : j < (readL t).1.length
  · have h1 := List.all_eq_true.1 (rd_sound 100 0 t).2.2.1 (readL t).1[j] (List.getElem_mem hj)
    have e : (readL t).1.getD j [] = (readL t).1[j] := by simp [List.getD, hj]
    rw [e]
    exact (right_of h1).2.1
  · have e : (readL t).1.getD j [] = [] := by rw [List.getD_eq_getElem?_getD, List.getElem?_eq_none (by omega)]; rfl
    rw [e]; exact Nat.zero_le _
noncomputable def rpV (s : St) (t : List UInt8) : Option (Nat × CP) → Value
  | none => .tuple #[.pointer none, .int .i64 (rpN s t : Nat), .int .i64 (rpE s t)]
  | some y => .tuple #[pt y.1, .int .i64 ((readL t).1.length : Nat), .int .i64 0]
noncomputable def rpF (w0 : World) (s : St) (t : List UInt8) : Option (Nat × CP) → Prop
  | none => rpE s t ≠ 0
  | some y => rpE s t = 0 ∧ rpN s t = (readL t).1.length ∧ CPk w0 s (stC s (readL t).1 (readL t).1.length) y.2
noncomputable def rpD (s : St) (t : List UInt8) (R : Heap) : Option (Nat × CP) → Heap
  | none => R
  | some y => hp0 s (stC s (readL t).1 (readL t).1.length) y.1 y.2 ++ R
noncomputable def rqF (w0 : World) (s : St) (t : List UInt8) : Option (Nat × RQ) → Prop
  | none => rpE s t ≠ 0
  | some y => rpE s t = 0 ∧ rpN s t = (readL t).1.length ∧ RQk w0 s (stC s (readL t).1 (readL t).1.length) y.2
noncomputable def rqV (s : St) (t : List UInt8) : Option (Nat × RQ) → Value
  | none => .tuple #[.pointer none, .int .i64 (rpN s t : Nat), .int .i64 (rpE s t)]
  | some y => .tuple #[pt y.1, .int .i64 ((readL t).1.length : Nat), .int .i64 0]
noncomputable def rqD (s : St) (t : List UInt8) (R : Heap) : Option (Nat × RQ) → Heap
  | none => R
  | some y => hq0 s (stC s (readL t).1 (readL t).1.length) y.1 y.2 ++ R
noncomputable def esF (s : St) (L : List (List UInt8)) (k : Nat) : Int := doI s (stC s L k) (L.getD k [])
set_option maxHeartbeats 1000000 in
theorem Replay_y (w0 w : World) (R : Heap) (hN : New w0 w R) (hW : WAt w0) (s : St) (f : FV) (hf : ∀ w9, New w0 w9 R → FmAt w9 s f) (hlg : s.large = false) (t : List UInt8) (ht : t.length ≤ 1000000) (he : s.newI = 0) :
    Calls Tryz.prog 40 #[.agg #[.slice f.p s.W.length f.cp], .agg #[.slice f.q s.K.length f.cq, .slice f.r s.g.length f.cr], .int .i64 s.need, str t] w (Post (X := Option (Nat × CP)) (rpV s t) (rpF w0 s t) (rpD s t R) w0) := by
  have hv : SV s := sv_of he
  refine callsM hN Tryz.func40 rfl (n := 53) rfl (by simp) ?_
  refine zr (TL.box rfl rfl dc (fun b0 hb0 => ?_))
  refine TL.box rfl rfl dc (fun b1 hb1 => ?_)
  refine za rfl (za rfl (za rfl (zk (zq (PV.loadBox (cs := [.slice f.p s.W.length f.cp]) rfl Tb.agg_24 m9z rfl) rfl ?_))))
  refine zq (PV.loadBox (cs := [.slice f.q s.K.length f.cq, .slice f.r s.g.length f.cr]) rfl Tb.agg_27 m9z rfl) rfl ?_
  refine zm rfl (TL.callW (X := Nat × CP) (fun y => .tuple #[pt y.1, .int .i64 0]) (fun y => CPk w0 s (co0 s) y.2) (fun y => hp0 s (co0 s) y.1 y.2 ++ ((b1, Obj.cells #[.slice f.q s.K.length f.cq, .slice f.r s.g.length f.cr] 27 (0, 0)) :: (b0, Obj.cells #[.slice f.p s.W.length f.cp] 24 (0, 0)) :: R)) rfl Tb.gofn_59 (fun a w hs => New_s hs.new (hf w (hs.new.sub s9z)) hlg he) rfl dc (fun y hy => ?_))
  refine zm rfl (zq (PV.extract rfl rfl) rfl (zq (PV.extract rfl rfl) rfl (za rfl (za rfl (zn (TC.seq (zr (zm rfl (zq (PV.no (PV.neq rfl rfl) (fun h9 => h9 rfl)) rfl ?_)))))))))
  refine zn (TC.condF rfl (TC.skip (TQ.thenC (zr (zm rfl (TL.callW (X := HD) (fun h => .tuple #[.slice (gp h) (readL t).1.length (gc h), str (readL t).2]) (fun h => goR stR h (readL t).1) (fun h => hp0 s (co0 s) y.1 y.2 ++ (gbR stR 9 h (readL t).1 ++ ((b1, Obj.cells #[.slice f.q s.K.length f.cq, .slice f.r s.g.length f.cr] 27 (0, 0)) :: (b0, Obj.cells #[.slice f.p s.W.length f.cp] 24 (0, 0)) :: R))) rfl Tb.gofn_43 (fun a w hs => calls_in (Read_ok w (hW.new hs.new) t ht) hs.new) rfl dc (fun h hh => ?_)))))))
  refine zm rfl (zq (PV.extract rfl rfl) rfl (zq (PV.extract rfl rfl) rfl (za rfl (za rfl (zn (TC.seq (zr (zm rfl (zq (PV.neqS (M := []) rfl rfl) rfl (zn (TC.cd rfl (fun hr => ?_) (fun hr => ?_))))))))))))
  refine zr (za rfl (za rfl (za rfl (zt (TQ.thenR (TQ.retE3 rfl rfl rfl rfl ?_))))))
  have h9 := rp_2 (s := s) (t := t) (fun h => h he) hr
  exact ⟨none, by show _ = Value.tuple _; rw [h9.1, h9.2]; rfl, by show rpE s t ≠ 0; rw [h9.2]; decide, s9z⟩
  refine TC.skip (TQ.thenC (TC.seq (zr (zm rfl (zq (PV.len rfl Tb.sl_43) rfl (zm rfl (zn (TC.block (TC.loopK [11, 13, 35, 36] (X := Nat × CP) (fun x => x.1 ≤ (readL t).1.length ∧ CPk w0 s (stC s (readL t).1 x.1) x.2 ∧ ∀ j, j < x.1 → doI s (stC s (readL t).1 j) ((readL t).1.getD j []) = 0) (fun x => [(37, .int .i64 (x.1 : Nat))]) (fun x => hp0 s (stC s (readL t).1 x.1) y.1 x.2 ++ (gbR stR 9 h (readL t).1 ++ ((b1, Obj.cells #[.slice f.q s.K.length f.cq, .slice f.r s.g.length f.cr] 27 (0, 0)) :: (b0, Obj.cells #[.slice f.p s.W.length f.cp] 24 (0, 0)) :: R))) (fun x => (readL t).1.length - x.1) (0, y.2) ⟨Nat.zero_le _, hy, fun j hj => absurd hj (Nat.not_lt_zero _)⟩ l9z (List.Sublist.refl _) ?_)))))))))
  intro x hx
  have hx1 := hx.1
  have h100 := rd_100 t
  refine zr (zq (PV.lss rfl rfl) rfl (zn (TC.seq (TC.cd rfl (fun hlt => ?_) (fun hlt => ?_)))))
  refine TC.skip (TQ.thenC (TC.seq (TC.block (TC.seq ?_))))
  obtain ⟨q9, q9p, q9v⟩ := ords_now hh (k := x.1) (by omega)
  have hix := stC_inv hv (readL t).1 x.1
  have h40 := os_40 t x.1
  refine TC.region (zm rfl (zq (PV.indexA rfl q9p rfl Tb.elm_43 rfl om) rfl (zq (PV.loadO (h := h) (L := (readL t).1) (k := x.1) rfl Tb.one_9 r9z q9v) rfl ?_)))
  refine za rfl (za rfl (zk (zm rfl (zm rfl (TL.callW (X := CP) (fun _ => .int .i64 (doI s (stC s (readL t).1 x.1) ((readL t).1.getD x.1 []))) (fun p1 => CPk w0 s (doC s (stC s (readL t).1 x.1) ((readL t).1.getD x.1 [])) p1) (fun p1 => hp0 s (doC s (stC s (readL t).1 x.1) ((readL t).1.getD x.1 [])) y.1 p1 ++ (gbR stR 9 h (readL t).1 ++ ((b1, Obj.cells #[.slice f.q s.K.length f.cq, .slice f.r s.g.length f.cr] 27 (0, 0)) :: (b0, Obj.cells #[.slice f.p s.W.length f.cp] 24 (0, 0)) :: R))) rfl Tb.gofn_18 (fun a w hs => Do_p hW hv hix hx.2.1 hs.new _ om) rfl dc (fun p1 hp1 => ?_))))))
  refine za rfl (zk (zm rfl (zq (PV.neq rfl rfl) rfl (zn (TC.cd rfl (fun hz => ?_) (fun hz => ?_))))))
  refine zr (zm rfl (zm rfl (za rfl (za rfl (za rfl (zt (TQ.blkR (TQ.thenR (TQ.thenR (TQ.blkR (TQ.thenR (TQ.retE3 rfl rfl rfl rfl ?_))))))))))))
  have h9 := rp_3 (s := s) (t := t) (k := x.1) (fun h => h he) hr (by omega) hx.2.2 hz
  exact ⟨none, by show _ = Value.tuple _; rw [h9.1, h9.2], by show rpE s t ≠ 0; rw [h9.2]; exact hz, s9z⟩
  refine TC.skip (TQ.blkN (TQ.thenC (TC.region (zq (PV.add rfl rfl om) rfl (zm rfl (TL.nil (TQ.thenN (TQ.backK (x.1 + 1, p1) l9z l9z (by rw [stC_succ om]; exact List.Sublist.refl _) ⟨by simp only; omega, by rw [stC_succ om]; exact hp1, fun j hj => if e : j = x.1 then (by subst e; exact Decidable.not_not.1 hz) else hx.2.2 j (by simp only at hj; omega)⟩ (by simp only; omega)))))))))
  refine TC.exit (TQ.thenE (TQ.thenE (TQ.blkS (TQ.thenC (zr (zm rfl (zm rfl (zq (PV.len rfl Tb.sl_43) rfl (za rfl (za rfl (za rfl (zt (TQ.retE3 rfl rfl rfl rfl ?_)))))))))))))
  have hke : x.1 = (readL t).1.length := by omega
  have h9 := rp_4 (s := s) (t := t) (fun h => h he) hr (fun j hj => hx.2.2 j (by omega))
  have hx2 := hx.2.1
  rw [hke] at hx2
  exact ⟨some (y.1, x.2), rfl, ⟨h9.2, h9.1, hx2⟩, by rw [hke]; exact List.Sublist.append_left s9z _⟩
end Go.Proofs.YtbnjmkidbfmomaaGreatDoor
namespace Go.Proofs.YtbnjmkidbfmomaaGreatDoor
open Go.Sx Go.RowKit Go.Bt Go.Lib Go.Sand
noncomputable abbrev esZ (s : St) (L : List (List UInt8)) (k : Nat) : List Int := fillZ (esF s L) L.length k
theorem sK_all {xs : List Int} {k : Nat} (h : k = xs.length) : sK xs k = sL xs := by subst h; rfl
theorem worth_v (w : World) {s : St} {c : Co} (hv : SV s) (hi : Inv s c) (p : Option Addr) (cap : Nat) (hr : LsAt w p s.W) (hc : C.CapsAt w p s.W) (pl : Option Addr) (cl : Nat) (hx : IntsAt w pl c.hol) :
    Calls Tryz.prog 77 #[.agg #[.slice p s.W.length cap], .slice pl c.hol.length cl] w (Post (X := Unit) (fun _ => .tuple #[.int .i64 (C.worH s.W c.hol), .int .i64 0]) (fun _ => True) (fun _ => []) w) := by
  have h := C.Worth_ok w p cap s.W hr pl cl c.hol hx hc
  rw [hol_0 hv hi] at h
  exact h
theorem dry_no {s : St} {c : Co} (hv : SV s) (hi : Inv s c) {r k : Nat} (hk : k < s.W.length) (h : ¬ (r : Int) < c.hol.getD k 0) : c.wet.testBit (s.sq r k) = false := by
  cases h9 : c.wet.testBit (s.sq r k) with
  | false => rfl
  | true =>
    have h2 := hi.wb _ h9
    rw [bare_t, (sq_at hk).2.1, (sq_at hk).2.2, Bool.and_eq_true] at h2
    exact absurd (of_decide_eq_true h2.2) h
theorem goI_now {h : HD} {L : List Int} (ho : goI (h, L)) {k : Nat} (hk : k < L.length) : ∃ q, gp h = some q ∧ ∀ (w0 w : World) (Z : Heap), (∀ y ∈ gbI (h, L), y ∈ Z) → New w0 w Z → w.cell? (q.add (k * 1)) = some (.int .i64 (L.getD k 0)) := by
  cases h with
  | none => exact absurd (show L.length = 0 from ho.2) (by omega)
  | some x =>
    refine ⟨⟨x.1, 0, none⟩, rfl, fun w0 w Z hm hn => ?_⟩
    obtain ⟨q, h1, h2⟩ := IntsAt.g (x := (some x, L)) hn hm ho k hk
    obtain rfl := Option.some.inj h1
    exact h2
section
variable {P : Program} {n : Nat} {w0 : World} {E : Env} {G : Heap} {d : Option Nat} {ty : TypeId} {pos : String} {aft : Array Edge} {g : Option (Nat × Bool)}
theorem PV.loadGn {x : Operand} {q : Addr} {t : Nat} {h : HD} {L : List Int} {k : Nat} (hx : evo E x = some (.pointer (some (q.add (k * 1))))) (ht : oneB P t = true) (hm : ∀ y ∈ gbI (h, L), y ∈ G)
    (qv : ∀ (w0 w : World) (Z : Heap), (∀ y ∈ gbI (h, L), y ∈ Z) → New w0 w Z → w.cell? (q.add (k * 1)) = some (.int .i64 (L.getD k 0))) : PV P n w0 E G ⟨d, .load t x, ty, pos, aft, g⟩ (.int .i64 (L.getD k 0)) :=
  PV.loadN hx ht (List.Sublist.refl _) fun w hn => qv _ _ _ hm hn
end
theorem sq_nat {s : St} (r k : Nat) : (r : Int) * (s.W.length : Int) + (k : Int) = ((s.sq r k : Nat) : Int) := sq_cast (by omega) (by omega)
theorem calls_swap2 {f : FuncId} {args : Array Value} {w0 w : World} {X : Type} {V : X → Value} {F : X → Prop} {A R : Heap} {B : X → Heap} (h : Calls Tryz.prog f args w (Post V F (fun x => B x ++ (A ++ R)) w0)) : Calls Tryz.prog f args w (Post V F (fun x => A ++ (B x ++ R)) w0) := calls_swap h
set_option maxHeartbeats 1000000 in
theorem Balanced_ok {w0 w : World} {s : St} (hv : SV s) {c : Co} (hi : Inv s c) {p : CP} (hk : CPk w0 s c p) {f : FV} (hf : FmAt w0 s f) {b : Nat} {R : Heap} (hN : New w0 w (hp0 s c b p ++ R)) :
    Calls Tryz.prog 38 #[pt b, .agg (fmL s f).toArray] w (Post (X := Unit) (fun _ => .bool true) (fun _ => True) (fun _ => hp0 s c b p ++ R) w0) := by
  have h5 := hv.n5
  have h4 := hv.d4
  have hhl := hi.hl
  have htl := hi.tl' hv
  have hNB := hi.ho.toNB
  have hbn := hi.bnd hv
  have hbm := hbn.bm
  have hbl := hbn.bl
  have hbg := hbn.bg
  have hbt := hbn.bt
  have hbh := hbn.bh
  have hbc := hbn.bc
  have hct := hi.ct
  have hba := hi.bal
  have hmo := hi.mon
  refine callsM hN Tryz.func38 rfl (n := 76) rfl (by simp) ?_
  refine zr (TL.box rfl rfl dc (fun b0 hb0 => ?_))
  refine za rfl (zk (za rfl (za rfl (zn (TC.seq (TC.perm (G' := hp0 s c b p ++ ((b0, Obj.cells (fmL s f).toArray 29 (0, 0)) :: R)) List.perm_middle ?_))))))
  refine TC.region (zm rfl (TL.callW (X := HD) (fun h => .slice (gp h) c.hol.length (gc h)) (fun h => goI (h, c.hol)) (fun h => hp0 s c b p ++ (gbI (h, c.hol) ++ ((b0, Obj.cells (fmL s f).toArray 29 (0, 0)) :: R))) rfl Tb.gofn_25 (fun a w hs => calls_swap2 (Hollow_p hv hi hk hs.new)) rfl dc (fun h1 hh1 => ?_)))
  refine zm rfl (TL.callW (X := HD) (fun h => .slice (gp h) c.tur.length (gc h)) (fun h => goI (h, c.tur)) (fun h => hp0 s c b p ++ (gbI (h, c.tur) ++ (gbI (h1, c.hol) ++ ((b0, Obj.cells (fmL s f).toArray 29 (0, 0)) :: R)))) rfl Tb.gofn_26 (fun a w hs => calls_swap2 (Turves_p hv hi hk hs.new)) rfl dc (fun h2 hh2 => ?_))
  refine za rfl (za rfl (zn (TC.seq (zr (za rfl (zn (TC.block (TC.loopK [0, 3, 4, 6, 7, 8] (X := Nat) (fun k => k ≤ c.hol.length) (fun k => [(9, .int .i64 (k : Nat)), (5, .int .i64 (sK c.hol k))]) (fun k => hp0 s c b p ++ (gbI (h2, c.tur) ++ (gbI (h1, c.hol) ++ ((b0, Obj.cells (fmL s f).toArray 29 (0, 0)) :: R)))) (fun k => c.hol.length - k) 0 (Nat.zero_le _) l9z (List.Sublist.refl _) ?_))))))))
  intro k hk9
  have hsbk := sK_bd (xs := c.hol) (fun j => by have := hNB.at_ j; omega) k
  refine TC.seq (zr (zm rfl (zm rfl (zq (PV.len rfl Tb.sl_25) rfl (zq (PV.lss rfl rfl) rfl (zn (TC.cd rfl (fun hlt => ?_) (fun hlt => ?_))))))))
  refine TC.skip (TQ.thenC (TC.seq (TC.block ?_)))
  have hat := hNB.at_ k
  obtain ⟨q1, q1p, q1v⟩ := goI_now hh1 (k := k) (by omega)
  refine TC.region (zm rfl (zm rfl (zm rfl (zq (PV.indexA rfl q1p rfl Tb.elm_25 rfl om) rfl (zq (PV.loadGn (h := h1) (L := c.hol) (k := k) rfl Tb.one_3 r9z q1v) rfl ?_)))))
  refine zq (PV.add rfl rfl om) rfl (za rfl (TL.nil (TQ.blkN (TQ.thenC (TC.region (zm rfl (zq (PV.add rfl rfl om) rfl (za rfl (TL.nil (TQ.thenN (TQ.backK (k + 1) l9z l9z (List.Sublist.refl _) om om)))))))))))
  refine TC.exit (TQ.thenE (TQ.thenE (TQ.blkS (TQ.thenC (TC.seq (TC.seq ?_))))))
  have hke1 : k = c.hol.length := by omega
  refine TC.region (za rfl (zn (TC.block (TC.loopK [0, 3, 4, 5, 7, 8] (X := Nat) (fun k2 => k2 ≤ c.tur.length) (fun k2 => [(10, .int .i64 (k2 : Nat)), (6, .int .i64 (sK c.tur k2))]) (fun k2 => hp0 s c b p ++ (gbI (h2, c.tur) ++ (gbI (h1, c.hol) ++ ((b0, Obj.cells (fmL s f).toArray 29 (0, 0)) :: R)))) (fun k2 => c.tur.length - k2) 0 (Nat.zero_le _) l9z (List.Sublist.refl _) ?_))))
  intro k2 hk29
  have hsbk2 := sK_bd (xs := c.tur) (fun j => by have := hi.tb hv j; omega) k2
  refine TC.seq (zr (zm rfl (zm rfl (zq (PV.len rfl Tb.sl_25) rfl (zq (PV.lss rfl rfl) rfl (zn (TC.cd rfl (fun hlt2 => ?_) (fun hlt2 => ?_))))))))
  refine TC.skip (TQ.thenC (TC.seq (TC.block ?_)))
  have htb := hi.tb hv k2
  obtain ⟨q1, q1p, q1v⟩ := goI_now hh2 (k := k2) (by omega)
  refine TC.region (zm rfl (zm rfl (zm rfl (zq (PV.indexA rfl q1p rfl Tb.elm_25 rfl om) rfl (zq (PV.loadGn (h := h2) (L := c.tur) (k := k2) rfl Tb.one_3 r9z q1v) rfl ?_)))))
  refine zq (PV.add rfl rfl om) rfl (za rfl (TL.nil (TQ.blkN (TQ.thenC (TC.region (zm rfl (zq (PV.add rfl rfl om) rfl (za rfl (TL.nil (TQ.thenN (TQ.backK (k2 + 1) l9z l9z (List.Sublist.refl _) om om)))))))))))
  refine TC.exit (TQ.thenE (TQ.thenE (TQ.blkS (TQ.thenC (TC.seq ?_)))))
  have hke2 : k2 = c.tur.length := by omega
  refine TC.region (zq (PV.fieldAddr rfl Tb.fo_29_0) rfl (zq (PV.loadMid (cs := fmL s f) (off := 0) (k := 1) (vs := [.slice f.p s.W.length f.cp]) rfl Tb.agg_24 m9z rfl rfl) rfl ?_))
  refine zm rfl (TL.call rfl Tb.gofn_77 (fun a w hs => worth_v w hv hi f.p f.cp (hf.new hs.new).lw (hf.new hs.new).lc _ _ (IntsAt.g (x := (h1, c.hol)) hs.new r9z hh1)) rfl dc (fun _ _ => ?_))
  refine zm rfl (zq (PV.extract rfl rfl) rfl (zq (PV.extract rfl rfl) rfl (za rfl (za rfl (zk (zm rfl (zq (PV.yes (PV.eql rfl rfl) rfl) rfl (zm rfl (zm rfl (TL.callW (X := Unit) (fun _ => .int .i64 c.cut) (fun _ => True) (fun _ => hp0 s c b p ++ (gbI (h2, c.tur) ++ (gbI (h1, c.hol) ++ ((b0, Obj.cells (fmL s f).toArray 29 (0, 0)) :: R)))) rfl Tb.gofn_22 (fun a w hs => Cut_p hv hs.new) rfl dc (fun _ _ => ?_)))))))))))
  refine zm rfl (zq (PV.yes (PV.eql rfl rfl) (by rw [sK_all hke1]; omega)) rfl ?_)
  refine zq (PV.pickT rfl rfl) rfl (zm rfl (zm rfl (zm rfl (TL.callW (X := Unit) (fun _ => .int .i64 c.load) (fun _ => True) (fun _ => hp0 s c b p ++ (gbI (h2, c.tur) ++ (gbI (h1, c.hol) ++ ((b0, Obj.cells (fmL s f).toArray 29 (0, 0)) :: R)))) rfl Tb.gofn_23 (fun a w hs => Loaded_p hv hs.new) rfl dc (fun _ _ => ?_)))))
  refine zm rfl (TL.callW (X := Unit) (fun _ => .int .i64 c.grd) (fun _ => True) (fun _ => hp0 s c b p ++ (gbI (h2, c.tur) ++ (gbI (h1, c.hol) ++ ((b0, Obj.cells (fmL s f).toArray 29 (0, 0)) :: R)))) rfl Tb.gofn_24 (fun a w hs => Ground_p hv hs.new) rfl dc (fun _ _ => ?_))
  refine zq (PV.add rfl rfl om) rfl (zm rfl (zq (PV.add (i := c.load + c.grd) (j := sK c.tur k2) rfl rfl (by rw [sK_all hke2]; omega)) rfl ?_))
  refine zq (PV.yes (PV.eql rfl rfl) (by rw [sK_all hke1, sK_all hke2]; omega)) rfl ?_
  refine zq (PV.pickT rfl rfl) rfl (zm rfl (zm rfl (TL.callW (X := Unit) (fun _ => .int .i64 c.money) (fun _ => True) (fun _ => hp0 s c b p ++ (gbI (h2, c.tur) ++ (gbI (h1, c.hol) ++ ((b0, Obj.cells (fmL s f).toArray 29 (0, 0)) :: R)))) rfl Tb.gofn_21 (fun a w hs => Money_p hv hs.new) rfl dc (fun _ _ => ?_))))
  refine zm rfl (zm rfl (TL.callW (X := Unit) (fun _ => .int .i64 c.load) (fun _ => True) (fun _ => hp0 s c b p ++ (gbI (h2, c.tur) ++ (gbI (h1, c.hol) ++ ((b0, Obj.cells (fmL s f).toArray 29 (0, 0)) :: R)))) rfl Tb.gofn_23 (fun a w hs => Loaded_p hv hs.new) rfl dc (fun _ _ => ?_)))
  refine zq (PV.add (i := C.worH s.W c.hol) (j := c.load) rfl rfl om) rfl (zq (PV.yes (PV.eql rfl rfl) om) rfl (zq (PV.pickT rfl rfl) rfl (za rfl (zt (TQ.retE1 rfl rfl ?_)))))
  exact ⟨(), rfl, trivial, by refine List.Sublist.append_left ?_ _; exact ((List.sublist_cons_self _ _).trans (List.sublist_append_right _ _)).trans (List.sublist_append_right _ _)⟩
end Go.Proofs.YtbnjmkidbfmomaaGreatDoor
