/- Yq Yr Ys -/
import Derived.Test.YtbnjmkidbfmomaaGreatDoorW06
import Derived.Test.YtbnjmkidbfmomaaGreatDoorW26
import Derived.Test.YtbnjmkidbfmomaaGreatDoorW27
set_option linter.unusedVariables false
set_option linter.unusedSimpArgs false
set_option maxRecDepth 100000
namespace Go.Proofs.YtbnjmkidbfmomaaGreatDoor
open Go.Sx Go.RowKit Go.Bt Go.Lib Go.Sand
theorem sv_small {s : St} (hv : SV s) : s.large = false := by
  have h5 := hv.n5
  have h4 := hv.d4
  have hg := hv.len
  have hn := hv.hb.n
  have hW : s.W.any (fun l => decide (50 < l.length)) = false := by
    rw [List.any_eq_false]
    intro l hl
    obtain ⟨k, hk, rfl⟩ := List.getElem_of_mem hl
    have h9 := hv.vb.c k hk
    have e : s.W.getD k [] = s.W[k] := by simp [List.getD, hk]
    rw [e] at h9
    simp only [decide_eq_true_eq, Nat.not_lt]
    omega
  have hK : s.K.any (fun l => decide (50 < l.length)) = false := by
    rw [List.any_eq_false]
    intro l hl
    obtain ⟨k, hk, rfl⟩ := List.getElem_of_mem hl
    have h9 := H.num_len (hv.hb.row k hk)
    have e : s.K.getD k [] = s.K[k] := by simp [List.getD, hk]
    rw [e] at h9
    simp only [decide_eq_true_eq, Nat.not_lt]
    omega
  have hl := hv.hb.len
  unfold St.large largeB
  rw [hW, hK]
  simp only [Bool.or_eq_false_iff, decide_eq_false_iff_not, Bool.false_or]
  omega
theorem New_sew {w : World} {s : St} {f : FV} (hf : FmAt w s f) (he : s.newI ≠ 0) :
    Calls Tryz.prog 59 #[.agg #[.slice f.p s.W.length f.cp], .agg #[.slice f.q s.K.length f.cq, .slice f.r s.g.length f.cr], .int .i64 s.need] w (Post (X := Unit) (fun _ => .tuple #[.pointer none, .int .i64 s.newI]) (fun _ => True) (fun _ => []) w) :=
  New_ew w f.p f.cp s.W hf.lw f.q f.cq s.K hf.lk f.r f.cr s.g hf.lg s.need he
theorem same1_is (w : World) (p1 : Option Addr) (c1 : Nat) (xs : List Int) (hx : IntsAt w p1 xs) (p2 : Option Addr) (c2 : Nat) (hy : IntsAt w p2 xs) (hl : xs.length ≤ 1000000) :
    Calls Tryz.prog 95 #[.slice p1 xs.length c1, .slice p2 xs.length c2] w (Post (X := Unit) (fun _ => .bool true) (fun _ => True) (fun _ => []) w) := by
  have h := same1_ok w p1 c1 xs hx p2 c2 xs hy hl hl
  rw [decide_eq_true rfl] at h
  exact h
abbrev fmT (s : St) (f : FV) (pl : Option Addr) (cl : Nat) (L : List (List UInt8)) (n : Int) : List Value := [.slice f.p s.W.length f.cp, .slice f.q s.K.length f.cq, .slice f.r s.g.length f.cr, .int .i64 s.need, .slice pl L.length cl, .int .i64 n]
set_option maxHeartbeats 2000000 in
theorem same_ok {w0 w : World} (hW : WAt w0) {s : St} (hv : SV s) {c : Co} (hi : Inv s c) {p : CP} (hk : CPk w0 s c p) {p2 : CP} (hk2 : CPk w0 s c p2) {b b2 : Nat} {R : Heap} (hN : New w0 w (hp0 s c b p ++ (hp0 s c b2 p2 ++ R))) :
    Calls Tryz.prog 58 #[pt b, pt b2] w (Post (X := Unit) (fun _ => .bool true) (fun _ => True) (fun _ => hp0 s c b p ++ (hp0 s c b2 p2 ++ R)) w0) := by
  have h5 := hv.n5
  have htl9 := hi.tl' hv
  have hhl9 := hi.hl
  refine callsM hN Tryz.func58 rfl (n := 73) rfl (by simp) ?_
  refine zr (za rfl (zk (zm rfl (TL.callW (X := Unit) (fun _ => .int .i64 c.day) (fun _ => True) (fun _ => hp0 s c b p ++ (hp0 s c b2 p2 ++ R)) rfl Tb.gofn_19 (fun a w hs => Day_p hv hs.new) rfl dc (fun _ _ => ?_)))))
  refine zm rfl (TL.callW (X := Unit) (fun _ => .int .i64 c.day) (fun _ => True) (fun _ => hp0 s c b p ++ (hp0 s c b2 p2 ++ R)) rfl Tb.gofn_19 (fun a w hs => calls_swap (Day_p hv (New.swap hs.new))) rfl dc (fun _ _ => ?_))
  refine zq (PV.yes (PV.eql rfl rfl) rfl) rfl (zm rfl (zm rfl (TL.callW (X := HD) (fun h => .slice (gp h) c.hol.length (gc h)) (fun h => goI (h, c.hol)) (fun h => gbI (h, c.hol) ++ (hp0 s c b p ++ (hp0 s c b2 p2 ++ R))) rfl Tb.gofn_25 (fun a w hs => Hollow_p hv hi hk hs.new) rfl dc (fun h1 hh1 => ?_))))
  refine zm rfl (TL.callW (X := HD) (fun h => .slice (gp h) c.hol.length (gc h)) (fun h => goI (h, c.hol)) (fun h => gbI (h, c.hol) ++ (gbI (h1, c.hol) ++ (hp0 s c b p ++ (hp0 s c b2 p2 ++ R)))) rfl Tb.gofn_25 (fun a w hs => calls_pm (fun _ => (perm_of fun c9 => by simp only [List.map_append, List.sum_append, List.map_nil, List.sum_nil]; omega)) (Hollow_p (R := gbI (h1, c.hol) ++ (hp0 s c b p ++ R)) hv hi hk2 (hs.new.perm (perm_of fun c9 => by simp only [List.map_append, List.sum_append, List.map_nil, List.sum_nil]; omega)))) rfl dc (fun h2 hh2 => ?_))
  refine TL.call rfl Tb.gofn_95 (fun a w hs => same1_is w _ _ c.hol (IntsAt.g (x := (h1, c.hol)) hs.new r9z hh1) _ _ (IntsAt.g (x := (h2, c.hol)) hs.new r9z hh2) om) rfl dc (fun _ _ => ?_)
  refine zq (PV.pickT rfl rfl) rfl (zm rfl (zm rfl (TL.callW (X := HD) (fun h => .slice (gp h) c.tur.length (gc h)) (fun h => goI (h, c.tur)) (fun h => gbI (h, c.tur) ++ (hp0 s c b p ++ (hp0 s c b2 p2 ++ R))) rfl Tb.gofn_26 (fun a w hs => Turves_p hv hi hk (hs.new.sub ((List.sublist_append_right _ _).trans (List.sublist_append_right _ _)))) rfl dc (fun h3 hh3 => ?_))))
  refine zm rfl (TL.callW (X := HD) (fun h => .slice (gp h) c.tur.length (gc h)) (fun h => goI (h, c.tur)) (fun h => gbI (h, c.tur) ++ (gbI (h3, c.tur) ++ (hp0 s c b p ++ (hp0 s c b2 p2 ++ R)))) rfl Tb.gofn_26 (fun a w hs => calls_pm (fun _ => (perm_of fun c9 => by simp only [List.map_append, List.sum_append, List.map_nil, List.sum_nil]; omega)) (Turves_p (R := gbI (h3, c.tur) ++ (hp0 s c b p ++ R)) hv hi hk2 (hs.new.perm (perm_of fun c9 => by simp only [List.map_append, List.sum_append, List.map_nil, List.sum_nil]; omega)))) rfl dc (fun h4 hh4 => ?_))
  refine TL.call rfl Tb.gofn_95 (fun a w hs => same1_is w _ _ c.tur (IntsAt.g (x := (h3, c.tur)) hs.new r9z hh3) _ _ (IntsAt.g (x := (h4, c.tur)) hs.new r9z hh4) om) rfl dc (fun _ _ => ?_)
  refine zq (PV.pickT rfl rfl) rfl (zm rfl (zm rfl (TL.callW (X := Unit) (fun _ => .int .i64 (c.wet : Nat)) (fun _ => True) (fun _ => hp0 s c b p ++ (hp0 s c b2 p2 ++ R)) rfl Tb.gofn_20 (fun a w hs => Wet_p hv (hs.new.sub ((List.sublist_append_right _ _).trans (List.sublist_append_right _ _)))) rfl dc (fun _ _ => ?_))))
  refine zm rfl (TL.callW (X := Unit) (fun _ => .int .i64 (c.wet : Nat)) (fun _ => True) (fun _ => hp0 s c b p ++ (hp0 s c b2 p2 ++ R)) rfl Tb.gofn_20 (fun a w hs => calls_swap (Wet_p hv (New.swap hs.new))) rfl dc (fun _ _ => ?_))
  refine zq (PV.yes (PV.eql rfl rfl) rfl) rfl (zq (PV.pickT rfl rfl) rfl (zm rfl (zm rfl (TL.callW (X := Unit) (fun _ => .int .i64 c.money) (fun _ => True) (fun _ => hp0 s c b p ++ (hp0 s c b2 p2 ++ R)) rfl Tb.gofn_21 (fun a w hs => Money_p hv hs.new) rfl dc (fun _ _ => ?_)))))
  refine zm rfl (TL.callW (X := Unit) (fun _ => .int .i64 c.money) (fun _ => True) (fun _ => hp0 s c b p ++ (hp0 s c b2 p2 ++ R)) rfl Tb.gofn_21 (fun a w hs => calls_swap (Money_p hv (New.swap hs.new))) rfl dc (fun _ _ => ?_))
  refine zq (PV.yes (PV.eql rfl rfl) rfl) rfl (zq (PV.pickT rfl rfl) rfl (zm rfl (zm rfl (TL.callW (X := Unit) (fun _ => .int .i64 c.cut) (fun _ => True) (fun _ => hp0 s c b p ++ (hp0 s c b2 p2 ++ R)) rfl Tb.gofn_22 (fun a w hs => Cut_p hv hs.new) rfl dc (fun _ _ => ?_)))))
  refine zm rfl (TL.callW (X := Unit) (fun _ => .int .i64 c.cut) (fun _ => True) (fun _ => hp0 s c b p ++ (hp0 s c b2 p2 ++ R)) rfl Tb.gofn_22 (fun a w hs => calls_swap (Cut_p hv (New.swap hs.new))) rfl dc (fun _ _ => ?_))
  refine zq (PV.yes (PV.eql rfl rfl) rfl) rfl (zq (PV.pickT rfl rfl) rfl (zm rfl (zm rfl (TL.callW (X := Unit) (fun _ => .int .i64 c.load) (fun _ => True) (fun _ => hp0 s c b p ++ (hp0 s c b2 p2 ++ R)) rfl Tb.gofn_23 (fun a w hs => Loaded_p hv hs.new) rfl dc (fun _ _ => ?_)))))
  refine zm rfl (TL.callW (X := Unit) (fun _ => .int .i64 c.load) (fun _ => True) (fun _ => hp0 s c b p ++ (hp0 s c b2 p2 ++ R)) rfl Tb.gofn_23 (fun a w hs => calls_swap (Loaded_p hv (New.swap hs.new))) rfl dc (fun _ _ => ?_))
  refine zq (PV.yes (PV.eql rfl rfl) rfl) rfl (zq (PV.pickT rfl rfl) rfl (zm rfl (zm rfl (TL.callW (X := Unit) (fun _ => .int .i64 c.grd) (fun _ => True) (fun _ => hp0 s c b p ++ (hp0 s c b2 p2 ++ R)) rfl Tb.gofn_24 (fun a w hs => Ground_p hv hs.new) rfl dc (fun _ _ => ?_)))))
  refine zm rfl (TL.callW (X := Unit) (fun _ => .int .i64 c.grd) (fun _ => True) (fun _ => hp0 s c b p ++ (hp0 s c b2 p2 ++ R)) rfl Tb.gofn_24 (fun a w hs => calls_swap (Ground_p hv (New.swap hs.new))) rfl dc (fun _ _ => ?_))
  refine zq (PV.yes (PV.eql rfl rfl) rfl) rfl (zq (PV.pickT rfl rfl) rfl (zm rfl (zm rfl (TL.callW (X := Unit) (fun _ => .bool c.shut) (fun _ => True) (fun _ => hp0 s c b p ++ (hp0 s c b2 p2 ++ R)) rfl Tb.gofn_27 (fun a w hs => Shut_p hv hs.new) rfl dc (fun _ _ => ?_)))))
  refine zm rfl (TL.callW (X := Unit) (fun _ => .bool c.shut) (fun _ => True) (fun _ => hp0 s c b p ++ (hp0 s c b2 p2 ++ R)) rfl Tb.gofn_27 (fun a w hs => calls_swap (Shut_p hv (New.swap hs.new))) rfl dc (fun _ _ => ?_))
  refine zq (PV.to (PV.eqlB rfl rfl Tb.bool_4) (by cases c.shut <;> rfl)) rfl ?_
  refine zq (PV.pickT rfl rfl) rfl (zm rfl (zm rfl (TL.callW (X := Unit) (fun _ => str (bookL dI c.ords).2) (fun _ => True) (fun _ => hp0 s c b p ++ (hp0 s c b2 p2 ++ R)) rfl Tb.gofn_28 (fun a w hs => Book_p hW hv hi hk hs.new) rfl dc (fun _ _ => ?_))))
  refine zm rfl (TL.callW (X := Unit) (fun _ => str (bookL dI c.ords).2) (fun _ => True) (fun _ => hp0 s c b p ++ (hp0 s c b2 p2 ++ R)) rfl Tb.gofn_28 (fun a w hs => calls_swap (Book_p hW hv hi hk2 (New.swap hs.new))) rfl dc (fun _ _ => ?_))
  refine zq (PV.yes (PV.eqS rfl rfl) rfl) rfl (zq (PV.pickT rfl rfl) rfl (za rfl (zt (TQ.retE1 rfl rfl ?_))))
  exact ⟨(), rfl, trivial, (List.Sublist.refl _)⟩
theorem firm_e (w0 : World) (hW : WAt w0) (s : St) (f : FV) (hf : FmAt w0 s f) (pl : Option Addr) (cl : Nat) (L : List (List UInt8)) (hL : StrsAt w0 pl L) (hl63 : L.length ≤ 9223372036854775807) (n : Int) (he : s.newI ≠ 0) :
    Calls Tryz.prog 57 #[.agg (fmT s f pl cl L n).toArray, .int .i64 30] w0 (Post (X := Unit) (fun _ => .tuple #[.pointer none, .slice none 0 0, .bool false]) (fun _ => True) (fun _ => []) w0) := by
  refine calls Tryz.func57 rfl (n := 57) rfl (by simp) ?_
  refine zr (TL.box rfl rfl dc (fun b0 hb0 => ?_))
  refine za rfl (za rfl (za rfl (zk (zq (PV.fieldAddr rfl Tb.fo_81_0) rfl (zq (PV.loadMid (cs := fmT s f pl cl L n) (off := 0) (k := 1) (vs := [.slice f.p s.W.length f.cp]) rfl Tb.agg_24 m9z rfl rfl) rfl ?_)))))
  refine zq (PV.fieldAddr rfl Tb.fo_81_1) rfl (zq (PV.loadMid (cs := fmT s f pl cl L n) (off := 1) (k := 2) (vs := [.slice f.q s.K.length f.cq, .slice f.r s.g.length f.cr]) rfl Tb.agg_27 m9z rfl rfl) rfl ?_)
  refine zq (PV.fieldAddr rfl Tb.fo_81_2) rfl (zq (PV.load (v := .int .i64 s.need) rfl Tb.one_3 m9z rfl) rfl ?_)
  refine TL.call rfl Tb.gofn_59 (fun a w hs => New_sew (hf.new hs.new) he) rfl dc (fun _ _ => ?_)
  refine zm rfl (zq (PV.extract rfl rfl) rfl (zq (PV.extract rfl rfl) rfl (za rfl (za rfl (zn (TC.seq (zr (zm rfl (zq (PV.yes (PV.neq rfl rfl) he) rfl (zm rfl (zx rfl (zx rfl (zq (PV.pickT rfl rfl) rfl (zn (TC.condT rfl (zr (za rfl (za rfl (za rfl (zt (TQ.thenR (TQ.retE3 rfl rfl rfl rfl ?_))))))))))))))))))))))
  exact ⟨(), rfl, trivial, nils⟩
set_option maxHeartbeats 1000000 in
theorem firm_y (w0 w : World) (R : Heap) (hN : New w0 w R) (hW : WAt w0) (s : St) (f : FV) (hf : FmAt w0 s f) (pl : Option Addr) (cl : Nat) (L : List (List UInt8)) (hL : StrsAt w0 pl L) (hl63 : L.length ≤ 9223372036854775807) (n : Int) (he : s.newI = 0) :
    Calls Tryz.prog 57 #[.agg (fmT s f pl cl L n).toArray, .int .i64 30] w (Post (X := Nat × (Nat × CP) × HD) (fun y => .tuple #[pt y.2.1.1, .slice (gp y.2.2) (stC s L y.1).ords.length (gc y.2.2), .bool true]) (fun y => CPk w0 s (stC s L y.1) y.2.1.2 ∧ goR stR y.2.2 (stC s L y.1).ords) (fun y => hp0 s (stC s L y.1) y.2.1.1 y.2.1.2 ++ (gbR stR 9 y.2.2 (stC s L y.1).ords ++ R)) w0) := by
  have hv : SV s := sv_of he
  have hlg := sv_small hv
  refine callsM hN Tryz.func57 rfl (n := 57) rfl (by simp) ?_
  refine zr (TL.box rfl rfl dc (fun b0 hb0 => ?_))
  refine za rfl (za rfl (za rfl (zk (zq (PV.fieldAddr rfl Tb.fo_81_0) rfl (zq (PV.loadMid (cs := fmT s f pl cl L n) (off := 0) (k := 1) (vs := [.slice f.p s.W.length f.cp]) rfl Tb.agg_24 m9z rfl rfl) rfl ?_)))))
  refine zq (PV.fieldAddr rfl Tb.fo_81_1) rfl (zq (PV.loadMid (cs := fmT s f pl cl L n) (off := 1) (k := 2) (vs := [.slice f.q s.K.length f.cq, .slice f.r s.g.length f.cr]) rfl Tb.agg_27 m9z rfl rfl) rfl ?_)
  refine zq (PV.fieldAddr rfl Tb.fo_81_2) rfl (zq (PV.load (v := .int .i64 s.need) rfl Tb.one_3 m9z rfl) rfl ?_)
  refine TL.callW (X := Nat × CP) (fun y => .tuple #[pt y.1, .int .i64 0]) (fun y => CPk w0 s (co0 s) y.2) (fun y => hp0 s (co0 s) y.1 y.2 ++ ((b0, Obj.cells (fmT s f pl cl L n).toArray 81 (0, 0)) :: R)) rfl Tb.gofn_59 (fun a w hs => New_s hs.new (hf.new hs.new) hlg he) rfl dc (fun y hy => ?_)
  refine zm rfl (zq (PV.extract rfl rfl) rfl (zq (PV.extract rfl rfl) rfl (za rfl (za rfl (zn (TC.seq (zr (zm rfl (zq (PV.no (PV.neq rfl rfl) (fun h9 => h9 rfl)) rfl ?_)))))))))
  refine zm rfl (zm rfl (zq (PV.eqPtr rfl) rfl (zq (PV.pickF rfl rfl) rfl (zn (TC.condF rfl (TC.skip (TQ.thenC (zr (za rfl (zn (TC.seqK [4, 5, 6, 7] (X := Nat × CP × HD × List (List UInt8)) (fun v => v.1 ≤ L.length ∧ CPk w0 s (stC s L v.1) v.2.1 ∧ v.2.2.2 = (stC s L v.1).ords ∧ goR stR v.2.2.1 v.2.2.2) (fun v => [(10, .int .i64 (v.1 : Nat)), (9, gval v.2.2.1 v.2.2.2.length)]) (fun v => hp0 s (stC s L v.1) y.1 v.2.1 ++ (gbR stR 9 v.2.2.1 v.2.2.2 ++ ((b0, Obj.cells (fmT s f pl cl L n).toArray 81 (0, 0)) :: R))) ?_ ?_)))))))))))
  refine zr (za rfl (zn (TC.block (TC.loopK [1, 2, 4, 5, 6, 7] (X := Nat × CP × HD × List (List UInt8)) (fun x => x.1 ≤ L.length ∧ CPk w0 s (stC s L x.1) x.2.1 ∧ x.2.2.2 = (stC s L x.1).ords ∧ goR stR x.2.2.1 x.2.2.2) (fun x => [(10, .int .i64 (x.1 : Nat)), (9, gval x.2.2.1 x.2.2.2.length)]) (fun x => hp0 s (stC s L x.1) y.1 x.2.1 ++ (gbR stR 9 x.2.2.1 x.2.2.2 ++ ((b0, Obj.cells (fmT s f pl cl L n).toArray 81 (0, 0)) :: R))) (fun x => L.length - x.1) (0, y.2, none, []) ⟨Nat.zero_le _, hy, rfl, ⟨rfl, rfl⟩⟩ l9z (List.Sublist.refl _) ?_))))
  intro x hx
  have hx1 := hx.1
  refine TC.seq (zr (zm rfl (zq (PV.fieldAddr rfl Tb.fo_81_3) rfl (zq (PV.load (v := .slice pl L.length cl) rfl Tb.one_43 m9z rfl) rfl ?_))))
  refine zq (PV.len rfl Tb.sl_43) rfl (zq (PV.lss rfl rfl) rfl (zm rfl (TL.sp 32 rfl (fun ha => ?_) (fun ha => ?_))))
  refine zm rfl (zm rfl (zq (PV.lss rfl rfl) rfl (zq (PV.pickT rfl rfl) rfl (zn (TC.cd rfl (fun hb => ?_) (fun hb => ?_))))))
  refine TC.skip (TQ.thenC (TC.seq (TC.block (TC.seq ?_))))
  have hix := stC_inv hv L x.1
  obtain ⟨q9, q9p, q9v⟩ := hL x.1 (by omega)
  have hol9 := hix.ol
  have hoe := congrArg List.length hx.2.2.1
  refine TC.region (zm rfl (zq (PV.fieldAddr rfl Tb.fo_81_3) rfl (zq (PV.load (v := .slice pl L.length cl) rfl Tb.one_43 m9z rfl) rfl ?_)))
  refine zm rfl (zq (PV.indexA rfl q9p rfl Tb.elm_43 rfl om) rfl (zq (PV.loadOld rfl Tb.one_9 q9v) rfl (TL.callW (X := CP) (fun _ => .int .i64 (doI s (stC s L x.1) (L.getD x.1 []))) (fun p1 => CPk w0 s (doC s (stC s L x.1) (L.getD x.1 [])) p1) (fun p1 => hp0 s (doC s (stC s L x.1) (L.getD x.1 [])) y.1 p1 ++ (gbR stR 9 x.2.2.1 x.2.2.2 ++ ((b0, Obj.cells (fmT s f pl cl L n).toArray 81 (0, 0)) :: R))) rfl Tb.gofn_18 (fun a w hs => Do_pW hW hv hix hx.2.1 hs.new _) rfl dc (fun p1 hp1 => ?_))))
  refine zq (PV.eql rfl rfl) rfl (zn (TC.cd rfl (fun hd => ?_) (fun hd => ?_)))
  refine TC.region (zm rfl (zq (PV.fieldAddr rfl Tb.fo_81_3) rfl (zq (PV.load (v := .slice pl L.length cl) rfl Tb.one_43 m9z rfl) rfl ?_)))
  refine zm rfl (zq (PV.indexA rfl q9p rfl Tb.elm_43 rfl om) rfl (zq (PV.loadOld rfl Tb.one_9 q9v) rfl (TL.buildSlice (cs := #[str (L.getD x.1 [])]) rfl Tb.sl_43 Tb.zi_9 dc (fill_s (L.getD x.1 [])) dc rfl dc (fun bI hbI => ?_))))
  refine TL.appendRec (R := stR) (h0 := x.2.2.1) (ys := x.2.2.2) (r := (L.getD x.1 [])) Tb.sl_43 Tb.zi_9 rfl rfl rfl m9z hx.2.2.2 h9z om om rfl dc (fun h9 ho9 => ?_)
  refine za rfl (TL.nil (TQ.blkN (TQ.thenC (TC.region (zm rfl (zq (PV.add rfl rfl om) rfl (za rfl (TL.nil (TQ.thenN ?_)))))))))
  first | refine TQ.perm (G' := (bI, Obj.cells #[str (L.getD x.1 [])] 9 (0, 0)) :: (hp0 s (doC s (stC s L x.1) (L.getD x.1 [])) y.1 p1 ++ (gbR stR 9 h9 (x.2.2.2 ++ [L.getD x.1 []]) ++ ((b0, Obj.cells (fmT s f pl cl L n).toArray 81 (0, 0)) :: R)))) (perm_of fun c9 => by unfold hp0; simp only [List.map_append, List.sum_append, List.map_cons, List.sum_cons, List.cons_append]; omega) ?_ | skip
  refine TQ.backK (by first | exact (x.1 + 1, p1, h9, x.2.2.2 ++ [L.getD x.1 []]) | exact (x.1 + 1, p1, x.2.2)) l9z l9z (by rw [stC_succ (by omega)]; first | exact List.Sublist.refl _ | exact List.Sublist.cons _ (List.Sublist.refl _)) (by first | exact ⟨by simp only; omega, by rw [stC_succ (by omega)]; exact hp1, by rw [stC_succ (by omega), doC_ords hd, hx.2.2.1], ho9⟩ | exact ⟨by simp only; omega, by rw [stC_succ (by omega)]; exact hp1, by rw [stC_succ (by omega), doC_no hd, hx.2.2.1], hx.2.2.2⟩) (by simp only; omega)
  refine TC.skip (TQ.blkN (TQ.thenC (TC.region (zm rfl (zq (PV.add rfl rfl om) rfl (za rfl (TL.nil (TQ.thenN ?_))))))))
  first | refine TQ.perm (G' := (bI, Obj.cells #[str (L.getD x.1 [])] 9 (0, 0)) :: (hp0 s (doC s (stC s L x.1) (L.getD x.1 [])) y.1 p1 ++ (gbR stR 9 h9 (x.2.2.2 ++ [L.getD x.1 []]) ++ ((b0, Obj.cells (fmT s f pl cl L n).toArray 81 (0, 0)) :: R)))) (perm_of fun c9 => by unfold hp0; simp only [List.map_append, List.sum_append, List.map_cons, List.sum_cons, List.cons_append]; omega) ?_ | skip
  refine TQ.backK (by first | exact (x.1 + 1, p1, h9, x.2.2.2 ++ [L.getD x.1 []]) | exact (x.1 + 1, p1, x.2.2)) l9z l9z (by rw [stC_succ (by omega)]; first | exact List.Sublist.refl _ | exact List.Sublist.cons _ (List.Sublist.refl _)) (by first | exact ⟨by simp only; omega, by rw [stC_succ (by omega)]; exact hp1, by rw [stC_succ (by omega), doC_ords hd, hx.2.2.1], ho9⟩ | exact ⟨by simp only; omega, by rw [stC_succ (by omega)]; exact hp1, by rw [stC_succ (by omega), doC_no hd, hx.2.2.1], hx.2.2.2⟩) (by simp only; omega)
  refine TC.exit (TQ.thenE (TQ.thenE (TQ.blkS (TQ.thenN (TQ.midK x l9z l9z (List.Sublist.refl _) hx)))))
  refine zx rfl (zx rfl (zx rfl (zq (PV.pickF rfl rfl) rfl (zn (TC.condF rfl (TC.exit (TQ.thenE (TQ.thenE (TQ.blkS (TQ.thenN (TQ.midK x l9z l9z (List.Sublist.refl _) hx)))))))))))
  intro v hvv
  refine zr (zm rfl (zm rfl (za rfl (za rfl (za rfl (zt (TQ.retE3 rfl rfl rfl rfl ?_)))))))
  have e := hvv.2.2.1
  exact ⟨(v.1, (y.1, v.2.1), v.2.2.1), by rw [← e]; exact congrArg (fun z => Value.tuple #[pt y.1, z, .bool true]) (ords_len hvv.2.2.2), ⟨hvv.2.1, by rw [← e]; exact hvv.2.2.2⟩, by rw [← e]; exact List.Sublist.append_left (List.Sublist.append_left (List.sublist_cons_self _ _) _) _⟩
end Go.Proofs.YtbnjmkidbfmomaaGreatDoor
namespace Go.Proofs.YtbnjmkidbfmomaaGreatDoor
open Go.Sx Go.RowKit Go.Bt Go.Lib Go.Sand
theorem Sum_day (w : World) : Calls Tryz.prog 46 #[.int .i64 0, str [100, 97, 121]] w (Post (X := Unit) (fun _ => .int .i64 696239) (fun _ => True) (fun _ => []) w) := by
  have h := Sum_ok w 0 (by decide) [100, 97, 121] (by decide)
  rw [show smV 0 [100, 97, 121] = 696239 by decide +kernel] at h
  exact h
theorem Write_c (w : World) (hW : WAt w) {s : St} {c : Co} (hi : Inv s c) {k : Nat} (hk : k ≤ c.ords.length) (p : Option Addr) (cap : Nat) (hL : StrsAt w p (c.ords.take k)) :
    Calls Tryz.prog 48 #[.slice p k cap] w (Post (X := Unit) (fun _ => .tuple #[str (bookL dI (c.ords.take k)).2, .int .i64 0]) (fun _ => True) (fun _ => []) w) := by
  have hl : (c.ords.take k).length = k := by rw [List.length_take]; omega
  have h1 := all_take hi.rt k
  have hol := hi.ol
  have h0 : wrI (c.ords.take k) = 0 := by
    unfold wrI
    rw [if_neg (by omega), if_pos h1]
  have h := Write_ok w hW p cap (c.ords.take k) hL (by omega) (ords_j hi k)
  rw [hl, h0] at h
  unfold wrL at h
  rw [if_pos h0] at h
  exact h
end Go.Proofs.YtbnjmkidbfmomaaGreatDoor
namespace Go.Proofs.YtbnjmkidbfmomaaGreatDoor
open Go.Sx Go.RowKit Go.Bt Go.Lib Go.Sand
theorem rd_const : readL [54, 57, 54, 50, 51, 57, 32, 100, 97, 121, 10, 54, 57, 54] = ([[100, 97, 121]], [54, 57, 54]) := by decide +kernel
theorem Read_const (w : World) (hW : WAt w) : Calls Tryz.prog 43 #[str [54, 57, 54, 50, 51, 57, 32, 100, 97, 121, 10, 54, 57, 54]] w (Post (X := HD) (fun h => .tuple #[.slice (gp h) 1 (gc h), str [54, 57, 54]]) (fun h => goR stR h [[100, 97, 121]]) (fun h => gbR stR 9 h [[100, 97, 121]]) w) := by
  have h := Read_ok w hW [54, 57, 54, 50, 51, 57, 32, 100, 97, 121, 10, 54, 57, 54] (by decide)
  rw [rd_const] at h
  exact h
theorem Write_all (w : World) (hW : WAt w) {s : St} {c : Co} (hi : Inv s c) (p : Option Addr) (cap : Nat) (hL : StrsAt w p c.ords) :
    Calls Tryz.prog 48 #[.slice p c.ords.length cap] w (Post (X := Unit) (fun _ => .tuple #[str (bookL dI c.ords).2, .int .i64 0]) (fun _ => True) (fun _ => []) w) := by
  have h := Write_c w hW hi (Nat.le_refl _) p cap (by rw [List.take_length]; exact hL)
  rw [List.take_length] at h
  exact h
theorem Merge_j2 (w : World) (hW : WAt w) {s : St} {c : Co} (hi : Inv s c) {j : Nat} (hj : j ≤ c.ords.length) :
    Calls Tryz.prog 52 #[str (bookL dI c.ords).2, str (bookL dI (c.ords.take j)).2] w (Post (X := Unit) (fun _ => .tuple #[str (bookL dI c.ords).2, .int .i64 (c.ords.length : Nat), .int .i64 0]) (fun _ => True) (fun _ => []) w) := by
  refine (Merge_ok w hW _ _ hi.bl (bl_take hi j)).mono fun _ _ ⟨y, e1, e2, e3⟩ => ⟨(), ?_, trivial, e3⟩
  have hl : (c.ords.take j).length = j := by rw [List.length_take]; omega
  have : MrP (readL (bookL dI c.ords).2) (readL (bookL dI (c.ords.take j)).2) (bookL dI c.ords).2 (bookL dI (c.ords.take j)).2 ((bookL dI c.ords).2, ((c.ords.length : Nat) : Int), 0) := by
    rw [hi.readT j, hi.read]
    refine .inr ⟨fun h => h.elim (fun h => h rfl) (fun h => h rfl), .inr ⟨fun i hij => (getD_take (by simp only at hij; omega)).symm, ?_⟩⟩
    simp only [hl]
    rw [if_neg (by omega)]
  rw [e1, e2.unique this]
section
variable {w0 w : World} {R : Heap} {s : St} {f : FV}
theorem Replay_any (hN : New w0 w R) (hW : WAt w0) (hf : ∀ w9, New w0 w9 R → FmAt w9 s f) (hlg : s.large = false) (he : s.newI = 0) (t : List UInt8) (ht : t.length ≤ 1000000) (ha : ∀ j, j < (readL t).1.length → doI s (stC s (readL t).1 j) ((readL t).1.getD j []) = 0) :
    Calls Tryz.prog 40 (fmA s f ++ [str t]).toArray w (Post (X := Option Addr) (fun o => .tuple #[.pointer o, .int .i64 (rpN s t : Nat), .int .i64 (rpE s t)]) (fun _ => True) (fun _ => R) w0) := by
  by_cases h2 : (readL t).2 ≠ []
  · have hp := rp_2 (s := s) (fun h => h he) h2
    exact (Replay_none hN hW hf hlg ht (by rw [hp.2]; decide)).mono fun _ _ ⟨_, e1, _, e3⟩ => ⟨none, e1, trivial, e3⟩
  · have hp := rp_4 (s := s) (fun h => h he) h2 ha
    refine (Replay_some hN hW hf hlg ht hp.2).mono fun _ _ ⟨y, e1, _, e3⟩ => ⟨some ⟨y.1, 0, none⟩, ?_, trivial, e3.sub (List.sublist_append_right _ _)⟩
    rw [e1, hp.1, hp.2]
end
end Go.Proofs.YtbnjmkidbfmomaaGreatDoor
