/- Xc Xd -/
import Derived.Test.YtbnjmkidbfmomaaGreatDoorW06
import Derived.Test.YtbnjmkidbfmomaaGreatDoorW16
set_option linter.unusedVariables false
set_option linter.unusedSimpArgs false
set_option maxRecDepth 100000
namespace Go.Proofs.YtbnjmkidbfmomaaGreatDoor
open Go.Sx Go.RowKit Go.Bt Go.Lib Go.Sand
theorem md_eq (s : St) : M.Mo.mD (C.dep s.W : Nat) (s.W.length : Nat) s.need = s.md := by
  unfold M.Mo.mD St.md; rw [Int.toNat_natCast, Int.toNat_natCast]
theorem gI_s {s : St} (hv : SV s) {x : Nat} (hx : x < 2 ^ s.md.N) : M.gI (C.dep s.W : Nat) (s.W.length : Nat) s.need x = 0 := by
  have h := M.gI_ok hv.mo hx
  rw [show s.need = ((s.md.K : Nat) : Int) from hv.nd]; exact h
theorem step_v (w : World) (htz : M.TzAt w) (s : St) (hv : SV s) (x : Nat) (hx : x < 2 ^ s.md.N) :
    Calls Tryz.prog 183 #[.agg [.int .i64 (C.dep s.W : Nat), .int .i64 (s.W.length : Nat), .int .i64 s.need].toArray, .int .i64 (x : Nat)] w (Post (X := Unit) (fun _ => .tuple #[.int .i64 (Mo.stp s.md x : Nat), .int .i64 0]) (fun _ => True) (fun _ => []) w) := by
  have h := M.Step_ok w htz (C.dep s.W : Nat) (s.W.length : Nat) s.need (x : Nat)
  unfold M.zI at h
  rw [gI_s hv hx, if_pos rfl, md_eq, Int.toNat_natCast] at h
  exact h
theorem hol_0 {s : St} {c : Co} (hv : SV s) (h : Inv s c) : C.holI s.W c.hol = 0 := C.ho_to (by rw [hv.vw]; decide) h.ho
theorem gvs {h : HD} {xs : List Int} (ho : goI (h, xs)) : gval h xs.length = .slice (gp h) xs.length (gc h) := gval_eq (sz := 1) ho
abbrev opL (s : St) (c : Co) : List Int := C.opN s.W (C.pad6 c.hol) s.W.length
theorem opn_l {s : St} {c : Co} (hv : SV s) (h : Inv s c) : C.opnI s.W c.hol = opL s c := C.opn_ok (by rw [hol_0 hv h]; decide)
theorem open_v (w : World) {s : St} {c : Co} (hv : SV s) (h : Inv s c) (p : Option Addr) (cap : Nat) (hr : LsAt w p s.W) (pl : Option Addr) (cl : Nat) (hx : IntsAt w pl c.hol) :
    Calls Tryz.prog 184 #[.agg #[.slice p s.W.length cap], .slice pl c.hol.length cl] w (Post (X := HD) (fun h => .tuple #[.slice (gp h) (opL s c).length (gc h), .int .i64 0]) (fun h => goI (h, opL s c)) (fun h => gbI (h, opL s c)) w) := by
  have h1 := C.Open_ok w p cap s.W hr pl cl c.hol hx
  rw [opn_l hv h, hol_0 hv h] at h1
  exact h1.mono fun _ _ ⟨y, e1, e2, e3⟩ => ⟨y, by rw [e1]; show Ending.returned (Value.tuple #[gval y (opL s c).length, _]) = _; rw [gvs e2], e2, e3⟩
theorem drop_v (w : World) {s : St} {c : Co} (hv : SV s) (h : Inv s c) (p : Option Addr) (cp : Nat) (hr : LsAt w p s.K) (q : Option Addr) (cq : Nat) (hg : IntsAt w q s.g) (pl : Option Addr) (cl : Nat) (hx : IntsAt w pl c.tur) (i : Nat) (hi : i < s.W.length) :
    Calls Tryz.prog 187 #[.agg #[.slice p s.K.length cp, .slice q s.g.length cq], .slice pl c.tur.length cl, .int .i64 i] w (Post (X := HD × Int) (fun y => .tuple #[.slice (gp y.1) (drT s.K s.g c.tur i).length (gc y.1), .int .i64 y.2, .int .i64 0]) (fun y => goI (y.1, drT s.K s.g c.tur i)) (fun y => gbI (y.1, drT s.K s.g c.tur i)) w) := by
  have hvh := Decidable.of_not_not (h.vh hv hi)
  have h1 := H.Drop_ok w p cp s.K hr q cq s.g hg hv.kl pl cl c.tur hx (by have := h.tl' hv; have := hv.n5; omega) (i : Int)
  exact h1.mono fun _ _ ⟨y, e1, ⟨e2, e3⟩, e4⟩ => by
    have ed := drT_eq e2
    refine ⟨(y.1, y.2.2), ?_, ?_, ?_⟩
    · rw [e1, hvh, ed]; show Ending.returned (Value.tuple #[gval y.1 y.2.1.length, _, _]) = _; rw [gvs e3]
    · rw [ed]; exact e3
    · rw [ed]; exact e4
theorem plus_v (w : World) (pl : Option Addr) (cl : Nat) (xs : List Int) (hx : IntsAt w pl xs) (hl : xs.length ≤ 1000000) (i : Nat) (hi : i < xs.length) (d : Int) (hd : -1000000 ≤ d ∧ d ≤ 1000000) (hb : -1000000 ≤ xs.getD i 0 ∧ xs.getD i 0 ≤ 1000000) (ys : List Int) (hy : xs.set i (xs.getD i 0 + d) = ys) :
    Calls Tryz.prog 188 #[.slice pl xs.length cl, .int .i64 i, .int .i64 d] w (Post (X := HD) (fun h => .slice (gp h) ys.length (gc h)) (fun h => goI (h, ys)) (fun h => gbI (h, ys)) w) := by
  subst hy
  exact (plus_ok w pl cl xs hx hl i hi d hd hb).mono fun _ _ ⟨y, e1, e2, e3⟩ => ⟨y, by rw [e1]; show Ending.returned (gval y xs.length) = Ending.returned (.slice (gp y) (xs.set i (xs.getD i 0 + d)).length (gc y)); rw [← gvs e2, List.length_set], e2, e3⟩
theorem tur_g {w0 : World} {Z : Heap} {h : HD} {xs : List Int} (ho : goI (h, xs)) : ∀ w', New w0 w' (gbI (h, xs) ++ Z) → IntsAt w' (gp h) xs := fun w' hn => IntsAt.g hn (fun y hy => List.mem_append_left _ hy) ho
theorem i0 (n : Int) : ([n] : List Int).getD 0 0 = n := rfl
theorem i1 (n m : Int) : ([n, m] : List Int).getD 1 0 = m := rfl
theorem i2 (n m : Int) : ([n, m] : List Int).getD 0 0 = n := rfl
section
variable {s : St} {c : Co}
theorem day_e : actI s c ⟨0, []⟩ = 0 := by unfold actI; rfl
theorem day_c : chgC s c ⟨0, []⟩ = { c with wet := Mo.stp s.md c.wet &&& bare s c.hol, day := c.day + 1 } := by
  unfold chgC; rw [day_e, if_pos rfl]; unfold actC; rfl
theorem chg_no {o : Od} (h : actI s c o ≠ 0) : chgC s c o = c := by unfold chgC; rw [if_neg h]
theorem chg_yes {o : Od} (h : actI s c o = 0) : chgC s c o = actC s c o := by unfold chgC; rw [if_pos h]
theorem shut_e : actI s c ⟨4, []⟩ = if c.shut = true then 5 else 0 := rfl
theorem shut_c : actC s c ⟨4, []⟩ = { c with shut := true } := rfl
theorem load_e {a n : Int} : actI s c ⟨2, [a, n]⟩ = if (s.W.length : Int) ≤ a then 4 else if n = 0 then 1 else if c.tur.getD a.toNat 0 < n then 11 else 0 := rfl
theorem load_c {a n : Int} : actC s c ⟨2, [a, n]⟩ = { c with tur := c.tur.set a.toNat (c.tur.getD a.toNat 0 - n), load := c.load + n, money := c.money + n } := rfl
theorem wet_e {r k : Int} : actI s c ⟨3, [r, k]⟩ = if (C.dep s.W : Int) ≤ r ∨ (s.W.length : Int) ≤ k then 4 else if c.hol.getD k.toNat 0 ≤ r then 8 else if c.wet.testBit (s.sq r k) = true then 5 else 0 := rfl
theorem wet_c {r k : Int} : actC s c ⟨3, [r, k]⟩ = { c with wet := c.wet ||| 2 ^ s.sq r k } := rfl
theorem cut_e {a : Int} : actI s c ⟨1, [a]⟩ = if (s.W.length : Int) ≤ a then 4 else if c.shut = true then 8 else if C.opB s.W (C.pad6 c.hol) a.toNat = false ∨ (0 < c.hol.getD a.toNat 0 ∧ c.wet.testBit (s.sq (c.hol.getD a.toNat 0 - 1) a) = true) then 6 else 0 := rfl
theorem cut_c {a : Int} : actC s c ⟨1, [a]⟩ = { c with
      tur := drT s.K s.g c.tur a
      grd := c.grd + (sL c.tur + 1 - sL (drT s.K s.g c.tur a))
      hol := c.hol.set a.toNat (c.hol.getD a.toNat 0 + 1)
      money := c.money + (s.W.getD a.toNat []).getD (c.hol.getD a.toNat 0).toNat 0
      cut := c.cut + 1 } := rfl
end
structure Bnd (c : Co) : Prop where
  bm : -1000000 ≤ c.money ∧ c.money ≤ 1000000
  bl : 0 ≤ c.load ∧ c.load ≤ 1000000
  bg : -1000000 ≤ c.grd ∧ c.grd ≤ 1000000
  bd : 0 ≤ c.day ∧ c.day ≤ 1000000
  bc : 0 ≤ c.cut ∧ c.cut ≤ 1000000
  bh : 0 ≤ sL c.hol ∧ sL c.hol ≤ 24
  bt : 0 ≤ sL c.tur ∧ sL c.tur ≤ 55
theorem Inv.bnd {s : St} {c : Co} (hv : SV s) (h : Inv s c) : Bnd c := by
  have h1 := sL_5 h.tl hv.hb.n.2 (h.tb hv)
  have hNB := h.ho.toNB
  have h4 := hv.d4
  have h5 := hv.n5
  have h2 := sL_bd (xs := c.hol) (b := 4) (by decide) (fun k => by have := hNB.at_ k; omega) c.hol.length
  have h3 := C.wor_bd hNB c.hol.length
  have h6 : c.hol.length = s.W.length := hNB.len
  have e1 := h.ct
  have e2 := h.bal
  have e3 := h.mon
  have e4 := h.l0
  have e5 := h.gr
  have e6 := h.ol
  have e7 := h.dy
  have e8 : sL c.hol = sm c.hol.length fun j => c.hol.getD j 0 := rfl
  unfold C.worH at e3
  refine ⟨?_, ?_, ?_, ?_, ?_, ?_, h1⟩ <;> omega
theorem day_ok (w0 w : World) (s : St) (hv : SV s) (u : SU) (c : Co) (v : TV) (hi : Inv s c) (b : Nat) (Z : Heap) (hN : New w0 w ((b, .cells (tyL c v).toArray 101 (0, 0)) :: Z)) (Zf : Heap) (hZf : List.Sublist Zf Z) (hS : ∀ w9, New w0 w9 Zf → SiteAt w9 s u) (hT : ∀ w9, New w0 w9 Zf → TurAt w9 c v) (htz : M.TzAt w0) :
    Calls Tryz.prog 150 #[.agg (siL s u).toArray, .pointer (some ⟨b, 0, none⟩)] w (Post (X := TV × Heap) (fun _ => .int .i64 (actI s c ⟨0, []⟩)) (fun y => ∀ w9, New w0 w9 (y.2 ++ Zf) → TurAt w9 (chgC s c ⟨0, []⟩) y.1) (fun y => (b, Obj.cells (tyL (chgC s c ⟨0, []⟩) y.1).toArray 101 (0, 0)) :: (y.2 ++ Z)) w0) := by
  have hNZ := hN.sub (hZf.trans (List.sublist_cons_self _ _))
  have hwl := hi.wl
  have h63 := wet63 hv hwl
  have hbn := hi.bnd hv
  have h5 := hv.n5
  have h4 := hv.d4
  have hhl := hi.hl
  have htl := hi.tl' hv
  have hbm := hbn.bm
  have hbl := hbn.bl
  have hbg := hbn.bg
  have hbd := hbn.bd
  have hbc := hbn.bc
  have hbt := hbn.bt
  have hbh := hbn.bh
  refine callsM hN Tryz.func150 rfl (n := 37) rfl (by simp) ?_
  refine zr (TL.box rfl rfl dc (fun b0 hb0 => ?_))
  refine za rfl (zn (TC.seq (TC.mixV [true, true, true, true, true, true, true, false, true, true, true, true, true] [(b0, Obj.cells (siL s u).toArray 90 (0, 0)), (b, Obj.cells (tyL c v).toArray 101 (0, 0))] 13 Tb.mixed rfl kr kr kr kr s9z ?_)))
  refine zv 0 rfl kr (PV.fieldAddr rfl Tb.fo_90_2) rfl (zv 1 rfl kr (PV.loadMid (cs := siL s u) (vs := [.int .i64 (C.dep s.W : Nat), .int .i64 (s.W.length : Nat), .int .i64 s.need]) rfl Tb.agg_52 m9z rfl rfl) rfl ?_)
  refine zv 2 rfl kr (PV.move rfl) rfl (zv 3 rfl kr (PV.nilCheck rfl) rfl (zv 4 rfl kr (PV.fieldAddr rfl Tb.fo_101_0) rfl (zv 5 rfl kr (PV.fieldAddr rfl Tb.fo_99_1) rfl (zv 6 rfl kr (PV.load rfl Tb.one_3 m9z rfl) rfl ?_))))
  refine TV.step [7] kr dc rfl ⟨⟨_, rfl, ?_⟩, trivial⟩
  refine TL.call rfl Tb.gofn_183 (fun a w hs => step_v w (htz.new hs.new) s hv c.wet hwl) rfl dc (fun _ _ => ?_)
  refine TL.nil (TV.next (.inl s9z) ?_)
  refine zv 8 rfl kr (PV.move rfl) rfl (zv 9 rfl kr (PV.extract rfl rfl) rfl (zv 10 rfl kr (PV.extract rfl rfl) rfl (zv 11 rfl kr (PV.assign rfl) rfl (zv 12 rfl kr (PV.assign rfl) rfl (TV.done kr ?_)))))
  refine TQ.thenC (zr (zm rfl (zm rfl (zm rfl (zq (PV.nilCheck rfl) rfl (zq (PV.loadBox (cs := tyL c v) rfl Tb.agg_101 m9z rfl) rfl ?_))))))
  refine TL.call rfl Tb.gofn_110 (fun a w hs => bare_ok w s hv c v hi.ho.toNB (hT w (hs.new.sub (hZf.trans s9z))).ah) rfl dc (fun _ _ => ?_)
  refine zq (M.PV.andK rfl rfl (M.i64_and_nat (wet63 hv (Mo.stp_lt hwl)) (wet63 hv (bare_lt s c.hol)))) rfl (zq (PV.nilCheck rfl) rfl (zq (PV.fieldAddr rfl Tb.fo_101_0) rfl (zq (PV.fieldAddr rfl Tb.fo_99_1) rfl (TL.store rfl rfl Tb.cells_3 rfl u9z d9z rfl rfl ?_))))
  refine zk (zm rfl (zq (PV.nilCheck rfl) rfl (zq (PV.fieldAddr rfl Tb.fo_101_0) rfl (zq (PV.fieldAddr rfl Tb.fo_99_0) rfl (zq (PV.load rfl Tb.one_3 m9z rfl) rfl ?_)))))
  refine zq (PV.add rfl rfl om) rfl (zq (PV.nilCheck rfl) rfl (zq (PV.fieldAddr rfl Tb.fo_101_0) rfl (zq (PV.fieldAddr rfl Tb.fo_99_0) rfl (TL.store rfl rfl Tb.cells_3 rfl u9z d9z rfl rfl ?_))))
  refine zk (za rfl (zt (TQ.retE1 rfl rfl ?_)))
  exact ⟨(v, []), rfl, by rw [day_c]; exact fun w9 hn => ⟨(hT w9 hn).ah, (hT w9 hn).at_⟩, by rw [day_c]; exact s9z⟩
theorem shut_ok (w0 w : World) (s : St) (hv : SV s) (u : SU) (c : Co) (v : TV) (hi : Inv s c) (b : Nat) (Z : Heap) (hN : New w0 w ((b, .cells (tyL c v).toArray 101 (0, 0)) :: Z)) (Zf : Heap) (hZf : List.Sublist Zf Z) (hS : ∀ w9, New w0 w9 Zf → SiteAt w9 s u) (hT : ∀ w9, New w0 w9 Zf → TurAt w9 c v) :
    Calls Tryz.prog 154 #[.agg (siL s u).toArray, .pointer (some ⟨b, 0, none⟩)] w (Post (X := TV × Heap) (fun _ => .int .i64 (actI s c ⟨4, []⟩)) (fun y => ∀ w9, New w0 w9 (y.2 ++ Zf) → TurAt w9 (chgC s c ⟨4, []⟩) y.1) (fun y => (b, Obj.cells (tyL (chgC s c ⟨4, []⟩) y.1).toArray 101 (0, 0)) :: (y.2 ++ Z)) w0) := by
  have hNZ := hN.sub (hZf.trans (List.sublist_cons_self _ _))
  have hwl := hi.wl
  have h63 := wet63 hv hwl
  have hbn := hi.bnd hv
  have h5 := hv.n5
  have h4 := hv.d4
  have hhl := hi.hl
  have htl := hi.tl' hv
  have hbm := hbn.bm
  have hbl := hbn.bl
  have hbg := hbn.bg
  have hbd := hbn.bd
  have hbc := hbn.bc
  have hbt := hbn.bt
  have hbh := hbn.bh
  refine callsM hN Tryz.func154 rfl (n := 14) rfl (by simp) ?_
  refine zr (TL.box rfl rfl dc (fun b0 hb0 => ?_))
  refine za rfl (zn (TC.seq (zr (zm rfl (zq (PV.nilCheck rfl) rfl (zq (PV.fieldAddr rfl Tb.fo_101_0) rfl (zq (PV.fieldAddr rfl Tb.fo_99_6) rfl (zq (PV.load rfl Tb.one_4 m9z rfl) rfl ?_))))))))
  refine zn (TC.cd rfl (fun hsh => ?_) (fun hsh => ?_))
  refine zr (za rfl (zt (TQ.thenR (TQ.retE1 rfl rfl ?_))))
  have hE : actI s c ⟨4, []⟩ = 5 := by rw [shut_e, if_pos hsh]
  have hC := chg_no (s := s) (c := c) (o := ⟨4, []⟩) (by rw [hE]; decide)
  exact ⟨(v, []), by rw [hE], by rw [hC]; exact hT, by rw [hC]; exact s9z⟩
  refine TC.skip (TQ.thenC (zr (zm rfl (zq (PV.nilCheck rfl) rfl (zq (PV.fieldAddr rfl Tb.fo_101_0) rfl (zq (PV.fieldAddr rfl Tb.fo_99_6) rfl (TL.store rfl rfl Tb.cells_4 rfl u9z d9z rfl rfl ?_)))))))
  refine zk (za rfl (zt (TQ.retE1 rfl rfl ?_)))
  have hE : actI s c ⟨4, []⟩ = 0 := by rw [shut_e, if_neg (by rw [hsh]; decide)]
  have hC := chg_yes (s := s) (c := c) (o := ⟨4, []⟩) hE
  exact ⟨(v, []), by rw [hE], by rw [hC, shut_c]; exact fun w9 hn => ⟨(hT w9 hn).ah, (hT w9 hn).at_⟩, by rw [hC, shut_c]; exact s9z⟩
theorem load_ok (w0 w : World) (s : St) (hv : SV s) (u : SU) (c : Co) (v : TV) (hi : Inv s c) (b : Nat) (Z : Heap) (hN : New w0 w ((b, .cells (tyL c v).toArray 101 (0, 0)) :: Z)) (Zf : Heap) (hZf : List.Sublist Zf Z) (hS : ∀ w9, New w0 w9 Zf → SiteAt w9 s u) (hT : ∀ w9, New w0 w9 Zf → TurAt w9 c v) (a n : Int) (ha : 0 ≤ a ∧ a ≤ 999) (hn : 0 ≤ n ∧ n ≤ 999) :
    Calls Tryz.prog 152 #[.agg (siL s u).toArray, .pointer (some ⟨b, 0, none⟩), .int .i64 a, .int .i64 n] w (Post (X := TV × Heap) (fun _ => .int .i64 (actI s c ⟨2, [a, n]⟩)) (fun y => ∀ w9, New w0 w9 (y.2 ++ Zf) → TurAt w9 (chgC s c ⟨2, [a, n]⟩) y.1) (fun y => (b, Obj.cells (tyL (chgC s c ⟨2, [a, n]⟩) y.1).toArray 101 (0, 0)) :: (y.2 ++ Z)) w0) := by
  have hNZ := hN.sub (hZf.trans (List.sublist_cons_self _ _))
  have hwl := hi.wl
  have h63 := wet63 hv hwl
  have hbn := hi.bnd hv
  have h5 := hv.n5
  have h4 := hv.d4
  have hhl := hi.hl
  have htl := hi.tl' hv
  have hbm := hbn.bm
  have hbl := hbn.bl
  have hbg := hbn.bg
  have hbd := hbn.bd
  have hbc := hbn.bc
  have hbt := hbn.bt
  have hbh := hbn.bh
  refine callsM hN Tryz.func152 rfl (n := 56) rfl (by simp) ?_
  refine zr (TL.box rfl rfl dc (fun b0 hb0 => ?_))
  refine za rfl (zn (TC.seq (zr (zm rfl (zq (PV.fieldAddr rfl Tb.fo_90_2) rfl (zq (PV.fieldAddr rfl Tb.fo_52_1) rfl (zq (PV.load rfl Tb.one_3 m9z rfl) rfl ?_)))))))
  refine zq (PV.geq rfl rfl) rfl (zn (TC.cd rfl (fun g1 => ?_) (fun g1 => ?_)))
  refine zr (za rfl (zt (TQ.thenR (TQ.retE1 rfl rfl ?_))))
  have hE : actI s c ⟨2, [a, n]⟩ = 4 := by rw [load_e, if_pos g1]
  have hC := chg_no (s := s) (c := c) (o := ⟨2, [a, n]⟩) (by rw [hE]; decide)
  exact ⟨(v, []), by rw [hE], by rw [hC]; exact hT, by rw [hC]; exact s9z⟩
  refine TC.skip (TQ.thenC (TC.seq (zr (zm rfl (zq (PV.eql rfl rfl) rfl (zn (TC.cd rfl (fun g2 => ?_) (fun g2 => ?_))))))))
  refine zr (za rfl (zt (TQ.thenR (TQ.retE1 rfl rfl ?_))))
  have hE : actI s c ⟨2, [a, n]⟩ = 1 := by rw [load_e, if_neg g1, if_pos g2]
  have hC := chg_no (s := s) (c := c) (o := ⟨2, [a, n]⟩) (by rw [hE]; decide)
  exact ⟨(v, []), by rw [hE], by rw [hC]; exact hT, by rw [hC]; exact s9z⟩
  refine TC.skip (TQ.thenC (TC.seq (TC.seq ?_)))
  obtain ⟨j, rfl⟩ := Int.eq_ofNat_of_zero_le ha.1
  obtain ⟨q, qp, qv⟩ := ints_now (fun w9 h9 => (hT w9 h9).at_) hNZ (k := j) (by omega)
  have htb := hi.tb hv j
  refine TC.region (zm rfl (zq (PV.nilCheck rfl) rfl (zq (PV.fieldAddr rfl Tb.fo_101_2) rfl (zq (PV.load rfl Tb.one_25 m9z rfl) rfl ?_))))
  refine zm rfl (zq (PV.indexA rfl qp rfl Tb.elm_25 rfl om) rfl (zq (PV.loadN rfl Tb.one_3 (hZf.trans s9z) qv) rfl ?_))
  refine zm rfl (zq (PV.lss rfl rfl) rfl (zn (TC.cd rfl (fun g3 => ?_) (fun g3 => ?_))))
  refine zr (za rfl (zt (TQ.thenR (TQ.retE1 rfl rfl ?_))))
  have hE : actI s c ⟨2, [(j : Int), n]⟩ = 11 := by rw [load_e, if_neg g1, if_neg g2, Int.toNat_natCast, if_pos g3]
  have hC := chg_no (s := s) (c := c) (o := ⟨2, [(j : Int), n]⟩) (by rw [hE]; decide)
  exact ⟨(v, []), by rw [hE], by rw [hC]; exact hT, by rw [hC]; exact s9z⟩
  refine TC.skip (TQ.thenC (zr (zm rfl (zm rfl (zq (PV.nilCheck rfl) rfl (zq (PV.fieldAddr rfl Tb.fo_101_2) rfl (zq (PV.load rfl Tb.one_25 m9z rfl) rfl ?_)))))))
  refine zm rfl (zm rfl (zq (PV.neg rfl om) rfl (TL.call rfl Tb.gofn_188 (fun a w hs => plus_v w _ _ c.tur (hT w (hs.new.sub (hZf.trans s9z))).at_ om j om (-n) om om _ rfl) rfl dc (fun h1 hh1 => ?_))))
  refine zq (PV.nilCheck rfl) rfl (zq (PV.fieldAddr rfl Tb.fo_101_2) rfl (TL.store rfl rfl Tb.cells_25 rfl u9z d9z rfl rfl ?_))
  refine zn (TC.seq (TC.sub (G' := gbI (h1, c.tur.set j (c.tur.getD j 0 + -n)) ++ ((b, Obj.cells (tyL { c with tur := c.tur.set j (c.tur.getD j 0 + -n) } { v with pt := gp h1, ct := gc h1 }).toArray 101 (0, 0)) :: Z)) (by refine List.Sublist.append (List.Sublist.refl _) ?_; exact List.Sublist.cons _ (List.Sublist.refl _)) ?_))
  refine TC.perm List.perm_middle.symm ?_
  refine TC.region (zm rfl (zq (PV.nilCheck rfl) rfl (zq (PV.fieldAddr rfl Tb.fo_101_0) rfl (zq (PV.fieldAddr rfl Tb.fo_99_4) rfl (zq (PV.load rfl Tb.one_3 m9z rfl) rfl ?_)))))
  refine zm rfl (zq (PV.add (i := c.load) rfl rfl om) rfl (zq (PV.nilCheck rfl) rfl (zq (PV.fieldAddr rfl Tb.fo_101_0) rfl (zq (PV.fieldAddr rfl Tb.fo_99_4) rfl (TL.store rfl rfl Tb.cells_3 rfl u9z d9z rfl rfl ?_)))))
  refine zk (zm rfl (zq (PV.nilCheck rfl) rfl (zq (PV.fieldAddr rfl Tb.fo_101_0) rfl (zq (PV.fieldAddr rfl Tb.fo_99_2) rfl (zq (PV.load rfl Tb.one_3 m9z rfl) rfl ?_)))))
  refine zm rfl (zq (PV.add (i := c.money) rfl rfl om) rfl (zq (PV.nilCheck rfl) rfl (zq (PV.fieldAddr rfl Tb.fo_101_0) rfl (zq (PV.fieldAddr rfl Tb.fo_99_2) rfl (TL.store rfl rfl Tb.cells_3 rfl u9z d9z rfl rfl ?_)))))
  refine zk (za rfl (zt (TQ.retE1 rfl rfl ?_)))
  have hE : actI s c ⟨2, [(j : Int), n]⟩ = 0 := by rw [load_e, if_neg g1, if_neg g2, Int.toNat_natCast, if_neg g3]
  have hC := chg_yes (s := s) (c := c) (o := ⟨2, [(j : Int), n]⟩) hE
  rw [load_c, Int.toNat_natCast] at hC
  exact ⟨({ v with pt := gp h1, ct := gc h1 }, gbI (h1, c.tur.set j (c.tur.getD j 0 + -n))), by rw [hE], by rw [hC]; exact fun w9 hn9 => ⟨(hT w9 (hn9.sub (List.sublist_append_right _ _))).ah, tur_g hh1 w9 hn9⟩, by rw [hC]; exact List.Sublist.refl _⟩
end Go.Proofs.YtbnjmkidbfmomaaGreatDoor
namespace Go.Proofs.YtbnjmkidbfmomaaGreatDoor
open Go.Sx Go.RowKit Go.Bt Go.Lib Go.Sand
theorem sq_60 {s : St} (hv : SV s) {r k : Int} (hr : 0 ≤ r ∧ r < C.dep s.W) (hk : 0 ≤ k ∧ k < s.W.length) : s.sq r k ≤ 60 := by
  obtain ⟨r9, rfl⟩ := Int.eq_ofNat_of_zero_le hr.1
  obtain ⟨k9, rfl⟩ := Int.eq_ofNat_of_zero_le hk.1
  have := sq_lt (s := s) (r := r9) (c := k9) (by omega) (by omega)
  have := hv.N36
  omega
theorem cut_0 {s : St} {c : Co} {k : Nat} (h : actI s c ⟨1, [(k : Int)]⟩ = 0) : C.opB s.W (C.pad6 c.hol) k = true := by
  rw [cut_e, Int.toNat_natCast] at h
  split at h
  · cases h
  split at h
  · cases h
  split at h
  · cases h
  rename_i h3
  cases h9 : C.opB s.W (C.pad6 c.hol) k with
  | true => rfl
  | false => exact absurd (Or.inl h9) h3
theorem op_lt {s : St} {c : Co} (hi : Inv s c) {k : Nat} (h : C.opB s.W (C.pad6 c.hol) k = true) : c.hol.getD k 0 < C.dep s.W := by
  have h1 := C.op_ne h
  rw [C.pad_at] at h1
  have := hi.ho.toNB.at_ k
  omega
theorem pad_hol {s : St} {c : Co} {k : Nat} (hk : k < s.W.length) : ((k : Int) ∈ opL s c) ↔ C.opB s.W (C.pad6 c.hol) k = true := by
  have := C.mem_op (ls := s.W) (xs := C.pad6 c.hol) (n := s.W.length) (v := (k : Int)) (by omega) (by omega)
  rw [Int.toNat_natCast] at this
  exact this
theorem wet_ok (w0 w : World) (s : St) (hv : SV s) (u : SU) (c : Co) (v : TV) (hi : Inv s c) (b : Nat) (Z : Heap) (hN : New w0 w ((b, .cells (tyL c v).toArray 101 (0, 0)) :: Z)) (Zf : Heap) (hZf : List.Sublist Zf Z) (hS : ∀ w9, New w0 w9 Zf → SiteAt w9 s u) (hT : ∀ w9, New w0 w9 Zf → TurAt w9 c v) (r k : Int) (hr : 0 ≤ r ∧ r ≤ 999) (hk : 0 ≤ k ∧ k ≤ 999) :
    Calls Tryz.prog 153 #[.agg (siL s u).toArray, .pointer (some ⟨b, 0, none⟩), .int .i64 r, .int .i64 k] w (Post (X := TV × Heap) (fun _ => .int .i64 (actI s c ⟨3, [r, k]⟩)) (fun y => ∀ w9, New w0 w9 (y.2 ++ Zf) → TurAt w9 (chgC s c ⟨3, [r, k]⟩) y.1) (fun y => (b, Obj.cells (tyL (chgC s c ⟨3, [r, k]⟩) y.1).toArray 101 (0, 0)) :: (y.2 ++ Z)) w0) := by
  have hNZ := hN.sub (hZf.trans (List.sublist_cons_self _ _))
  have hwl := hi.wl
  have h63 := wet63 hv hwl
  have hbn := hi.bnd hv
  have h5 := hv.n5
  have h4 := hv.d4
  have hhl := hi.hl
  have htl := hi.tl' hv
  have hbm := hbn.bm
  have hbl := hbn.bl
  have hbg := hbn.bg
  have hbd := hbn.bd
  have hbc := hbn.bc
  have hbt := hbn.bt
  have hbh := hbn.bh
  refine callsM hN Tryz.func153 rfl (n := 52) rfl (by simp) ?_
  refine zr (TL.box rfl rfl dc (fun b0 hb0 => ?_))
  refine za rfl (zn (TC.seq (zr (zm rfl (zq (PV.fieldAddr rfl Tb.fo_90_2) rfl (zq (PV.fieldAddr rfl Tb.fo_52_0) rfl (zq (PV.load rfl Tb.one_3 m9z rfl) rfl ?_)))))))
  refine zq (PV.geq rfl rfl) rfl (zm rfl (TL.sp 14 rfl (fun g0 => ?_) (fun g0 => ?_)))
  refine zx rfl (zx rfl (zx rfl (zx rfl (zx rfl (zq (PV.pickT rfl rfl) rfl (zn (TC.condT rfl (zr (za rfl (zt (TQ.thenR (TQ.retE1 rfl rfl ?_))))))))))))
  have hE : actI s c ⟨3, [r, k]⟩ = 4 := by rw [wet_e, if_pos (by omega)]
  have hC := chg_no (s := s) (c := c) (o := ⟨3, [r, k]⟩) (by rw [hE]; decide)
  exact ⟨(v, []), by rw [hE], by rw [hC]; exact hT, by rw [hC]; exact s9z⟩
  refine zm rfl (zq (PV.fieldAddr rfl Tb.fo_90_2) rfl (zq (PV.fieldAddr rfl Tb.fo_52_1) rfl (zq (PV.load rfl Tb.one_3 m9z rfl) rfl ?_)))
  refine zq (PV.geq rfl rfl) rfl (zq (PV.pickF rfl rfl) rfl (zn (TC.cd rfl (fun g1 => ?_) (fun g1 => ?_))))
  refine zr (za rfl (zt (TQ.thenR (TQ.retE1 rfl rfl ?_))))
  have hE : actI s c ⟨3, [r, k]⟩ = 4 := by rw [wet_e, if_pos (by omega)]
  have hC := chg_no (s := s) (c := c) (o := ⟨3, [r, k]⟩) (by rw [hE]; decide)
  exact ⟨(v, []), by rw [hE], by rw [hC]; exact hT, by rw [hC]; exact s9z⟩
  refine TC.skip (TQ.thenC (TC.seq (TC.seq ?_)))
  obtain ⟨k, rfl⟩ := Int.eq_ofNat_of_zero_le hk.1
  obtain ⟨q, qp, qv⟩ := ints_now (fun w9 h9 => (hT w9 h9).ah) hNZ (k := k) (by omega)
  have hat := hi.ho.toNB.at_ k
  refine TC.region (zm rfl (zm rfl (zq (PV.nilCheck rfl) rfl (zq (PV.fieldAddr rfl Tb.fo_101_1) rfl (zq (PV.load rfl Tb.one_25 m9z rfl) rfl ?_)))))
  refine zm rfl (zq (PV.indexA rfl qp rfl Tb.elm_25 rfl om) rfl (zq (PV.loadN rfl Tb.one_3 (hZf.trans s9z) qv) rfl ?_))
  refine zq (PV.geq rfl rfl) rfl (zn (TC.cd rfl (fun g2 => ?_) (fun g2 => ?_)))
  refine zr (za rfl (zt (TQ.thenR (TQ.retE1 rfl rfl ?_))))
  have hE : actI s c ⟨3, [r, (k : Int)]⟩ = 8 := by rw [wet_e, if_neg (by omega), Int.toNat_natCast, if_pos g2]
  have hC := chg_no (s := s) (c := c) (o := ⟨3, [r, (k : Int)]⟩) (by rw [hE]; decide)
  exact ⟨(v, []), by rw [hE], by rw [hC]; exact hT, by rw [hC]; exact s9z⟩
  refine TC.skip (TQ.thenC (TC.seq (TC.seq ?_)))
  have hq60 := sq_60 hv (r := r) (k := (k : Int)) (by omega) (by omega)
  refine TC.region (zm rfl (zq (PV.nilCheck rfl) rfl (zq (PV.loadBox (cs := tyL c v) rfl Tb.agg_101 m9z rfl) rfl ?_)))
  refine zm rfl (zm rfl (TL.call rfl Tb.gofn_186 (fun a w hs => isWet_ok w s c v hhl om h63 r (k : Int) om om hq60) rfl dc (fun _ _ => ?_)))
  refine zn (TC.cd rfl (fun g3 => ?_) (fun g3 => ?_))
  refine zr (za rfl (zt (TQ.thenR (TQ.retE1 rfl rfl ?_))))
  have hE : actI s c ⟨3, [r, (k : Int)]⟩ = 5 := by rw [wet_e, if_neg (by omega), Int.toNat_natCast, if_neg g2, if_pos g3]
  have hC := chg_no (s := s) (c := c) (o := ⟨3, [r, (k : Int)]⟩) (by rw [hE]; decide)
  exact ⟨(v, []), by rw [hE], by rw [hC]; exact hT, by rw [hC]; exact s9z⟩
  refine TC.skip (TQ.thenC (TC.seqK [8] (X := Unit) (fun x => True) (fun x => []) (fun x => (b, Obj.cells (tyL { c with wet := c.wet ||| 2 ^ s.sq r (k : Int) } v).toArray 101 (0, 0)) :: Z) ?_ ?_))
  refine TC.mixV [true, true, true, true, false, true, true, false, true, true, false, true, true, true, true, true, false] [] 17 Tb.mixed rfl kr kr kr kr s9z ?_
  refine zv 0 rfl kr (PV.move rfl) rfl (zv 1 rfl kr (PV.nilCheck rfl) rfl (zv 2 rfl kr (PV.fieldAddr rfl Tb.fo_101_0) rfl (zv 3 rfl kr (PV.fieldAddr rfl Tb.fo_99_1) rfl (zv 5 rfl kr (PV.move rfl) rfl (zv 6 rfl kr (PV.nilCheck rfl) rfl (zv 8 rfl kr (PV.move rfl) rfl (zv 9 rfl kr (PV.move rfl) rfl (TV.step [4, 7] kr dc rfl ⟨⟨_, rfl, ?_⟩, ⟨_, rfl, ?_⟩, trivial⟩))))))))
  refine zq (PV.load rfl Tb.one_3 m9z rfl) rfl ?_
  refine TL.nil (TV.next (.inl s9z) ?_)
  refine TV.step [7] kr dc rfl ⟨⟨_, rfl, ?_⟩, trivial⟩
  refine zq (PV.loadBox (cs := tyL c v) rfl Tb.agg_101 m9z rfl) rfl ?_
  refine TL.nil (TV.next (.inl s9z) ?_)
  refine TV.step [10] kr dc rfl ⟨⟨_, rfl, ?_⟩, trivial⟩
  refine TL.call rfl Tb.gofn_160 (fun a w hs => square_ok w s c v hhl om r (k : Int) om om) rfl dc (fun _ _ => ?_)
  refine TL.nil (TV.next (.inl s9z) ?_)
  refine zv 11 rfl kr (M.PV.shlK rfl rfl om om (M.shl_nat hq60)) rfl (zv 12 rfl kr (M.PV.orK rfl rfl (M.or_nat h63 (M.p63 om))) rfl (zv 13 rfl kr (PV.nilCheck rfl) rfl (zv 14 rfl kr (PV.fieldAddr rfl Tb.fo_101_0) rfl (zv 15 rfl kr (PV.fieldAddr rfl Tb.fo_99_1) rfl (TV.step [16] kr dc rfl ⟨⟨_, rfl, ?_⟩, trivial⟩)))))
  refine TL.store rfl rfl Tb.cells_3 rfl u9z d9z rfl rfl ?_
  refine TL.nil (TV.next (.inl s9z) ?_)
  refine TV.done kr ?_
  refine TQ.thenN (TQ.midK () l9z l9z (List.Sublist.cons _ (List.Sublist.refl _)) (by first | trivial | omega))
  refine zq (PV.loadBox (cs := tyL c v) rfl Tb.agg_101 m9z rfl) rfl ?_
  refine TL.nil (TV.next (.inl s9z) ?_)
  refine TV.step [4, 10] kr dc rfl ⟨⟨_, rfl, ?_⟩, ⟨_, rfl, ?_⟩, trivial⟩
  refine zq (PV.load rfl Tb.one_3 m9z rfl) rfl ?_
  refine TL.nil (TV.next (.inl s9z) ?_)
  refine TV.step [10] kr dc rfl ⟨⟨_, rfl, ?_⟩, trivial⟩
  refine TL.call rfl Tb.gofn_160 (fun a w hs => square_ok w s c v hhl om r (k : Int) om om) rfl dc (fun _ _ => ?_)
  refine TL.nil (TV.next (.inl s9z) ?_)
  refine zv 11 rfl kr (M.PV.shlK rfl rfl om om (M.shl_nat hq60)) rfl (zv 12 rfl kr (M.PV.orK rfl rfl (M.or_nat h63 (M.p63 om))) rfl (zv 13 rfl kr (PV.nilCheck rfl) rfl (zv 14 rfl kr (PV.fieldAddr rfl Tb.fo_101_0) rfl (zv 15 rfl kr (PV.fieldAddr rfl Tb.fo_99_1) rfl (TV.step [16] kr dc rfl ⟨⟨_, rfl, ?_⟩, trivial⟩)))))
  refine TL.store rfl rfl Tb.cells_3 rfl u9z d9z rfl rfl ?_
  refine TL.nil (TV.next (.inl s9z) ?_)
  refine TV.done kr ?_
  refine TQ.thenN (TQ.midK () l9z l9z (List.Sublist.cons _ (List.Sublist.refl _)) (by first | trivial | omega))
  refine TL.call rfl Tb.gofn_160 (fun a w hs => square_ok w s c v hhl om r (k : Int) om om) rfl dc (fun _ _ => ?_)
  refine TL.nil (TV.next (.inl s9z) ?_)
  refine zv 11 rfl kr (M.PV.shlK rfl rfl om om (M.shl_nat hq60)) rfl (TV.step [4] kr dc rfl ⟨⟨_, rfl, ?_⟩, trivial⟩)
  refine zq (PV.load rfl Tb.one_3 m9z rfl) rfl ?_
  refine TL.nil (TV.next (.inl s9z) ?_)
  refine zv 12 rfl kr (M.PV.orK rfl rfl (M.or_nat h63 (M.p63 om))) rfl (zv 13 rfl kr (PV.nilCheck rfl) rfl (zv 14 rfl kr (PV.fieldAddr rfl Tb.fo_101_0) rfl (zv 15 rfl kr (PV.fieldAddr rfl Tb.fo_99_1) rfl (TV.step [16] kr dc rfl ⟨⟨_, rfl, ?_⟩, trivial⟩))))
  refine TL.store rfl rfl Tb.cells_3 rfl u9z d9z rfl rfl ?_
  refine TL.nil (TV.next (.inl s9z) ?_)
  refine TV.done kr ?_
  refine TQ.thenN (TQ.midK () l9z l9z (List.Sublist.cons _ (List.Sublist.refl _)) (by first | trivial | omega))
  intro x hx8
  refine zr (za rfl (zt (TQ.retE1 rfl rfl ?_)))
  have hE : actI s c ⟨3, [r, (k : Int)]⟩ = 0 := by rw [wet_e, if_neg (by omega), Int.toNat_natCast, if_neg g2, if_neg (by rw [g3]; decide)]
  have hC := chg_yes (s := s) (c := c) (o := ⟨3, [r, (k : Int)]⟩) hE
  rw [wet_c] at hC
  exact ⟨(v, []), by rw [hE], by rw [hC]; exact fun w9 hn => ⟨(hT w9 hn).ah, (hT w9 hn).at_⟩, by rw [hC]; exact s9z⟩
set_option maxHeartbeats 1000000 in
theorem cut_ok (w0 w : World) (s : St) (hv : SV s) (u : SU) (c : Co) (v : TV) (hi : Inv s c) (b : Nat) (Z : Heap) (hN : New w0 w ((b, .cells (tyL c v).toArray 101 (0, 0)) :: Z)) (Zf : Heap) (hZf : List.Sublist Zf Z) (hS : ∀ w9, New w0 w9 Zf → SiteAt w9 s u) (hT : ∀ w9, New w0 w9 Zf → TurAt w9 c v) (a : Int) (ha : 0 ≤ a ∧ a ≤ 999) :
    Calls Tryz.prog 151 #[.agg (siL s u).toArray, .pointer (some ⟨b, 0, none⟩), .int .i64 a] w (Post (X := TV × Heap) (fun _ => .int .i64 (actI s c ⟨1, [a]⟩)) (fun y => ∀ w9, New w0 w9 (y.2 ++ Zf) → TurAt w9 (chgC s c ⟨1, [a]⟩) y.1) (fun y => (b, Obj.cells (tyL (chgC s c ⟨1, [a]⟩) y.1).toArray 101 (0, 0)) :: (y.2 ++ Z)) w0) := by
  have hNZ := hN.sub (hZf.trans (List.sublist_cons_self _ _))
  have hwl := hi.wl
  have h63 := wet63 hv hwl
  have hbn := hi.bnd hv
  have h5 := hv.n5
  have h4 := hv.d4
  have hhl := hi.hl
  have htl := hi.tl' hv
  have hbm := hbn.bm
  have hbl := hbn.bl
  have hbg := hbn.bg
  have hbd := hbn.bd
  have hbc := hbn.bc
  have hbt := hbn.bt
  have hbh := hbn.bh
  refine callsM hN Tryz.func151 rfl (n := 126) rfl (by simp) ?_
  refine zr (TL.box rfl rfl dc (fun b0 hb0 => ?_))
  refine za rfl (zn (TC.seq (zr (zm rfl (zq (PV.fieldAddr rfl Tb.fo_90_2) rfl (zq (PV.fieldAddr rfl Tb.fo_52_1) rfl (zq (PV.load rfl Tb.one_3 m9z rfl) rfl ?_)))))))
  refine zq (PV.geq rfl rfl) rfl (zn (TC.cd rfl (fun g1 => ?_) (fun g1 => ?_)))
  refine zr (za rfl (zt (TQ.thenR (TQ.retE1 rfl rfl ?_))))
  have hE : actI s c ⟨1, [a]⟩ = 4 := by rw [cut_e, if_pos g1]
  have hC := chg_no (s := s) (c := c) (o := ⟨1, [a]⟩) (by rw [hE]; decide)
  exact ⟨(v, []), by rw [hE], by rw [hC]; exact hT, by rw [hC]; exact s9z⟩
  refine TC.skip (TQ.thenC (TC.seq (zr (zm rfl (zq (PV.nilCheck rfl) rfl (zq (PV.fieldAddr rfl Tb.fo_101_0) rfl (zq (PV.fieldAddr rfl Tb.fo_99_6) rfl (zq (PV.load rfl Tb.one_4 m9z rfl) rfl ?_))))))))
  refine zn (TC.cd rfl (fun g2 => ?_) (fun g2 => ?_))
  refine zr (za rfl (zt (TQ.thenR (TQ.retE1 rfl rfl ?_))))
  have hE : actI s c ⟨1, [a]⟩ = 8 := by rw [cut_e, if_neg g1, if_pos g2]
  have hC := chg_no (s := s) (c := c) (o := ⟨1, [a]⟩) (by rw [hE]; decide)
  exact ⟨(v, []), by rw [hE], by rw [hC]; exact hT, by rw [hC]; exact s9z⟩
  refine TC.skip (TQ.thenC (TC.seq ?_))
  obtain ⟨k, rfl⟩ := Int.eq_ofNat_of_zero_le ha.1
  have hkW : k < s.W.length := by omega
  have hat := hi.ho.toNB.at_ k
  obtain ⟨q, qp, qv⟩ := ints_now (fun w9 h9 => (hT w9 h9).ah) hNZ (k := k) (by omega)
  refine TC.mixV [true, true, true, true, true, true, false, true, true, true, true, true] [(b0, Obj.cells (siL s u).toArray 90 (0, 0)), (b, Obj.cells (tyL c v).toArray 101 (0, 0))] 12 Tb.mixed rfl kr kr kr kr s9z ?_
  refine zv 0 rfl kr (PV.fieldAddr rfl Tb.fo_90_0) rfl (zv 1 rfl kr (PV.loadMid (cs := siL s u) (vs := [.slice u.pw s.W.length u.cw]) rfl Tb.agg_24 m9z rfl rfl) rfl ?_)
  refine zv 2 rfl kr (PV.move rfl) rfl (zv 3 rfl kr (PV.nilCheck rfl) rfl (zv 4 rfl kr (PV.fieldAddr rfl Tb.fo_101_1) rfl (zv 5 rfl kr (PV.load rfl Tb.one_25 m9z rfl) rfl ?_)))
  refine TV.step [6] kr dc rfl ⟨⟨_, rfl, ?_⟩, trivial⟩
  refine TL.call rfl Tb.gofn_184 (fun a w hs => open_v w hv hi _ _ (hS w (hs.new.sub (hZf.trans s9z))).ls _ _ (hT w (hs.new.sub (hZf.trans s9z))).ah) rfl dc (fun h5o hh5 => ?_)
  refine TL.nil (TV.next (.inl s9z) ?_)
  refine zv 7 rfl kr (PV.move rfl) rfl (zv 8 rfl kr (PV.extract rfl rfl) rfl (zv 9 rfl kr (PV.extract rfl rfl) rfl (zv 10 rfl kr (PV.assign rfl) rfl (zv 11 rfl kr (PV.assign rfl) rfl (TV.done kr ?_)))))
  refine TQ.thenC (zr (zm rfl (zq (PV.nilCheck rfl) rfl (zq (PV.fieldAddr rfl Tb.fo_101_1) rfl (zq (PV.load rfl Tb.one_25 m9z rfl) rfl ?_)))))
  refine zm rfl (zq (PV.indexA rfl qp rfl Tb.elm_25 rfl om) rfl (zq (PV.loadN rfl Tb.one_3 (hZf.trans s9z) qv) rfl ?_))
  refine za rfl (zn (TC.seqK [1, 2, 3, 6, 9] (X := Unit) (fun x => actI s c ⟨1, [(k : Int)]⟩ = 0) (fun x => []) (fun x => (b0, Obj.cells (siL s u).toArray 90 (0, 0)) :: (b, Obj.cells (tyL c v).toArray 101 (0, 0)) :: Z) ?_ ?_))
  refine TC.seq ?_
  have hmem := pad_hol (s := s) (c := c) hkW
  refine TC.region (zm rfl (zm rfl (TL.call rfl Tb.gofn_185 (fun a w hs => C.containsI_ok w _ _ (opL s c) (IntsAt.g hs.new r9z hh5) (by have := C.op_len s.W (C.pad6 c.hol) s.W.length; show (C.opN s.W (C.pad6 c.hol) s.W.length).length ≤ _; omega) (k : Int)) rfl dc (fun _ _ => ?_))))
  refine zq ((by first | exact PV.notD rfl | exact PV.not rfl)) rfl ?_
  refine zm rfl (TL.sp 42 rfl (fun g3 => ?_) (fun g3 => ?_))
  refine zx rfl (zx rfl (zx rfl (TL.skipU rfl (fun k hk => by cases hk; decide) ?_)))
  refine TL.skipU rfl (fun k hk => by cases hk; decide) ?_
  refine TL.skipU rfl (fun k hk => by cases hk; decide) ?_
  refine TL.skipU rfl (fun k hk => by cases hk; decide) ?_
  refine TL.skipU rfl (fun k hk => by cases hk; decide) ?_
  refine TL.skipU rfl (fun k hk => by cases hk; decide) ?_
  refine TL.skipU rfl (fun k hk => by cases hk; decide) ?_
  refine zx rfl (zq (PV.pickT rfl rfl) rfl (zn (TC.condT rfl (zr (za rfl (zt (TQ.thenR (TQ.retE1 rfl rfl ?_))))))))
  have hE : actI s c ⟨1, [(k : Int)]⟩ = 6 := by rw [cut_e, if_neg g1, if_neg (by rw [g2]; decide), Int.toNat_natCast, if_pos (.inl (by cases h9 : C.opB s.W (C.pad6 c.hol) k with | false => rfl | true => exact absurd (hmem.2 h9) g3))]
  have hC := chg_no (s := s) (c := c) (o := ⟨1, [(k : Int)]⟩) (by rw [hE]; decide)
  exact ⟨(v, []), by rw [hE], by rw [hC]; exact hT, by rw [hC]; exact s9z⟩
  refine zm rfl (zq (PV.gtr rfl rfl) rfl (zm rfl (TL.sp 45 rfl (fun g4 => ?_) (fun g4 => ?_))))
  refine zm rfl (zq (PV.nilCheck rfl) rfl (zq (PV.loadBox (cs := tyL c v) rfl Tb.agg_101 m9z rfl) rfl ?_))
  refine zm rfl (zq (PV.sub rfl rfl om) rfl (zm rfl (TL.call rfl Tb.gofn_186 (fun a w hs => isWet_ok w s c v hhl om h63 _ (k : Int) om om (sq_60 hv om om)) rfl dc (fun _ _ => ?_))))
  refine zq (PV.pickT rfl rfl) rfl (zq (PV.pickF rfl rfl) rfl (zn (TC.cd rfl (fun g5 => ?_) (fun g5 => ?_))))
  refine zr (za rfl (zt (TQ.thenR (TQ.retE1 rfl rfl ?_))))
  have hE : actI s c ⟨1, [(k : Int)]⟩ = 6 := by rw [cut_e, if_neg g1, if_neg (by rw [g2]; decide), Int.toNat_natCast, if_pos (.inr ⟨g4, g5⟩)]
  have hC := chg_no (s := s) (c := c) (o := ⟨1, [(k : Int)]⟩) (by rw [hE]; decide)
  exact ⟨(v, []), by rw [hE], by rw [hC]; exact hT, by rw [hC]; exact s9z⟩
  refine TC.skip (TQ.thenN (TQ.midK () l9z l9z (List.sublist_append_right _ _) (by rw [cut_e, if_neg g1, if_neg (by rw [g2]; decide), Int.toNat_natCast]; refine if_neg ?_; rintro (h | h); (rw [hmem.1 (Decidable.not_not.1 g3)] at h; cases h); (first | (rw [g5] at h; exact absurd h.2 (by decide)) | exact absurd h.1 g4))))
  refine zx rfl (zx rfl (zx rfl (zx rfl (zx rfl (zx rfl (zx rfl (zq (PV.pickF rfl rfl) rfl (zq (PV.pickF rfl rfl) rfl (zn (TC.condF rfl (TC.skip (TQ.thenN (TQ.midK () l9z l9z (List.sublist_append_right _ _) (by rw [cut_e, if_neg g1, if_neg (by rw [g2]; decide), Int.toNat_natCast]; refine if_neg ?_; rintro (h | h); (rw [hmem.1 (Decidable.not_not.1 g3)] at h; cases h); (first | (rw [g5] at h; exact absurd h.2 (by decide)) | exact absurd h.1 g4)))))))))))))))
  intro x hE
  refine zr (zm rfl (zq (PV.nilCheck rfl) rfl (zq (PV.loadBox (cs := tyL c v) rfl Tb.agg_101 m9z rfl) rfl ?_)))
  refine TL.call rfl Tb.gofn_112 (fun a w hs => onHeaps_ok w c v (hT w (hs.new.sub (hZf.trans s9z))).at_ om (fun j => by have := hi.tb hv j; omega)) rfl dc (fun _ _ => ?_)
  refine za rfl (zn (TC.seq (TC.mixV [true, true, true, true, true, true, false, true, false, true, true, true, true, true, true, false] [(b0, Obj.cells (siL s u).toArray 90 (0, 0))] 16 Tb.mixed rfl kr kr kr kr s9z ?_)))
  refine zv 0 rfl kr (PV.move rfl) rfl (zv 1 rfl kr (PV.fieldAddr rfl Tb.fo_90_1) rfl (zv 2 rfl kr (PV.loadMid (cs := siL s u) (vs := [.slice u.pk s.K.length u.ck, .slice u.pg s.g.length u.cg]) rfl Tb.agg_27 m9z rfl rfl) rfl ?_))
  refine zv 3 rfl kr (PV.move rfl) rfl (zv 4 rfl kr (PV.nilCheck rfl) rfl (zv 5 rfl kr (PV.fieldAddr rfl Tb.fo_101_2) rfl (zv 7 rfl kr (PV.move rfl) rfl (TV.step [6] kr dc rfl ⟨⟨_, rfl, ?_⟩, trivial⟩))))
  refine zq (PV.load rfl Tb.one_25 m9z rfl) rfl ?_
  refine TL.nil (TV.next (.inl s9z) ?_)
  refine TV.step [8] kr dc rfl ⟨⟨_, rfl, ?_⟩, trivial⟩
  refine TL.call rfl Tb.gofn_187 (fun a w hs => drop_v w hv hi _ _ (hS w (hs.new.sub (hZf.trans s9z))).ak _ _ (hS w (hs.new.sub (hZf.trans s9z))).ag _ _ (hT w (hs.new.sub (hZf.trans s9z))).at_ k hkW) rfl dc (fun y hy => ?_)
  refine TL.nil (TV.next (.inl s9z) ?_)
  refine zv 9 rfl kr (PV.move rfl) rfl (zv 10 rfl kr (PV.extract rfl rfl) rfl (zv 11 rfl kr (PV.extract rfl rfl) rfl (zv 12 rfl kr (PV.extract rfl rfl) rfl (zv 13 rfl kr (PV.nilCheck rfl) rfl (zv 14 rfl kr (PV.fieldAddr rfl Tb.fo_101_2) rfl (TV.step [15] kr dc rfl ⟨⟨_, rfl, ?_⟩, trivial⟩))))))
  refine TL.store rfl rfl Tb.cells_25 rfl u9z d9z rfl rfl ?_
  refine TL.nil (TV.next (.inl s9z) ?_)
  refine TV.done kr ?_
  refine TQ.thenC (TC.seqK [1, 2, 3, 6, 9] (X := Unit) (fun x => True) (fun x => []) (fun x => gbI (y.1, drT s.K s.g c.tur (k : Int)) ++ ((b0, Obj.cells (siL s u).toArray 90 (0, 0)) :: (b, Obj.cells (tyL { c with tur := drT s.K s.g c.tur (k : Int), grd := c.grd + (sL c.tur + 1 - sL (drT s.K s.g c.tur (k : Int))) } { v with pt := gp y.1, ct := gc y.1 }).toArray 101 (0, 0)) :: Z)) ?_ ?_)
  have hdr := dr_facts hv hi hkW
  refine TC.sub (G' := gbI (y.1, drT s.K s.g c.tur (k : Int)) ++ ((b0, Obj.cells (siL s u).toArray 90 (0, 0)) :: (b, Obj.cells (tyL { c with tur := drT s.K s.g c.tur (k : Int) } { v with pt := gp y.1, ct := gc y.1 }).toArray 101 (0, 0)) :: Z)) (List.Sublist.refl _) ?_
  have hs1 := sL_5 hdr.len hv.hb.n.2 (hdr.bd hv)
  refine TC.mixV [true, true, true, true, false, true, true, true, true, false, false, true, true, true, true, true, false] [] 17 Tb.mixed rfl kr kr kr kr s9z ?_
  refine zv 0 rfl kr (PV.move rfl) rfl (zv 1 rfl kr (PV.nilCheck rfl) rfl (zv 2 rfl kr (PV.fieldAddr rfl Tb.fo_101_0) rfl (zv 3 rfl kr (PV.fieldAddr rfl Tb.fo_99_5) rfl (zv 5 rfl kr (PV.move rfl) rfl (zv 6 rfl kr (PV.add (i := sL c.tur) (j := 1) rfl rfl om) rfl (zv 7 rfl kr (PV.move rfl) rfl (zv 8 rfl kr (PV.nilCheck rfl) rfl (TV.step [4, 9] kr dc rfl ⟨⟨_, rfl, ?_⟩, ⟨_, rfl, ?_⟩, trivial⟩))))))))
  refine zq (PV.load rfl Tb.one_3 m9z rfl) rfl ?_
  refine TL.nil (TV.next (.inl s9z) ?_)
  refine TV.step [9] kr dc rfl ⟨⟨_, rfl, ?_⟩, trivial⟩
  refine zq (PV.loadBox (cs := tyL { c with tur := drT s.K s.g c.tur (k : Int) } { v with pt := gp y.1, ct := gc y.1 }) rfl Tb.agg_101 m9z rfl) rfl ?_
  refine TL.nil (TV.next (.inl s9z) ?_)
  refine TV.step [10] kr dc rfl ⟨⟨_, rfl, ?_⟩, trivial⟩
  refine TL.call rfl Tb.gofn_112 (fun a w hs => onHeaps_ok w { c with tur := drT s.K s.g c.tur (k : Int) } { v with pt := gp y.1, ct := gc y.1 } (tur_g hy (Z := []) w (hs.new.sub (by rw [List.append_nil]; exact List.sublist_append_left _ _))) (by show (drT s.K s.g c.tur (k : Int)).length ≤ _; have := hdr.len; have := hv.len; omega) (fun j => by have := hdr.bd hv j; show -1000000 ≤ (drT s.K s.g c.tur (k : Int)).getD j 0 ∧ (drT s.K s.g c.tur (k : Int)).getD j 0 ≤ 1000000; omega)) rfl dc (fun _ _ => ?_)
  refine TL.nil (TV.next (.inl s9z) ?_)
  refine zv 11 rfl kr (PV.sub (i := sL c.tur + 1) (j := sL (drT s.K s.g c.tur (k : Int))) rfl rfl om) rfl ?_
  refine zv 12 rfl kr (PV.add (i := c.grd) (j := sL c.tur + 1 - sL (drT s.K s.g c.tur (k : Int))) rfl rfl om) rfl ?_
  refine zv 13 rfl kr (PV.nilCheck rfl) rfl (zv 14 rfl kr (PV.fieldAddr rfl Tb.fo_101_0) rfl (zv 15 rfl kr (PV.fieldAddr rfl Tb.fo_99_5) rfl (TV.step [16] kr dc rfl ⟨⟨_, rfl, ?_⟩, trivial⟩)))
  refine TL.store rfl rfl Tb.cells_3 rfl u9z d9z rfl rfl ?_
  refine TL.nil (TV.next (.inl s9z) ?_)
  refine TV.done kr ?_
  refine TQ.thenN (TQ.midK () l9z l9z (List.Sublist.refl _) (by first | trivial | omega))
  refine zq (PV.loadBox (cs := tyL { c with tur := drT s.K s.g c.tur (k : Int) } { v with pt := gp y.1, ct := gc y.1 }) rfl Tb.agg_101 m9z rfl) rfl ?_
  refine TL.nil (TV.next (.inl s9z) ?_)
  refine TV.step [4, 10] kr dc rfl ⟨⟨_, rfl, ?_⟩, ⟨_, rfl, ?_⟩, trivial⟩
  refine zq (PV.load rfl Tb.one_3 m9z rfl) rfl ?_
  refine TL.nil (TV.next (.inl s9z) ?_)
  refine TV.step [10] kr dc rfl ⟨⟨_, rfl, ?_⟩, trivial⟩
  refine TL.call rfl Tb.gofn_112 (fun a w hs => onHeaps_ok w { c with tur := drT s.K s.g c.tur (k : Int) } { v with pt := gp y.1, ct := gc y.1 } (tur_g hy (Z := []) w (hs.new.sub (by rw [List.append_nil]; exact List.sublist_append_left _ _))) (by show (drT s.K s.g c.tur (k : Int)).length ≤ _; have := hdr.len; have := hv.len; omega) (fun j => by have := hdr.bd hv j; show -1000000 ≤ (drT s.K s.g c.tur (k : Int)).getD j 0 ∧ (drT s.K s.g c.tur (k : Int)).getD j 0 ≤ 1000000; omega)) rfl dc (fun _ _ => ?_)
  refine TL.nil (TV.next (.inl s9z) ?_)
  refine zv 11 rfl kr (PV.sub (i := sL c.tur + 1) (j := sL (drT s.K s.g c.tur (k : Int))) rfl rfl om) rfl ?_
  refine zv 12 rfl kr (PV.add (i := c.grd) (j := sL c.tur + 1 - sL (drT s.K s.g c.tur (k : Int))) rfl rfl om) rfl ?_
  refine zv 13 rfl kr (PV.nilCheck rfl) rfl (zv 14 rfl kr (PV.fieldAddr rfl Tb.fo_101_0) rfl (zv 15 rfl kr (PV.fieldAddr rfl Tb.fo_99_5) rfl (TV.step [16] kr dc rfl ⟨⟨_, rfl, ?_⟩, trivial⟩)))
  refine TL.store rfl rfl Tb.cells_3 rfl u9z d9z rfl rfl ?_
  refine TL.nil (TV.next (.inl s9z) ?_)
  refine TV.done kr ?_
  refine TQ.thenN (TQ.midK () l9z l9z (List.Sublist.refl _) (by first | trivial | omega))
  refine TL.call rfl Tb.gofn_112 (fun a w hs => onHeaps_ok w { c with tur := drT s.K s.g c.tur (k : Int) } { v with pt := gp y.1, ct := gc y.1 } (tur_g hy (Z := []) w (hs.new.sub (by rw [List.append_nil]; exact List.sublist_append_left _ _))) (by show (drT s.K s.g c.tur (k : Int)).length ≤ _; have := hdr.len; have := hv.len; omega) (fun j => by have := hdr.bd hv j; show -1000000 ≤ (drT s.K s.g c.tur (k : Int)).getD j 0 ∧ (drT s.K s.g c.tur (k : Int)).getD j 0 ≤ 1000000; omega)) rfl dc (fun _ _ => ?_)
  refine TL.nil (TV.next (.inl s9z) ?_)
  refine zv 11 rfl kr (PV.sub (i := sL c.tur + 1) (j := sL (drT s.K s.g c.tur (k : Int))) rfl rfl om) rfl ?_
  refine TV.step [4] kr dc rfl ⟨⟨_, rfl, ?_⟩, trivial⟩
  refine zq (PV.load rfl Tb.one_3 m9z rfl) rfl ?_
  refine TL.nil (TV.next (.inl s9z) ?_)
  refine zv 12 rfl kr (PV.add (i := c.grd) (j := sL c.tur + 1 - sL (drT s.K s.g c.tur (k : Int))) rfl rfl om) rfl ?_
  refine zv 13 rfl kr (PV.nilCheck rfl) rfl (zv 14 rfl kr (PV.fieldAddr rfl Tb.fo_101_0) rfl (zv 15 rfl kr (PV.fieldAddr rfl Tb.fo_99_5) rfl (TV.step [16] kr dc rfl ⟨⟨_, rfl, ?_⟩, trivial⟩)))
  refine TL.store rfl rfl Tb.cells_3 rfl u9z d9z rfl rfl ?_
  refine TL.nil (TV.next (.inl s9z) ?_)
  refine TV.done kr ?_
  refine TQ.thenN (TQ.midK () l9z l9z (List.Sublist.refl _) (by first | trivial | omega))
  intro x hx8
  refine TC.seq (TC.sub (G' := gbI (y.1, drT s.K s.g c.tur (k : Int)) ++ ((b0, Obj.cells (siL s u).toArray 90 (0, 0)) :: (b, Obj.cells (tyL { c with tur := drT s.K s.g c.tur (k : Int), grd := c.grd + (sL c.tur + 1 - sL (drT s.K s.g c.tur (k : Int))) } { v with pt := gp y.1, ct := gc y.1 }).toArray 101 (0, 0)) :: Z)) (List.Sublist.refl _) ?_)
  obtain ⟨q5, q5p, q5v⟩ := rows_now hS hNZ hkW
  obtain ⟨r9, hr9⟩ := Int.eq_ofNat_of_zero_le hat.1
  have htn : (c.hol.getD k 0).toNat = r9 := by omega
  have holt := op_lt hi (cut_0 hE)
  have hvb := hv.vb
  have hrl := hvb.c k hkW
  have hrw := hvb.w k r9
  obtain ⟨q6, q6p, q6v⟩ := ints_now (row_now hS hkW) hNZ (k := r9) (by omega)
  refine TC.region (zm rfl (zm rfl (zq (PV.nilCheck rfl) rfl (zq (PV.fieldAddr rfl Tb.fo_101_1) rfl (zq (PV.load rfl Tb.one_25 m9z rfl) rfl ?_)))))
  refine zm rfl (TL.call rfl Tb.gofn_188 (fun a w hs => plus_v w _ _ c.hol (hT w (hs.new.sub (hZf.trans s9z))).ah om k om 1 om om _ rfl) rfl dc (fun h2 hh2 => ?_))
  refine zq (PV.nilCheck rfl) rfl (zq (PV.fieldAddr rfl Tb.fo_101_1) rfl (TL.store rfl rfl Tb.cells_25 rfl u9z d9z rfl rfl ?_))
  refine zn (TC.seqK [1, 6] (X := Unit) (fun x => True) (fun x => []) (fun x => gbI (h2, c.hol.set k (c.hol.getD k 0 + 1)) ++ (gbI (y.1, drT s.K s.g c.tur (k : Int)) ++ ((b0, Obj.cells (siL s u).toArray 90 (0, 0)) :: (b, Obj.cells (tyL { c with tur := drT s.K s.g c.tur (k : Int), grd := c.grd + (sL c.tur + 1 - sL (drT s.K s.g c.tur (k : Int))), hol := c.hol.set k (c.hol.getD k 0 + 1), money := c.money + (s.W.getD k []).getD r9 0 } { ph := gp h2, ch := gc h2, pt := gp y.1, ct := gc y.1 }).toArray 101 (0, 0)) :: Z))) ?_ ?_)
  refine TC.sub (G' := gbI (h2, c.hol.set k (c.hol.getD k 0 + 1)) ++ (gbI (y.1, drT s.K s.g c.tur (k : Int)) ++ ((b0, Obj.cells (siL s u).toArray 90 (0, 0)) :: (b, Obj.cells (tyL { c with tur := drT s.K s.g c.tur (k : Int), grd := c.grd + (sL c.tur + 1 - sL (drT s.K s.g c.tur (k : Int))), hol := c.hol.set k (c.hol.getD k 0 + 1) } { ph := gp h2, ch := gc h2, pt := gp y.1, ct := gc y.1 }).toArray 101 (0, 0)) :: Z))) (List.Sublist.refl _) ?_
  refine TC.mixV [true, true, true, true, false, true, true, true, true, true, true, true, true, true, true, true, true, true, false] ((b0, Obj.cells (siL s u).toArray 90 (0, 0)) :: Z) 19 Tb.mixed rfl kr kr kr kr s9z ?_
  refine zv 0 rfl kr (PV.move rfl) rfl (zv 1 rfl kr (PV.nilCheck rfl) rfl (zv 2 rfl kr (PV.fieldAddr rfl Tb.fo_101_0) rfl (zv 3 rfl kr (PV.fieldAddr rfl Tb.fo_99_2) rfl (zv 5 rfl kr (PV.fieldAddr rfl Tb.fo_90_0) rfl (zv 6 rfl kr (PV.fieldAddr rfl Tb.fo_24_0) rfl (zv 7 rfl kr (PV.load rfl Tb.one_22 m9z rfl) rfl ?_))))))
  refine zv 8 rfl kr (PV.move rfl) rfl (zv 9 rfl kr (PV.indexA rfl q5p rfl Tb.elm_22 rfl om) rfl (zv 10 rfl kr (PV.loadN rfl Tb.one_25 (hZf.trans s9z) q5v) rfl ?_))
  refine zv 11 rfl kr (PV.move rfl) rfl (zv 12 rfl kr (PV.indexA (j := r9) rfl q6p rfl Tb.elm_25 hr9 om) rfl (zv 13 rfl kr (PV.loadN rfl Tb.one_3 (hZf.trans s9z) q6v) rfl ?_))
  refine TV.step [4] kr dc rfl ⟨⟨_, rfl, ?_⟩, trivial⟩
  refine zq (PV.load rfl Tb.one_3 m9z rfl) rfl ?_
  refine TL.nil (TV.next (.inl s9z) ?_)
  refine zv 14 rfl kr (PV.add (i := c.money) rfl rfl om) rfl (zv 15 rfl kr (PV.nilCheck rfl) rfl (zv 16 rfl kr (PV.fieldAddr rfl Tb.fo_101_0) rfl (zv 17 rfl kr (PV.fieldAddr rfl Tb.fo_99_2) rfl (TV.step [18] kr dc rfl ⟨⟨_, rfl, ?_⟩, trivial⟩))))
  refine TL.store rfl rfl Tb.cells_3 rfl u9z d9z rfl rfl ?_
  refine TL.nil (TV.next (.inl s9z) ?_)
  refine TV.done kr ?_
  refine TQ.thenN (TQ.midK () l9z l9z (List.Sublist.refl _) (by first | trivial | omega))
  intro x hx9
  refine TC.seq (TC.sub (G' := gbI (h2, c.hol.set k (c.hol.getD k 0 + 1)) ++ (gbI (y.1, drT s.K s.g c.tur (k : Int)) ++ ((b, Obj.cells (tyL { c with tur := drT s.K s.g c.tur (k : Int), grd := c.grd + (sL c.tur + 1 - sL (drT s.K s.g c.tur (k : Int))), hol := c.hol.set k (c.hol.getD k 0 + 1), money := c.money + (s.W.getD k []).getD r9 0 } { ph := gp h2, ch := gc h2, pt := gp y.1, ct := gc y.1 }).toArray 101 (0, 0)) :: Z))) (List.Sublist.append (List.Sublist.refl _) (List.Sublist.append (List.Sublist.refl _) (List.Sublist.cons _ (List.Sublist.refl _)))) ?_)
  refine TC.region (zm rfl (zq (PV.nilCheck rfl) rfl (zq (PV.fieldAddr rfl Tb.fo_101_0) rfl (zq (PV.fieldAddr rfl Tb.fo_99_3) rfl (zq (PV.load rfl Tb.one_3 m9z rfl) rfl ?_)))))
  refine zq (PV.add (i := c.cut) rfl rfl om) rfl (zq (PV.nilCheck rfl) rfl (zq (PV.fieldAddr rfl Tb.fo_101_0) rfl (zq (PV.fieldAddr rfl Tb.fo_99_3) rfl (TL.store rfl rfl Tb.cells_3 rfl u9z d9z rfl rfl ?_))))
  refine zn (TC.seq (TC.sub (G' := gbI (h2, c.hol.set k (c.hol.getD k 0 + 1)) ++ (gbI (y.1, drT s.K s.g c.tur (k : Int)) ++ ((b, Obj.cells (tyL { c with tur := drT s.K s.g c.tur (k : Int), grd := c.grd + (sL c.tur + 1 - sL (drT s.K s.g c.tur (k : Int))), hol := c.hol.set k (c.hol.getD k 0 + 1), money := c.money + (s.W.getD k []).getD r9 0, cut := c.cut + 1 } { ph := gp h2, ch := gc h2, pt := gp y.1, ct := gc y.1 }).toArray 101 (0, 0)) :: Z))) (List.Sublist.refl _) ?_))
  refine TC.perm (G' := (b, Obj.cells (tyL { c with tur := drT s.K s.g c.tur (k : Int), grd := c.grd + (sL c.tur + 1 - sL (drT s.K s.g c.tur (k : Int))), hol := c.hol.set k (c.hol.getD k 0 + 1), money := c.money + (s.W.getD k []).getD r9 0, cut := c.cut + 1 } { ph := gp h2, ch := gc h2, pt := gp y.1, ct := gc y.1 }).toArray 101 (0, 0)) :: (gbI (h2, c.hol.set k (c.hol.getD k 0 + 1)) ++ (gbI (y.1, drT s.K s.g c.tur (k : Int)) ++ Z))) (List.perm_middle.symm.trans (List.Perm.append_left _ List.perm_middle.symm)) ?_
  refine TC.region (za rfl (zt (TQ.retE1 rfl rfl ?_)))
  have hC := chg_yes (s := s) (c := c) (o := ⟨1, [(k : Int)]⟩) hE
  rw [cut_c, Int.toNat_natCast, htn] at hC
  exact ⟨({ ph := gp h2, ch := gc h2, pt := gp y.1, ct := gc y.1 }, gbI (h2, c.hol.set k (c.hol.getD k 0 + 1)) ++ gbI (y.1, drT s.K s.g c.tur (k : Int))), by rw [hE], by rw [hC]; exact fun w9 hn9 => ⟨tur_g hh2 (Z := []) w9 (hn9.sub (by rw [List.append_nil, List.append_assoc]; exact List.sublist_append_left _ _)), tur_g hy (Z := []) w9 (hn9.sub (by rw [List.append_nil, List.append_assoc]; exact (List.sublist_append_left _ _).trans (List.sublist_append_right _ _)))⟩, by rw [hC, List.append_assoc]; exact List.Sublist.refl _⟩
end Go.Proofs.YtbnjmkidbfmomaaGreatDoor
