/- What an order changes: contracts. -/
import Derived.Test.YtbnjmkidbfmomaaGreatDoorQXb
set_option linter.unusedVariables false
set_option linter.unusedSimpArgs false
namespace Go.Proofs.YtbnjmkidbfmomaaGreatDoor
open Go.Sx Go.RowKit Go.Bt Go.Lib Go.Sand

theorem md_eq (s : St) : M.Mo.mD (C.dep s.W : Nat) (s.W.length : Nat) s.need = s.md := by
  unfold M.Mo.mD St.md; rw [Int.toNat_natCast, Int.toNat_natCast]
theorem gI_s {s : St} (hv : SV s) {x : Nat} (hx : x < 2 ^ s.md.N) : M.gI (C.dep s.W : Nat) (s.W.length : Nat) s.need x = 0 := by
  have h := M.gI_ok hv.mo hx
  rw [show s.need = ((s.md.K : Nat) : Int) from hv.nd]; exact h
theorem step_v (w : World) (htz : M.TzAt w) (s : St) (hv : SV s) (x : Nat) (hx : x < 2 ^ s.md.N) :
    Calls Tryz.prog 183 #[.agg [.int .i64 (C.dep s.W : Nat), .int .i64 (s.W.length : Nat), .int .i64 s.need].toArray, .int .i64 (x : Nat)] w (Post (X := Unit) (fun _ => .tuple #[.int .i64 (Mo.stp s.md x : Nat), .int .i64 0]) (fun _ => True) (fun _ => []) w) := by
  have h := M.Step_ok w htz (C.dep s.W : Nat) (s.W.length : Nat) s.need (x : Nat)
  unfold M.zI at h
  rw [gI_s hv hx, if_pos rfl, md_eq, Int.toNat_natCast] at h
  exact h
theorem hol_0 {s : St} {c : Co} (hv : SV s) (h : Inv s c) : C.holI s.W c.hol = 0 := C.ho_to (by rw [hv.vw]; decide) h.ho
theorem gvs {h : HD} {xs : List Int} (ho : goI (h, xs)) : gval h xs.length = .slice (gp h) xs.length (gc h) := gval_eq (sz := 1) ho
/-- The columns that are open. -/
abbrev opL (s : St) (c : Co) : List Int := C.opN s.W (C.pad6 c.hol) s.W.length
theorem opn_l {s : St} {c : Co} (hv : SV s) (h : Inv s c) : C.opnI s.W c.hol = opL s c := C.opn_ok (by rw [hol_0 hv h]; decide)
theorem open_v (w : World) {s : St} {c : Co} (hv : SV s) (h : Inv s c) (p : Option Addr) (cap : Nat) (hr : LsAt w p s.W) (pl : Option Addr) (cl : Nat) (hx : IntsAt w pl c.hol) :
    Calls Tryz.prog 184 #[.agg #[.slice p s.W.length cap], .slice pl c.hol.length cl] w (Post (X := HD) (fun h => .tuple #[.slice (gp h) (opL s c).length (gc h), .int .i64 0]) (fun h => goI (h, opL s c)) (fun h => gbI (h, opL s c)) w) := by
  have h1 := C.Open_ok w p cap s.W hr pl cl c.hol hx
  rw [opn_l hv h, hol_0 hv h] at h1
  exact h1.mono fun _ _ ⟨y, e1, e2, e3⟩ => ⟨y, by rw [e1]; show Ending.returned (Value.tuple #[gval y (opL s c).length, _]) = _; rw [gvs e2], e2, e3⟩
theorem drop_v (w : World) {s : St} {c : Co} (hv : SV s) (h : Inv s c) (p : Option Addr) (cp : Nat) (hr : LsAt w p s.K) (q : Option Addr) (cq : Nat) (hg : IntsAt w q s.g) (pl : Option Addr) (cl : Nat) (hx : IntsAt w pl c.tur) (i : Nat) (hi : i < s.W.length) :
    Calls Tryz.prog 187 #[.agg #[.slice p s.K.length cp, .slice q s.g.length cq], .slice pl c.tur.length cl, .int .i64 i] w (Post (X := HD × Int) (fun y => .tuple #[.slice (gp y.1) (drT s.K s.g c.tur i).length (gc y.1), .int .i64 y.2, .int .i64 0]) (fun y => goI (y.1, drT s.K s.g c.tur i)) (fun y => gbI (y.1, drT s.K s.g c.tur i)) w) := by
  have hvh := Decidable.of_not_not (h.vh hv hi)
  have h1 := H.Drop_ok w p cp s.K hr q cq s.g hg hv.kl pl cl c.tur hx (by have := h.tl' hv; have := hv.n5; omega) (i : Int)
  exact h1.mono fun _ _ ⟨y, e1, ⟨e2, e3⟩, e4⟩ => by
    have ed := drT_eq e2
    refine ⟨(y.1, y.2.2), ?_, ?_, ?_⟩
    · rw [e1, hvh, ed]; show Ending.returned (Value.tuple #[gval y.1 y.2.1.length, _, _]) = _; rw [gvs e3]
    · rw [ed]; exact e3
    · rw [ed]; exact e4
theorem plus_v (w : World) (pl : Option Addr) (cl : Nat) (xs : List Int) (hx : IntsAt w pl xs) (hl : xs.length ≤ 1000000) (i : Nat) (hi : i < xs.length) (d : Int) (hd : -1000000 ≤ d ∧ d ≤ 1000000) (hb : -1000000 ≤ xs.getD i 0 ∧ xs.getD i 0 ≤ 1000000) (ys : List Int) (hy : xs.set i (xs.getD i 0 + d) = ys) :
    Calls Tryz.prog 188 #[.slice pl xs.length cl, .int .i64 i, .int .i64 d] w (Post (X := HD) (fun h => .slice (gp h) ys.length (gc h)) (fun h => goI (h, ys)) (fun h => gbI (h, ys)) w) := by
  subst hy
  exact (plus_ok w pl cl xs hx hl i hi d hd hb).mono fun _ _ ⟨y, e1, e2, e3⟩ => ⟨y, by rw [e1]; show Ending.returned (gval y xs.length) = Ending.returned (.slice (gp y) (xs.set i (xs.getD i 0 + d)).length (gc y)); rw [← gvs e2, List.length_set], e2, e3⟩
theorem TurAt.hol {w : World} {c : Co} {v : TV} (h : TurAt w c v) : IntsAt w v.ph c.hol := h.ah
theorem tur_g {w0 : World} {Z : Heap} {h : HD} {xs : List Int} (ho : goI (h, xs)) : ∀ w', New w0 w' (gbI (h, xs) ++ Z) → IntsAt w' (gp h) xs := fun w' hn => IntsAt.g hn (fun y hy => List.mem_append_left _ hy) ho
theorem i0 (n : Int) : ([n] : List Int).getD 0 0 = n := rfl
theorem i1 (n m : Int) : ([n, m] : List Int).getD 1 0 = m := rfl
theorem i2 (n m : Int) : ([n, m] : List Int).getD 0 0 = n := rfl
section
variable {s : St} {c : Co}
theorem day_e : actI s c ⟨0, []⟩ = 0 := by unfold actI; rfl
theorem day_c : chgC s c ⟨0, []⟩ = { c with wet := Mo.stp s.md c.wet &&& bare s c.hol, day := c.day + 1 } := by
  unfold chgC; rw [day_e, if_pos rfl]; unfold actC; rfl
theorem chg_no {o : Od} (h : actI s c o ≠ 0) : chgC s c o = c := by unfold chgC; rw [if_neg h]
theorem chg_yes {o : Od} (h : actI s c o = 0) : chgC s c o = actC s c o := by unfold chgC; rw [if_pos h]
theorem shut_e : actI s c ⟨4, []⟩ = if c.shut = true then 5 else 0 := rfl
theorem shut_c : actC s c ⟨4, []⟩ = { c with shut := true } := rfl
theorem load_e {a n : Int} : actI s c ⟨2, [a, n]⟩ = if (s.W.length : Int) ≤ a then 4 else if n = 0 then 1 else if c.tur.getD a.toNat 0 < n then 11 else 0 := rfl
theorem load_c {a n : Int} : actC s c ⟨2, [a, n]⟩ = { c with tur := c.tur.set a.toNat (c.tur.getD a.toNat 0 - n), load := c.load + n, money := c.money + n } := rfl
theorem wet_e {r k : Int} : actI s c ⟨3, [r, k]⟩ = if (C.dep s.W : Int) ≤ r ∨ (s.W.length : Int) ≤ k then 4 else if c.hol.getD k.toNat 0 ≤ r then 8 else if c.wet.testBit (s.sq r k) = true then 5 else 0 := rfl
theorem wet_c {r k : Int} : actC s c ⟨3, [r, k]⟩ = { c with wet := c.wet ||| 2 ^ s.sq r k } := rfl
theorem cut_e {a : Int} : actI s c ⟨1, [a]⟩ = if (s.W.length : Int) ≤ a then 4 else if c.shut = true then 8 else if C.opB s.W (C.pad6 c.hol) a.toNat = false ∨ (0 < c.hol.getD a.toNat 0 ∧ c.wet.testBit (s.sq (c.hol.getD a.toNat 0 - 1) a) = true) then 6 else 0 := rfl
theorem cut_c {a : Int} : actC s c ⟨1, [a]⟩ = { c with
      tur := drT s.K s.g c.tur a
      grd := c.grd + (sL c.tur + 1 - sL (drT s.K s.g c.tur a))
      hol := c.hol.set a.toNat (c.hol.getD a.toNat 0 + 1)
      money := c.money + (s.W.getD a.toNat []).getD (c.hol.getD a.toNat 0).toNat 0
      cut := c.cut + 1 } := rfl
end
structure Bnd (c : Co) : Prop where
  bm : -1000000 ≤ c.money ∧ c.money ≤ 1000000
  bl : 0 ≤ c.load ∧ c.load ≤ 1000000
  bg : -1000000 ≤ c.grd ∧ c.grd ≤ 1000000
  bd : 0 ≤ c.day ∧ c.day ≤ 1000000
  bc : 0 ≤ c.cut ∧ c.cut ≤ 1000000
  bh : 0 ≤ sL c.hol ∧ sL c.hol ≤ 24
  bt : 0 ≤ sL c.tur ∧ sL c.tur ≤ 55
theorem Inv.bnd {s : St} {c : Co} (hv : SV s) (h : Inv s c) : Bnd c := by
  have h1 := sL_5 h.tl hv.hb.n.2 (h.tb hv)
  have hNB := h.ho.toNB
  have h4 := hv.d4
  have h5 := hv.n5
  have h2 := sL_bd (xs := c.hol) (b := 4) (by decide) (fun k => by have := hNB.at_ k; omega) c.hol.length
  have h3 := C.wor_bd hNB c.hol.length
  have h6 : c.hol.length = s.W.length := hNB.len
  have e1 := h.ct
  have e2 := h.bal
  have e3 := h.mon
  have e4 := h.l0
  have e5 := h.gr
  have e6 := h.ol
  have e7 := h.dy
  have e8 : sL c.hol = sm c.hol.length fun j => c.hol.getD j 0 := rfl
  unfold C.worH at e3
  refine ⟨?_, ?_, ?_, ?_, ?_, ?_, h1⟩ <;> omega

set_option maxRecDepth 100000 in
theorem day_ok (w0 w : World) (s : St) (hv : SV s) (u : SU) (c : Co) (v : TV) (hi : Inv s c) (b : Nat) (Z : Heap) (hN : New w0 w ((b, .cells (tyL c v).toArray 101 (0, 0)) :: Z)) (Zf : Heap) (hZf : List.Sublist Zf Z) (hS : ∀ w9, New w0 w9 Zf → SiteAt w9 s u) (hT : ∀ w9, New w0 w9 Zf → TurAt w9 c v) (htz : M.TzAt w0) :
    Calls Tryz.prog 150 #[.agg (siL s u).toArray, .pointer (some ⟨b, 0, none⟩)] w (Post (X := TV × Heap) (fun _ => .int .i64 (actI s c ⟨0, []⟩)) (fun y => ∀ w9, New w0 w9 (y.2 ++ Zf) → TurAt w9 (chgC s c ⟨0, []⟩) y.1) (fun y => (b, Obj.cells (tyL (chgC s c ⟨0, []⟩) y.1).toArray 101 (0, 0)) :: (y.2 ++ Z)) w0) := by
  have hNZ := hN.sub (hZf.trans (List.sublist_cons_self _ _))
  have hwl := hi.wl
  have h63 := wet63 hv hwl
  have hbn := hi.bnd hv
  have h5 := hv.n5
  have h4 := hv.d4
  have hhl := hi.hl
  have htl := hi.tl' hv
  have hbm := hbn.bm
  have hbl := hbn.bl
  have hbg := hbn.bg
  have hbd := hbn.bd
  have hbc := hbn.bc
  have hbt := hbn.bt
  have hbh := hbn.bh
  refine callsM hN Tryz.func150 rfl (n := 37) rfl (by simp) ?_
  refine TC.seq ?_
  refine TC.region ?_
  refine TL.box rfl rfl (by decide) (fun b0 hb0 => ?_)
  refine TL.pure (PV.assign rfl) rfl (by decide) ?_
  refine TL.nil ?_
  refine TQ.thenC ?_
  refine TC.seq ?_
  refine TC.mixV [true, true, true, true, true, true, true, false, true, true, true, true, true] [(b0, Obj.cells (siL s u).toArray 90 (0, 0)), (b, Obj.cells (tyL c v).toArray 101 (0, 0))] 13 Tb.mixed rfl (by kernel_rfl) (by kernel_rfl) (by kernel_rfl) (by kernel_rfl) (by repeat (first | exact .slnil | exact List.nil_sublist _ | exact .refl _ | refine .cons_cons _ ?_ | refine .cons _ ?_ | refine .trans ?_ (List.sublist_append_right _ _))) ?_
  refine TV.virt 0 rfl rfl (by decide) rfl (by kernel_rfl) (SOK.pure (PV.fieldAddr rfl Tb.fo_90_2) rfl) ?_
  refine TV.virt 1 rfl rfl (by decide) rfl (by kernel_rfl) (SOK.pure (PV.loadMid (cs := siL s u) (vs := [.int .i64 (C.dep s.W : Nat), .int .i64 (s.W.length : Nat), .int .i64 s.need]) rfl Tb.agg_52 (by repeat (first | exact List.Mem.head _ | refine List.Mem.tail _ ?_ | refine List.mem_append_right _ ?_)) rfl rfl) rfl) ?_
  refine TV.virt 2 rfl rfl (by decide) rfl (by kernel_rfl) (SOK.pure (PV.move rfl) rfl) ?_
  refine TV.virt 3 rfl rfl (by decide) rfl (by kernel_rfl) (SOK.pure (PV.nilCheck rfl) rfl) ?_
  refine TV.virt 4 rfl rfl (by decide) rfl (by kernel_rfl) (SOK.pure (PV.fieldAddr rfl Tb.fo_101_0) rfl) ?_
  refine TV.virt 5 rfl rfl (by decide) rfl (by kernel_rfl) (SOK.pure (PV.fieldAddr rfl Tb.fo_99_1) rfl) ?_
  refine TV.virt 6 rfl rfl (by decide) rfl (by kernel_rfl) (SOK.pure (PV.load rfl Tb.one_3 (by repeat (first | exact List.Mem.head _ | refine List.Mem.tail _ ?_ | refine List.mem_append_right _ ?_)) rfl) rfl) ?_
  refine TV.step [7] (by kernel_rfl) (by decide) rfl ⟨⟨_, rfl, ?_⟩, trivial⟩
  refine TL.call rfl Tb.gofn_183 (fun a w hs => step_v w (htz.new hs.new) s hv c.wet hwl) rfl (by decide) (fun _ _ => ?_)
  refine TL.nil ?_
  refine TV.next (.inl (by repeat (first | exact .slnil | exact List.nil_sublist _ | exact .refl _ | refine .cons_cons _ ?_ | refine .cons _ ?_ | refine .trans ?_ (List.sublist_append_right _ _)))) ?_
  refine TV.virt 8 rfl rfl (by decide) rfl (by kernel_rfl) (SOK.pure (PV.move rfl) rfl) ?_
  refine TV.virt 9 rfl rfl (by decide) rfl (by kernel_rfl) (SOK.pure (PV.extract rfl rfl) rfl) ?_
  refine TV.virt 10 rfl rfl (by decide) rfl (by kernel_rfl) (SOK.pure (PV.extract rfl rfl) rfl) ?_
  refine TV.virt 11 rfl rfl (by decide) rfl (by kernel_rfl) (SOK.pure (PV.assign rfl) rfl) ?_
  refine TV.virt 12 rfl rfl (by decide) rfl (by kernel_rfl) (SOK.pure (PV.assign rfl) rfl) ?_
  refine TV.done (by kernel_rfl) ?_
  refine TQ.thenC ?_
  refine TC.seq ?_
  refine TC.region ?_
  refine TL.pure (PV.move rfl) rfl (by decide) ?_
  refine TL.pure (PV.move rfl) rfl (by decide) ?_
  refine TL.pure (PV.move rfl) rfl (by decide) ?_
  refine TL.pure (PV.nilCheck rfl) rfl (by decide) ?_
  refine TL.pure (PV.loadBox (cs := tyL c v) rfl Tb.agg_101 (by repeat (first | exact List.Mem.head _ | refine List.Mem.tail _ ?_ | refine List.mem_append_right _ ?_)) rfl) rfl (by decide) ?_
  refine TL.call rfl Tb.gofn_110 (fun a w hs => bare_ok w s hv c v hi.ho.toNB (hT w (hs.new.sub (hZf.trans (by repeat (first | exact .slnil | exact List.nil_sublist _ | exact .refl _ | refine .cons_cons _ ?_ | refine .cons _ ?_ | refine .trans ?_ (List.sublist_append_right _ _)))))).ah) rfl (by decide) (fun _ _ => ?_)
  refine TL.pure (M.PV.andK rfl rfl (M.i64_and_nat (wet63 hv (Mo.stp_lt hwl)) (wet63 hv (bare_lt s c.hol)))) rfl (by decide) ?_
  refine TL.pure (PV.nilCheck rfl) rfl (by decide) ?_
  refine TL.pure (PV.fieldAddr rfl Tb.fo_101_0) rfl (by decide) ?_
  refine TL.pure (PV.fieldAddr rfl Tb.fo_99_1) rfl (by decide) ?_
  refine TL.store rfl rfl Tb.cells_3 rfl (by repeat (first | exact Upd.head _ | apply Upd.tail | apply Upd.appR)) (by first | decide | (simp; done) | (simp; omega) | omega) rfl rfl ?_
  refine TL.nil ?_
  refine TQ.thenC ?_
  refine TC.seq ?_
  refine TC.region ?_
  refine TL.pure (PV.move rfl) rfl (by decide) ?_
  refine TL.pure (PV.nilCheck rfl) rfl (by decide) ?_
  refine TL.pure (PV.fieldAddr rfl Tb.fo_101_0) rfl (by decide) ?_
  refine TL.pure (PV.fieldAddr rfl Tb.fo_99_0) rfl (by decide) ?_
  refine TL.pure (PV.load rfl Tb.one_3 (by repeat (first | exact List.Mem.head _ | refine List.Mem.tail _ ?_ | refine List.mem_append_right _ ?_)) rfl) rfl (by decide) ?_
  refine TL.pure (PV.add rfl rfl (by omega)) rfl (by decide) ?_
  refine TL.pure (PV.nilCheck rfl) rfl (by decide) ?_
  refine TL.pure (PV.fieldAddr rfl Tb.fo_101_0) rfl (by decide) ?_
  refine TL.pure (PV.fieldAddr rfl Tb.fo_99_0) rfl (by decide) ?_
  refine TL.store rfl rfl Tb.cells_3 rfl (by repeat (first | exact Upd.head _ | apply Upd.tail | apply Upd.appR)) (by first | decide | (simp; done) | (simp; omega) | omega) rfl rfl ?_
  refine TL.nil ?_
  refine TQ.thenC ?_
  refine TC.seq ?_
  refine TC.region ?_
  refine TL.pure (PV.assign rfl) rfl (by decide) ?_
  refine TL.nil ?_
  refine TQ.thenC ?_
  refine TC.ret ?_
  refine TQ.retE1 rfl rfl ?_
  exact ⟨(v, []), rfl, by rw [day_c]; exact fun w9 hn => ⟨(hT w9 hn).ah, (hT w9 hn).at_⟩, by rw [day_c]; exact (by repeat (first | exact .slnil | exact List.nil_sublist _ | exact .refl _ | refine .cons_cons _ ?_ | refine .cons _ ?_ | refine .trans ?_ (List.sublist_append_right _ _)))⟩

set_option maxRecDepth 100000 in
theorem shut_ok (w0 w : World) (s : St) (hv : SV s) (u : SU) (c : Co) (v : TV) (hi : Inv s c) (b : Nat) (Z : Heap) (hN : New w0 w ((b, .cells (tyL c v).toArray 101 (0, 0)) :: Z)) (Zf : Heap) (hZf : List.Sublist Zf Z) (hS : ∀ w9, New w0 w9 Zf → SiteAt w9 s u) (hT : ∀ w9, New w0 w9 Zf → TurAt w9 c v) :
    Calls Tryz.prog 154 #[.agg (siL s u).toArray, .pointer (some ⟨b, 0, none⟩)] w (Post (X := TV × Heap) (fun _ => .int .i64 (actI s c ⟨4, []⟩)) (fun y => ∀ w9, New w0 w9 (y.2 ++ Zf) → TurAt w9 (chgC s c ⟨4, []⟩) y.1) (fun y => (b, Obj.cells (tyL (chgC s c ⟨4, []⟩) y.1).toArray 101 (0, 0)) :: (y.2 ++ Z)) w0) := by
  have hNZ := hN.sub (hZf.trans (List.sublist_cons_self _ _))
  have hwl := hi.wl
  have h63 := wet63 hv hwl
  have hbn := hi.bnd hv
  have h5 := hv.n5
  have h4 := hv.d4
  have hhl := hi.hl
  have htl := hi.tl' hv
  have hbm := hbn.bm
  have hbl := hbn.bl
  have hbg := hbn.bg
  have hbd := hbn.bd
  have hbc := hbn.bc
  have hbt := hbn.bt
  have hbh := hbn.bh
  refine callsM hN Tryz.func154 rfl (n := 14) rfl (by simp) ?_
  refine TC.seq ?_
  refine TC.region ?_
  refine TL.box rfl rfl (by decide) (fun b0 hb0 => ?_)
  refine TL.pure (PV.assign rfl) rfl (by decide) ?_
  refine TL.nil ?_
  refine TQ.thenC ?_
  refine TC.seq ?_
  refine TC.seq ?_
  refine TC.region ?_
  refine TL.pure (PV.move rfl) rfl (by decide) ?_
  refine TL.pure (PV.nilCheck rfl) rfl (by decide) ?_
  refine TL.pure (PV.fieldAddr rfl Tb.fo_101_0) rfl (by decide) ?_
  refine TL.pure (PV.fieldAddr rfl Tb.fo_99_6) rfl (by decide) ?_
  refine TL.pure (PV.load rfl Tb.one_4 (by repeat (first | exact List.Mem.head _ | refine List.Mem.tail _ ?_ | refine List.mem_append_right _ ?_)) rfl) rfl (by decide) ?_
  refine TL.nil ?_
  refine TQ.thenC ?_
  first | refine TC.condD rfl (fun hsh => ?_) (fun hsh => ?_) | refine TC.cond rfl (fun hsh => ?_) (fun hsh => ?_)
  · refine TC.seq ?_
    refine TC.region ?_
    refine TL.pure (PV.assign rfl) rfl (by decide) ?_
    refine TL.nil ?_
    refine TQ.thenC ?_
    refine TC.ret ?_
    refine TQ.thenR ?_
    refine TQ.retE1 rfl rfl ?_
    have hE : actI s c ⟨4, []⟩ = 5 := by rw [shut_e, if_pos hsh]
    have hC := chg_no (s := s) (c := c) (o := ⟨4, []⟩) (by rw [hE]; decide)
    exact ⟨(v, []), by rw [hE], by rw [hC]; exact hT, by rw [hC]; exact (by repeat (first | exact .slnil | exact List.nil_sublist _ | exact .refl _ | refine .cons_cons _ ?_ | refine .cons _ ?_ | refine .trans ?_ (List.sublist_append_right _ _)))⟩
  · refine TC.skip ?_
    refine TQ.thenC ?_
    refine TC.seq ?_
    refine TC.region ?_
    refine TL.pure (PV.move rfl) rfl (by decide) ?_
    refine TL.pure (PV.nilCheck rfl) rfl (by decide) ?_
    refine TL.pure (PV.fieldAddr rfl Tb.fo_101_0) rfl (by decide) ?_
    refine TL.pure (PV.fieldAddr rfl Tb.fo_99_6) rfl (by decide) ?_
    refine TL.store rfl rfl Tb.cells_4 rfl (by repeat (first | exact Upd.head _ | apply Upd.tail | apply Upd.appR)) (by first | decide | (simp; done) | (simp; omega) | omega) rfl rfl ?_
    refine TL.nil ?_
    refine TQ.thenC ?_
    refine TC.seq ?_
    refine TC.region ?_
    refine TL.pure (PV.assign rfl) rfl (by decide) ?_
    refine TL.nil ?_
    refine TQ.thenC ?_
    refine TC.ret ?_
    refine TQ.retE1 rfl rfl ?_
    have hE : actI s c ⟨4, []⟩ = 0 := by rw [shut_e, if_neg (by rw [hsh]; decide)]
    have hC := chg_yes (s := s) (c := c) (o := ⟨4, []⟩) hE
    exact ⟨(v, []), by rw [hE], by rw [hC, shut_c]; exact fun w9 hn => ⟨(hT w9 hn).ah, (hT w9 hn).at_⟩, by rw [hC, shut_c]; exact (by repeat (first | exact .slnil | exact List.nil_sublist _ | exact .refl _ | refine .cons_cons _ ?_ | refine .cons _ ?_ | refine .trans ?_ (List.sublist_append_right _ _)))⟩

set_option maxRecDepth 100000 in
theorem load_ok (w0 w : World) (s : St) (hv : SV s) (u : SU) (c : Co) (v : TV) (hi : Inv s c) (b : Nat) (Z : Heap) (hN : New w0 w ((b, .cells (tyL c v).toArray 101 (0, 0)) :: Z)) (Zf : Heap) (hZf : List.Sublist Zf Z) (hS : ∀ w9, New w0 w9 Zf → SiteAt w9 s u) (hT : ∀ w9, New w0 w9 Zf → TurAt w9 c v) (a n : Int) (ha : 0 ≤ a ∧ a ≤ 999) (hn : 0 ≤ n ∧ n ≤ 999) :
    Calls Tryz.prog 152 #[.agg (siL s u).toArray, .pointer (some ⟨b, 0, none⟩), .int .i64 a, .int .i64 n] w (Post (X := TV × Heap) (fun _ => .int .i64 (actI s c ⟨2, [a, n]⟩)) (fun y => ∀ w9, New w0 w9 (y.2 ++ Zf) → TurAt w9 (chgC s c ⟨2, [a, n]⟩) y.1) (fun y => (b, Obj.cells (tyL (chgC s c ⟨2, [a, n]⟩) y.1).toArray 101 (0, 0)) :: (y.2 ++ Z)) w0) := by
  have hNZ := hN.sub (hZf.trans (List.sublist_cons_self _ _))
  have hwl := hi.wl
  have h63 := wet63 hv hwl
  have hbn := hi.bnd hv
  have h5 := hv.n5
  have h4 := hv.d4
  have hhl := hi.hl
  have htl := hi.tl' hv
  have hbm := hbn.bm
  have hbl := hbn.bl
  have hbg := hbn.bg
  have hbd := hbn.bd
  have hbc := hbn.bc
  have hbt := hbn.bt
  have hbh := hbn.bh
  refine callsM hN Tryz.func152 rfl (n := 56) rfl (by simp) ?_
  refine TC.seq ?_
  refine TC.region ?_
  refine TL.box rfl rfl (by decide) (fun b0 hb0 => ?_)
  refine TL.pure (PV.assign rfl) rfl (by decide) ?_
  refine TL.nil ?_
  refine TQ.thenC ?_
  refine TC.seq ?_
  refine TC.seq ?_
  refine TC.region ?_
  refine TL.pure (PV.move rfl) rfl (by decide) ?_
  refine TL.pure (PV.fieldAddr rfl Tb.fo_90_2) rfl (by decide) ?_
  refine TL.pure (PV.fieldAddr rfl Tb.fo_52_1) rfl (by decide) ?_
  refine TL.pure (PV.load rfl Tb.one_3 (by repeat (first | exact List.Mem.head _ | refine List.Mem.tail _ ?_ | refine List.mem_append_right _ ?_)) rfl) rfl (by decide) ?_
  refine TL.pure (PV.geq rfl rfl) rfl (by decide) ?_
  refine TL.nil ?_
  refine TQ.thenC ?_
  first | refine TC.condD rfl (fun g1 => ?_) (fun g1 => ?_) | refine TC.cond rfl (fun g1 => ?_) (fun g1 => ?_)
  · refine TC.seq ?_
    refine TC.region ?_
    refine TL.pure (PV.assign rfl) rfl (by decide) ?_
    refine TL.nil ?_
    refine TQ.thenC ?_
    refine TC.ret ?_
    refine TQ.thenR ?_
    refine TQ.retE1 rfl rfl ?_
    have hE : actI s c ⟨2, [a, n]⟩ = 4 := by rw [load_e, if_pos g1]
    have hC := chg_no (s := s) (c := c) (o := ⟨2, [a, n]⟩) (by rw [hE]; decide)
    exact ⟨(v, []), by rw [hE], by rw [hC]; exact hT, by rw [hC]; exact (by repeat (first | exact .slnil | exact List.nil_sublist _ | exact .refl _ | refine .cons_cons _ ?_ | refine .cons _ ?_ | refine .trans ?_ (List.sublist_append_right _ _)))⟩
  · refine TC.skip ?_
    refine TQ.thenC ?_
    refine TC.seq ?_
    refine TC.seq ?_
    refine TC.region ?_
    refine TL.pure (PV.move rfl) rfl (by decide) ?_
    refine TL.pure (PV.eql rfl rfl) rfl (by decide) ?_
    refine TL.nil ?_
    refine TQ.thenC ?_
    first | refine TC.condD rfl (fun g2 => ?_) (fun g2 => ?_) | refine TC.cond rfl (fun g2 => ?_) (fun g2 => ?_)
    · refine TC.seq ?_
      refine TC.region ?_
      refine TL.pure (PV.assign rfl) rfl (by decide) ?_
      refine TL.nil ?_
      refine TQ.thenC ?_
      refine TC.ret ?_
      refine TQ.thenR ?_
      refine TQ.retE1 rfl rfl ?_
      have hE : actI s c ⟨2, [a, n]⟩ = 1 := by rw [load_e, if_neg g1, if_pos g2]
      have hC := chg_no (s := s) (c := c) (o := ⟨2, [a, n]⟩) (by rw [hE]; decide)
      exact ⟨(v, []), by rw [hE], by rw [hC]; exact hT, by rw [hC]; exact (by repeat (first | exact .slnil | exact List.nil_sublist _ | exact .refl _ | refine .cons_cons _ ?_ | refine .cons _ ?_ | refine .trans ?_ (List.sublist_append_right _ _)))⟩
    · refine TC.skip ?_
      refine TQ.thenC ?_
      refine TC.seq ?_
      refine TC.seq ?_
      obtain ⟨j, rfl⟩ := Int.eq_ofNat_of_zero_le ha.1
      obtain ⟨q, qp, qv⟩ := ints_now (fun w9 h9 => (hT w9 h9).at_) hNZ (k := j) (by omega)
      have htb := hi.tb hv j
      refine TC.region ?_
      refine TL.pure (PV.move rfl) rfl (by decide) ?_
      refine TL.pure (PV.nilCheck rfl) rfl (by decide) ?_
      refine TL.pure (PV.fieldAddr rfl Tb.fo_101_2) rfl (by decide) ?_
      refine TL.pure (PV.load rfl Tb.one_25 (by repeat (first | exact List.Mem.head _ | refine List.Mem.tail _ ?_ | refine List.mem_append_right _ ?_)) rfl) rfl (by decide) ?_
      refine TL.pure (PV.move rfl) rfl (by decide) ?_
      refine TL.pure (PV.indexA rfl qp rfl Tb.elm_25 rfl (by omega)) rfl (by decide) ?_
      refine TL.pure (PV.loadN rfl Tb.one_3 (hZf.trans (by repeat (first | exact .slnil | exact List.nil_sublist _ | exact .refl _ | refine .cons_cons _ ?_ | refine .cons _ ?_ | refine .trans ?_ (List.sublist_append_right _ _)))) qv) rfl (by decide) ?_
      refine TL.pure (PV.move rfl) rfl (by decide) ?_
      refine TL.pure (PV.lss rfl rfl) rfl (by decide) ?_
      refine TL.nil ?_
      refine TQ.thenC ?_
      first | refine TC.condD rfl (fun g3 => ?_) (fun g3 => ?_) | refine TC.cond rfl (fun g3 => ?_) (fun g3 => ?_)
      · refine TC.seq ?_
        refine TC.region ?_
        refine TL.pure (PV.assign rfl) rfl (by decide) ?_
        refine TL.nil ?_
        refine TQ.thenC ?_
        refine TC.ret ?_
        refine TQ.thenR ?_
        refine TQ.retE1 rfl rfl ?_
        have hE : actI s c ⟨2, [(j : Int), n]⟩ = 11 := by rw [load_e, if_neg g1, if_neg g2, Int.toNat_natCast, if_pos g3]
        have hC := chg_no (s := s) (c := c) (o := ⟨2, [(j : Int), n]⟩) (by rw [hE]; decide)
        exact ⟨(v, []), by rw [hE], by rw [hC]; exact hT, by rw [hC]; exact (by repeat (first | exact .slnil | exact List.nil_sublist _ | exact .refl _ | refine .cons_cons _ ?_ | refine .cons _ ?_ | refine .trans ?_ (List.sublist_append_right _ _)))⟩
      · refine TC.skip ?_
        refine TQ.thenC ?_
        refine TC.seq ?_
        refine TC.region ?_
        refine TL.pure (PV.move rfl) rfl (by decide) ?_
        refine TL.pure (PV.move rfl) rfl (by decide) ?_
        refine TL.pure (PV.nilCheck rfl) rfl (by decide) ?_
        refine TL.pure (PV.fieldAddr rfl Tb.fo_101_2) rfl (by decide) ?_
        refine TL.pure (PV.load rfl Tb.one_25 (by repeat (first | exact List.Mem.head _ | refine List.Mem.tail _ ?_ | refine List.mem_append_right _ ?_)) rfl) rfl (by decide) ?_
        refine TL.pure (PV.move rfl) rfl (by decide) ?_
        refine TL.pure (PV.move rfl) rfl (by decide) ?_
        refine TL.pure (PV.neg rfl (by omega)) rfl (by decide) ?_
        refine TL.call rfl Tb.gofn_188 (fun a w hs => plus_v w _ _ c.tur (hT w (hs.new.sub (hZf.trans (by repeat (first | exact .slnil | exact List.nil_sublist _ | exact .refl _ | refine .cons_cons _ ?_ | refine .cons _ ?_ | refine .trans ?_ (List.sublist_append_right _ _)))))).at_ (by omega) j (by omega) (-n) (by omega) (by omega) _ rfl) rfl (by decide) (fun h1 hh1 => ?_)
        refine TL.pure (PV.nilCheck rfl) rfl (by decide) ?_
        refine TL.pure (PV.fieldAddr rfl Tb.fo_101_2) rfl (by decide) ?_
        refine TL.store rfl rfl Tb.cells_25 rfl (by repeat (first | exact Upd.head _ | apply Upd.tail | apply Upd.appR)) (by first | decide | (simp; done) | (simp; omega) | omega) rfl rfl ?_
        refine TL.nil ?_
        refine TQ.thenC ?_
        refine TC.seq ?_
        refine TC.sub (G' := gbI (h1, c.tur.set j (c.tur.getD j 0 + -n)) ++ ((b, Obj.cells (tyL { c with tur := c.tur.set j (c.tur.getD j 0 + -n) } { v with pt := gp h1, ct := gc h1 }).toArray 101 (0, 0)) :: Z)) (by refine List.Sublist.append (List.Sublist.refl _) ?_; exact List.Sublist.cons _ (List.Sublist.refl _)) ?_
        refine TC.perm List.perm_middle.symm ?_
        refine TC.region ?_
        refine TL.pure (PV.move rfl) rfl (by decide) ?_
        refine TL.pure (PV.nilCheck rfl) rfl (by decide) ?_
        refine TL.pure (PV.fieldAddr rfl Tb.fo_101_0) rfl (by decide) ?_
        refine TL.pure (PV.fieldAddr rfl Tb.fo_99_4) rfl (by decide) ?_
        refine TL.pure (PV.load rfl Tb.one_3 (by repeat (first | exact List.Mem.head _ | refine List.Mem.tail _ ?_ | refine List.mem_append_right _ ?_)) rfl) rfl (by decide) ?_
        refine TL.pure (PV.move rfl) rfl (by decide) ?_
        refine TL.pure (PV.add (i := c.load) rfl rfl (by omega)) rfl (by decide) ?_
        refine TL.pure (PV.nilCheck rfl) rfl (by decide) ?_
        refine TL.pure (PV.fieldAddr rfl Tb.fo_101_0) rfl (by decide) ?_
        refine TL.pure (PV.fieldAddr rfl Tb.fo_99_4) rfl (by decide) ?_
        refine TL.store rfl rfl Tb.cells_3 rfl (by repeat (first | exact Upd.head _ | apply Upd.tail | apply Upd.appR)) (by first | decide | (simp; done) | (simp; omega) | omega) rfl rfl ?_
        refine TL.nil ?_
        refine TQ.thenC ?_
        refine TC.seq ?_
        refine TC.region ?_
        refine TL.pure (PV.move rfl) rfl (by decide) ?_
        refine TL.pure (PV.nilCheck rfl) rfl (by decide) ?_
        refine TL.pure (PV.fieldAddr rfl Tb.fo_101_0) rfl (by decide) ?_
        refine TL.pure (PV.fieldAddr rfl Tb.fo_99_2) rfl (by decide) ?_
        refine TL.pure (PV.load rfl Tb.one_3 (by repeat (first | exact List.Mem.head _ | refine List.Mem.tail _ ?_ | refine List.mem_append_right _ ?_)) rfl) rfl (by decide) ?_
        refine TL.pure (PV.move rfl) rfl (by decide) ?_
        refine TL.pure (PV.add (i := c.money) rfl rfl (by omega)) rfl (by decide) ?_
        refine TL.pure (PV.nilCheck rfl) rfl (by decide) ?_
        refine TL.pure (PV.fieldAddr rfl Tb.fo_101_0) rfl (by decide) ?_
        refine TL.pure (PV.fieldAddr rfl Tb.fo_99_2) rfl (by decide) ?_
        refine TL.store rfl rfl Tb.cells_3 rfl (by repeat (first | exact Upd.head _ | apply Upd.tail | apply Upd.appR)) (by first | decide | (simp; done) | (simp; omega) | omega) rfl rfl ?_
        refine TL.nil ?_
        refine TQ.thenC ?_
        refine TC.seq ?_
        refine TC.region ?_
        refine TL.pure (PV.assign rfl) rfl (by decide) ?_
        refine TL.nil ?_
        refine TQ.thenC ?_
        refine TC.ret ?_
        refine TQ.retE1 rfl rfl ?_
        have hE : actI s c ⟨2, [(j : Int), n]⟩ = 0 := by rw [load_e, if_neg g1, if_neg g2, Int.toNat_natCast, if_neg g3]
        have hC := chg_yes (s := s) (c := c) (o := ⟨2, [(j : Int), n]⟩) hE
        rw [load_c, Int.toNat_natCast] at hC
        exact ⟨({ v with pt := gp h1, ct := gc h1 }, gbI (h1, c.tur.set j (c.tur.getD j 0 + -n))), by rw [hE], by rw [hC]; exact fun w9 hn9 => ⟨(hT w9 (hn9.sub (List.sublist_append_right _ _))).ah, tur_g hh1 w9 hn9⟩, by rw [hC]; exact List.Sublist.refl _⟩

end Go.Proofs.YtbnjmkidbfmomaaGreatDoor
