/- Xu Xv Xw -/
import Derived.Test.YtbnjmkidbfmomaaGreatDoorV06
import Derived.Test.YtbnjmkidbfmomaaGreatDoorV26
set_option linter.unusedVariables false
set_option linter.unusedSimpArgs false
set_option maxRecDepth 100000
namespace Go.Proofs.YtbnjmkidbfmomaaGreatDoor
open Go.Sx Go.RowKit Go.Bt Go.Lib Go.Sand
structure RV where
  bh : Nat
  ht : HD
abbrev rcL (s : St) (u : SU) (c : Co) (v : RV) (o : Value) : List Value := [.slice u.pw s.W.length u.cw, .slice u.pk s.K.length u.ck, .slice u.pg s.g.length u.cg, .int .i64 (C.dep s.W : Nat), .int .i64 (s.W.length : Nat), .int .i64 s.need,
  .int .i64 c.day, .int .i64 (c.wet : Nat), .int .i64 c.money, .int .i64 c.cut, .int .i64 c.load, .int .i64 c.grd, .slice (some ⟨v.bh, 0, none⟩) c.hol.length c.hol.length, .slice (gp v.ht) c.tur.length (gc v.ht), .bool c.shut, o]
abbrev rcB (b : Nat) (s : St) (u : SU) (c : Co) (v : RV) (ho : HD) : Nat × Obj := (b, .cells (rcL s u c v (gval ho c.ords.length)).toArray 54 (0, 0))
abbrev rcH (c : Co) (v : RV) : Nat × Obj := (v.bh, .cells (intsA c.hol) 3 (0, 0))
abbrev suR (yw : HD × List RW) (q : Option Addr) (cq : Nat) (r : Option Addr) (cr : Nat) : SU := ⟨gp yw.1, gc yw.1, yw.2.map fun r => (gp r.h, gc r.h), q, cq, r, cr⟩
theorem site_cp {s : St} {yw : HD × List RW} {q r : Option Addr} {cq cr : Nat} (hw : goR rwR yw.1 yw.2 ∧ rwOk yw.2 ∧ yw.2.map RW.l = s.W) {w1 w9 : World} {G : Heap} (hn : New w1 w9 G) (mw : ∀ y ∈ gbR rwR 25 yw.1 yw.2, y ∈ G) (mw2 : ∀ y ∈ rwB yw.2, y ∈ G) (hk : LsAt w9 q s.K) (hg : IntsAt w9 r s.g) : SiteAt w9 s (suR yw q cq r cr) := by
  refine ⟨fun j hj => ?_, hk, hg⟩
  have hl : yw.2.length = s.W.length := by rw [← hw.2.2, List.length_map]
  have hj2 : j < yw.2.length := by omega
  obtain ⟨a, hq, hc⟩ := RecsAt.s (R := rwR) hn mw hw.1 j hj2
  have hmem := rw_at hj2
  have h1 := hw.2.1 _ hmem
  have c0 := hc 0 _ rfl
  rw [gval_eq h1, addr_add_add] at c0
  have e : s.W.getD j [] = (yw.2.getD j default).l := by rw [← hw.2.2]; simp [List.getD, hj2]
  have e2 : (yw.2.map fun r => (gp r.h, gc r.h)).getD j (none, 0) = (gp (yw.2.getD j default).h, gc (yw.2.getD j default).h) := by simp [List.getD, hj2]
  refine ⟨a, hq, ?_⟩
  show w9.cell? _ = some (.slice ((yw.2.map fun r => (gp r.h, gc r.h)).getD j (none, 0)).1 _ ((yw.2.map fun r => (gp r.h, gc r.h)).getD j (none, 0)).2) ∧ IntsAt w9 ((yw.2.map fun r => (gp r.h, gc r.h)).getD j (none, 0)).1 _ ∧ _ ≤ ((yw.2.map fun r => (gp r.h, gc r.h)).getD j (none, 0)).2
  rw [e, e2]
  exact ⟨c0, IntsAt.g (x := ((yw.2.getD j default).h, (yw.2.getD j default).l)) hn (fun y hy => mw2 y (rwB_mem hmem y hy)) h1, goI_cap h1⟩
theorem fill_54 (a b c d e f : Value) (p q : Option Addr) (k l m n : Nat) : Instr.fill ([(0, 1), (1, 2), (3, 3), (6, 1), (7, 1), (8, 1), (9, 1), (10, 1), (11, 1), (12, 1), (13, 1), (14, 1), (15, 1)][·]?) #[.slice none 0 0, .slice none 0 0, .slice none 0 0, .int .i64 0, .int .i64 0, .int .i64 0, .int .i64 0, .int .i64 0, .int .i64 0, .int .i64 0, .int .i64 0, .int .i64 0, .slice none 0 0, .slice none 0 0, .bool false, .slice none 0 0] [(0, .agg #[a]), (1, .agg #[b, c]), (2, .agg #[d, e, f]), (9, .slice p k l), (10, .slice q m n)] = some #[a, b, c, d, e, f, .int .i64 0, .int .i64 0, .int .i64 0, .int .i64 0, .int .i64 0, .int .i64 0, .slice p k l, .slice q m n, .bool false, .slice none 0 0] := by kernel_rfl
theorem rcL_0 (s : St) (u : SU) (bH bT : Nat) : rcL s u (co0 s) ⟨bH, some (bT, s.W.length, [])⟩ (.slice none 0 0) = [.slice u.pw s.W.length u.cw, .slice u.pk s.K.length u.ck, .slice u.pg s.g.length u.cg, .int .i64 (C.dep s.W : Nat), .int .i64 (s.W.length : Nat), .int .i64 s.need,
    .int .i64 0, .int .i64 0, .int .i64 0, .int .i64 0, .int .i64 0, .int .i64 0, .slice (some ⟨bH, 0, none⟩) s.W.length s.W.length, .slice (some ⟨bT, 0, none⟩) s.W.length s.W.length, .bool false, .slice none 0 0] := by
  show [_, _, _, _, _, _, _, _, _, _, _, _, Value.slice _ (List.replicate s.W.length (0 : Int)).length (List.replicate s.W.length (0 : Int)).length, .slice _ (List.replicate s.W.length (0 : Int)).length _, _, _] = _
  rw [List.length_replicate]; rfl
theorem gbI_zero (bT n : Nat) : gbI (some (bT, n, []), List.replicate n 0) = [(bT, Obj.cells (intsA (List.replicate n 0)) 3 (0, 0))] := by
  show [(bT, Obj.cells (ival (List.replicate n 0) ++ []).toArray 3 (0, 0))] = _
  rw [List.append_nil]; rfl
theorem go_zero (bT n : Nat) : goI (some (bT, n, []), List.replicate n 0) := by
  have e : (ival (List.replicate n (0 : Int))).length = n := by simp [ival]
  refine ⟨by rw [e, List.length_replicate, Nat.mul_one], ?_⟩
  show n * 1 = (ival (List.replicate n (0 : Int))).length + 0 ∧ (List.replicate n (0 : Int)).length ≤ n
  rw [e, List.length_replicate]; omega
theorem copy_v (w : World) (p : Option Addr) (cp : Nat) (m : List (List Int)) (hr : LsAt w p m) (hml : m.length ≤ 1000) (hM : ∀ k, (m.getD k []).length ≤ 1000000) :
    Calls Tryz.prog 89 #[.agg #[.slice p m.length cp]] w (Post (X := HD × List RW) (fun y => .agg #[.slice (gp y.1) m.length (gc y.1)]) (fun y => goR rwR y.1 y.2 ∧ rwOk y.2 ∧ y.2.map RW.l = m) (fun y => gbR rwR 25 y.1 y.2 ++ rwB y.2) w) :=
  (Copy_ok w p cp m hr hml hM).mono fun _ _ ⟨y, e1, e2, e3⟩ => ⟨y, by
    have hl : y.2.length = m.length := by rw [← e2.2.2, List.length_map]
    have hg : goR rwR y.1 y.2 := e2.1
    rw [e1, ← hl]; exact congrArg (fun v => Ending.returned (.agg #[v])) (gval_eq (sz := 1) hg), e2, e3⟩
theorem rNew_e (w0 : World) (p : Option Addr) (cp : Nat) (W : List (List Int)) (hr : LsAt w0 p W) (q : Option Addr) (cq : Nat) (K : List (List Int)) (hk : LsAt w0 q K) (hkl : ∀ k, (K.getD k []).length ≤ 1000000) (r : Option Addr) (cr : Nat) (g : List Int) (hg : IntsAt w0 r g) (hgl : g.length ≤ 1000000) (need : Int) (he : newI W K g need ≠ 0) :
    Calls Tryz.prog 51 #[.agg #[.slice p W.length cp], .agg #[.slice q K.length cq, .slice r g.length cr], .int .i64 need] w0 (Post (X := Unit) (fun _ => .tuple #[.pointer none, .int .i64 (newI W K g need)]) (fun _ => True) (fun _ => []) w0) := by
  refine calls Tryz.func51 rfl (n := 52) rfl (by simp) ?_
  refine zr (TL.box rfl rfl dc (fun b0 hb0 => ?_))
  refine TL.box rfl rfl dc (fun b1 hb1 => ?_)
  refine za rfl (za rfl (zk (zq (PV.loadBox (cs := [.slice p W.length cp]) rfl Tb.agg_24 m9z rfl) rfl ?_)))
  refine TL.call rfl Tb.gofn_86 (fun a w hs => C.rvalidate_ok w p cp W (hr.new hs.new)) rfl dc (fun _ _ => ?_)
  refine za rfl (zn (TC.seq (zr (zm rfl (zq (PV.neq rfl rfl) rfl (zn (TC.cd rfl (fun c1 => ?_) (fun c1 => ?_))))))))
  refine zr (zm rfl (za rfl (za rfl (zt (TQ.thenR (TQ.retE2 rfl rfl rfl ?_))))))
  exact ⟨(), by rw [new_1 c1], trivial, nils⟩
  refine TC.skip (TQ.thenC (zr (zq (PV.loadBox (cs := [.slice q K.length cq, .slice r g.length cr]) rfl Tb.agg_27 m9z rfl) rfl ?_)))
  refine TL.call rfl Tb.gofn_87 (fun a w hs => H.rvalidate_ok w q cq K (hk.new hs.new) r cr g (hg.new hs.new)) rfl dc (fun _ _ => ?_)
  refine za rfl (zn (TC.seq (zr (zm rfl (zq (PV.neq rfl rfl) rfl (zn (TC.cd rfl (fun c2 => ?_) (fun c2 => ?_))))))))
  refine zr (zm rfl (za rfl (za rfl (zt (TQ.thenR (TQ.retE2 rfl rfl rfl ?_))))))
  exact ⟨(), by rw [new_2 c1 c2], trivial, nils⟩
  refine TC.skip (TQ.thenC (zr (zq (PV.fieldAddr rfl Tb.fo_24_0) rfl (zq (PV.load rfl Tb.one_22 m9z rfl) rfl ?_))))
  refine zq (PV.len rfl Tb.sl_22) rfl (za rfl (zn (TC.seq (zr (zq (PV.fieldAddr rfl Tb.fo_27_1) rfl (zq (PV.load rfl Tb.one_25 m9z rfl) rfl ?_))))))
  refine zq (PV.len rfl Tb.sl_25) rfl (zm rfl (zq (PV.neq rfl rfl) rfl (zn (TC.cd rfl (fun c3 => ?_) (fun c3 => ?_)))))
  have c3 : g.length ≠ W.length := by omega
  refine zr (za rfl (za rfl (zt (TQ.thenR (TQ.retE2 rfl rfl rfl ?_)))))
  exact ⟨(), by rw [new_3 c1 c2 c3], trivial, nils⟩
  have c3 : ¬ g.length ≠ W.length := by omega
  refine TC.skip (TQ.thenC (TC.seq ?_))
  obtain ⟨q1, q1p, pj, cj, q1c, q1i⟩ := hr 0 (by have := (C.vb_of c1).n; omega)
  refine TC.region (zq (PV.fieldAddr rfl Tb.fo_24_0) rfl (zq (PV.load rfl Tb.one_22 m9z rfl) rfl ?_))
  refine zq (PV.indexA (j := 0) rfl q1p rfl Tb.elm_22 rfl (C.vb_of c1).n.1) rfl (zq (PV.loadOld rfl Tb.one_25 q1c) rfl (zq (PV.len rfl Tb.sl_25) rfl (zm rfl (zm rfl (zq (PV.build rfl Tb.zero_52 Tb.pl_52 rfl) rfl (TL.alloc Tb.zero_52 rfl dc (fun b2 hb2 => ?_)))))))
  refine TL.storeAgg (vs := [.int .i64 (C.dep W : Nat), .int .i64 (W.length : Nat), .int .i64 need]) rfl rfl Tb.cells_52 u9z rfl rfl rfl rfl rfl ?_
  refine zk (zq (PV.loadBox (cs := [.int .i64 (C.dep W : Nat), .int .i64 (W.length : Nat), .int .i64 need]) rfl Tb.agg_52 m9z rfl) rfl ?_)
  refine TL.call rfl Tb.gofn_88 (fun a w hs => M.rvalidate_ok w _ _ _) rfl dc (fun _ _ => ?_)
  refine za rfl (zn (TC.seq (zr (zm rfl (zq (PV.neq rfl rfl) rfl (zn (TC.cd rfl (fun c4 => ?_) (fun c4 => ?_))))))))
  refine zr (zm rfl (za rfl (za rfl (zt (TQ.thenR (TQ.retE2 rfl rfl rfl ?_))))))
  exact ⟨(), by rw [new_4 c1 c2 c3], trivial, nils⟩
  exact absurd (by rw [new_4 c1 c2 c3]; exact Decidable.of_not_not c4) he
set_option maxHeartbeats 8000000 in
theorem rNew_y (w0 : World) (p : Option Addr) (cp : Nat) (W : List (List Int)) (hr : LsAt w0 p W) (q : Option Addr) (cq : Nat) (K : List (List Int)) (hk : LsAt w0 q K) (hkl : ∀ k, (K.getD k []).length ≤ 1000000) (r : Option Addr) (cr : Nat) (g : List Int) (hg : IntsAt w0 r g) (hgl : g.length ≤ 1000000) (need : Int) (he : newI W K g need = 0) :
    Calls Tryz.prog 51 #[.agg #[.slice p W.length cp], .agg #[.slice q K.length cq, .slice r g.length cr], .int .i64 need] w0 (Post (X := Nat × SU × RV × Heap) (fun y => .tuple #[.pointer (some ⟨y.1, 0, none⟩), .int .i64 0]) (fun y => goI (y.2.2.1.ht, (co0 ⟨W, K, g, need⟩).tur) ∧ ∀ w1 w9, New w1 w9 y.2.2.2 → LsAt w9 q K → IntsAt w9 r g → SiteAt w9 ⟨W, K, g, need⟩ y.2.1) (fun y => rcB y.1 ⟨W, K, g, need⟩ y.2.1 (co0 ⟨W, K, g, need⟩) y.2.2.1 none :: rcH (co0 ⟨W, K, g, need⟩) y.2.2.1 :: (gbI (y.2.2.1.ht, (co0 ⟨W, K, g, need⟩).tur) ++ y.2.2.2)) w0) := by
  refine calls Tryz.func51 rfl (n := 52) rfl (by simp) ?_
  refine zr (TL.box rfl rfl dc (fun b0 hb0 => ?_))
  refine TL.box rfl rfl dc (fun b1 hb1 => ?_)
  refine za rfl (za rfl (zk (zq (PV.loadBox (cs := [.slice p W.length cp]) rfl Tb.agg_24 m9z rfl) rfl ?_)))
  refine TL.call rfl Tb.gofn_86 (fun a w hs => C.rvalidate_ok w p cp W (hr.new hs.new)) rfl dc (fun _ _ => ?_)
  refine za rfl (zn (TC.seq (zr (zm rfl (zq (PV.neq rfl rfl) rfl (zn (TC.cd rfl (fun c1 => ?_) (fun c1 => ?_))))))))
  exact absurd he (by rw [new_1 c1]; exact c1)
  refine TC.skip (TQ.thenC (zr (zq (PV.loadBox (cs := [.slice q K.length cq, .slice r g.length cr]) rfl Tb.agg_27 m9z rfl) rfl ?_)))
  refine TL.call rfl Tb.gofn_87 (fun a w hs => H.rvalidate_ok w q cq K (hk.new hs.new) r cr g (hg.new hs.new)) rfl dc (fun _ _ => ?_)
  refine za rfl (zn (TC.seq (zr (zm rfl (zq (PV.neq rfl rfl) rfl (zn (TC.cd rfl (fun c2 => ?_) (fun c2 => ?_))))))))
  exact absurd he (by rw [new_2 c1 c2]; exact c2)
  refine TC.skip (TQ.thenC (zr (zq (PV.fieldAddr rfl Tb.fo_24_0) rfl (zq (PV.load rfl Tb.one_22 m9z rfl) rfl ?_))))
  refine zq (PV.len rfl Tb.sl_22) rfl (za rfl (zn (TC.seq (zr (zq (PV.fieldAddr rfl Tb.fo_27_1) rfl (zq (PV.load rfl Tb.one_25 m9z rfl) rfl ?_))))))
  refine zq (PV.len rfl Tb.sl_25) rfl (zm rfl (zq (PV.neq rfl rfl) rfl (zn (TC.cd rfl (fun c3 => ?_) (fun c3 => ?_)))))
  have c3 : g.length ≠ W.length := by omega
  exact absurd he (by rw [new_3 c1 c2 (by first | exact c3 | omega)]; decide)
  have c3 : ¬ g.length ≠ W.length := by omega
  refine TC.skip (TQ.thenC (TC.seq ?_))
  obtain ⟨q1, q1p, pj, cj, q1c, q1i⟩ := hr 0 (by have := (C.vb_of c1).n; omega)
  refine TC.region (zq (PV.fieldAddr rfl Tb.fo_24_0) rfl (zq (PV.load rfl Tb.one_22 m9z rfl) rfl ?_))
  refine zq (PV.indexA (j := 0) rfl q1p rfl Tb.elm_22 rfl (C.vb_of c1).n.1) rfl (zq (PV.loadOld rfl Tb.one_25 q1c) rfl (zq (PV.len rfl Tb.sl_25) rfl (zm rfl (zm rfl (zq (PV.build rfl Tb.zero_52 Tb.pl_52 rfl) rfl (TL.alloc Tb.zero_52 rfl dc (fun b2 hb2 => ?_)))))))
  refine TL.storeAgg (vs := [.int .i64 (C.dep W : Nat), .int .i64 (W.length : Nat), .int .i64 need]) rfl rfl Tb.cells_52 u9z rfl rfl rfl rfl rfl ?_
  refine zk (zq (PV.loadBox (cs := [.int .i64 (C.dep W : Nat), .int .i64 (W.length : Nat), .int .i64 need]) rfl Tb.agg_52 m9z rfl) rfl ?_)
  refine TL.call rfl Tb.gofn_88 (fun a w hs => M.rvalidate_ok w _ _ _) rfl dc (fun _ _ => ?_)
  refine za rfl (zn (TC.seq (zr (zm rfl (zq (PV.neq rfl rfl) rfl (zn (TC.cd rfl (fun c4 => ?_) (fun c4 => ?_))))))))
  exact absurd he (by rw [new_4 c1 c2 c3]; exact c4)
  refine TC.skip (TQ.thenC (TC.seq (TC.mixV [true, false, true, true, true, false, true, false, true, false, true, true] [(b2, Obj.cells #[.int .i64 (C.dep W : Nat), .int .i64 (W.length : Nat), .int .i64 need] 52 (0, 0)), (b1, Obj.cells #[.slice q K.length cq, .slice r g.length cr] 27 (0, 0)), (b0, Obj.cells #[.slice p W.length cp] 24 (0, 0))] 12 Tb.mixed rfl kr kr kr kr s9z ?_)))
  refine zv 0 rfl kr (PV.loadBox (cs := [.slice p W.length cp]) rfl Tb.agg_24 m9z rfl) rfl ?_
  refine zv 2 rfl kr (PV.loadBox (cs := [.slice q K.length cq, .slice r g.length cr]) rfl Tb.agg_27 m9z rfl) rfl ?_
  refine zv 3 rfl kr (PV.loadBox (cs := [.int .i64 (C.dep W : Nat), .int .i64 (W.length : Nat), .int .i64 need]) rfl Tb.agg_52 m9z rfl) rfl ?_
  refine zv 4 rfl kr (PV.move rfl) rfl (zv 6 rfl kr (PV.move rfl) rfl (TV.step [1, 5, 7] kr dc rfl ⟨⟨_, rfl, ?_⟩, ⟨_, rfl, ?_⟩, ⟨_, rfl, ?_⟩, trivial⟩))
  refine TL.call rfl Tb.gofn_89 (fun a w hs => copy_v w p cp W (hr.new hs.new) (by have := (C.vb_of c1).n; omega) (fun k => by have := wl_of c1 k; omega)) rfl dc (fun yw hyw => ?_)
  refine TL.nil (TV.next (.inl s9z) ?_)
  refine TV.step [5, 7] kr dc rfl ⟨⟨_, rfl, ?_⟩, ⟨_, rfl, ?_⟩, trivial⟩
  refine TL.makeI rfl rfl Tb.sl_25 Tb.zi_3 rfl om om rfl dc (fun bH hbH => ?_)
  refine TL.nil (TV.next (.inl s9z) ?_)
  refine TV.step [7] kr dc rfl ⟨⟨_, rfl, ?_⟩, trivial⟩
  refine TL.makeI rfl rfl Tb.sl_25 Tb.zi_3 rfl om om rfl dc (fun bT hbT => ?_)
  refine TL.nil (TV.next (.inl s9z) ?_)
  refine zv 8 rfl kr (PV.build rfl Tb.zero_54 Tb.pl_54 (fill_54 _ _ _ _ _ _ _ _ _ _ _ _)) rfl ?_
  refine TV.step [9] kr dc rfl ⟨⟨_, rfl, ?_⟩, trivial⟩
  refine TL.box rfl rfl dc (fun bC hbC => ?_)
  refine TL.nil (TV.next (.inl s9z) ?_)
  refine zv 10 rfl kr (PV.assign rfl) rfl (zv 11 rfl kr (PV.assign rfl) rfl (TV.done kr ?_))
  refine zc (TQ.perm (G' := (bC, Obj.cells (rcL ⟨W, K, g, need⟩ (suR yw q cq r cr) (co0 ⟨W, K, g, need⟩) ⟨bH, some (bT, W.length, [])⟩ (.slice none 0 0)).toArray 54 (0, 0)) :: (bH, Obj.cells (intsA (List.replicate W.length 0)) 3 (0, 0)) :: ((bT, Obj.cells (intsA (List.replicate W.length 0)) 3 (0, 0)) :: ((gbR rwR 25 yw.1 yw.2 ++ rwB yw.2) ++ [(b2, Obj.cells #[.int .i64 (C.dep W : Nat), .int .i64 (W.length : Nat), .int .i64 need] 52 (0, 0)), (b1, Obj.cells #[.slice q K.length cq, .slice r g.length cr] 27 (0, 0)), (b0, Obj.cells #[.slice p W.length cp] 24 (0, 0))]))) (perm_of fun c9 => by rw [rcL_0]; simp only [List.map_append, List.sum_append, List.map_cons, List.sum_cons, List.map_nil, List.sum_nil, Value.cells]; omega) ?_)
  refine TQ.retE2 rfl rfl rfl ?_
  exact ⟨(bC, suR yw q cq r cr, ⟨bH, some (bT, W.length, [])⟩, gbR rwR 25 yw.1 yw.2 ++ rwB yw.2), rfl, ⟨go_zero bT W.length, fun w1 w9 hn hk9 hg9 => site_cp hyw hn (fun y hy => List.mem_append_left _ hy) (fun y hy => List.mem_append_right _ hy) hk9 hg9⟩, by refine List.Sublist.cons_cons _ (List.Sublist.cons_cons _ ?_); show List.Sublist (gbI (some (bT, W.length, []), List.replicate W.length 0) ++ _) _; rw [gbI_zero]; exact List.Sublist.cons_cons _ (List.sublist_append_left _ _)⟩
  refine TL.makeI rfl rfl Tb.sl_25 Tb.zi_3 rfl om om rfl dc (fun bT hbT => ?_)
  refine TL.nil (TV.next (.inl s9z) ?_)
  refine TV.step [5] kr dc rfl ⟨⟨_, rfl, ?_⟩, trivial⟩
  refine TL.makeI rfl rfl Tb.sl_25 Tb.zi_3 rfl om om rfl dc (fun bH hbH => ?_)
  refine TL.nil (TV.next (.inl s9z) ?_)
  refine zv 8 rfl kr (PV.build rfl Tb.zero_54 Tb.pl_54 (fill_54 _ _ _ _ _ _ _ _ _ _ _ _)) rfl ?_
  refine TV.step [9] kr dc rfl ⟨⟨_, rfl, ?_⟩, trivial⟩
  refine TL.box rfl rfl dc (fun bC hbC => ?_)
  refine TL.nil (TV.next (.inl s9z) ?_)
  refine zv 10 rfl kr (PV.assign rfl) rfl (zv 11 rfl kr (PV.assign rfl) rfl (TV.done kr ?_))
  refine zc (TQ.perm (G' := (bC, Obj.cells (rcL ⟨W, K, g, need⟩ (suR yw q cq r cr) (co0 ⟨W, K, g, need⟩) ⟨bH, some (bT, W.length, [])⟩ (.slice none 0 0)).toArray 54 (0, 0)) :: (bH, Obj.cells (intsA (List.replicate W.length 0)) 3 (0, 0)) :: ((bT, Obj.cells (intsA (List.replicate W.length 0)) 3 (0, 0)) :: ((gbR rwR 25 yw.1 yw.2 ++ rwB yw.2) ++ [(b2, Obj.cells #[.int .i64 (C.dep W : Nat), .int .i64 (W.length : Nat), .int .i64 need] 52 (0, 0)), (b1, Obj.cells #[.slice q K.length cq, .slice r g.length cr] 27 (0, 0)), (b0, Obj.cells #[.slice p W.length cp] 24 (0, 0))]))) (perm_of fun c9 => by rw [rcL_0]; simp only [List.map_append, List.sum_append, List.map_cons, List.sum_cons, List.map_nil, List.sum_nil, Value.cells]; omega) ?_)
  refine TQ.retE2 rfl rfl rfl ?_
  exact ⟨(bC, suR yw q cq r cr, ⟨bH, some (bT, W.length, [])⟩, gbR rwR 25 yw.1 yw.2 ++ rwB yw.2), rfl, ⟨go_zero bT W.length, fun w1 w9 hn hk9 hg9 => site_cp hyw hn (fun y hy => List.mem_append_left _ hy) (fun y hy => List.mem_append_right _ hy) hk9 hg9⟩, by refine List.Sublist.cons_cons _ (List.Sublist.cons_cons _ ?_); show List.Sublist (gbI (some (bT, W.length, []), List.replicate W.length 0) ++ _) _; rw [gbI_zero]; exact List.Sublist.cons_cons _ (List.sublist_append_left _ _)⟩
  refine TL.makeI rfl rfl Tb.sl_25 Tb.zi_3 rfl om om rfl dc (fun bH hbH => ?_)
  refine TL.nil (TV.next (.inl s9z) ?_)
  refine TV.step [1, 7] kr dc rfl ⟨⟨_, rfl, ?_⟩, ⟨_, rfl, ?_⟩, trivial⟩
  refine TL.call rfl Tb.gofn_89 (fun a w hs => copy_v w p cp W (hr.new hs.new) (by have := (C.vb_of c1).n; omega) (fun k => by have := wl_of c1 k; omega)) rfl dc (fun yw hyw => ?_)
  refine TL.nil (TV.next (.inl s9z) ?_)
  refine TV.step [7] kr dc rfl ⟨⟨_, rfl, ?_⟩, trivial⟩
  refine TL.makeI rfl rfl Tb.sl_25 Tb.zi_3 rfl om om rfl dc (fun bT hbT => ?_)
  refine TL.nil (TV.next (.inl s9z) ?_)
  refine zv 8 rfl kr (PV.build rfl Tb.zero_54 Tb.pl_54 (fill_54 _ _ _ _ _ _ _ _ _ _ _ _)) rfl ?_
  refine TV.step [9] kr dc rfl ⟨⟨_, rfl, ?_⟩, trivial⟩
  refine TL.box rfl rfl dc (fun bC hbC => ?_)
  refine TL.nil (TV.next (.inl s9z) ?_)
  refine zv 10 rfl kr (PV.assign rfl) rfl (zv 11 rfl kr (PV.assign rfl) rfl (TV.done kr ?_))
  refine zc (TQ.perm (G' := (bC, Obj.cells (rcL ⟨W, K, g, need⟩ (suR yw q cq r cr) (co0 ⟨W, K, g, need⟩) ⟨bH, some (bT, W.length, [])⟩ (.slice none 0 0)).toArray 54 (0, 0)) :: (bH, Obj.cells (intsA (List.replicate W.length 0)) 3 (0, 0)) :: ((bT, Obj.cells (intsA (List.replicate W.length 0)) 3 (0, 0)) :: ((gbR rwR 25 yw.1 yw.2 ++ rwB yw.2) ++ [(b2, Obj.cells #[.int .i64 (C.dep W : Nat), .int .i64 (W.length : Nat), .int .i64 need] 52 (0, 0)), (b1, Obj.cells #[.slice q K.length cq, .slice r g.length cr] 27 (0, 0)), (b0, Obj.cells #[.slice p W.length cp] 24 (0, 0))]))) (perm_of fun c9 => by rw [rcL_0]; simp only [List.map_append, List.sum_append, List.map_cons, List.sum_cons, List.map_nil, List.sum_nil, Value.cells]; omega) ?_)
  refine TQ.retE2 rfl rfl rfl ?_
  exact ⟨(bC, suR yw q cq r cr, ⟨bH, some (bT, W.length, [])⟩, gbR rwR 25 yw.1 yw.2 ++ rwB yw.2), rfl, ⟨go_zero bT W.length, fun w1 w9 hn hk9 hg9 => site_cp hyw hn (fun y hy => List.mem_append_left _ hy) (fun y hy => List.mem_append_right _ hy) hk9 hg9⟩, by refine List.Sublist.cons_cons _ (List.Sublist.cons_cons _ ?_); show List.Sublist (gbI (some (bT, W.length, []), List.replicate W.length 0) ++ _) _; rw [gbI_zero]; exact List.Sublist.cons_cons _ (List.sublist_append_left _ _)⟩
  refine TL.makeI rfl rfl Tb.sl_25 Tb.zi_3 rfl om om rfl dc (fun bT hbT => ?_)
  refine TL.nil (TV.next (.inl s9z) ?_)
  refine TV.step [1] kr dc rfl ⟨⟨_, rfl, ?_⟩, trivial⟩
  refine TL.call rfl Tb.gofn_89 (fun a w hs => copy_v w p cp W (hr.new hs.new) (by have := (C.vb_of c1).n; omega) (fun k => by have := wl_of c1 k; omega)) rfl dc (fun yw hyw => ?_)
  refine TL.nil (TV.next (.inl s9z) ?_)
  refine zv 8 rfl kr (PV.build rfl Tb.zero_54 Tb.pl_54 (fill_54 _ _ _ _ _ _ _ _ _ _ _ _)) rfl ?_
  refine TV.step [9] kr dc rfl ⟨⟨_, rfl, ?_⟩, trivial⟩
  refine TL.box rfl rfl dc (fun bC hbC => ?_)
  refine TL.nil (TV.next (.inl s9z) ?_)
  refine zv 10 rfl kr (PV.assign rfl) rfl (zv 11 rfl kr (PV.assign rfl) rfl (TV.done kr ?_))
  refine zc (TQ.perm (G' := (bC, Obj.cells (rcL ⟨W, K, g, need⟩ (suR yw q cq r cr) (co0 ⟨W, K, g, need⟩) ⟨bH, some (bT, W.length, [])⟩ (.slice none 0 0)).toArray 54 (0, 0)) :: (bH, Obj.cells (intsA (List.replicate W.length 0)) 3 (0, 0)) :: ((bT, Obj.cells (intsA (List.replicate W.length 0)) 3 (0, 0)) :: ((gbR rwR 25 yw.1 yw.2 ++ rwB yw.2) ++ [(b2, Obj.cells #[.int .i64 (C.dep W : Nat), .int .i64 (W.length : Nat), .int .i64 need] 52 (0, 0)), (b1, Obj.cells #[.slice q K.length cq, .slice r g.length cr] 27 (0, 0)), (b0, Obj.cells #[.slice p W.length cp] 24 (0, 0))]))) (perm_of fun c9 => by rw [rcL_0]; simp only [List.map_append, List.sum_append, List.map_cons, List.sum_cons, List.map_nil, List.sum_nil, Value.cells]; omega) ?_)
  refine TQ.retE2 rfl rfl rfl ?_
  exact ⟨(bC, suR yw q cq r cr, ⟨bH, some (bT, W.length, [])⟩, gbR rwR 25 yw.1 yw.2 ++ rwB yw.2), rfl, ⟨go_zero bT W.length, fun w1 w9 hn hk9 hg9 => site_cp hyw hn (fun y hy => List.mem_append_left _ hy) (fun y hy => List.mem_append_right _ hy) hk9 hg9⟩, by refine List.Sublist.cons_cons _ (List.Sublist.cons_cons _ ?_); show List.Sublist (gbI (some (bT, W.length, []), List.replicate W.length 0) ++ _) _; rw [gbI_zero]; exact List.Sublist.cons_cons _ (List.sublist_append_left _ _)⟩
  refine TL.makeI rfl rfl Tb.sl_25 Tb.zi_3 rfl om om rfl dc (fun bT hbT => ?_)
  refine TL.nil (TV.next (.inl s9z) ?_)
  refine TV.step [1, 5] kr dc rfl ⟨⟨_, rfl, ?_⟩, ⟨_, rfl, ?_⟩, trivial⟩
  refine TL.call rfl Tb.gofn_89 (fun a w hs => copy_v w p cp W (hr.new hs.new) (by have := (C.vb_of c1).n; omega) (fun k => by have := wl_of c1 k; omega)) rfl dc (fun yw hyw => ?_)
  refine TL.nil (TV.next (.inl s9z) ?_)
  refine TV.step [5] kr dc rfl ⟨⟨_, rfl, ?_⟩, trivial⟩
  refine TL.makeI rfl rfl Tb.sl_25 Tb.zi_3 rfl om om rfl dc (fun bH hbH => ?_)
  refine TL.nil (TV.next (.inl s9z) ?_)
  refine zv 8 rfl kr (PV.build rfl Tb.zero_54 Tb.pl_54 (fill_54 _ _ _ _ _ _ _ _ _ _ _ _)) rfl ?_
  refine TV.step [9] kr dc rfl ⟨⟨_, rfl, ?_⟩, trivial⟩
  refine TL.box rfl rfl dc (fun bC hbC => ?_)
  refine TL.nil (TV.next (.inl s9z) ?_)
  refine zv 10 rfl kr (PV.assign rfl) rfl (zv 11 rfl kr (PV.assign rfl) rfl (TV.done kr ?_))
  refine zc (TQ.perm (G' := (bC, Obj.cells (rcL ⟨W, K, g, need⟩ (suR yw q cq r cr) (co0 ⟨W, K, g, need⟩) ⟨bH, some (bT, W.length, [])⟩ (.slice none 0 0)).toArray 54 (0, 0)) :: (bH, Obj.cells (intsA (List.replicate W.length 0)) 3 (0, 0)) :: ((bT, Obj.cells (intsA (List.replicate W.length 0)) 3 (0, 0)) :: ((gbR rwR 25 yw.1 yw.2 ++ rwB yw.2) ++ [(b2, Obj.cells #[.int .i64 (C.dep W : Nat), .int .i64 (W.length : Nat), .int .i64 need] 52 (0, 0)), (b1, Obj.cells #[.slice q K.length cq, .slice r g.length cr] 27 (0, 0)), (b0, Obj.cells #[.slice p W.length cp] 24 (0, 0))]))) (perm_of fun c9 => by rw [rcL_0]; simp only [List.map_append, List.sum_append, List.map_cons, List.sum_cons, List.map_nil, List.sum_nil, Value.cells]; omega) ?_)
  refine TQ.retE2 rfl rfl rfl ?_
  exact ⟨(bC, suR yw q cq r cr, ⟨bH, some (bT, W.length, [])⟩, gbR rwR 25 yw.1 yw.2 ++ rwB yw.2), rfl, ⟨go_zero bT W.length, fun w1 w9 hn hk9 hg9 => site_cp hyw hn (fun y hy => List.mem_append_left _ hy) (fun y hy => List.mem_append_right _ hy) hk9 hg9⟩, by refine List.Sublist.cons_cons _ (List.Sublist.cons_cons _ ?_); show List.Sublist (gbI (some (bT, W.length, []), List.replicate W.length 0) ++ _) _; rw [gbI_zero]; exact List.Sublist.cons_cons _ (List.sublist_append_left _ _)⟩
  refine TL.makeI rfl rfl Tb.sl_25 Tb.zi_3 rfl om om rfl dc (fun bH hbH => ?_)
  refine TL.nil (TV.next (.inl s9z) ?_)
  refine TV.step [1] kr dc rfl ⟨⟨_, rfl, ?_⟩, trivial⟩
  refine TL.call rfl Tb.gofn_89 (fun a w hs => copy_v w p cp W (hr.new hs.new) (by have := (C.vb_of c1).n; omega) (fun k => by have := wl_of c1 k; omega)) rfl dc (fun yw hyw => ?_)
  refine TL.nil (TV.next (.inl s9z) ?_)
  refine zv 8 rfl kr (PV.build rfl Tb.zero_54 Tb.pl_54 (fill_54 _ _ _ _ _ _ _ _ _ _ _ _)) rfl ?_
  refine TV.step [9] kr dc rfl ⟨⟨_, rfl, ?_⟩, trivial⟩
  refine TL.box rfl rfl dc (fun bC hbC => ?_)
  refine TL.nil (TV.next (.inl s9z) ?_)
  refine zv 10 rfl kr (PV.assign rfl) rfl (zv 11 rfl kr (PV.assign rfl) rfl (TV.done kr ?_))
  refine zc (TQ.perm (G' := (bC, Obj.cells (rcL ⟨W, K, g, need⟩ (suR yw q cq r cr) (co0 ⟨W, K, g, need⟩) ⟨bH, some (bT, W.length, [])⟩ (.slice none 0 0)).toArray 54 (0, 0)) :: (bH, Obj.cells (intsA (List.replicate W.length 0)) 3 (0, 0)) :: ((bT, Obj.cells (intsA (List.replicate W.length 0)) 3 (0, 0)) :: ((gbR rwR 25 yw.1 yw.2 ++ rwB yw.2) ++ [(b2, Obj.cells #[.int .i64 (C.dep W : Nat), .int .i64 (W.length : Nat), .int .i64 need] 52 (0, 0)), (b1, Obj.cells #[.slice q K.length cq, .slice r g.length cr] 27 (0, 0)), (b0, Obj.cells #[.slice p W.length cp] 24 (0, 0))]))) (perm_of fun c9 => by rw [rcL_0]; simp only [List.map_append, List.sum_append, List.map_cons, List.sum_cons, List.map_nil, List.sum_nil, Value.cells]; omega) ?_)
  refine TQ.retE2 rfl rfl rfl ?_
  exact ⟨(bC, suR yw q cq r cr, ⟨bH, some (bT, W.length, [])⟩, gbR rwR 25 yw.1 yw.2 ++ rwB yw.2), rfl, ⟨go_zero bT W.length, fun w1 w9 hn hk9 hg9 => site_cp hyw hn (fun y hy => List.mem_append_left _ hy) (fun y hy => List.mem_append_right _ hy) hk9 hg9⟩, by refine List.Sublist.cons_cons _ (List.Sublist.cons_cons _ ?_); show List.Sublist (gbI (some (bT, W.length, []), List.replicate W.length 0) ++ _) _; rw [gbI_zero]; exact List.Sublist.cons_cons _ (List.sublist_append_left _ _)⟩
end Go.Proofs.YtbnjmkidbfmomaaGreatDoor
namespace Go.Proofs.YtbnjmkidbfmomaaGreatDoor
open Go.Sx Go.RowKit Go.Bt Go.Lib Go.Sand
structure WdS (L : List UInt8) (i : Nat) (ws : List (List UInt8)) (st : Nat) : Prop where
  le : i ≤ L.length + 1
  len : ws.length ≤ i
  a : i ≤ L.length → st ≤ i ∧ spl 32 L = ws ++ spl 32 (L.drop st) ∧ ∀ j, st ≤ j → j < i → L.getD j 0 ≠ 32
  z : i = L.length + 1 → ws = spl 32 L
theorem WdS.zero (L : List UInt8) : WdS L 0 [] 0 := ⟨Nat.zero_le _, Nat.le_refl _, fun _ => ⟨Nat.le_refl _, rfl, fun j _ h => absurd h (Nat.not_lt_zero _)⟩, fun h => by omega⟩
theorem WdS.skip {L : List UInt8} {i st : Nat} {ws : List (List UInt8)} (h : WdS L i ws st) (hi : i < L.length) (hne : L.getD i 0 ≠ 32) : WdS L (i + 1) ws st := by
  obtain ⟨h1, h2, h3⟩ := h.a (by omega)
  exact ⟨by omega, by have := h.len; omega, fun _ => ⟨by omega, h2, fun j hj hj2 => if e : j < i then h3 j hj e else (show i = j by omega) ▸ hne⟩, fun h9 => by omega⟩
theorem getD_drop {L : List UInt8} {st j : Nat} : (L.drop st).getD j 0 = L.getD (st + j) 0 := by
  rw [List.getD_eq_getElem?_getD, List.getD_eq_getElem?_getD, List.getElem?_drop]
theorem WdS.stp {L : List UInt8} {i st : Nat} {ws : List (List UInt8)} (h : WdS L i ws st) (hi : i ≤ L.length) (hat : i < L.length → L.getD i 0 = 32) : Stp 32 (L.drop st) (L.drop st).length (i - st) := by
  obtain ⟨h1, h2, h3⟩ := h.a hi
  refine ⟨by rw [List.length_drop]; omega, fun j hj => by rw [getD_drop]; exact h3 _ (by omega) (by omega), fun hl => ?_⟩
  rw [List.length_drop] at hl
  rw [getD_drop, show st + (i - st) = i by omega]
  exact hat (by omega)
theorem WdS.cut {L : List UInt8} {i st : Nat} {ws : List (List UInt8)} (h : WdS L i ws st) (hi : i < L.length) (he : L.getD i 0 = 32) : WdS L (i + 1) (ws ++ [(L.drop st).take (i - st)]) (i + 1) := by
  obtain ⟨h1, h2, h3⟩ := h.a (by omega)
  have hb := (h.stp (by omega) (fun _ => he)).hit (Nat.le_refl _) (by rw [List.length_drop]; omega)
  rw [List.take_length] at hb
  refine ⟨by omega, by have := h.len; simp; omega, fun _ => ⟨Nat.le_refl _, ?_, fun j hj hj2 => by omega⟩, fun h9 => by omega⟩
  have e9 : ((L.drop st).drop (i - st + 1)).take ((L.drop st).length - (i - st + 1)) = L.drop (i + 1) := by
    rw [List.drop_drop, show st + (i - st + 1) = i + 1 by omega]
    exact List.take_of_length_le (by rw [List.length_drop, List.length_drop]; omega)
  rw [e9] at hb
  rw [h2, spl_brk 32 (L.drop st), hb]
  simp only [List.append_assoc, List.singleton_append]
theorem WdS.last {L : List UInt8} {i st : Nat} {ws : List (List UInt8)} (h : WdS L i ws st) (hi : i = L.length) : WdS L (i + 1) (ws ++ [(L.drop st).take (i - st)]) (i + 1) := by
  obtain ⟨h1, h2, h3⟩ := h.a (by omega)
  have hb := (h.stp (by omega) (fun h9 => by omega)).miss (Nat.le_refl _) (by rw [List.length_drop]; omega)
  rw [List.take_length] at hb
  refine ⟨by omega, by have := h.len; simp; omega, fun h9 => by omega, fun _ => ?_⟩
  rw [h2, spl_brk 32 (L.drop st), hb, List.take_of_length_le (by rw [List.length_drop]; omega)]
theorem prs_o {L : List UInt8} {c : Nat} {k : Nat} (hk : kdF ((spl 32 L).getD 0 []) = some (k, c)) (hl : (spl 32 L).length = 1 + c) (hn : ((spl 32 L).drop 1).all isNum = true) : prsO L = some ⟨k, ((spl 32 L).drop 1).map nv⟩ := by
  unfold prsO; rw [hk]; simp only; rw [if_pos ⟨hl, hn⟩]
theorem prs_cnt {L : List UInt8} (h : cntI ((spl 32 L).getD 0 []) ≠ ((spl 32 L).length : Int) - 1) : prsO L = none := by
  unfold prsO
  unfold cntI at h
  cases hk : kdF ((spl 32 L).getD 0 []) with
  | none => rfl
  | some kc =>
    obtain ⟨k, c⟩ := kc
    rw [hk] at h
    simp only at h ⊢
    rw [if_neg]
    intro h9
    omega
theorem cnt_kd {w : List UInt8} {n : Nat} (h : cntI w = (n : Int)) : ∃ k, kdF w = some (k, n) := by
  unfold cntI at h
  cases hk : kdF w with
  | none => rw [hk] at h; simp only at h; omega
  | some kc =>
    obtain ⟨k, c⟩ := kc
    rw [hk] at h
    simp only at h
    exact ⟨k, by rw [show c = n by omega]⟩
theorem prs_bad {L : List UInt8} {j : Nat} (hj : j < (spl 32 L).length) (h1 : 1 ≤ j) (h : isNum ((spl 32 L).getD j []) = false) : prsO L = none := by
  unfold prsO
  cases hk : kdF ((spl 32 L).getD 0 []) with
  | none => rfl
  | some kc =>
    obtain ⟨k, c⟩ := kc
    simp only
    rw [if_neg]
    rintro ⟨_, h9⟩
    have hm : (spl 32 L).getD j [] ∈ (spl 32 L).drop 1 := by
      rw [List.getD_eq_getElem?_getD, List.getElem?_eq_getElem hj]
      exact List.mem_of_getElem? (i := j - 1) (by rw [List.getElem?_drop, show 1 + (j - 1) = j by omega, List.getElem?_eq_getElem hj]; rfl)
    rw [List.all_eq_true.1 h9 _ hm] at h; cases h
theorem prs_len {L : List UInt8} (h : L.length < 1 ∨ 40 < L.length) : prsO L = none := by
  cases hp : prsO L with
  | none => rfl
  | some o => have := right_of (prs_right hp); omega
end Go.Proofs.YtbnjmkidbfmomaaGreatDoor
namespace Go.Proofs.YtbnjmkidbfmomaaGreatDoor
open Go.Sx Go.RowKit Go.Bt Go.Lib Go.Sand
section
variable {P : Program} {n : Nat} {w0 : World} {E : Env} {G : Heap} {d : Option Nat} {ty : TypeId} {pos : String} {aft : Array Edge} {g : Option (Nat × Bool)}
theorem PV.eqU8 {x : Operand} {c c0 : UInt8} {t t' : TypeId} {z : Value} (hx : evo E x = some (.int .u8 (c.toNat : Int))) (hz : z = .int .u8 (c0.toNat : Int)) : PV P n w0 E G ⟨d, .binOp .eql t x (.const z) t', ty, pos, aft, g⟩ (.bool (decide (c = c0))) := by
  subst hz
  have h := PV.eqlK (P := P) (n := n) (w0 := w0) (G := G) (d := d) (t := t) (t' := t') (ty := ty) (pos := pos) (aft := aft) (g := g) hx (show evo E (.const (.int .u8 (c0.toNat : Int))) = some (.int .u8 (c0.toNat : Int)) from rfl)
  have e : decide ((c.toNat : Int) = c0.toNat) = decide (c = c0) := decide_eq_decide.2 ⟨fun h => UInt8.toNat_inj.1 (by omega), fun h => by subst h; rfl⟩
  rwa [e] at h
end
theorem fill_118 (L : List UInt8) : Instr.fill ([(0, 1), (1, 1)][·]?) #[.string ⟨#[]⟩, .slice none 0 0] [(0, str L)] = some #[str L, .slice none 0 0] := by kernel_rfl
abbrev wds (L : List UInt8) : List (List UInt8) := spl 32 L
abbrev nmS (L : List UInt8) (k : Nat) : List Int := (((wds L).take k).drop 1).map nv
theorem nm_next {L : List UInt8} {k : Nat} (h1 : 1 ≤ k) (hk : k < (wds L).length) : nmS L (k + 1) = nmS L k ++ [nv ((wds L).getD k [])] := by
  show (((wds L).take (k + 1)).drop 1).map nv = _
  rw [List.take_succ_eq_append_getElem hk, List.drop_append_of_le_length (by rw [List.length_take]; omega), List.map_append]
  simp [List.getD, hk]
theorem nm_end {L : List UInt8} {k : Nat} (hk : k = (wds L).length) : nmS L k = ((wds L).drop 1).map nv := by subst hk; show (((wds L).take (wds L).length).drop 1).map nv = _; rw [List.take_length]
theorem nm_all {L : List UInt8} {k : Nat} (hk : k = (wds L).length) (h : ∀ j, 1 ≤ j → j < k → isNum ((wds L).getD j []) = true) : ((wds L).drop 1).all isNum = true := by
  refine List.all_eq_true.2 fun x hx => ?_
  obtain ⟨j, hj, e⟩ := List.getElem_of_mem hx
  rw [List.length_drop] at hj
  have := h (1 + j) (by omega) (by omega)
  rw [List.getD_eq_getElem?_getD, List.getElem?_eq_getElem (by omega)] at this
  rw [← e, List.getElem_drop]; exact this
theorem nm_len (L : List UInt8) (k : Nat) : (nmS L k).length ≤ k := by
  show ((((wds L).take k).drop 1).map nv).length ≤ k
  rw [List.length_map, List.length_drop, List.length_take]; omega
def paV (L : List UInt8) (h : HD) : Option Od → Value
  | none => .tuple #[.agg #[str [], .slice none 0 0], .bool false]
  | some o => .tuple #[.agg #[str ((wds L).getD 0 []), gval h o.ns.length], .bool true]
def paF (h : HD) : Option Od → Prop
  | none => True
  | some o => goI (h, o.ns)
def paD (h : HD) : Option Od → Heap
  | none => []
  | some o => gbI (h, o.ns)
set_option maxHeartbeats 2000000 in
theorem parse_ok (w0 : World) (hW : WAt w0) (L : List UInt8) :
    Calls Tryz.prog 72 #[str L] w0 (Post (X := HD) (fun h => paV L h (prsO L)) (fun h => paF h (prsO L)) (fun h => paD h (prsO L)) w0) := by
  refine calls Tryz.func72 rfl (n := 82) rfl (by simp) ?_
  refine zr (TL.alloc Tb.zero_118 rfl dc (fun b0 hb0 => ?_))
  refine za rfl (zn (TC.seq (zr (zm rfl (zq (PV.lenS rfl Tb.str_9) rfl (zq (PV.lss rfl rfl) rfl (zm rfl (TL.sp 14 rfl (fun l1 => ?_) (fun l1 => ?_)))))))))
  refine zx rfl (zx rfl (zx rfl (zq (PV.pickT rfl rfl) rfl (zn (TC.condT rfl (zr (zq (PV.build rfl Tb.zero_118 Tb.pl_118 rfl) rfl (TL.storeAgg (vs := [str [], .slice none 0 0]) rfl rfl Tb.cells_118 u9z rfl rfl rfl rfl rfl ?_))))))))
  refine za rfl (zt (TQ.thenR (TQ.retR rfl (Res.agg rfl Tb.agg_118 m9z rfl (Res.tmp rfl Res.nil)) ?_)))
  simp only [tup]
  have hp := prs_len (L := L) (by omega)
  exact ⟨none, by rw [hp]; rfl, by rw [hp]; trivial, by rw [hp]; exact nils⟩
  refine zm rfl (zq (PV.lenS rfl Tb.str_9) rfl (zq (PV.gtr rfl rfl) rfl (zq (PV.pickF rfl rfl) rfl (zn (TC.cd rfl (fun l2 => ?_) (fun l2 => ?_))))))
  refine zr (zq (PV.build rfl Tb.zero_118 Tb.pl_118 rfl) rfl (TL.storeAgg (vs := [str [], .slice none 0 0]) rfl rfl Tb.cells_118 u9z rfl rfl rfl rfl rfl ?_))
  refine za rfl (zt (TQ.thenR (TQ.retR rfl (Res.agg rfl Tb.agg_118 m9z rfl (Res.tmp rfl Res.nil)) ?_)))
  simp only [tup]
  have hp := prs_len (L := L) (by omega)
  exact ⟨none, by rw [hp]; rfl, by rw [hp]; trivial, by rw [hp]; exact nils⟩
  refine TC.skip (TQ.thenC (TC.seq ?_))
  have hL1 : 1 ≤ L.length ∧ L.length ≤ 40 := by omega
  refine TC.region (za rfl (zk (za rfl (zn (TC.seq (zr (za rfl (zn (TC.block (TC.loopK [0, 2, 3] (X := Nat × HD × List (List UInt8) × Nat) (fun x => goR stR x.2.1 x.2.2.1 ∧ WdS L x.1 x.2.2.1 x.2.2.2) (fun x => [(6, .int .i64 (x.1 : Nat)), (4, gval x.2.1 x.2.2.1.length), (5, .int .i64 (x.2.2.2 : Nat))]) (fun x => gbR stR 9 x.2.1 x.2.2.1 ++ [(b0, Obj.cells #[str [], .slice none 0 0] 118 (0, 0))]) (fun x => L.length + 1 - x.1) (0, none, [], 0) ⟨⟨rfl, rfl⟩, WdS.zero L⟩ l9z (List.Sublist.refl _) ?_))))))))))
  intro x hx
  refine TC.seq (zr (zm rfl (zm rfl (zq (PV.lenS rfl Tb.str_9) rfl (zq (PV.leq rfl rfl) rfl (zn (TC.cd rfl (fun hlt => ?_) (fun hlt => ?_))))))))
  refine TC.skip (TQ.thenC (TC.seq (TC.block (TC.seq ?_))))
  have hle := hx.2.le
  have hst := (hx.2.a (by omega)).1
  refine TC.region (zm rfl (zm rfl (zq (PV.lenS rfl Tb.str_9) rfl (zq (PV.eql rfl rfl) rfl (zm rfl (TL.sp 30 rfl (fun g0 => ?_) (fun g0 => ?_)))))))
  refine zx rfl (zx rfl (zx rfl (zx rfl (zq (PV.pickT rfl rfl) rfl (zn (TC.condT rfl (TC.seq ?_)))))))
  have hwn := hx.2.len
  refine TC.region (zm rfl (zm rfl (zm rfl (zm rfl (zq (PV.slS (l := x.2.2.2) (h := x.1) rfl rfl rfl Tb.str_9 rfl rfl om om) rfl (TL.buildSlice (cs := #[str ((L.drop x.2.2.2).take (x.1 - x.2.2.2))]) rfl Tb.sl_43 Tb.zi_9 dc (fill_s ((L.drop x.2.2.2).take (x.1 - x.2.2.2))) dc rfl dc (fun bI hbI => ?_)))))))
  refine TL.appendRec (R := stR) (h0 := x.2.1) (ys := x.2.2.1) (r := ((L.drop x.2.2.2).take (x.1 - x.2.2.2))) Tb.sl_43 Tb.zi_9 rfl rfl rfl m9z hx.1 h9z (by have := hx.2.len; omega) om rfl dc (fun h9 ho9 => ?_)
  refine za rfl (zn (TC.region (zm rfl (zq (PV.add rfl rfl om) rfl (za rfl (TL.nil (TQ.blkN (TQ.thenC (TC.region (zm rfl (zq (PV.add rfl rfl om) rfl (za rfl (TL.nil (TQ.thenN (TQ.backK (x.1 + 1, h9, x.2.2.1 ++ [((L.drop x.2.2.2).take (x.1 - x.2.2.2))], x.1 + 1) l9z l9z (List.Sublist.append (List.Sublist.refl _) (List.sublist_cons_self _ _)) ⟨ho9, hx.2.last om⟩ (by simp only; omega))))))))))))))))
  refine zm rfl (zm rfl (zq (PV.indexS (j := x.1) rfl rfl Tb.str_9 rfl om) rfl (zq (PV.eqU8 (c0 := 32) rfl rfl) rfl (zq (PV.pickF rfl rfl) rfl (zn (TC.cd rfl (fun h32 => ?_) (fun h32 => ?_)))))))
  refine TC.seq ?_
  have hwn := hx.2.len
  refine TC.region (zm rfl (zm rfl (zm rfl (zm rfl (zq (PV.slS (l := x.2.2.2) (h := x.1) rfl rfl rfl Tb.str_9 rfl rfl om om) rfl (TL.buildSlice (cs := #[str ((L.drop x.2.2.2).take (x.1 - x.2.2.2))]) rfl Tb.sl_43 Tb.zi_9 dc (fill_s ((L.drop x.2.2.2).take (x.1 - x.2.2.2))) dc rfl dc (fun bI hbI => ?_)))))))
  refine TL.appendRec (R := stR) (h0 := x.2.1) (ys := x.2.2.1) (r := ((L.drop x.2.2.2).take (x.1 - x.2.2.2))) Tb.sl_43 Tb.zi_9 rfl rfl rfl m9z hx.1 h9z (by have := hx.2.len; omega) om rfl dc (fun h9 ho9 => ?_)
  refine za rfl (zn (TC.region (zm rfl (zq (PV.add rfl rfl om) rfl (za rfl (TL.nil (TQ.blkN (TQ.thenC (TC.region (zm rfl (zq (PV.add rfl rfl om) rfl (za rfl (TL.nil (TQ.thenN (TQ.backK (x.1 + 1, h9, x.2.2.1 ++ [((L.drop x.2.2.2).take (x.1 - x.2.2.2))], x.1 + 1) l9z l9z (List.Sublist.append (List.Sublist.refl _) (List.sublist_cons_self _ _)) ⟨ho9, hx.2.cut om h32⟩ (by simp only; omega))))))))))))))))
  refine TC.skip (TQ.blkN (TQ.thenC (TC.region (zm rfl (zq (PV.add rfl rfl om) rfl (za rfl (TL.nil (TQ.thenN (TQ.backK (x.1 + 1, x.2.1, x.2.2.1, x.2.2.2) l9z l9z (List.Sublist.refl _) ⟨hx.1, hx.2.skip om h32⟩ (by simp only; omega))))))))))
  refine TC.exit (TQ.thenE (TQ.thenE (TQ.blkS (TQ.thenC (TC.seq (TC.seq ?_))))))
  have hws : x.2.2.1 = wds L := hx.2.z (by have := hx.2.le; omega)
  have hg := hx.1
  have hwl := hx.2.len
  have hle := hx.2.le
  rw [hws] at hg hwl
  rw [hws, ords_len hg]
  have hw1 : 0 < (wds L).length := spl_pos 32 L
  obtain ⟨q1, q1p, q1v⟩ := ords_now hg (k := 0) hw1
  refine TC.region (zm rfl (zq (PV.indexA (j := 0) rfl q1p rfl Tb.elm_43 rfl hw1) rfl (zq (PV.loadO (h := x.2.1) (L := wds L) (k := 0) rfl Tb.one_9 r9z q1v) rfl ?_)))
  refine TL.call rfl Tb.gofn_113 (fun a w hs => count_ok w _) rfl dc (fun _ _ => ?_)
  refine zm rfl (zq (PV.len rfl Tb.sl_43) rfl (zq (PV.sub rfl rfl om) rfl (zq (PV.neq rfl rfl) rfl (zn (TC.cd rfl (fun hc => ?_) (fun hc => ?_))))))
  refine zr (zq (PV.build rfl Tb.zero_118 Tb.pl_118 rfl) rfl (TL.storeAgg (vs := [str [], .slice none 0 0]) rfl rfl Tb.cells_118 u9z rfl rfl rfl rfl rfl ?_))
  refine za rfl (zt (TQ.thenR (TQ.retR rfl (Res.agg rfl Tb.agg_118 m9z rfl (Res.tmp rfl Res.nil)) ?_)))
  simp only [tup]
  have hp := prs_cnt (L := L) hc
  exact ⟨none, by rw [hp]; rfl, by rw [hp]; trivial, by rw [hp]; exact nils⟩
  refine TC.skip (TQ.thenC (zr (zm rfl (zq (PV.indexA (j := 0) rfl q1p rfl Tb.elm_43 rfl hw1) rfl (zq (PV.loadO (h := x.2.1) (L := wds L) (k := 0) rfl Tb.one_9 r9z q1v) rfl ?_)))))
  refine zq (PV.build rfl Tb.zero_118 Tb.pl_118 (fill_118 _)) rfl (TL.alloc Tb.zero_118 rfl dc (fun b1 hb1 => ?_))
  refine TL.storeAgg (vs := [str ((wds L).getD 0 []), .slice none 0 0]) rfl rfl Tb.cells_118 u9z rfl rfl rfl rfl rfl ?_
  refine zn (TC.seq (zr (za rfl (zn (TC.block (TC.loopK [2, 4, 7] (X := Nat × HD) (fun y => 1 ≤ y.1 ∧ y.1 ≤ (wds L).length ∧ goI (y.2, nmS L y.1) ∧ ∀ j, 1 ≤ j → j < y.1 → isNum ((wds L).getD j []) = true) (fun y => [(8, .int .i64 (y.1 : Nat))]) (fun y => (b1, Obj.cells #[str ((wds L).getD 0 []), gval y.2 (nmS L y.1).length] 118 (0, 0)) :: (gbI (y.2, nmS L y.1) ++ (gbR stR 9 x.2.1 (wds L) ++ [(b0, Obj.cells #[str [], .slice none 0 0] 118 (0, 0))]))) (fun y => (wds L).length - y.1) (1, none) ⟨Nat.le_refl _, hw1, (by have e : nmS L 1 = [] := (by show (((wds L).take 1).drop 1).map nv = []; rw [List.drop_eq_nil_of_le (by rw [List.length_take]; omega)]; rfl); show goI (none, nmS L 1); rw [e]; exact ⟨rfl, rfl⟩), fun j h1 h2 => by omega⟩ l9z (List.Sublist.refl _) ?_))))))
  intro y hy
  have hy1 := hy.1
  have hy2 := hy.2.1
  refine TC.seq (zr (zm rfl (zm rfl (zq (PV.len rfl Tb.sl_43) rfl (zq (PV.lss rfl rfl) rfl (zn (TC.cd rfl (fun hk2 => ?_) (fun hk2 => ?_))))))))
  refine TC.skip (TQ.thenC (TC.seq (TC.block (TC.seq ?_))))
  obtain ⟨q2, q2p, q2v⟩ := ords_now hg (k := y.1) (by omega)
  refine TC.region (zm rfl (zm rfl (zq (PV.indexA (j := y.1) rfl q2p rfl Tb.elm_43 rfl om) rfl (zq (PV.loadO (h := x.2.1) (L := wds L) (k := y.1) rfl Tb.one_9 r9z q2v) rfl ?_))))
  refine TL.call rfl Tb.gofn_114 (fun a w hs => number_ok w (hW.new hs.new) _) rfl dc (fun _ _ => ?_)
  refine zm rfl (zq (PV.extract rfl rfl) rfl (zq (PV.extract rfl rfl) rfl (za rfl (za rfl (zn (TC.seq (zr (zm rfl (zq ((by first | exact PV.notD rfl | exact PV.not rfl)) rfl ?_)))))))))
  refine zn (TC.cd rfl (fun hn => ?_) (fun hn => ?_))
  have hn0 : isNum ((wds L).getD y.1 []) = false := by simpa using hn
  refine zr (zq (PV.build rfl Tb.zero_118 Tb.pl_118 rfl) rfl (TL.storeAgg (vs := [str [], .slice none 0 0]) rfl rfl Tb.cells_118 u9z rfl rfl rfl rfl rfl ?_))
  refine za rfl (zt (TQ.thenR (TQ.blkR (TQ.thenR (TQ.thenR (TQ.blkR (TQ.thenR (TQ.retR rfl (Res.agg rfl Tb.agg_118 m9z rfl (Res.tmp rfl Res.nil)) ?_))))))))
  simp only [tup]
  have hp := prs_bad (L := L) (show y.1 < (wds L).length by omega) hy1 hn0
  exact ⟨none, by rw [hp]; rfl, by rw [hp]; trivial, by rw [hp]; exact nils⟩
  have hn1 : isNum ((wds L).getD y.1 []) = true := by simpa using hn
  refine TC.skip (TQ.thenC (TC.region (zq (PV.fieldAddr rfl Tb.fo_118_1) rfl (zq (PV.load (v := gval y.2 (nmS L y.1).length) rfl Tb.one_25 m9z rfl) rfl ?_))))
  refine zm rfl (TL.buildSlice rfl Tb.sl_25 Tb.zi_3 dc (C.fill_i _) dc rfl dc (fun bI hbI => ?_))
  refine TL.appendI (x0 := (y.2, nmS L y.1)) rfl rfl m9z hy.2.2.1 h9z (by have := nm_len L y.1; show (nmS L y.1).length ≤ 1000000; omega) rfl dc (fun h8 ho8 => ?_)
  refine zq (PV.fieldAddr rfl Tb.fo_118_1) rfl (TL.store rfl rfl Tb.cells_25 (gval_one _ _) u9z e9z rfl rfl ?_)
  refine TL.nil (TQ.blkN (TQ.thenC (TC.region (zm rfl (zq (PV.add rfl rfl om) rfl (za rfl (TL.nil (TQ.thenN (TQ.perm (G' := (b1, Obj.cells #[str ((wds L).getD 0 []), gval h8 (nmS L (y.1 + 1)).length] 118 (0, 0)) :: (gbI (h8, nmS L (y.1 + 1)) ++ (gbR stR 9 x.2.1 (wds L) ++ ([(b0, Obj.cells #[str [], .slice none 0 0] 118 (0, 0))] ++ [(bI, Obj.cells #[.int .i64 (nv ((wds L).getD y.1 []))] 3 (0, 0))])))) (perm_of fun c9 => by rw [nm_next hy1 om, show (#[str ((wds L).getD 0 []), gval y.2 (nmS L y.1).length] : Array Value).setIfInBounds (0 + 1) (gval h8 (nmS L y.1 ++ [nv ((wds L).getD y.1 [])]).length) = #[str ((wds L).getD 0 []), gval h8 (nmS L y.1 ++ [nv ((wds L).getD y.1 [])]).length] from rfl]; simp only [List.map_append, List.sum_append, List.map_cons, List.sum_cons, List.map_nil, List.sum_nil]; omega) ?_)))))))))
  refine TQ.backK (y.1 + 1, h8) l9z l9z (List.Sublist.cons_cons _ (List.Sublist.append_left (List.Sublist.append_left (List.sublist_append_left _ _) _) _)) ⟨by simp only; omega, by simp only; omega, by show goI (h8, nmS L (y.1 + 1)); rw [nm_next hy1 om]; exact ho8, fun j h1 h2 => if e : j < y.1 then hy.2.2.2 j h1 e else (show y.1 = j by simp only at h2; omega) ▸ hn1⟩ (by simp only; omega)
  refine TC.exit (TQ.thenE (TQ.thenE (TQ.blkS (TQ.thenC (zr (zq (PV.loadBox (cs := [str ((wds L).getD 0 []), gval y.2 (nmS L y.1).length]) rfl Tb.agg_118 m9z rfl) rfl ?_))))))
  refine TL.storeAgg (vs := [str ((wds L).getD 0 []), gval y.2 (nmS L y.1).length]) rfl rfl Tb.cells_118 u9z rfl rfl (by show (true && (Value.oneCell' (gval _ _) && true)) = true; rw [gval_one]; rfl) rfl rfl ?_
  refine za rfl (zt (TQ.retR rfl (Res.agg rfl Tb.agg_118 m9z rfl (Res.tmp rfl Res.nil)) ?_))
  simp only [tup]
  have hke : y.1 = (wds L).length := by omega
  obtain ⟨k, hkd⟩ := cnt_kd (w := (wds L).getD 0 []) (n := (wds L).length - 1) (by have := Decidable.not_not.1 hc; omega)
  have hp := prs_o (L := L) hkd (show (wds L).length = 1 + ((wds L).length - 1) by omega) (nm_all hke hy.2.2.2)
  exact ⟨y.2, by rw [hp, nm_end hke]; rfl, by rw [hp]; show goI (y.2, ((wds L).drop 1).map nv); rw [← nm_end hke]; exact hy.2.2.1, by rw [hp]; show List.Sublist (gbI (y.2, ((wds L).drop 1).map nv)) _; rw [← nm_end hke]; exact List.Sublist.cons _ (List.sublist_append_left _ _)⟩
end Go.Proofs.YtbnjmkidbfmomaaGreatDoor
