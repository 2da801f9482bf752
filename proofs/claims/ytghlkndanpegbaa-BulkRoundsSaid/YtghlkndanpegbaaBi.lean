/- What improves a plan; copies of tables: contracts. -/
import Derived.Test.YtghlkndanpegbaaBh
set_option linter.unusedVariables false
set_option linter.unusedSimpArgs false
namespace Go.Proofs.Ytghlkndanpegbaa
open Go.Sx Go.RowKit Go.Sand Go.Tp

/-- What is found for a plan: prices, or a round. -/
inductive Imp where
  | pr (hu hv : HD) (us vs : List Int)
  | sh (h : HD) (l : List Pr)
def Imp.val : Imp → Value
  | .pr hu hv us vs => .iface 96 (.agg #[gval hu us.length, gval hv vs.length])
  | .sh h l => .iface 82 (gval h l.length)
def Imp.D : Imp → Heap
  | .pr hu hv us vs => gbI (hv, vs) ++ gbI (hu, us)
  | .sh h l => gbR prR 84 h l
/-- Prices that prove a plan. -/
structure GdP (S B : Nat) (c x : Mat) (us vs : List Int) : Prop where
  lu : us.length = S
  lv : vs.length = B
  bu : ∀ i, i < S → -1000 ≤ us.getD i 0 ∧ us.getD i 0 ≤ 1000
  bv : ∀ j, j < B → -1000 ≤ vs.getD j 0 ∧ vs.getD j 0 ≤ 1000
  hon : Hon S B c (fun i => us.getD i 0) (fun j => vs.getD j 0)
  ti : Tight S B c x (fun i => us.getD i 0) (fun j => vs.getD j 0)
/-- A round along which the cost falls. -/
structure GdR (S B : Nat) (c x : Mat) (l : List Pr) (g : Nat → Nat × Nat) : Prop where
  e : l = prL l.length g
  r : Rnd S B l.length g
  l8 : l.length ≤ 8
  neg : rcst c l.length g < 0
  odd : ∀ m, 2 * m + 1 < l.length → 0 < x (g (2 * m + 1)).1 (g (2 * m + 1)).2
def Imp.ok (S B : Nat) (c x : Mat) : Imp → Prop
  | .pr hu hv us vs => goI (hu, us) ∧ goI (hv, vs) ∧ GdP S B c x us vs
  | .sh h l => goR prR h l ∧ ∃ g, GdR S B c x l g
theorem gdP_of {S B k i : Nat} {c x : Mat} {low : Int} {s : LS} (h : PhS S B c x k (lex i 0) low s) (hi : S ≤ i) (hl : low < 0) (hk : k ≤ 4) : GdP S B c x (mk S fun i => -s.a i) (mk B s.b) := by
  obtain ⟨h1, h2⟩ := h.prices hi hl
  refine ⟨mk_len _ _, mk_len _ _, fun i hi => ?_, fun j hj => ?_, fun i j hi hj => ?_, fun i j hi hj hx => ?_⟩
  · rw [mk_at _ hi]
    have := h.aB i hi
    omega
  · rw [mk_at _ hj]
    have := h.bB j hj
    omega
  · show (mk S _).getD i 0 + (mk B _).getD j 0 ≤ _
    rw [mk_at _ hi, mk_at _ hj]
    exact h1 i j hi hj
  · show (mk S _).getD i 0 + (mk B _).getD j 0 = _
    rw [mk_at _ hi, mk_at _ hj]
    exact h2 i j hi hj hx
theorem gdR_of {S B y L : Nat} {c x : Mat} {s : LS} (h : Cyc S B c x s y L) (hS : S ≤ 4) : GdR S B c x (prL (2 * L) (gy s y)) (gy s y) := by
  have hl : (prL (2 * L) (gy s y)).length = 2 * L := prL_len _ _
  have := h.le
  refine ⟨by rw [hl], by rw [hl]; exact h.rnd, by omega, by rw [hl]; exact h.cost, fun m _ => h.odd m⟩
theorem nil22_guard (x y : Operand) (a : Option Addr) (k c : Nat) (w : World) : (eqGuard .eql 22 x y (.slice a k c) (.slice none 0 0)).run Try.prog w = .ok () w := by simp [eqGuard]
theorem nil22 (a : Option Addr) (k c : Nat) (w : World) : (binOp .eql 22 (.slice a k c) (.slice none 0 0)).run Try.prog w = .ok (.bool a.isNone) w := Go.Lib.run_eql_slice_nil w 22 3 a k c 0 0 Tb.sl_22
/-- Rows, as far as they are copied. -/
structure CpS (m : List (List Int)) (k : Nat) (h : HD) (rs : List RW) : Prop where
  len : rs.length = m.length
  go : goR rwR h rs
  ok : rwOk rs
  l : ∀ j, j < m.length → (rs.getD j default).l = if j < k then m.getD j [] else []
theorem CpS.zero {m : List (List Int)} {b n : Nat} (hn : m.length = n) : CpS m 0 (some (b, n, [])) (List.replicate n ⟨none, []⟩) := by
  subst hn
  refine ⟨List.length_replicate, rw_go0 b _, rw_ok0 _, fun j hj => ?_⟩
  rw [if_neg (Nat.not_lt_zero _), show (List.replicate m.length (⟨none, []⟩ : RW)).getD j default = ⟨none, []⟩ by simp [List.getD, hj]]
theorem CpS.none {m : List (List Int)} {k : Nat} {h : HD} {rs : List RW} (s : CpS m k h rs) (hk : k < m.length) : (rs.getD k default).h = none ∧ (rs.getD k default).l = [] → True := fun _ => trivial
theorem CpS.step {m : List (List Int)} {k : Nat} {h h' : HD} {rs : List RW} (s : CpS m k h rs) (hk : k < m.length) (ho : goI (h', m.getD k [])) : CpS m (k + 1) h (rs.set k ⟨h', m.getD k []⟩) := by
  have hl := s.len
  refine ⟨by rw [List.length_set]; exact hl, goR_len s.go (by simp), s.ok.set ho k, fun j hj => ?_⟩
  rw [List.getD_eq_getElem?_getD, List.getElem?_set]
  by_cases e : k = j
  · subst e
    rw [if_pos rfl, if_pos (by omega), if_pos (Nat.lt_succ_self _)]
    rfl
  · rw [if_neg e, ← List.getD_eq_getElem?_getD, s.l j hj]
    by_cases e2 : j < k
    · rw [if_pos e2, if_pos (by omega)]
    · rw [if_neg e2, if_neg (by omega)]
theorem CpS.fin {m : List (List Int)} {k : Nat} {h : HD} {rs : List RW} (s : CpS m k h rs) (hk : m.length ≤ k) : rs.map RW.l = m := by
  have hl := s.len
  refine List.ext_getElem (by rw [List.length_map]; exact hl) fun j h1 h2 => ?_
  have h3 := s.l j h2
  rw [if_pos (by omega)] at h3
  rw [List.getElem_map]
  have e1 : rs.getD j default = rs[j]'(by omega) := by simp [List.getD, show j < rs.length by omega]
  have e2 : m.getD j [] = m[j] := by simp [List.getD, h2]
  rw [← e1, ← e2, h3]


set_option maxRecDepth 100000 in
set_option maxHeartbeats 1000000 in
theorem clone_ok (w0 : World) (pl : Option Addr) (cl : Nat) (xs : List Int) (hx : IntsAt w0 pl xs) (hl : xs.length ≤ 1000000) :
    Calls Try.prog 80 #[.slice pl xs.length cl] w0 (Post (X := HD) (fun h => gval h xs.length) (fun h => goI (h, xs)) (fun h => gbI (h, xs)) w0) := by
  refine calls Try.func80 rfl (n := 8) rfl (by simp) ?_
  refine TC.seq ?_
  refine TC.region ?_
  refine TL.pure (PV.assign rfl) rfl (by decide) ?_
  refine TL.nil ?_
  refine TQ.thenC ?_
  refine TC.seq ?_
  refine TC.seq ?_
  refine TC.region ?_
  refine TL.pure (PV.move rfl) rfl (by decide) ?_
  refine TL.pure (PV.cmp rfl rfl (nil22_guard _ _ _ _ _) (nil22 _ _ _)) rfl (by decide) ?_
  refine TL.nil ?_
  refine TQ.thenC ?_
  first | refine TC.condD rfl (fun hnil => ?_) (fun hnil => ?_) | refine TC.cond rfl (fun hnil => ?_) (fun hnil => ?_)
  · skip
    refine TC.seq ?_
    refine TC.region ?_
    refine TL.pure (PV.assign rfl) rfl (by decide) ?_
    refine TL.nil ?_
    refine TQ.thenC ?_
    refine TC.ret ?_
    refine TQ.thenR ?_
    refine TQ.retE1 rfl rfl ?_
    have hp0 : pl = none := by simpa using hnil
    subst hp0
    have hx0 := ints_nil hx
    subst hx0
    exact ⟨none, rfl, ⟨rfl, rfl⟩, List.nil_sublist _⟩
  · skip
    refine TC.skip ?_
    refine TQ.thenC ?_
    refine TC.seq ?_
    refine TC.region ?_
    refine TL.buildSlice0 Tb.sl_22 Tb.zi_3 rfl (by decide) (fun bE hbE => ?_)
    refine TL.pure (PV.move rfl) rfl (by decide) ?_
    refine TL.append0 (news := ival xs) rfl rfl Tb.sl_22 Tb.zi_3 rfl (Take.head _) (fun w' hN => ints_src Tb.sl_22 rfl (hx.new hN)) (by omega) (by omega) rfl (by decide) (fun h1 hh1 => ?_)
    refine TL.pure (PV.assign rfl) rfl (by decide) ?_
    refine TL.nil ?_
    refine TQ.thenC ?_
    refine TC.ret ?_
    refine TQ.retE1 rfl rfl ?_
    exact ⟨h1, rfl, by simpa [goI] using hh1, List.sublist_append_left _ _⟩

set_option maxRecDepth 100000 in
set_option maxHeartbeats 2000000 in
theorem copied_ok (w0 : World) (vg : Value) (m : List (List Int)) (hg : IsG w0 vg m) (hM : SmG m) :
    Calls Try.prog 99 #[vg] w0 (Post (X := HD × List RW) (fun y => gval y.1 m.length) (fun y => goR rwR y.1 y.2 ∧ rwOk y.2 ∧ y.2.map RW.l = m) (fun y => gbR rwR 22 y.1 y.2 ++ rwB y.2) w0) := by
  obtain ⟨pg, cg, rfl, g1⟩ := hg
  have hM0 := hM.1
  refine calls Try.func99 rfl (n := 23) rfl (by simp) ?_
  refine TC.seq ?_
  refine TC.region ?_
  refine TL.pure (PV.assign rfl) rfl (by decide) ?_
  refine TL.nil ?_
  refine TQ.thenC ?_
  refine TC.seq ?_
  refine TC.region ?_
  refine TL.pure (PV.move rfl) rfl (by decide) ?_
  refine TL.pure (PV.len rfl Tb.sl_23) rfl (by decide) ?_
  refine TL.make (k := m.length) rfl rfl Tb.sl_23 Tb.zi_22 rfl rfl (by omega) (by omega) rfl (by decide) (fun bO hbO => ?_)
  refine TL.congrG (G' := gbR rwR 22 (some (bO, m.length, [])) (List.replicate m.length ⟨none, []⟩) ++ (rwB (List.replicate m.length ⟨none, []⟩) ++ [])) (by rw [← List.append_assoc, ← rw_blk0, rwB_none]; rfl) ?_
  refine TL.pure (PV.assign rfl) rfl (by decide) ?_
  refine TL.nil ?_
  refine TQ.thenC ?_
  refine TC.seq ?_
  refine TC.seq ?_
  refine TC.region ?_
  refine TL.pure (PV.move rfl) rfl (by decide) ?_
  refine TL.pure (PV.len rfl Tb.sl_23) rfl (by decide) ?_
  refine TL.pure (PV.move rfl) rfl (by decide) ?_
  refine TL.nil ?_
  refine TQ.thenC ?_
  refine TC.block ?_
  refine TC.lit [(2, _), (3, _), (9, _), (10, _), (11, _)] (by repeat (first | exact True.intro | refine And.intro rfl ?_)) ?_
  refine TC.loopK [2, 3, 9, 10] (X := Nat × List RW) (fun x => x.1 ≤ m.length ∧ CpS m x.1 (some (bO, m.length, [])) x.2) (fun x => [(11, .int .i64 x.1)]) (fun x => gbR rwR 22 (some (bO, m.length, [])) x.2 ++ (rwB x.2 ++ [])) (fun x => m.length - x.1) (0, List.replicate m.length ⟨none, []⟩) ⟨Nat.zero_le _, CpS.zero rfl⟩ (by repeat (first | exact True.intro | refine And.intro rfl ?_)) (List.Sublist.refl _) ?_
  intro x hx9
  refine TC.lit [(2, _), (3, _), (9, _), (10, _), (11, _)] (by repeat (first | exact True.intro | refine And.intro rfl ?_)) ?_
  refine TC.seq ?_
  refine TC.region ?_
  refine TL.pure (PV.lss rfl rfl) rfl (by decide) ?_
  refine TL.nil ?_
  refine TQ.thenC ?_
  refine TC.seq ?_
  first | refine TC.condD rfl (fun hlt => ?_) (fun hlt => ?_) | refine TC.cond rfl (fun hlt => ?_) (fun hlt => ?_)
  · skip
    refine TC.skip ?_
    refine TQ.thenC ?_
    refine TC.seq ?_
    refine TC.block ?_
    refine TC.seq ?_
    obtain ⟨q1, hq1p, q1p, q1c, hq1, hq1r⟩ := g1 x.1 (by omega)
    have hMk := hM.2 x.1
    have hxl := hx9.2.len
    have hxg := hx9.2.go
    have hgk : gok (some (bO, m.length, [])) m.length 1 (rcs rwR x.2) := by have h5 := hxg; unfold goR at h5; rw [hxl] at h5; exact h5
    refine TC.region ?_
    refine TL.pure (PV.move rfl) rfl (by decide) ?_
    refine TL.pure (PV.indexA (j := x.1) rfl hq1p rfl Tb.elm_23 rfl (by omega)) rfl (by decide) ?_
    refine TL.pure (PV.loadOld rfl Tb.one_22 hq1) rfl (by decide) ?_
    refine TL.pure (PV.assign rfl) rfl (by decide) ?_
    refine TL.pure (PV.assign rfl) rfl (by decide) ?_
    refine TL.nil ?_
    refine TQ.thenC ?_
    refine TC.region ?_
    refine TL.pure (PV.move rfl) rfl (by decide) ?_
    refine TL.pure (PV.move rfl) rfl (by decide) ?_
    refine TL.pure (PV.move rfl) rfl (by decide) ?_
    refine TL.call rfl Tb.gofn_80 (fun a w hs => clone_ok w _ _ _ (hq1r.new hs.new) hMk) rfl (by decide) (fun hh hhh => ?_)
    refine TL.pure (PV.indexG (h := some (bO, m.length, [])) (len := m.length) (ys := rcs rwR x.2) (j := x.1) rfl rfl hgk Tb.elm_23 rfl (by omega)) rfl (by decide) ?_
    refine TL.putCell (R := rwR) (h := some (bO, m.length, [])) (l0 := x.2) (j := x.1) (f := 0) (v := gval hh (m.getD x.1 []).length) (r := ⟨hh, m.getD x.1 []⟩) (e := 22) rfl rfl Tb.cells_22 (gval_one _ _) hxg rfl (by repeat (first | exact PutH.here _ _ _ _ | apply PutH.tail | apply PutH.app)) (by omega) Nat.one_pos rfl rfl ?_
    refine TL.nil ?_
    refine TQ.blkN ?_
    refine TQ.thenC ?_
    refine TC.region ?_
    refine TL.pure (PV.add rfl rfl (by omega)) rfl (by decide) ?_
    refine TL.pure (PV.move rfl) rfl (by decide) ?_
    refine TL.nil ?_
    refine TQ.thenN ?_
    refine TQ.perm (G' := gbR rwR 22 (some (bO, m.length, [])) (x.2.set x.1 ⟨hh, m.getD x.1 []⟩) ++ (rwB (x.2.set x.1 ⟨hh, m.getD x.1 []⟩) ++ gbI ((x.2.getD x.1 default).h, (x.2.getD x.1 default).l))) (perm_of fun c9 => by rw [rwB_set (by omega)]; have h5 := congrArg (fun l => (l.map c9).sum) (rwB_at (rs := x.2) (show x.1 < x.2.length by omega) []); simp only [List.map_append, List.sum_append, List.map_cons, List.sum_cons, List.map_nil, List.sum_nil, gbI, gbR] at h5 ⊢; omega) ?_
    refine TQ.backK (x.1 + 1, x.2.set x.1 ⟨hh, m.getD x.1 []⟩) (by repeat (first | exact True.intro | refine And.intro rfl ?_)) (by repeat (first | exact True.intro | refine And.intro rfl ?_)) (List.Sublist.append_left (List.Sublist.append_left (List.nil_sublist _) _) _) ⟨by simp only; omega, hx9.2.step (by omega) hhh⟩ (by simp only; omega)
  · skip
    refine TC.exit ?_
    refine TQ.thenE ?_
    refine TQ.thenE ?_
    refine TQ.blkS ?_
    refine TQ.thenC ?_
    refine TC.seq ?_
    refine TC.region ?_
    refine TL.pure (PV.move rfl) rfl (by decide) ?_
    refine TL.pure (PV.assign rfl) rfl (by decide) ?_
    refine TL.nil ?_
    refine TQ.thenC ?_
    refine TC.ret ?_
    refine TQ.retE1 rfl rfl ?_
    exact ⟨(some (bO, m.length, []), x.2), rfl, ⟨hx9.2.go, hx9.2.ok, hx9.2.fin (by omega)⟩, by simp only [List.append_nil]; exact List.Sublist.refl _⟩

set_option maxRecDepth 100000 in
set_option maxHeartbeats 4000000 in
theorem improve_ok (w0 : World) (vt : Value) (t : Td) (ht : IsT w0 vt t) (hV : VT t) (vg : Value) (m : List (List Int)) (hg : IsG w0 vg m) (hm : Gr t.s.length t.d.length 120 m) :
    Calls Try.prog 70 #[vt, vg] w0 (Post (X := Imp) (Imp.val) (Imp.ok t.s.length t.d.length (getM t.c) (getM m)) (Imp.D) w0) := by
  have ht0 := ht
  obtain ⟨p1, c1, p2, c2, p3, c3, rfl, t1, t2, t3⟩ := ht
  have hg0 := hg
  obtain ⟨pg, cg, rfl, g1⟩ := hg
  have hns := hV.ns
  have hnd := hV.nd
  refine calls Try.func70 rfl (n := 31) rfl (by simp) ?_
  refine TC.seq ?_
  refine TC.region ?_
  refine TL.box rfl rfl (by decide) (fun b0 hb0 => ?_)
  refine TL.pure (PV.assign rfl) rfl (by decide) ?_
  refine TL.nil ?_
  refine TQ.thenC ?_
  refine TC.seq ?_
  refine TC.region ?_
  refine TL.pure (PV.loadBox rfl Tb.agg_25 (by repeat (first | exact List.Mem.head _ | refine List.Mem.tail _ ?_ | refine List.mem_append_right _ ?_)) rfl) rfl (by decide) ?_
  refine TL.call rfl Tb.gofn_90 (fun a w hs => startLabels_ok w _ t (IsT.mk (t1.new hs.new) (t2.new hs.new) (t3.new hs.new)) hV) rfl (by decide) (fun y9 hy9 => ?_)
  refine TL.alloc Tb.zero_99 rfl (by decide) (fun b1 hb1 => ?_)
  refine TL.storeAgg (vs := [gval y9.1 t.s.length, gval y9.2 t.d.length]) rfl rfl Tb.cells_99 (by repeat (first | exact Upd.head _ | apply Upd.tail | apply Upd.appR)) rfl rfl (gv2_one _ _ _ _) rfl rfl ?_
  refine TL.nil ?_
  refine TQ.thenC ?_
  refine TC.seq ?_
  refine TC.region ?_
  refine TL.pure (PV.assign rfl) rfl (by decide) ?_
  refine TL.nil ?_
  refine TQ.thenC ?_
  refine TC.seq ?_
  refine TC.seq ?_
  refine TC.region ?_
  refine TL.pure (PV.fieldAddr rfl Tb.fo_25_0) rfl (by decide) ?_
  refine TL.pure (PV.load rfl Tb.one_22 (by repeat (first | exact List.Mem.head _ | refine List.Mem.tail _ ?_ | refine List.mem_append_right _ ?_)) rfl) rfl (by decide) ?_
  refine TL.pure (PV.len rfl Tb.sl_22) rfl (by decide) ?_
  refine TL.pure (PV.move rfl) rfl (by decide) ?_
  refine TL.nil ?_
  refine TQ.thenC ?_
  refine TC.block ?_
  -- live and written in the loop, not told: [4]
  refine TC.lit [(1, _), (2, _), (5, _), (6, _), (11, _), (12, _)] (by repeat (first | exact True.intro | refine And.intro rfl ?_)) ?_
  refine TC.perm (G' := LD t.s.length t.d.length y9.1 y9.2 s0 [(b1, Obj.cells #[gval y9.1 t.s.length, gval y9.2 t.d.length] 99 (0, 0)), (b0, Obj.cells #[.slice p1 t.s.length c1, .slice p2 t.d.length c2, .slice p3 t.c.length c3] 25 (0, 0))]) (perm_of fun c9 => by simp only [LD, List.map_append, List.sum_append, List.map_cons, List.sum_cons, List.map_nil, List.sum_nil, Value.cells]; try omega) ?_
  refine TC.loopK [1, 2, 5, 11] (X := Nat × Int × LS) (fun x => x.1 ≤ t.s.length ∧ PhB t.s.length t.d.length (getM t.c) (getM m) x.1 (lex 0 0) x.2.2 ∧ (0 < x.1 → ∃ i : Nat, x.2.1 = i ∧ i < t.s.length ∧ x.2.2.ta i = x.1)) (fun x => [(12, .int .i64 x.1), (6, .int .i64 x.2.1)]) (fun x => LD t.s.length t.d.length y9.1 y9.2 x.2.2 [(b1, Obj.cells #[gval y9.1 t.s.length, gval y9.2 t.d.length] 99 (0, 0)), (b0, Obj.cells #[.slice p1 t.s.length c1, .slice p2 t.d.length c2, .slice p3 t.c.length c3] 25 (0, 0))]) (fun x => t.s.length - x.1) (0, -1, s0) ⟨Nat.zero_le _, PhB.zero hV.cb _ _, fun h => absurd h (Nat.lt_irrefl _)⟩ (by repeat (first | exact True.intro | refine And.intro rfl ?_)) (List.Sublist.refl _) ?_
  intro x hx9
  refine TC.lit [(1, _), (2, _), (5, _), (6, _), (11, _), (12, _)] (by repeat (first | exact True.intro | refine And.intro rfl ?_)) ?_
  refine TC.seq ?_
  refine TC.region ?_
  refine TL.pure (PV.lss rfl rfl) rfl (by decide) ?_
  refine TL.nil ?_
  refine TQ.thenC ?_
  refine TC.seq ?_
  first | refine TC.condD rfl (fun hlt => ?_) (fun hlt => ?_) | refine TC.cond rfl (fun hlt => ?_) (fun hlt => ?_)
  · skip
    refine TC.skip ?_
    refine TQ.thenC ?_
    refine TC.seq ?_
    refine TC.block ?_
    refine TC.seq ?_
    refine TC.region ?_
    refine TL.pure (PV.loadBox (cs := [gval y9.1 t.s.length, gval y9.2 t.d.length]) rfl Tb.agg_99 (by repeat (first | exact List.Mem.head _ | refine List.Mem.tail _ ?_ | refine List.mem_append_right _ ?_)) rfl) rfl (by decide) ?_
    refine TL.pure (PV.loadBox rfl Tb.agg_25 (by repeat (first | exact List.Mem.head _ | refine List.Mem.tail _ ?_ | refine List.mem_append_right _ ?_)) rfl) rfl (by decide) ?_
    refine TL.callW (X := LS) (fun _ => .tuple #[]) (fun s => PhS t.s.length t.d.length (getM t.c) (getM m) x.1 (lex 0 0) (-1) s) (fun s => LD t.s.length t.d.length y9.1 y9.2 s [(b1, Obj.cells #[gval y9.1 t.s.length, gval y9.2 t.d.length] 99 (0, 0)), (b0, Obj.cells #[.slice p1 t.s.length c1, .slice p2 t.d.length c2, .slice p3 t.c.length c3] 25 (0, 0))]) rfl Tb.gofn_91 (fun a w hs => lowerBuyers_ok (R9 := [(b1, Obj.cells #[gval y9.1 t.s.length, gval y9.2 t.d.length] 99 (0, 0)), (b0, Obj.cells #[.slice p1 t.s.length c1, .slice p2 t.d.length c2, .slice p3 t.c.length c3] 25 (0, 0))]) y9.1 y9.2 _ t ht0 hV x.2.2 (getM m) x.1 (by omega) hy9.1 hy9.2 hs.new hx9.2.1) rfl (by decide) (fun s9 hs9 => ?_)
    refine TL.nil ?_
    refine TQ.thenC ?_
    refine TC.seq ?_
    refine TC.region ?_
    refine TL.pure (PV.loadBox (cs := [gval y9.1 t.s.length, gval y9.2 t.d.length]) rfl Tb.agg_99 (by repeat (first | exact List.Mem.head _ | refine List.Mem.tail _ ?_ | refine List.mem_append_right _ ?_)) rfl) rfl (by decide) ?_
    refine TL.pure (PV.loadBox rfl Tb.agg_25 (by repeat (first | exact List.Mem.head _ | refine List.Mem.tail _ ?_ | refine List.mem_append_right _ ?_)) rfl) rfl (by decide) ?_
    refine TL.pure (PV.move rfl) rfl (by decide) ?_
    refine TL.callW (X := Int × LS) (fun y => .int .i64 y.1) (fun y => PhS t.s.length t.d.length (getM t.c) (getM m) x.1 (lex t.s.length 0) y.1 y.2) (fun y => LD t.s.length t.d.length y9.1 y9.2 y.2 [(b1, Obj.cells #[gval y9.1 t.s.length, gval y9.2 t.d.length] 99 (0, 0)), (b0, Obj.cells #[.slice p1 t.s.length c1, .slice p2 t.d.length c2, .slice p3 t.c.length c3] 25 (0, 0))]) rfl Tb.gofn_92 (fun a w hs => lowerStores_ok (R9 := [(b1, Obj.cells #[gval y9.1 t.s.length, gval y9.2 t.d.length] 99 (0, 0)), (b0, Obj.cells #[.slice p1 t.s.length c1, .slice p2 t.d.length c2, .slice p3 t.c.length c3] 25 (0, 0))]) y9.1 y9.2 _ t ht0 hV _ m hg0 hm s9 x.1 (by omega) hy9.1 hy9.2 hs.new hs9) rfl (by decide) (fun z hz9 => ?_)
    refine TL.pure (PV.assign rfl) rfl (by decide) ?_
    refine TL.nil ?_
    refine TQ.thenC ?_
    refine TC.seq ?_
    refine TC.region ?_
    refine TL.pure (PV.move rfl) rfl (by decide) ?_
    refine TL.pure (PV.lss rfl rfl) rfl (by decide) ?_
    refine TL.nil ?_
    refine TQ.thenC ?_
    first | refine TC.condD rfl (fun hneg => ?_) (fun hneg => ?_) | refine TC.cond rfl (fun hneg => ?_) (fun hneg => ?_)
    · skip
      refine TC.seq ?_
      refine TC.region ?_
      refine TL.pure (PV.loadBox (cs := [gval y9.1 t.s.length, gval y9.2 t.d.length]) rfl Tb.agg_99 (by repeat (first | exact List.Mem.head _ | refine List.Mem.tail _ ?_ | refine List.mem_append_right _ ?_)) rfl) rfl (by decide) ?_
      refine TL.call rfl Tb.gofn_93 (fun a w hs => prices_ok w _ t.s.length t.d.length z.2 (IsL.of hs.new hy9.1 hy9.2 (fun yy hyy => by repeat (first | exact List.mem_append_left _ hyy | exact List.mem_append_left _ (List.mem_append_right _ hyy) | exact List.mem_append_left _ (List.mem_append_left _ hyy) | refine List.mem_append_right _ ?_ | refine List.Mem.tail _ ?_)) (fun yy hyy => by repeat (first | exact List.mem_append_left _ hyy | exact List.mem_append_left _ (List.mem_append_right _ hyy) | exact List.mem_append_left _ (List.mem_append_left _ hyy) | refine List.mem_append_right _ ?_ | refine List.Mem.tail _ ?_))) (by omega) (by omega) (fun i hi => by have := hz9.aB i hi; omega) (fun j hj => by have := hz9.bB j hj; omega)) rfl (by decide) (fun y8 hy8 => ?_)
      refine TL.pure (PV.makeIface rfl conc_96) rfl (by decide) ?_
      refine TL.pure (PV.assign rfl) rfl (by decide) ?_
      refine TL.nil ?_
      refine TQ.thenC ?_
      refine TC.ret ?_
      refine TQ.blkR ?_
      refine TQ.thenR ?_
      refine TQ.thenR ?_
      refine TQ.blkR ?_
      refine TQ.thenR ?_
      refine TQ.retE1 rfl rfl ?_
      exact ⟨.pr y8.1 y8.2 (mk t.s.length fun i => -z.2.a i) (mk t.d.length z.2.b), by simp only [Imp.val, mk_len], ⟨hy8.1, hy8.2, gdP_of hz9 (Nat.le_refl _) hneg (by omega)⟩, List.sublist_append_left _ _⟩
    · skip
      refine TC.skip ?_
      refine TQ.blkN ?_
      refine TQ.thenC ?_
      refine TC.region ?_
      refine TL.pure (PV.add rfl rfl (by omega)) rfl (by decide) ?_
      refine TL.pure (PV.move rfl) rfl (by decide) ?_
      refine TL.nil ?_
      refine TQ.thenN ?_
      refine TQ.backK (x.1 + 1, z.1, z.2) (by repeat (first | exact True.intro | refine And.intro rfl ?_)) (by repeat (first | exact True.intro | refine And.intro rfl ?_)) (List.Sublist.refl _) ⟨by simp only; omega, hz9.fin (Nat.le_refl _), fun _ => hz9.lw.resolve_left (fun h => hneg (by have := h.1; omega))⟩ (by simp only; omega)
  · skip
    refine TC.exit ?_
    refine TQ.thenE ?_
    refine TQ.thenE ?_
    refine TQ.blkS ?_
    refine TQ.thenC ?_
    refine TC.seq ?_
    have hxS : x.1 = t.s.length := by omega
    obtain ⟨i0, hi1, hi0, hta⟩ := hx9.2.2 (by omega)
    rw [hi1]
    refine TC.region ?_
    refine TL.pure (PV.loadBox (cs := [gval y9.1 t.s.length, gval y9.2 t.d.length]) rfl Tb.agg_99 (by repeat (first | exact List.Mem.head _ | refine List.Mem.tail _ ?_ | refine List.mem_append_right _ ?_)) rfl) rfl (by decide) ?_
    refine TL.pure (PV.move rfl) rfl (by decide) ?_
    refine TL.call rfl Tb.gofn_94 (fun a w hs => roundBefore_ok w _ t.s.length t.d.length x.2.2 (IsL.of hs.new hy9.1 hy9.2 (fun yy hyy => by repeat (first | exact List.mem_append_left _ hyy | exact List.mem_append_left _ (List.mem_append_right _ hyy) | exact List.mem_append_left _ (List.mem_append_left _ hyy) | refine List.mem_append_right _ ?_ | refine List.Mem.tail _ ?_)) (fun yy hyy => by repeat (first | exact List.mem_append_left _ hyy | exact List.mem_append_left _ (List.mem_append_right _ hyy) | exact List.mem_append_left _ (List.mem_append_left _ hyy) | refine List.mem_append_right _ ?_ | refine List.Mem.tail _ ?_))) (getM t.c) (getM m) hx9.2.1.toInv i0 hi0 (by omega) (by omega) (by omega)) rfl (by decide) (fun z8 hz8 => ?_)
    refine TL.pure (PV.makeIface rfl conc_82) rfl (by decide) ?_
    refine TL.pure (PV.assign rfl) rfl (by decide) ?_
    refine TL.nil ?_
    refine TQ.thenC ?_
    refine TC.ret ?_
    refine TQ.retE1 rfl rfl ?_
    exact ⟨.sh z8.1 _, by simp only [Imp.val, prL_len], ⟨hz8.1, _, gdR_of hz8.2 (by omega)⟩, List.sublist_append_left _ _⟩

end Go.Proofs.Ytghlkndanpegbaa
