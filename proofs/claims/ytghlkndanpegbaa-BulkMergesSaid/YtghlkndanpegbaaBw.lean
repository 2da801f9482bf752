/- Trades made anew: readers and contracts. -/
import Derived.Test.YtghlkndanpegbaaBs2
set_option linter.unusedVariables false
set_option linter.unusedSimpArgs false
namespace Go.Proofs.Ytghlkndanpegbaa
open Go.Sx Go.RowKit Go.Sand Go.Tp

theorem fill_sss (x y z : Option Addr) (a b c d e f : Nat) : Instr.fill ([(0, 1), (1, 1), (2, 1)][·]?) #[.slice none 0 0, .slice none 0 0, .slice none 0 0] [(0, .slice x a b), (1, .slice y c d), (2, .slice z e f)] = some #[.slice x a b, .slice y c d, .slice z e f] := by kernel_rfl
theorem fill_ss (x y : Option Addr) (a b c d : Nat) : Instr.fill ([(0, 1), (1, 1), (2, 1)][·]?) #[.slice none 0 0, .slice none 0 0, .slice none 0 0] [(0, .slice x a b), (1, .slice y c d)] = some #[.slice x a b, .slice y c d, .slice none 0 0] := by kernel_rfl
/-- A trade that can be read wherever its blocks lie. -/
def RdT (t : Td) (x : Value × Heap) : Prop := ∃ p1 c1 p2 c2 p3 c3, x.1 = .agg #[.slice p1 t.s.length c1, .slice p2 t.d.length c2, .slice p3 t.c.length c3] ∧ ∀ (w0 w : World) (G : Heap), New w0 w G → (∀ y ∈ x.2, y ∈ G) → IntsAt w p1 t.s ∧ IntsAt w p2 t.d ∧ LsAt w p3 t.c
theorem RdT.at {t : Td} {x : Value × Heap} (h : RdT t x) {w0 w : World} {G : Heap} (hn : New w0 w G) (hm : ∀ y ∈ x.2, y ∈ G) : IsT w x.1 t := by
  obtain ⟨p1, c1, p2, c2, p3, c3, e, h⟩ := h
  obtain ⟨h1, h2, h3⟩ := h w0 w G hn hm
  exact ⟨p1, c1, p2, c2, p3, c3, e, h1, h2, h3⟩
def nilT : Td := ⟨[], [], []⟩
def nilV : Value := .agg #[.slice none 0 0, .slice none 0 0, .slice none 0 0]
theorem RdT.nil : RdT nilT (nilV, []) := ⟨none, 0, none, 0, none, 0, rfl, fun _ _ _ _ _ => ⟨fun j hj => absurd hj (Nat.not_lt_zero _), fun j hj => absurd hj (Nat.not_lt_zero _), fun j hj => absurd hj (Nat.not_lt_zero _)⟩⟩
theorem gval_le {h : HD} {len len2 sz : Nat} {ys : List Value} (ho : gok h len sz ys) (e : len2 = len) : gval h len2 = .slice (gp h) len (gc h) := by
  subst e; exact gval_eq ho
theorem RdT.mk {t : Td} {h1 h2 : HD} {v : Value} {G3 : Heap} (a : goI (h1, t.s)) (b : goI (h2, t.d)) (c : RdG t.c (v, G3)) : RdT t (.agg #[gval h1 t.s.length, gval h2 t.d.length, v], G3 ++ (gbI (h2, t.d) ++ gbI (h1, t.s))) := by
  obtain ⟨p3, c3, e, h3⟩ := c
  simp only at e
  subst e
  exact ⟨gp h1, gc h1, gp h2, gc h2, p3, c3, by rw [gval_eq a, gval_eq b], fun w0 w G hn hm => ⟨IntsAt.g (x := (h1, t.s)) hn (fun y hy => hm y (List.mem_append_right _ (List.mem_append_right _ hy))) a, IntsAt.g (x := (h2, t.d)) hn (fun y hy => hm y (List.mem_append_right _ (List.mem_append_left _ hy))) b, h3 w0 w G hn fun y hy => hm y (List.mem_append_left _ hy)⟩⟩
theorem SmT.nil : SmT nilT := ⟨by decide, by decide, by decide, fun k => by simp [nilT, List.getD]⟩
abbrev ClX := HD × HD × HD × List RW
def clV (t : Td) (y : ClX) : Value := .agg #[gval y.1 t.s.length, gval y.2.1 t.d.length, gval y.2.2.1 t.c.length]
def clP (t : Td) (y : ClX) : Prop := goI (y.1, t.s) ∧ goI (y.2.1, t.d) ∧ goR rwR y.2.2.1 y.2.2.2 ∧ rwOk y.2.2.2 ∧ y.2.2.2.map RW.l = t.c
def clG (t : Td) (y : ClX) : Heap := (gbR rwR 22 y.2.2.1 y.2.2.2 ++ rwB y.2.2.2) ++ (gbI (y.2.1, t.d) ++ gbI (y.1, t.s))
def EqT (a b : Td) : Prop := a.s = b.s ∧ a.d = b.d ∧ a.c = b.c
theorem EqT.iff {a b : Td} : EqT a b ↔ a = b := by
  obtain ⟨a1, a2, a3⟩ := a
  obtain ⟨b1, b2, b3⟩ := b
  unfold EqT
  simp
open Classical in
noncomputable def eqT (a b : Td) : Bool := decide (a = b)
theorem gv3_one (h k l : HD) (a b c : Nat) : [gval h a, gval k b, gval l c].all Value.oneCell' = true := by
  simp only [List.all_cons, List.all_nil, Bool.and_true, gval_one, Bool.and_self]
theorem gval_cells (h : HD) (a : Nat) : (gval h a).cells = #[gval h a] := by cases h <;> rfl
theorem fill3 {u v w : Value} (hu : u.cells = #[u]) (hv : v.cells = #[v]) (hw : w.cells = #[w]) : Instr.fill ([(0, 1), (1, 1), (2, 1)][·]?) #[.slice none 0 0, .slice none 0 0, .slice none 0 0] [(0, u), (1, v), (2, w)] = some #[u, v, w] := by
  simp [Instr.fill, hu, hv, hw]
theorem fill2 {u v : Value} (hu : u.cells = #[u]) (hv : v.cells = #[v]) : Instr.fill ([(0, 1), (1, 1), (2, 1)][·]?) #[.slice none 0 0, .slice none 0 0, .slice none 0 0] [(0, u), (1, v)] = some #[u, v, .slice none 0 0] := by
  simp [Instr.fill, hu, hv]
theorem two_one (h k : HD) (a b : Nat) (p : Option Addr) (x y : Nat) : [gval h a, gval k b, .slice p x y].all Value.oneCell' = true := by
  simp only [List.all_cons, List.all_nil, Bool.and_true, gval_one]
  rfl
theorem RdG.one {m : List (List Int)} {x : Value × Heap} (h : RdG m x) : x.1.oneCell' = true ∧ x.1.cells = #[x.1] := by
  obtain ⟨p, c, e, _⟩ := h
  rw [e]
  exact ⟨rfl, rfl⟩
theorem all3 {u v w : Value} (hu : u.oneCell' = true) (hv : v.oneCell' = true) (hw : w.oneCell' = true) : [u, v, w].all Value.oneCell' = true := by
  simp only [List.all_cons, List.all_nil, Bool.and_true, hu, hv, hw]
theorem mk_succ' (n : Nat) (f : Nat → Int) : mk (n + 1) f = mk n f ++ [f n] := (mk_snoc n f).symm
/-- A trade turned. -/
def trnT (t : Td) : Td := ⟨t.d, t.s, trnL t.c⟩
def turnR (t : Td) : Td × Int := if validI t ≠ 0 then (nilT, validI t) else (trnT t, 0)
theorem tur_1 {t : Td} (h : validI t ≠ 0) : turnR t = (nilT, validI t) := if_pos h
theorem tur_0 {t : Td} (h : ¬ validI t ≠ 0) : turnR t = (trnT t, 0) := if_neg h


set_option maxRecDepth 100000 in
set_option maxHeartbeats 2000000 in
theorem cloneT_ok (w0 : World) (vt : Value) (t : Td) (ht : IsT w0 vt t) (hT : SmT t) :
    Calls Try.prog 78 #[vt] w0 (Post (X := ClX) (clV t) (clP t) (clG t) w0) := by
  obtain ⟨p1, c1, p2, c2, p3, c3, rfl, t1, t2, t3⟩ := ht
  refine calls Try.func78 rfl (n := 13) rfl (by simp) ?_
  refine TC.seq ?_
  refine TC.region ?_
  refine TL.box rfl rfl (by decide) (fun b0 hb0 => ?_)
  refine TL.alloc Tb.zero_25 rfl (by decide) (fun b1 hb1 => ?_)
  refine TL.nil ?_
  refine TQ.thenC ?_
  refine TC.seq ?_
  refine TC.mixV [true, true, false, true, true, false, true, true, false, true, false] [(b0, Obj.cells #[.slice p1 t.s.length c1, .slice p2 t.d.length c2, .slice p3 t.c.length c3] 25 (0, 0))] 11 Tb.mixed rfl (by kernel_rfl) (by kernel_rfl) (by kernel_rfl) (by kernel_rfl) (by repeat (first | exact List.Sublist.slnil | exact List.nil_sublist _ | exact List.Sublist.refl _ | refine List.Sublist.cons_cons _ ?_ | refine List.Sublist.cons _ ?_ | refine List.Sublist.trans ?_ (List.sublist_append_right _ _))) ?_
  refine TV.virt 0 rfl rfl (by decide) rfl (by kernel_rfl) (SOK.pure (PV.fieldAddr rfl Tb.fo_25_0) rfl) ?_
  refine TV.virt 1 rfl rfl (by decide) rfl (by kernel_rfl) (SOK.pure (PV.load rfl Tb.one_22 (by repeat (first | exact List.Mem.head _ | refine List.Mem.tail _ ?_ | refine List.mem_append_right _ ?_)) rfl) rfl) ?_
  refine TV.virt 3 rfl rfl (by decide) rfl (by kernel_rfl) (SOK.pure (PV.fieldAddr rfl Tb.fo_25_1) rfl) ?_
  refine TV.virt 4 rfl rfl (by decide) rfl (by kernel_rfl) (SOK.pure (PV.load rfl Tb.one_22 (by repeat (first | exact List.Mem.head _ | refine List.Mem.tail _ ?_ | refine List.mem_append_right _ ?_)) rfl) rfl) ?_
  refine TV.virt 6 rfl rfl (by decide) rfl (by kernel_rfl) (SOK.pure (PV.fieldAddr rfl Tb.fo_25_2) rfl) ?_
  refine TV.virt 7 rfl rfl (by decide) rfl (by kernel_rfl) (SOK.pure (PV.load rfl Tb.one_23 (by repeat (first | exact List.Mem.head _ | refine List.Mem.tail _ ?_ | refine List.mem_append_right _ ?_)) rfl) rfl) ?_
  refine TV.step [2] (by kernel_rfl) (by decide) rfl ⟨⟨_, rfl, ?_⟩, trivial⟩
  refine TL.call rfl Tb.gofn_80 (fun a w hs => clone_ok w _ _ _ (t1.new hs.new) hT.s) rfl (by decide) (fun h8 hh8 => ?_)
  refine TL.nil ?_
  refine TV.next (.inl (by repeat (first | exact List.Sublist.slnil | exact List.nil_sublist _ | exact List.Sublist.refl _ | refine List.Sublist.cons_cons _ ?_ | refine List.Sublist.cons _ ?_ | refine List.Sublist.trans ?_ (List.sublist_append_right _ _)))) ?_
  refine TV.step [5] (by kernel_rfl) (by decide) rfl ⟨⟨_, rfl, ?_⟩, trivial⟩
  refine TL.call rfl Tb.gofn_80 (fun a w hs => clone_ok w _ _ _ (t2.new hs.new) hT.d) rfl (by decide) (fun h9 hh9 => ?_)
  refine TL.nil ?_
  refine TV.next (.inl (by repeat (first | exact List.Sublist.slnil | exact List.nil_sublist _ | exact List.Sublist.refl _ | refine List.Sublist.cons_cons _ ?_ | refine List.Sublist.cons _ ?_ | refine List.Sublist.trans ?_ (List.sublist_append_right _ _)))) ?_
  refine TV.step [8] (by kernel_rfl) (by decide) rfl ⟨⟨_, rfl, ?_⟩, trivial⟩
  refine TL.call rfl Tb.gofn_99 (fun a w hs => copied_ok w _ _ (IsG.of (t3.new hs.new)) hT.c) rfl (by decide) (fun y9 hy9 => ?_)
  refine TL.nil ?_
  refine TV.next (.inl (by repeat (first | exact List.Sublist.slnil | exact List.nil_sublist _ | exact List.Sublist.refl _ | refine List.Sublist.cons_cons _ ?_ | refine List.Sublist.cons _ ?_ | refine List.Sublist.trans ?_ (List.sublist_append_right _ _)))) ?_
  refine TV.virt 9 rfl rfl (by decide) rfl (by kernel_rfl) (SOK.pure (PV.build rfl Tb.zero_25 Tb.pl_25 (fill3 (gval_cells _ _) (gval_cells _ _) (gval_cells _ _))) rfl) ?_
  refine TV.step [10] (by kernel_rfl) (by decide) rfl ⟨⟨_, rfl, ?_⟩, trivial⟩
  refine TL.storeAgg (vs := [gval h8 t.s.length, gval h9 t.d.length, gval y9.1 t.c.length]) rfl rfl Tb.cells_25 (by repeat (first | exact Upd.head _ | apply Upd.tail | apply Upd.appR)) rfl rfl (gv3_one _ _ _ _ _ _) rfl rfl ?_
  refine TL.nil ?_
  refine TV.next (.inr (by kernel_rfl)) ?_
  refine TV.done (by kernel_rfl) ?_
  refine TQ.thenC ?_
  refine TC.ret ?_
  refine TQ.retR rfl (Res.agg rfl Tb.agg_25 (by repeat (first | exact List.Mem.head _ | refine List.Mem.tail _ ?_ | refine List.mem_append_right _ ?_)) rfl Res.nil) ?_
  simp only [tup]
  exact ⟨(h8, h9, y9.1, y9.2), rfl, ⟨hh8, hh9, hy9.1, hy9.2.1, hy9.2.2⟩, by unfold clG; (first | exact List.Sublist.append_left (List.Sublist.append_left (List.sublist_append_left _ _) _) _ | simp only [List.append_assoc]; exact List.Sublist.append_left (List.Sublist.append_left (List.Sublist.append_left (List.sublist_append_left _ _) _) _) _)⟩

set_option maxRecDepth 100000 in
set_option maxHeartbeats 2000000 in
theorem CopyT_ok (w0 : World) (vt : Value) (t : Td) (ht : IsT w0 vt t) (hT : SmT t) :
    Calls Try.prog 79 #[vt] w0 (Post (X := ClX) (clV t) (clP t) (clG t) w0) := by
  obtain ⟨p1, c1, p2, c2, p3, c3, rfl, t1, t2, t3⟩ := ht
  have hTs := hT.s
  have hTd := hT.d
  refine calls Try.func79 rfl (n := 15) rfl (by simp) ?_
  refine TC.seq ?_
  refine TC.region ?_
  refine TL.box rfl rfl (by decide) (fun b0 hb0 => ?_)
  refine TL.alloc Tb.zero_25 rfl (by decide) (fun b1 hb1 => ?_)
  refine TL.nil ?_
  refine TQ.thenC ?_
  refine TC.seq ?_
  refine TC.mixV [false, true, true, false, false, true, true, false, true, true, false, true, false] [(b0, Obj.cells #[.slice p1 t.s.length c1, .slice p2 t.d.length c2, .slice p3 t.c.length c3] 25 (0, 0))] 13 Tb.mixed rfl (by kernel_rfl) (by kernel_rfl) (by kernel_rfl) (by kernel_rfl) (by repeat (first | exact List.Sublist.slnil | exact List.nil_sublist _ | exact List.Sublist.refl _ | refine List.Sublist.cons_cons _ ?_ | refine List.Sublist.cons _ ?_ | refine List.Sublist.trans ?_ (List.sublist_append_right _ _))) ?_
  refine TV.virt 1 rfl rfl (by decide) rfl (by kernel_rfl) (SOK.pure (PV.fieldAddr rfl Tb.fo_25_0) rfl) ?_
  refine TV.virt 2 rfl rfl (by decide) rfl (by kernel_rfl) (SOK.pure (PV.load rfl Tb.one_22 (by repeat (first | exact List.Mem.head _ | refine List.Mem.tail _ ?_ | refine List.mem_append_right _ ?_)) rfl) rfl) ?_
  refine TV.virt 5 rfl rfl (by decide) rfl (by kernel_rfl) (SOK.pure (PV.fieldAddr rfl Tb.fo_25_1) rfl) ?_
  refine TV.virt 6 rfl rfl (by decide) rfl (by kernel_rfl) (SOK.pure (PV.load rfl Tb.one_22 (by repeat (first | exact List.Mem.head _ | refine List.Mem.tail _ ?_ | refine List.mem_append_right _ ?_)) rfl) rfl) ?_
  refine TV.virt 8 rfl rfl (by decide) rfl (by kernel_rfl) (SOK.pure (PV.fieldAddr rfl Tb.fo_25_2) rfl) ?_
  refine TV.virt 9 rfl rfl (by decide) rfl (by kernel_rfl) (SOK.pure (PV.load rfl Tb.one_23 (by repeat (first | exact List.Mem.head _ | refine List.Mem.tail _ ?_ | refine List.mem_append_right _ ?_)) rfl) rfl) ?_
  refine TV.step [0, 4] (by kernel_rfl) (by decide) rfl ⟨⟨_, rfl, ?_⟩, ⟨_, rfl, ?_⟩, trivial⟩
  · skip
    refine TL.buildSlice0 Tb.sl_22 Tb.zi_3 rfl (by decide) (fun bA0 hbA0 => ?_)
    refine TL.nil ?_
    refine TV.next (.inl (by repeat (first | exact List.Sublist.slnil | exact List.nil_sublist _ | exact List.Sublist.refl _ | refine List.Sublist.cons_cons _ ?_ | refine List.Sublist.cons _ ?_ | refine List.Sublist.trans ?_ (List.sublist_append_right _ _)))) ?_
    refine TV.step [3, 4] (by kernel_rfl) (by decide) rfl ⟨⟨_, rfl, ?_⟩, ⟨_, rfl, ?_⟩, trivial⟩
    · skip
      refine TL.append0 (m := t.s.length) (news := ival t.s) rfl rfl Tb.sl_22 Tb.zi_3 rfl (by repeat (first | exact Take.head _ | apply Take.tail | apply Take.appR)) (fun w' hN => ints_src Tb.sl_22 rfl (t1.new hN)) (by omega) (by omega) rfl (by decide) (fun h8 hh8 => ?_)
      refine TL.nil ?_
      refine TV.next (.inl (by repeat (first | exact List.Sublist.slnil | exact List.nil_sublist _ | exact List.Sublist.refl _ | refine List.Sublist.cons_cons _ ?_ | refine List.Sublist.cons _ ?_ | refine List.Sublist.trans ?_ (List.sublist_append_right _ _)))) ?_
      refine TV.step [4] (by kernel_rfl) (by decide) rfl ⟨⟨_, rfl, ?_⟩, trivial⟩
      refine TL.buildSlice0 Tb.sl_22 Tb.zi_3 rfl (by decide) (fun bA4 hbA4 => ?_)
      refine TL.nil ?_
      refine TV.next (.inl (by repeat (first | exact List.Sublist.slnil | exact List.nil_sublist _ | exact List.Sublist.refl _ | refine List.Sublist.cons_cons _ ?_ | refine List.Sublist.cons _ ?_ | refine List.Sublist.trans ?_ (List.sublist_append_right _ _)))) ?_
      refine TV.step [7] (by kernel_rfl) (by decide) rfl ⟨⟨_, rfl, ?_⟩, trivial⟩
      refine TL.append0 (m := t.d.length) (news := ival t.d) rfl rfl Tb.sl_22 Tb.zi_3 rfl (by repeat (first | exact Take.head _ | apply Take.tail | apply Take.appR)) (fun w' hN => ints_src Tb.sl_22 rfl (t2.new hN)) (by omega) (by omega) rfl (by decide) (fun h9 hh9 => ?_)
      refine TL.nil ?_
      refine TV.next (.inl (by repeat (first | exact List.Sublist.slnil | exact List.nil_sublist _ | exact List.Sublist.refl _ | refine List.Sublist.cons_cons _ ?_ | refine List.Sublist.cons _ ?_ | refine List.Sublist.trans ?_ (List.sublist_append_right _ _)))) ?_
      refine TV.step [10] (by kernel_rfl) (by decide) rfl ⟨⟨_, rfl, ?_⟩, trivial⟩
      refine TL.call rfl Tb.gofn_42 (fun a w hs => copyTable_ok w _ _ (IsG.of (t3.new hs.new)) hT.c) rfl (by decide) (fun y9 hy9 => ?_)
      refine TL.nil ?_
      refine TV.next (.inl (by repeat (first | exact List.Sublist.slnil | exact List.nil_sublist _ | exact List.Sublist.refl _ | refine List.Sublist.cons_cons _ ?_ | refine List.Sublist.cons _ ?_ | refine List.Sublist.trans ?_ (List.sublist_append_right _ _)))) ?_
      refine TV.virt 11 rfl rfl (by decide) rfl (by kernel_rfl) (SOK.pure (PV.build rfl Tb.zero_25 Tb.pl_25 (fill3 (gval_cells _ _) (gval_cells _ _) (gval_cells _ _))) rfl) ?_
      refine TV.step [12] (by kernel_rfl) (by decide) rfl ⟨⟨_, rfl, ?_⟩, trivial⟩
      refine TL.storeAgg (vs := [gval h8 t.s.length, gval h9 t.d.length, gval y9.1 t.c.length]) rfl rfl Tb.cells_25 (by repeat (first | exact Upd.head _ | apply Upd.tail | apply Upd.appR)) rfl rfl (gv3_one _ _ _ _ _ _) rfl rfl ?_
      refine TL.nil ?_
      refine TV.next (.inr (by kernel_rfl)) ?_
      refine TV.done (by kernel_rfl) ?_
      refine TQ.thenC ?_
      refine TC.ret ?_
      refine TQ.retR rfl (Res.agg rfl Tb.agg_25 (by repeat (first | exact List.Mem.head _ | refine List.Mem.tail _ ?_ | refine List.mem_append_right _ ?_)) rfl Res.nil) ?_
      simp only [tup]
      exact ⟨(h8, h9, y9.1, y9.2), rfl, ⟨by simpa [goI] using hh8, by simpa [goI] using hh9, hy9.1, hy9.2.1, hy9.2.2⟩, by unfold clG; (first | exact List.Sublist.append_left (List.Sublist.append_left (List.sublist_append_left _ _) _) _ | simp only [List.append_assoc]; exact List.Sublist.append_left (List.Sublist.append_left (List.Sublist.append_left (List.sublist_append_left _ _) _) _) _)⟩
    · skip
      refine TL.buildSlice0 Tb.sl_22 Tb.zi_3 rfl (by decide) (fun bA4 hbA4 => ?_)
      refine TL.nil ?_
      refine TV.next (.inl (by repeat (first | exact List.Sublist.slnil | exact List.nil_sublist _ | exact List.Sublist.refl _ | refine List.Sublist.cons_cons _ ?_ | refine List.Sublist.cons _ ?_ | refine List.Sublist.trans ?_ (List.sublist_append_right _ _)))) ?_
      refine TV.step [3] (by kernel_rfl) (by decide) rfl ⟨⟨_, rfl, ?_⟩, trivial⟩
      refine TL.append0 (m := t.s.length) (news := ival t.s) rfl rfl Tb.sl_22 Tb.zi_3 rfl (by repeat (first | exact Take.head _ | apply Take.tail | apply Take.appR)) (fun w' hN => ints_src Tb.sl_22 rfl (t1.new hN)) (by omega) (by omega) rfl (by decide) (fun h8 hh8 => ?_)
      refine TL.nil ?_
      refine TV.next (.inl (by repeat (first | exact List.Sublist.slnil | exact List.nil_sublist _ | exact List.Sublist.refl _ | refine List.Sublist.cons_cons _ ?_ | refine List.Sublist.cons _ ?_ | refine List.Sublist.trans ?_ (List.sublist_append_right _ _)))) ?_
      refine TV.step [7] (by kernel_rfl) (by decide) rfl ⟨⟨_, rfl, ?_⟩, trivial⟩
      refine TL.append0 (m := t.d.length) (news := ival t.d) rfl rfl Tb.sl_22 Tb.zi_3 rfl (by repeat (first | exact Take.head _ | apply Take.tail | apply Take.appR)) (fun w' hN => ints_src Tb.sl_22 rfl (t2.new hN)) (by omega) (by omega) rfl (by decide) (fun h9 hh9 => ?_)
      refine TL.nil ?_
      refine TV.next (.inl (by repeat (first | exact List.Sublist.slnil | exact List.nil_sublist _ | exact List.Sublist.refl _ | refine List.Sublist.cons_cons _ ?_ | refine List.Sublist.cons _ ?_ | refine List.Sublist.trans ?_ (List.sublist_append_right _ _)))) ?_
      refine TV.step [10] (by kernel_rfl) (by decide) rfl ⟨⟨_, rfl, ?_⟩, trivial⟩
      refine TL.call rfl Tb.gofn_42 (fun a w hs => copyTable_ok w _ _ (IsG.of (t3.new hs.new)) hT.c) rfl (by decide) (fun y9 hy9 => ?_)
      refine TL.nil ?_
      refine TV.next (.inl (by repeat (first | exact List.Sublist.slnil | exact List.nil_sublist _ | exact List.Sublist.refl _ | refine List.Sublist.cons_cons _ ?_ | refine List.Sublist.cons _ ?_ | refine List.Sublist.trans ?_ (List.sublist_append_right _ _)))) ?_
      refine TV.virt 11 rfl rfl (by decide) rfl (by kernel_rfl) (SOK.pure (PV.build rfl Tb.zero_25 Tb.pl_25 (fill3 (gval_cells _ _) (gval_cells _ _) (gval_cells _ _))) rfl) ?_
      refine TV.step [12] (by kernel_rfl) (by decide) rfl ⟨⟨_, rfl, ?_⟩, trivial⟩
      refine TL.storeAgg (vs := [gval h8 t.s.length, gval h9 t.d.length, gval y9.1 t.c.length]) rfl rfl Tb.cells_25 (by repeat (first | exact Upd.head _ | apply Upd.tail | apply Upd.appR)) rfl rfl (gv3_one _ _ _ _ _ _) rfl rfl ?_
      refine TL.nil ?_
      refine TV.next (.inr (by kernel_rfl)) ?_
      refine TV.done (by kernel_rfl) ?_
      refine TQ.thenC ?_
      refine TC.ret ?_
      refine TQ.retR rfl (Res.agg rfl Tb.agg_25 (by repeat (first | exact List.Mem.head _ | refine List.Mem.tail _ ?_ | refine List.mem_append_right _ ?_)) rfl Res.nil) ?_
      simp only [tup]
      exact ⟨(h8, h9, y9.1, y9.2), rfl, ⟨by simpa [goI] using hh8, by simpa [goI] using hh9, hy9.1, hy9.2.1, hy9.2.2⟩, by unfold clG; (first | exact List.Sublist.append_left (List.Sublist.append_left (List.sublist_append_left _ _) _) _ | simp only [List.append_assoc]; exact List.Sublist.append_left (List.Sublist.append_left (List.Sublist.append_left (List.sublist_append_left _ _) _) _) _)⟩
  · skip
    refine TL.buildSlice0 Tb.sl_22 Tb.zi_3 rfl (by decide) (fun bA4 hbA4 => ?_)
    refine TL.nil ?_
    refine TV.next (.inl (by repeat (first | exact List.Sublist.slnil | exact List.nil_sublist _ | exact List.Sublist.refl _ | refine List.Sublist.cons_cons _ ?_ | refine List.Sublist.cons _ ?_ | refine List.Sublist.trans ?_ (List.sublist_append_right _ _)))) ?_
    refine TV.step [0] (by kernel_rfl) (by decide) rfl ⟨⟨_, rfl, ?_⟩, trivial⟩
    refine TL.buildSlice0 Tb.sl_22 Tb.zi_3 rfl (by decide) (fun bA0 hbA0 => ?_)
    refine TL.nil ?_
    refine TV.next (.inl (by repeat (first | exact List.Sublist.slnil | exact List.nil_sublist _ | exact List.Sublist.refl _ | refine List.Sublist.cons_cons _ ?_ | refine List.Sublist.cons _ ?_ | refine List.Sublist.trans ?_ (List.sublist_append_right _ _)))) ?_
    refine TV.step [3] (by kernel_rfl) (by decide) rfl ⟨⟨_, rfl, ?_⟩, trivial⟩
    refine TL.append0 (m := t.s.length) (news := ival t.s) rfl rfl Tb.sl_22 Tb.zi_3 rfl (by repeat (first | exact Take.head _ | apply Take.tail | apply Take.appR)) (fun w' hN => ints_src Tb.sl_22 rfl (t1.new hN)) (by omega) (by omega) rfl (by decide) (fun h8 hh8 => ?_)
    refine TL.nil ?_
    refine TV.next (.inl (by repeat (first | exact List.Sublist.slnil | exact List.nil_sublist _ | exact List.Sublist.refl _ | refine List.Sublist.cons_cons _ ?_ | refine List.Sublist.cons _ ?_ | refine List.Sublist.trans ?_ (List.sublist_append_right _ _)))) ?_
    refine TV.step [7] (by kernel_rfl) (by decide) rfl ⟨⟨_, rfl, ?_⟩, trivial⟩
    refine TL.append0 (m := t.d.length) (news := ival t.d) rfl rfl Tb.sl_22 Tb.zi_3 rfl (by repeat (first | exact Take.head _ | apply Take.tail | apply Take.appR)) (fun w' hN => ints_src Tb.sl_22 rfl (t2.new hN)) (by omega) (by omega) rfl (by decide) (fun h9 hh9 => ?_)
    refine TL.nil ?_
    refine TV.next (.inl (by repeat (first | exact List.Sublist.slnil | exact List.nil_sublist _ | exact List.Sublist.refl _ | refine List.Sublist.cons_cons _ ?_ | refine List.Sublist.cons _ ?_ | refine List.Sublist.trans ?_ (List.sublist_append_right _ _)))) ?_
    refine TV.step [10] (by kernel_rfl) (by decide) rfl ⟨⟨_, rfl, ?_⟩, trivial⟩
    refine TL.call rfl Tb.gofn_42 (fun a w hs => copyTable_ok w _ _ (IsG.of (t3.new hs.new)) hT.c) rfl (by decide) (fun y9 hy9 => ?_)
    refine TL.nil ?_
    refine TV.next (.inl (by repeat (first | exact List.Sublist.slnil | exact List.nil_sublist _ | exact List.Sublist.refl _ | refine List.Sublist.cons_cons _ ?_ | refine List.Sublist.cons _ ?_ | refine List.Sublist.trans ?_ (List.sublist_append_right _ _)))) ?_
    refine TV.virt 11 rfl rfl (by decide) rfl (by kernel_rfl) (SOK.pure (PV.build rfl Tb.zero_25 Tb.pl_25 (fill3 (gval_cells _ _) (gval_cells _ _) (gval_cells _ _))) rfl) ?_
    refine TV.step [12] (by kernel_rfl) (by decide) rfl ⟨⟨_, rfl, ?_⟩, trivial⟩
    refine TL.storeAgg (vs := [gval h8 t.s.length, gval h9 t.d.length, gval y9.1 t.c.length]) rfl rfl Tb.cells_25 (by repeat (first | exact Upd.head _ | apply Upd.tail | apply Upd.appR)) rfl rfl (gv3_one _ _ _ _ _ _) rfl rfl ?_
    refine TL.nil ?_
    refine TV.next (.inr (by kernel_rfl)) ?_
    refine TV.done (by kernel_rfl) ?_
    refine TQ.thenC ?_
    refine TC.ret ?_
    refine TQ.retR rfl (Res.agg rfl Tb.agg_25 (by repeat (first | exact List.Mem.head _ | refine List.Mem.tail _ ?_ | refine List.mem_append_right _ ?_)) rfl Res.nil) ?_
    simp only [tup]
    exact ⟨(h8, h9, y9.1, y9.2), rfl, ⟨by simpa [goI] using hh8, by simpa [goI] using hh9, hy9.1, hy9.2.1, hy9.2.2⟩, by unfold clG; (first | exact List.Sublist.append_left (List.Sublist.append_left (List.sublist_append_left _ _) _) _ | simp only [List.append_assoc]; exact List.Sublist.append_left (List.Sublist.append_left (List.Sublist.append_left (List.sublist_append_left _ _) _) _) _)⟩

set_option maxRecDepth 100000 in
set_option maxHeartbeats 1000000 in
theorem Same_ok (w0 : World) (vt : Value) (t : Td) (ht : IsT w0 vt t) (hT : SmT t) (vu : Value) (u : Td) (hu : IsT w0 vu u) (hU : SmT u) :
    Calls Try.prog 46 #[vt, vu] w0 (Post (X := Unit) (fun _ => .bool (eqT t u)) (fun _ => True) (fun _ => []) w0) := by
  obtain ⟨p1, c1, p2, c2, p3, c3, rfl, t1, t2, t3⟩ := ht
  obtain ⟨q1, d1, q2, d2, q3, d3, rfl, u1, u2, u3⟩ := hu
  refine calls Try.func46 rfl (n := 24) rfl (by simp) ?_
  refine TC.seq ?_
  refine TC.region ?_
  refine TL.box rfl rfl (by decide) (fun b0 hb0 => ?_)
  refine TL.box rfl rfl (by decide) (fun b1 hb1 => ?_)
  refine TL.pure (PV.assign rfl) rfl (by decide) ?_
  refine TL.nil ?_
  refine TQ.thenC ?_
  refine TC.seq ?_
  refine TC.region ?_
  refine TL.pure (PV.fieldAddr rfl Tb.fo_25_0) rfl (by decide) ?_
  refine TL.pure (PV.load rfl Tb.one_22 (by repeat (first | exact List.Mem.head _ | refine List.Mem.tail _ ?_ | refine List.mem_append_right _ ?_)) rfl) rfl (by decide) ?_
  refine TL.pure (PV.fieldAddr rfl Tb.fo_25_0) rfl (by decide) ?_
  refine TL.pure (PV.load rfl Tb.one_22 (by repeat (first | exact List.Mem.head _ | refine List.Mem.tail _ ?_ | refine List.mem_append_right _ ?_)) rfl) rfl (by decide) ?_
  refine TL.call rfl Tb.gofn_67 (fun a w hs => sameInts_ok w _ _ _ (t1.new hs.new) _ _ _ (u1.new hs.new) hT.s hU.s) rfl (by decide) (fun _ _ => ?_)
  refine TL.pure (PV.move rfl) rfl (by decide) ?_
  first | refine TL.splitD 10 rfl (fun e1 => ?_) (fun e1 => ?_) | refine TL.split 10 rfl (fun e1 => ?_) (fun e1 => ?_)
  · skip
    refine TL.pure (PV.fieldAddr rfl Tb.fo_25_1) rfl (by decide) ?_
    refine TL.pure (PV.load rfl Tb.one_22 (by repeat (first | exact List.Mem.head _ | refine List.Mem.tail _ ?_ | refine List.mem_append_right _ ?_)) rfl) rfl (by decide) ?_
    refine TL.pure (PV.fieldAddr rfl Tb.fo_25_1) rfl (by decide) ?_
    refine TL.pure (PV.load rfl Tb.one_22 (by repeat (first | exact List.Mem.head _ | refine List.Mem.tail _ ?_ | refine List.mem_append_right _ ?_)) rfl) rfl (by decide) ?_
    refine TL.call rfl Tb.gofn_67 (fun a w hs => sameInts_ok w _ _ _ (t2.new hs.new) _ _ _ (u2.new hs.new) hT.d hU.d) rfl (by decide) (fun _ _ => ?_)
    refine TL.pure (PV.pickT rfl rfl) rfl (by decide) ?_
    refine TL.pure (PV.move rfl) rfl (by decide) ?_
    first | refine TL.splitD 17 rfl (fun e2 => ?_) (fun e2 => ?_) | refine TL.split 17 rfl (fun e2 => ?_) (fun e2 => ?_)
    · skip
      refine TL.pure (PV.fieldAddr rfl Tb.fo_25_2) rfl (by decide) ?_
      refine TL.pure (PV.load rfl Tb.one_23 (by repeat (first | exact List.Mem.head _ | refine List.Mem.tail _ ?_ | refine List.mem_append_right _ ?_)) rfl) rfl (by decide) ?_
      refine TL.pure (PV.fieldAddr rfl Tb.fo_25_2) rfl (by decide) ?_
      refine TL.pure (PV.load rfl Tb.one_23 (by repeat (first | exact List.Mem.head _ | refine List.Mem.tail _ ?_ | refine List.mem_append_right _ ?_)) rfl) rfl (by decide) ?_
      refine TL.call rfl Tb.gofn_27 (fun a w hs => sameTables_ok w _ _ (IsG.of (t3.new hs.new)) hT.c _ _ (IsG.of (u3.new hs.new)) hU.c) rfl (by decide) (fun _ _ => ?_)
      refine TL.pure (PV.pickT rfl rfl) rfl (by decide) ?_
      refine TL.pure (PV.assign rfl) rfl (by decide) ?_
      refine TL.nil ?_
      refine TQ.thenC ?_
      refine TC.ret ?_
      refine TQ.retE1 rfl rfl ?_
      exact ⟨(), by unfold eqT; congr 1; rw [Bool.eq_iff_iff]; simp only [decide_eq_true_eq, ← EqT.iff, EqT]; simp_all, trivial, List.nil_sublist _⟩
    · skip
      refine TL.skip rfl (fun k hk => by cases hk; decide) ?_
      refine TL.skip rfl (fun k hk => by cases hk; decide) ?_
      refine TL.skip rfl (fun k hk => by cases hk; decide) ?_
      refine TL.skip rfl (fun k hk => by cases hk; decide) ?_
      refine TL.skip rfl (fun k hk => by cases hk; decide) ?_
      refine TL.pure (PV.pickF rfl rfl) rfl (by decide) ?_
      refine TL.pure (PV.assign rfl) rfl (by decide) ?_
      refine TL.nil ?_
      refine TQ.thenC ?_
      refine TC.ret ?_
      refine TQ.retE1 rfl rfl ?_
      exact ⟨(), by unfold eqT; congr 1; rw [Bool.eq_iff_iff]; simp only [decide_eq_true_eq, ← EqT.iff, EqT]; simp_all, trivial, List.nil_sublist _⟩
  · skip
    refine TL.skip rfl (fun k hk => by cases hk; decide) ?_
    refine TL.skip rfl (fun k hk => by cases hk; decide) ?_
    refine TL.skip rfl (fun k hk => by cases hk; decide) ?_
    refine TL.skip rfl (fun k hk => by cases hk; decide) ?_
    refine TL.skip rfl (fun k hk => by cases hk; decide) ?_
    refine TL.pure (PV.pickF rfl rfl) rfl (by decide) ?_
    refine TL.pure (PV.move rfl) rfl (by decide) ?_
    refine TL.skip rfl (fun k hk => by cases hk; decide) ?_
    refine TL.skip rfl (fun k hk => by cases hk; decide) ?_
    refine TL.skip rfl (fun k hk => by cases hk; decide) ?_
    refine TL.skip rfl (fun k hk => by cases hk; decide) ?_
    refine TL.skip rfl (fun k hk => by cases hk; decide) ?_
    refine TL.pure (PV.pickF rfl rfl) rfl (by decide) ?_
    refine TL.pure (PV.assign rfl) rfl (by decide) ?_
    refine TL.nil ?_
    refine TQ.thenC ?_
    refine TC.ret ?_
    refine TQ.retE1 rfl rfl ?_
    exact ⟨(), by unfold eqT; congr 1; rw [Bool.eq_iff_iff]; simp only [decide_eq_true_eq, ← EqT.iff, EqT]; simp_all, trivial, List.nil_sublist _⟩

set_option maxRecDepth 100000 in
set_option maxHeartbeats 4000000 in
theorem Turned_ok (w0 : World) (vg : Value) (m : List (List Int)) (hg : IsG w0 vg m) (hM : SmG m) (hne : 0 < m.length) (hrow : ∀ i, i < m.length → (m.getD i []).length = (m.getD 0 []).length) :
    Calls Try.prog 49 #[vg] w0 (Post (X := Value × Heap) (fun x => x.1) (fun x => RdG (trnL m) x) (fun x => x.2) w0) := by
  obtain ⟨pg, cg, rfl, g1⟩ := hg
  have hM0 := hM.1
  have hM1 := hM.2 0
  refine calls Try.func49 rfl (n := 41) rfl (by simp) ?_
  refine TC.seq ?_
  refine TC.region ?_
  refine TL.pure (PV.assign rfl) rfl (by decide) ?_
  refine TL.nil ?_
  refine TQ.thenC ?_
  refine TC.seq ?_
  refine TC.region ?_
  refine TL.pure (PV.assign rfl) rfl (by decide) ?_
  refine TL.nil ?_
  refine TQ.thenC ?_
  refine TC.seq ?_
  refine TC.seq ?_
  refine TC.region ?_
  refine TL.pure (PV.assign rfl) rfl (by decide) ?_
  refine TL.nil ?_
  refine TQ.thenC ?_
  refine TC.block ?_
  refine TC.lit [(0, _), (2, _), (3, _), (4, _)] (by repeat (first | exact True.intro | refine And.intro rfl ?_)) ?_
  refine TC.loopK [0, 2] (X := Nat × HD × List RW) (fun x => x.1 ≤ (m.getD 0 []).length ∧ CtS (trnL m) x.1 x.2.1 x.2.2) (fun x => [(4, .int .i64 x.1), (3, gval x.2.1 x.2.2.length)]) (fun x => gbR rwR 22 x.2.1 x.2.2 ++ (rwB x.2.2 ++ [])) (fun x => (m.getD 0 []).length - x.1) (0, none, []) ⟨Nat.zero_le _, cts_zero _⟩ (by repeat (first | exact True.intro | refine And.intro rfl ?_)) (List.nil_sublist _) ?_
  intro x hx9
  refine TC.lit [(0, _), (2, _), (3, _), (4, _)] (by repeat (first | exact True.intro | refine And.intro rfl ?_)) ?_
  refine TC.seq ?_
  refine TC.seq ?_
  obtain ⟨q0, hq0p, q0p, q0c, hq0, hq0r⟩ := g1 0 (by omega)
  refine TC.region ?_
  refine TL.pure (PV.move rfl) rfl (by decide) ?_
  refine TL.pure (PV.len rfl Tb.sl_23) rfl (by decide) ?_
  refine TL.pure (PV.gtr rfl rfl) rfl (by decide) ?_
  refine TL.pure (PV.move rfl) rfl (by decide) ?_
  first | refine TL.splitD 10 rfl (fun hz => ?_) (fun hz => ?_) | refine TL.split 10 rfl (fun hz => ?_) (fun hz => ?_)
  · skip
    refine TL.pure (PV.move rfl) rfl (by decide) ?_
    refine TL.pure (PV.move rfl) rfl (by decide) ?_
    refine TL.pure (PV.indexA (j := 0) rfl hq0p rfl Tb.elm_23 rfl (by omega)) rfl (by decide) ?_
    refine TL.pure (PV.loadOld rfl Tb.one_22 hq0) rfl (by decide) ?_
    refine TL.pure (PV.len rfl Tb.sl_22) rfl (by decide) ?_
    refine TL.pure (PV.lss rfl rfl) rfl (by decide) ?_
    refine TL.pure (PV.pickT rfl rfl) rfl (by decide) ?_
    refine TL.nil ?_
    refine TQ.thenC ?_
    first | refine TC.condD rfl (fun hlt => ?_) (fun hlt => ?_) | refine TC.cond rfl (fun hlt => ?_) (fun hlt => ?_)
    · skip
      refine TC.skip ?_
      refine TQ.thenC ?_
      refine TC.seq ?_
      refine TC.block ?_
      refine TC.seq ?_
      refine TC.region ?_
      refine TL.pure (PV.assign rfl) rfl (by decide) ?_
      refine TL.nil ?_
      refine TQ.thenC ?_
      refine TC.seq ?_
      refine TC.seq ?_
      refine TC.region ?_
      refine TL.pure (PV.assign rfl) rfl (by decide) ?_
      refine TL.nil ?_
      refine TQ.thenC ?_
      refine TC.block ?_
      refine TC.lit [(0, _), (2, _), (3, _), (4, _), (5, _), (6, _)] (by repeat (first | exact True.intro | refine And.intro rfl ?_)) ?_
      refine TC.loopK [0, 2, 3, 4] (X := Nat × HD) (fun y => y.1 ≤ m.length ∧ goI (y.2, mk y.1 (fun i => getM m i x.1))) (fun y => [(6, .int .i64 y.1), (5, gval y.2 (mk y.1 (fun i => getM m i x.1)).length)]) (fun y => gbI (y.2, mk y.1 (fun i => getM m i x.1)) ++ (gbR rwR 22 x.2.1 x.2.2 ++ (rwB x.2.2 ++ []))) (fun y => m.length - y.1) (0, none) ⟨Nat.zero_le _, ⟨rfl, rfl⟩⟩ (by repeat (first | exact True.intro | refine And.intro rfl ?_)) (List.Sublist.refl _) ?_
      intro y hy9
      refine TC.lit [(0, _), (2, _), (3, _), (4, _), (5, _), (6, _)] (by repeat (first | exact True.intro | refine And.intro rfl ?_)) ?_
      refine TC.seq ?_
      refine TC.seq ?_
      refine TC.region ?_
      refine TL.pure (PV.move rfl) rfl (by decide) ?_
      refine TL.pure (PV.move rfl) rfl (by decide) ?_
      refine TL.pure (PV.len rfl Tb.sl_23) rfl (by decide) ?_
      refine TL.pure (PV.lss rfl rfl) rfl (by decide) ?_
      refine TL.nil ?_
      refine TQ.thenC ?_
      first | refine TC.condD rfl (fun hlt2 => ?_) (fun hlt2 => ?_) | refine TC.cond rfl (fun hlt2 => ?_) (fun hlt2 => ?_)
      · skip
        refine TC.skip ?_
        refine TQ.thenC ?_
        refine TC.seq ?_
        refine TC.block ?_
        obtain ⟨q1, hq1p, q1p, q1c, hq1, hq1r⟩ := g1 y.1 (by omega)
        have hr1 := hrow y.1 (by omega)
        obtain ⟨q2, hq2p, hq2⟩ := hq1r x.1 (by omega)
        refine TC.region ?_
        refine TL.pure (PV.move rfl) rfl (by decide) ?_
        refine TL.pure (PV.move rfl) rfl (by decide) ?_
        refine TL.pure (PV.move rfl) rfl (by decide) ?_
        refine TL.pure (PV.indexA (j := y.1) rfl hq1p rfl Tb.elm_23 rfl (by omega)) rfl (by decide) ?_
        refine TL.pure (PV.loadOld rfl Tb.one_22 hq1) rfl (by decide) ?_
        refine TL.pure (PV.move rfl) rfl (by decide) ?_
        refine TL.pure (PV.indexA (j := x.1) rfl hq2p rfl Tb.elm_22 rfl (by omega)) rfl (by decide) ?_
        refine TL.pure (PV.loadOld rfl Tb.one_3 hq2) rfl (by decide) ?_
        refine TL.buildSlice (cs := #[.int .i64 (getM m y.1 x.1)]) rfl Tb.sl_22 Tb.zi_3 (by decide) (fill_i _) (by decide) rfl (by decide) (fun bE hbE => ?_)
        refine TL.appendI (x0 := (y.2, mk y.1 (fun i => getM m i x.1))) (b := bE) (v := getM m y.1 x.1) rfl rfl (by repeat (first | exact List.Mem.head _ | refine List.Mem.tail _ ?_ | refine List.mem_append_right _ ?_)) hy9.2 (by repeat (first | exact TakeH.here _ _ _ _ | apply TakeH.tail | apply TakeH.app)) (by show (mk y.1 _).length ≤ 1000000; rw [mk_len]; omega) rfl (by decide) (fun hh hho => ?_)
        refine TL.pure (PV.assign rfl) rfl (by decide) ?_
        refine TL.nil ?_
        refine TQ.blkN ?_
        refine TQ.thenC ?_
        refine TC.region ?_
        refine TL.pure (PV.move rfl) rfl (by decide) ?_
        refine TL.pure (PV.add rfl rfl (by omega)) rfl (by decide) ?_
        refine TL.pure (PV.assign rfl) rfl (by decide) ?_
        refine TL.nil ?_
        refine TQ.thenN ?_
        refine TQ.backK (y.1 + 1, hh) (And.intro rfl (And.intro (by show some (gval hh (mk y.1 (fun i => getM m i x.1) ++ [_]).length) = some (gval hh (mk (y.1 + 1) (fun i => getM m i x.1)).length); rw [mk_succ']) True.intro)) (by repeat (first | exact True.intro | refine And.intro rfl ?_)) (by simp only [mk_succ']; exact List.Sublist.append_left (List.sublist_cons_self _ _) _) ⟨by simp only; omega, by simp only; rw [mk_succ']; exact hho⟩ (by simp only; omega)
      · skip
        refine TC.exit ?_
        refine TQ.thenE ?_
        refine TQ.thenE ?_
        refine TQ.blkS ?_
        refine TQ.thenC ?_
        have hye : y.1 = m.length := by omega
        have hxl := hx9.2.len
        have hrow9 : (⟨y.2, mk y.1 (fun i => getM m i x.1)⟩ : RW).l = (trnL m).getD x.1 [] := by show mk y.1 _ = _; rw [hye, trn_row (by omega)]
        refine TC.region ?_
        refine TL.pure (PV.move rfl) rfl (by decide) ?_
        refine TL.pure (PV.move rfl) rfl (by decide) ?_
        refine TL.buildSlice (cs := #[gval y.2 (mk y.1 (fun i => getM m i x.1)).length]) rfl Tb.sl_23 Tb.zi_22 (by decide) (by rw [gval_eq hy9.2]; exact fill_o _ _ _) (by decide) rfl (by decide) (fun bE hbE => ?_)
        refine TL.appendRec (R := rwR) (h0 := x.2.1) (ys := x.2.2) (b := bE) (r := ⟨y.2, mk y.1 (fun i => getM m i x.1)⟩) Tb.sl_23 Tb.zi_22 rfl rfl rfl (by repeat (first | exact List.Mem.head _ | refine List.Mem.tail _ ?_ | refine List.mem_append_right _ ?_)) hx9.2.go (by repeat (first | exact TakeH.here _ _ _ _ | apply TakeH.tail | apply TakeH.app)) (by omega) (by omega) rfl (by decide) (fun hG hhg => ?_)
        refine TL.pure (PV.assign rfl) rfl (by decide) ?_
        refine TL.nil ?_
        refine TQ.blkN ?_
        refine TQ.thenC ?_
        refine TC.region ?_
        refine TL.pure (PV.move rfl) rfl (by decide) ?_
        refine TL.pure (PV.add rfl rfl (by omega)) rfl (by decide) ?_
        refine TL.pure (PV.assign rfl) rfl (by decide) ?_
        refine TL.nil ?_
        refine TQ.thenN ?_
        refine TQ.perm (G' := gbR rwR 22 hG (x.2.2 ++ [⟨y.2, mk y.1 (fun i => getM m i x.1)⟩]) ++ (rwB (x.2.2 ++ [⟨y.2, mk y.1 (fun i => getM m i x.1)⟩]) ++ ([(bE, Obj.cells #[gval y.2 (mk y.1 (fun i => getM m i x.1)).length] 22 (0, 0))]))) (perm_of fun c9 => by rw [rwB_snoc]; simp only [List.map_append, List.sum_append, List.map_cons, List.sum_cons, List.map_nil, List.sum_nil, gbI, gbR]; omega) ?_
        refine TQ.backK (x.1 + 1, hG, x.2.2 ++ [⟨y.2, mk y.1 (fun i => getM m i x.1)⟩]) (by repeat (first | exact True.intro | refine And.intro rfl ?_)) (by repeat (first | exact True.intro | refine And.intro rfl ?_)) (List.Sublist.append_left (List.Sublist.append_left (List.nil_sublist _) _) _) ⟨by simp only; omega, cts_step hx9.2 hrow9 hhg hy9.2⟩ (by simp only; omega)
    · skip
      refine TC.exit ?_
      refine TQ.thenE ?_
      refine TQ.thenE ?_
      refine TQ.blkS ?_
      refine TQ.thenC ?_
      refine TC.seq ?_
      refine TC.region ?_
      refine TL.pure (PV.move rfl) rfl (by decide) ?_
      refine TL.pure (PV.assign rfl) rfl (by decide) ?_
      refine TL.nil ?_
      refine TQ.thenC ?_
      refine TC.ret ?_
      refine TQ.retE1 rfl rfl ?_
      exact ⟨(gval x.2.1 (trnL m).length, gbR rwR 22 x.2.1 x.2.2 ++ rwB x.2.2), by rw [trn_len]; show gval _ _ = gval _ _; rw [hx9.2.len, show x.1 = (m.getD 0 []).length by omega], RdG.rw hx9.2.go hx9.2.ok (cts_fin hx9.2 (by rw [trn_len]; omega)), by simp only [List.append_nil]; exact List.Sublist.refl _⟩
  · skip
    exact absurd (by simpa using hne) hz

end Go.Proofs.Ytghlkndanpegbaa
