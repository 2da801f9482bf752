/- Yards in new memory: contracts. -/
import Derived.Test.YtkkipbkkijoneaaDo
set_option linter.unusedVariables false
set_option linter.unusedSimpArgs false
namespace Go.Proofs.Ytkkipbkkijoneaa
open Go.Sx Go.RowKit

theorem perm_of {A B : Heap} (h : ∀ c : (Nat × Obj) → Nat, (A.map c).sum = (B.map c).sum) : List.Perm A B := by
  classical
  rw [List.perm_iff_count]
  intro a
  have hc : ∀ l : Heap, (l.map fun x => if x = a then 1 else 0).sum = l.count a := fun l => by
    induction l with
    | nil => rfl
    | cons x l ih =>
      rw [List.map_cons, List.sum_cons, ih, List.count_cons]
      by_cases e : x = a
      · subst e; simp; omega
      · simp [e]
  rw [← hc A, ← hc B]
  exact h _
theorem arr_set1 (a b v : Value) : (#[a, b] : Array Value).setIfInBounds (0 + 1) v = #[a, v] := rfl
/-- A step in new memory. -/
structure SR where
  ht : HD
  hg : HD
  s : St
  deriving Inhabited
def srR : Rec SR where
  cells r := [gval r.ht r.s.t.length, gval r.hg r.s.g.length]
  sz := 2
  len := fun _ => rfl
  one := fun r v hv => by
    simp only [List.mem_cons, List.not_mem_nil, or_false] at hv
    rcases hv with rfl | rfl <;> exact gval_one _ _
  pos := by decide
def srB (rs : List SR) : Heap := rs.flatMap fun r => gbI (r.ht, r.s.t) ++ gbI (r.hg, r.s.g)
theorem srB_snoc (rs : List SR) (r : SR) : srB (rs ++ [r]) = srB rs ++ (gbI (r.ht, r.s.t) ++ gbI (r.hg, r.s.g)) := by simp [srB]
def srOk (rs : List SR) : Prop := ∀ r ∈ rs, goI (r.ht, r.s.t) ∧ goI (r.hg, r.s.g)
theorem srOk_snoc {rs : List SR} {r : SR} (h : srOk rs) (h1 : goI (r.ht, r.s.t)) (h2 : goI (r.hg, r.s.g)) : srOk (rs ++ [r]) := fun x hx => by
  rcases List.mem_append.1 hx with hx | hx
  · exact h x hx
  · rw [List.mem_singleton] at hx; subst hx; exact ⟨h1, h2⟩
theorem srB_mem {rs : List SR} {r : SR} (h : r ∈ rs) : (∀ y ∈ gbI (r.ht, r.s.t), y ∈ srB rs) ∧ ∀ y ∈ gbI (r.hg, r.s.g), y ∈ srB rs :=
  ⟨fun y hy => List.mem_flatMap.2 ⟨r, h, List.mem_append_left _ hy⟩, fun y hy => List.mem_flatMap.2 ⟨r, h, List.mem_append_right _ hy⟩⟩
theorem StsAt.sr {w0 w : World} {G : Heap} {h : HD} {rs : List SR} {ss : List St} (hn : New w0 w G) (hm : ∀ y ∈ gbR srR 63 h rs, y ∈ G) (hm2 : ∀ y ∈ srB rs, y ∈ G) (ho : goR srR h rs) (hok : srOk rs) (hs : rs.map SR.s = ss) : StsAt w (gp h) ss := by
  subst hs
  have hr := RecsAt.s (R := srR) hn hm ho
  intro j hj
  rw [List.length_map] at hj
  obtain ⟨q, hq, hc⟩ := hr j hj
  have hmem : rs.getD j default ∈ rs := by simp [List.getD, hj]
  have e : (rs.map SR.s).getD j default = (rs.getD j default).s := by simp [List.getD, hj]
  obtain ⟨h1, h2⟩ := hok _ hmem
  obtain ⟨m1, m2⟩ := srB_mem hmem
  have c0 := hc 0 _ rfl
  have c1 := hc 1 _ rfl
  rw [gval_eq h1] at c0
  rw [gval_eq h2] at c1
  rw [e]
  exact ⟨q, hq, _, _, _, _, c0, c1, IntsAt.g (x := ((rs.getD j default).ht, (rs.getD j default).s.t)) hn (fun y hy => hm2 y (m1 y hy)) h1, IntsAt.g (x := ((rs.getD j default).hg, (rs.getD j default).s.g)) hn (fun y hy => hm2 y (m2 y hy)) h2⟩
/-- A yard in new memory: the blocks of its steps. -/
abbrev ydB (y : HD × List SR) : Heap := gbR srR 63 y.1 y.2 ++ srB y.2
def ydOk (y : HD × List SR) (ss : List St) : Prop := goR srR y.1 y.2 ∧ srOk y.2 ∧ y.2.map SR.s = ss
theorem ydOk.nil : ydOk (none, []) [] := ⟨⟨rfl, rfl⟩, fun r hr => by simp at hr, rfl⟩
theorem ydOk.len {y : HD × List SR} {ss : List St} (h : ydOk y ss) : y.2.length = ss.length := by rw [← h.2.2, List.length_map]
/-- A value is a yard. -/
def IsY (w : World) (v : Value) (n : Int) (ss : List St) : Prop := ∃ p c, v = yv n p ss.length c ∧ StsAt w p ss
theorem IsY.of {w : World} {n : Int} {p : Option Addr} {c : Nat} {ss : List St} (h : StsAt w p ss) : IsY w (yv n p ss.length c) n ss := ⟨p, c, rfl, h⟩
theorem IsY.new {w0 w : World} {G : Heap} {v : Value} {n : Int} {ss : List St} (h : IsY w0 v n ss) (hn : New w0 w G) : IsY w v n ss := by
  obtain ⟨p, c, rfl, hx⟩ := h
  exact ⟨p, c, rfl, hx.new hn⟩
theorem ydOk.gv {y : HD × List SR} {ss : List St} (h : ydOk y ss) : gval y.1 ss.length = .slice (gp y.1) ss.length (gc y.1) := by
  rw [← h.len]
  exact gval_eq h.1
theorem IsY.sr {w0 w : World} {G : Heap} {y : HD × List SR} {n : Int} {ss : List St} (h : ydOk y ss) (hn : New w0 w G) (hm : ∀ x ∈ ydB y, x ∈ G) : IsY w (.agg #[.int .i64 n, gval y.1 ss.length]) n ss :=
  ⟨gp y.1, gc y.1, by rw [h.gv], StsAt.sr hn (fun x hx => hm x (List.mem_append_left _ hx)) (fun x hx => hm x (List.mem_append_right _ hx)) h.1 h.2.1 h.2.2⟩
theorem fill_sg (h g : HD) (a b : Nat) : Instr.fill ([(0, 1), (1, 1)][·]?) #[.slice none 0 0, .slice none 0 0] [(0, gval h a), (1, gval g b)] = some #[gval h a, gval g b] := by cases h <;> cases g <;> kernel_rfl
theorem fill_s1 (h g : HD) (a b : Nat) : Instr.fill (fun i => some (i * 2, 2)) ((Array.range (1 * 2)).map ((Value.agg #[.slice none 0 0, .slice none 0 0]).cells[· % (Value.agg #[.slice none 0 0, .slice none 0 0]).cells.size]!)) [(0, .agg #[gval h a, gval g b])] = some #[gval h a, gval g b] := by cases h <;> cases g <;> kernel_rfl
theorem fill_n (n : Int) : Instr.fill ([(0, 1), (1, 1)][·]?) #[.int .i64 0, .slice none 0 0] [(0, Value.int .i64 n)] = some #[.int .i64 n, .slice none 0 0] := by kernel_rfl
/-- The first steps, in new memory. -/
structure TK (f : St → St) (ss : List St) (k : Nat) (y : HD × List SR) : Prop where
  le : k ≤ ss.length
  ok : ydOk y ((ss.take k).map f)
theorem TK.zero (f : St → St) (ss : List St) : TK f ss 0 (none, []) := ⟨Nat.zero_le _, ydOk.nil⟩
theorem TK.ln {f : St → St} {ss : List St} {k : Nat} {y : HD × List SR} (h : TK f ss k y) : y.2.length = k := by
  have h1 := h.ok.len
  have h2 := h.le
  rw [List.length_map, List.length_take] at h1
  omega
theorem TK.step {f : St → St} {ss : List St} {k : Nat} {y : HD × List SR} (h : TK f ss k y) (hk : k < ss.length) {h' ha hb : HD} (ho : goR srR h' (y.2 ++ [⟨ha, hb, f (ss.getD k default)⟩])) (h1 : goI (ha, (f (ss.getD k default)).t)) (h2 : goI (hb, (f (ss.getD k default)).g)) : TK f ss (k + 1) (h', y.2 ++ [⟨ha, hb, f (ss.getD k default)⟩]) :=
  ⟨hk, ho, srOk_snoc h.ok.2.1 h1 h2, by
    rw [List.map_append, h.ok.2.2, List.take_succ_eq_append_getElem hk, List.map_append]
    simp [List.getD, hk]⟩
theorem TK.fin {f : St → St} {ss : List St} {k : Nat} {y : HD × List SR} (h : TK f ss k y) (hk : k = ss.length) : ydOk y (ss.map f) := by
  have := h.ok
  rw [hk, List.take_length] at this
  exact this
theorem id_map (ss : List St) : ss.map (fun s => s) = ss := List.map_id _
theorem sts_len {a b : List St} (h : a.length = b.length) (h2 : ∀ k, k < a.length → (a.getD k default).t = (b.getD k default).t ∧ (a.getD k default).g = (b.getD k default).g) : a = b := by
  refine List.ext_getElem h fun j h1 h3 => ?_
  have := h2 j h1
  simp only [List.getD_eq_getElem?_getD, List.getElem?_eq_getElem h1, List.getElem?_eq_getElem h3, Option.getD_some] at this
  cases ha : a[j]
  cases hb : b[j]
  rw [ha, hb] at this
  simp only at this
  rw [this.1, this.2]
theorem VY.sw {n : Int} {ss : List St} (h : VY n ss) : VY n (ss.map swS) := ⟨h.hn, by rw [List.length_map]; exact h.len, fun k hk => by
  rw [List.length_map] at hk
  have e : (ss.map swS).getD k default = swS (ss.getD k default) := by simp [List.getD, hk]
  rw [e]
  have := h.st k hk
  unfold okS swS at *
  rw [Bool.and_comm]
  exact this⟩
theorem sw_at {ss : List St} {k : Nat} (hk : k < ss.length) : (ss.map swS).getD k default = swS (ss.getD k default) := by simp [List.getD, hk]
theorem SmS.sw {ss : List St} (h : SmS ss) : SmS (ss.map swS) := ⟨by rw [List.length_map]; exact h.1, fun k => by
  by_cases hk : k < ss.length
  · rw [sw_at hk]; exact ⟨(h.2 k).2, (h.2 k).1⟩
  · have e : (ss.map swS).getD k default = default := by simp [List.getD, hk]
    rw [e]
    exact ⟨by decide, by decide⟩⟩
theorem kS0 (ss : List St) : ss.map (kS 0) = ss := (List.map_congr_left (fun s _ => (if_pos rfl : kS 0 s = s))).trans (List.map_id _)
theorem kS1 (ss : List St) : ss.map (kS 1) = ss.map swS := List.map_congr_left fun s _ => (if_neg (by decide) : kS 1 s = swS s)
noncomputable def trnR (n : Int) (ss : List St) : Int × List St := if validI n ss ≠ 0 then (0, []) else (n, ss.map swS)


set_option maxRecDepth 100000 in
set_option maxHeartbeats 4000000 in
theorem turned_ok (w0 : World) (n : Int) (p : Option Addr) (cp : Nat) (ss : List St) (hr : StsAt w0 p ss) (hS : SmS ss) :
    Calls Try.prog 101 #[yv n p ss.length cp] w0 (Post (X := HD × List SR) (fun y => .agg #[.int .i64 n, gval y.1 (ss.map swS).length]) (fun y => ydOk y (ss.map swS)) (fun y => ydB y) w0) := by
  have hS1 := hS.1
  refine calls Try.func101 rfl (n := 38) rfl (by simp) ?_
  refine TC.seq ?_
  refine TC.region ?_
  refine TL.box rfl rfl (by decide) (fun b0 hb0 => ?_)
  refine TL.alloc Tb.zero_24 rfl (by decide) (fun b1 hb1 => ?_)
  refine TL.nil ?_
  refine TQ.thenC ?_
  refine TC.seq ?_
  refine TC.region ?_
  refine TL.pure (PV.fieldAddr rfl Tb.fo_24_0) rfl (by decide) ?_
  refine TL.pure (PV.load rfl Tb.one_3 (by repeat (first | exact List.Mem.head _ | refine List.Mem.tail _ ?_ | refine List.mem_append_right _ ?_)) rfl) rfl (by decide) ?_
  refine TL.pure (PV.build rfl Tb.zero_24 Tb.pl_24 (fill_n _)) rfl (by decide) ?_
  refine TL.alloc Tb.zero_24 rfl (by decide) (fun bT hbT => ?_)
  refine TL.storeAgg (vs := [.int .i64 n, .slice none 0 0]) rfl rfl Tb.cells_24 (by repeat (first | exact Upd.head _ | apply Upd.tail | apply Upd.appR)) rfl rfl rfl rfl rfl ?_
  refine TL.nil ?_
  refine TQ.thenC ?_
  refine TC.seq ?_
  refine TC.seq ?_
  refine TC.region ?_
  refine TL.pure (PV.assign rfl) rfl (by decide) ?_
  refine TL.nil ?_
  refine TQ.thenC ?_
  refine TC.block ?_
  refine TC.lit [(1, _), (2, _), (3, _), (4, _)] (by repeat (first | exact True.intro | refine And.intro rfl ?_)) ?_
  refine TC.loopK [1, 2, 3] (X := Nat × HD × List SR) (fun x => TK swS ss x.1 x.2) (fun x => [(4, .int .i64 x.1)]) (fun x => gbR srR 63 x.2.1 x.2.2 ++ (srB x.2.2 ++ [(bT, Obj.cells #[.int .i64 n, gval x.2.1 x.2.2.length] 24 (0, 0)), (b1, Obj.cells #[.int .i64 0, .slice none 0 0] 24 (0, 0)), (b0, Obj.cells #[.int .i64 n, .slice p ss.length cp] 24 (0, 0))])) (fun x => ss.length - x.1) (0, none, []) (TK.zero _ _) (by repeat (first | exact True.intro | refine And.intro rfl ?_)) (by repeat (first | exact List.Sublist.refl _ | refine List.Sublist.cons_cons _ ?_ | refine List.Sublist.cons _ ?_)) ?_
  intro x hx9
  refine TC.lit [(1, _), (2, _), (3, _), (4, _)] (by repeat (first | exact True.intro | refine And.intro rfl ?_)) ?_
  refine TC.seq ?_
  refine TC.seq ?_
  refine TC.region ?_
  refine TL.pure (PV.move rfl) rfl (by decide) ?_
  refine TL.pure (PV.fieldAddr rfl Tb.fo_24_1) rfl (by decide) ?_
  refine TL.pure (PV.load rfl Tb.one_22 (by repeat (first | exact List.Mem.head _ | refine List.Mem.tail _ ?_ | refine List.mem_append_right _ ?_)) rfl) rfl (by decide) ?_
  refine TL.pure (PV.len rfl Tb.sl_22) rfl (by decide) ?_
  refine TL.pure (PV.lss rfl rfl) rfl (by decide) ?_
  refine TL.nil ?_
  refine TQ.thenC ?_
  first | refine TC.condD rfl (fun hlt => ?_) (fun hlt => ?_) | refine TC.cond rfl (fun hlt => ?_) (fun hlt => ?_)
  · skip
    refine TC.skip ?_
    refine TQ.thenC ?_
    refine TC.seq ?_
    refine TC.block ?_
    have hxl := hx9.ln
    have hS2 := hS.2 x.1
    obtain ⟨q1, hq1p, pa, pb, ca, cb, hq10, hq11, hta, htb⟩ := hr x.1 (by omega)
    refine TC.mixV [true, true, false, true, true, true, true, true, true, false, false, true, true, true, true, true, true, false, true, false, false, true, false] [(bT, Obj.cells #[.int .i64 n, gval x.2.1 x.2.2.length] 24 (0, 0)), (b0, Obj.cells #[.int .i64 n, .slice p ss.length cp] 24 (0, 0))] 23 Tb.mixed rfl (by kernel_rfl) (by kernel_rfl) (by kernel_rfl) (by kernel_rfl) (by repeat (first | exact List.Sublist.slnil | exact List.nil_sublist _ | exact List.Sublist.refl _ | refine List.Sublist.cons_cons _ ?_ | refine List.Sublist.cons _ ?_ | refine List.Sublist.trans ?_ (List.sublist_append_right _ _))) ?_
    refine TV.virt 0 rfl rfl (by decide) rfl (by kernel_rfl) (SOK.pure (PV.fieldAddr rfl Tb.fo_24_1) rfl) ?_
    refine TV.virt 1 rfl rfl (by decide) rfl (by kernel_rfl) (SOK.pure (PV.load rfl Tb.one_22 (by repeat (first | exact List.Mem.head _ | refine List.Mem.tail _ ?_ | refine List.mem_append_right _ ?_)) rfl) rfl) ?_
    refine TV.virt 3 rfl rfl (by decide) rfl (by kernel_rfl) (SOK.pure (PV.fieldAddr rfl Tb.fo_24_1) rfl) ?_
    refine TV.virt 4 rfl rfl (by decide) rfl (by kernel_rfl) (SOK.pure (PV.load rfl Tb.one_22 (by repeat (first | exact List.Mem.head _ | refine List.Mem.tail _ ?_ | refine List.mem_append_right _ ?_)) rfl) rfl) ?_
    refine TV.virt 5 rfl rfl (by decide) rfl (by kernel_rfl) (SOK.pure (PV.move rfl) rfl) ?_
    refine TV.virt 6 rfl rfl (by decide) rfl (by kernel_rfl) (SOK.pure (PV.indexA (j := x.1) rfl hq1p rfl Tb.elm_22 rfl (by omega)) rfl) ?_
    refine TV.virt 7 rfl rfl (by decide) rfl (by kernel_rfl) (SOK.pure (PV.fieldAddrA rfl Tb.fo_63_1) rfl) ?_
    refine TV.virt 8 rfl rfl (by decide) rfl (by kernel_rfl) (SOK.pure (PV.loadOld rfl Tb.one_25 hq11) rfl) ?_
    refine TV.virt 11 rfl rfl (by decide) rfl (by kernel_rfl) (SOK.pure (PV.fieldAddr rfl Tb.fo_24_1) rfl) ?_
    refine TV.virt 12 rfl rfl (by decide) rfl (by kernel_rfl) (SOK.pure (PV.load rfl Tb.one_22 (by repeat (first | exact List.Mem.head _ | refine List.Mem.tail _ ?_ | refine List.mem_append_right _ ?_)) rfl) rfl) ?_
    refine TV.virt 13 rfl rfl (by decide) rfl (by kernel_rfl) (SOK.pure (PV.move rfl) rfl) ?_
    refine TV.virt 14 rfl rfl (by decide) rfl (by kernel_rfl) (SOK.pure (PV.indexA (j := x.1) rfl hq1p rfl Tb.elm_22 rfl (by omega)) rfl) ?_
    refine TV.virt 15 rfl rfl (by decide) rfl (by kernel_rfl) (SOK.pure (PV.fieldAddrA rfl Tb.fo_63_0) rfl) ?_
    refine TV.virt 16 rfl rfl (by decide) rfl (by kernel_rfl) (SOK.pure (PV.loadOld rfl Tb.one_25 hq10) rfl) ?_
    refine TV.step [2, 10] (by kernel_rfl) (by decide) rfl ⟨⟨_, rfl, ?_⟩, ⟨_, rfl, ?_⟩, trivial⟩
    · skip
      refine TL.buildSlice0 Tb.sl_25 Tb.zi_3 rfl (by decide) (fun bA hbA => ?_)
      refine TL.nil ?_
      refine TV.next (.inl (by repeat (first | exact List.Sublist.slnil | exact List.nil_sublist _ | exact List.Sublist.refl _ | refine List.Sublist.cons_cons _ ?_ | refine List.Sublist.cons _ ?_ | refine List.Sublist.trans ?_ (List.sublist_append_right _ _)))) ?_
      refine TV.step [9, 10] (by kernel_rfl) (by decide) rfl ⟨⟨_, rfl, ?_⟩, ⟨_, rfl, ?_⟩, trivial⟩
      · skip
        refine TL.append0 (bA := bA) (m := (ss.getD x.1 default).g.length) (news := ival (ss.getD x.1 default).g) rfl rfl Tb.sl_25 Tb.zi_3 rfl (by repeat (first | exact Take.head _ | apply Take.tail | apply Take.appR)) (fun w' hN => ints_src Tb.sl_25 rfl (htb.new hN)) (by omega) (by omega) rfl (by decide) (fun ha hha => ?_)
        refine TL.nil ?_
        refine TV.next (.inl (by repeat (first | exact List.Sublist.slnil | exact List.nil_sublist _ | exact List.Sublist.refl _ | refine List.Sublist.cons_cons _ ?_ | refine List.Sublist.cons _ ?_ | refine List.Sublist.trans ?_ (List.sublist_append_right _ _)))) ?_
        refine TV.step [10] (by kernel_rfl) (by decide) rfl ⟨⟨_, rfl, ?_⟩, trivial⟩
        refine TL.buildSlice0 Tb.sl_25 Tb.zi_3 rfl (by decide) (fun bC hbC => ?_)
        refine TL.nil ?_
        refine TV.next (.inl (by repeat (first | exact List.Sublist.slnil | exact List.nil_sublist _ | exact List.Sublist.refl _ | refine List.Sublist.cons_cons _ ?_ | refine List.Sublist.cons _ ?_ | refine List.Sublist.trans ?_ (List.sublist_append_right _ _)))) ?_
        refine TV.step [17] (by kernel_rfl) (by decide) rfl ⟨⟨_, rfl, ?_⟩, trivial⟩
        refine TL.append0 (bA := bC) (m := (ss.getD x.1 default).t.length) (news := ival (ss.getD x.1 default).t) rfl rfl Tb.sl_25 Tb.zi_3 rfl (by repeat (first | exact Take.head _ | apply Take.tail | apply Take.appR)) (fun w' hN => ints_src Tb.sl_25 rfl (hta.new hN)) (by omega) (by omega) rfl (by decide) (fun hb hhb => ?_)
        refine TL.nil ?_
        refine TV.next (.inl (by repeat (first | exact List.Sublist.slnil | exact List.nil_sublist _ | exact List.Sublist.refl _ | refine List.Sublist.cons_cons _ ?_ | refine List.Sublist.cons _ ?_ | refine List.Sublist.trans ?_ (List.sublist_append_right _ _)))) ?_
        refine TV.virt 18 rfl rfl (by decide) rfl (by kernel_rfl) (SOK.pure (PV.build rfl Tb.zero_63 Tb.pl_63 (fill_sg _ _ _ _)) rfl) ?_
        refine TV.step [19] (by kernel_rfl) (by decide) rfl ⟨⟨_, rfl, ?_⟩, trivial⟩
        refine TL.buildSlice (cs := #[gval ha (ss.getD x.1 default).g.length, gval hb (ss.getD x.1 default).t.length]) rfl Tb.sl_22 Tb.zi_63 (by decide) (fill_s1 _ _ _ _) (by decide) rfl (by decide) (fun bE hbE => ?_)
        refine TL.nil ?_
        refine TV.next (.inl (by repeat (first | exact List.Sublist.slnil | exact List.nil_sublist _ | exact List.Sublist.refl _ | refine List.Sublist.cons_cons _ ?_ | refine List.Sublist.cons _ ?_ | refine List.Sublist.trans ?_ (List.sublist_append_right _ _)))) ?_
        refine TV.step [20] (by kernel_rfl) (by decide) rfl ⟨⟨_, rfl, ?_⟩, trivial⟩
        refine TL.appendRec (R := srR) (h0 := x.2.1) (ys := x.2.2) (b := bE) (r := ⟨ha, hb, swS (ss.getD x.1 default)⟩) Tb.sl_22 Tb.zi_63 rfl rfl rfl (by repeat (first | exact List.Mem.head _ | refine List.Mem.tail _ ?_ | refine List.mem_append_right _ ?_)) hx9.ok.1 (by repeat (first | exact TakeH.here _ _ _ _ | apply TakeH.tail | apply TakeH.app)) (by omega) (by omega) rfl (by decide) (fun hh hho => ?_)
        refine TL.nil ?_
        refine TV.next (.inl (by repeat (first | exact List.Sublist.slnil | exact List.nil_sublist _ | exact List.Sublist.refl _ | refine List.Sublist.cons_cons _ ?_ | refine List.Sublist.cons _ ?_ | refine List.Sublist.trans ?_ (List.sublist_append_right _ _)))) ?_
        refine TV.virt 21 rfl rfl (by decide) rfl (by kernel_rfl) (SOK.pure (PV.fieldAddr rfl Tb.fo_24_1) rfl) ?_
        refine TV.step [22] (by kernel_rfl) (by decide) rfl ⟨⟨_, rfl, ?_⟩, trivial⟩
        refine TL.store (v := gval hh (x.2.2 ++ [(⟨ha, hb, swS (ss.getD x.1 default)⟩ : SR)]).length) rfl rfl Tb.cells_22 (gval_one _ _) (by repeat (first | exact Upd.head _ | apply Upd.tail | apply Upd.appR)) (by show 1 < 2; decide) rfl rfl ?_
        refine TL.nil ?_
        refine TV.next (.inr (by kernel_rfl)) ?_
        refine TV.done (by kernel_rfl) ?_
        refine TQ.blkN ?_
        refine TQ.thenC ?_
        refine TC.region ?_
        refine TL.pure (PV.move rfl) rfl (by decide) ?_
        refine TL.pure (PV.add rfl rfl (by omega)) rfl (by decide) ?_
        refine TL.pure (PV.assign rfl) rfl (by decide) ?_
        refine TL.nil ?_
        refine TQ.thenN ?_
        refine TQ.perm (G' := gbR srR 63 hh (x.2.2 ++ [(⟨ha, hb, swS (ss.getD x.1 default)⟩ : SR)]) ++ (srB (x.2.2 ++ [(⟨ha, hb, swS (ss.getD x.1 default)⟩ : SR)]) ++ [(bT, Obj.cells #[.int .i64 n, gval hh (x.2.2 ++ [(⟨ha, hb, swS (ss.getD x.1 default)⟩ : SR)]).length] 24 (0, 0)), (b1, Obj.cells #[.int .i64 0, .slice none 0 0] 24 (0, 0)), (b0, Obj.cells #[.int .i64 n, .slice p ss.length cp] 24 (0, 0)), (bE, Obj.cells #[gval ha (ss.getD x.1 default).g.length, gval hb (ss.getD x.1 default).t.length] 63 (0, 0))])) (perm_of fun c9 => by simp only [List.map_append, List.sum_append, List.map_cons, List.sum_cons, List.map_nil, List.sum_nil, srB_snoc, swS, gbI, gbR, arr_set1]; omega) ?_
        refine TQ.backK (x.1 + 1, hh, (x.2.2 ++ [(⟨ha, hb, swS (ss.getD x.1 default)⟩ : SR)])) (by repeat (first | exact True.intro | refine And.intro rfl ?_)) (by repeat (first | exact True.intro | refine And.intro rfl ?_)) (List.Sublist.append_left (List.Sublist.append_left (List.Sublist.cons_cons _ (List.Sublist.cons_cons _ (List.Sublist.cons_cons _ (List.nil_sublist _)))) _) _) (hx9.step (by omega) hho hha hhb) (by simp only; omega)
      · skip
        refine TL.buildSlice0 Tb.sl_25 Tb.zi_3 rfl (by decide) (fun bC hbC => ?_)
        refine TL.nil ?_
        refine TV.next (.inl (by repeat (first | exact List.Sublist.slnil | exact List.nil_sublist _ | exact List.Sublist.refl _ | refine List.Sublist.cons_cons _ ?_ | refine List.Sublist.cons _ ?_ | refine List.Sublist.trans ?_ (List.sublist_append_right _ _)))) ?_
        refine TV.step [9] (by kernel_rfl) (by decide) rfl ⟨⟨_, rfl, ?_⟩, trivial⟩
        refine TL.append0 (bA := bA) (m := (ss.getD x.1 default).g.length) (news := ival (ss.getD x.1 default).g) rfl rfl Tb.sl_25 Tb.zi_3 rfl (by repeat (first | exact Take.head _ | apply Take.tail | apply Take.appR)) (fun w' hN => ints_src Tb.sl_25 rfl (htb.new hN)) (by omega) (by omega) rfl (by decide) (fun ha hha => ?_)
        refine TL.nil ?_
        refine TV.next (.inl (by repeat (first | exact List.Sublist.slnil | exact List.nil_sublist _ | exact List.Sublist.refl _ | refine List.Sublist.cons_cons _ ?_ | refine List.Sublist.cons _ ?_ | refine List.Sublist.trans ?_ (List.sublist_append_right _ _)))) ?_
        refine TV.step [17] (by kernel_rfl) (by decide) rfl ⟨⟨_, rfl, ?_⟩, trivial⟩
        refine TL.append0 (bA := bC) (m := (ss.getD x.1 default).t.length) (news := ival (ss.getD x.1 default).t) rfl rfl Tb.sl_25 Tb.zi_3 rfl (by repeat (first | exact Take.head _ | apply Take.tail | apply Take.appR)) (fun w' hN => ints_src Tb.sl_25 rfl (hta.new hN)) (by omega) (by omega) rfl (by decide) (fun hb hhb => ?_)
        refine TL.nil ?_
        refine TV.next (.inl (by repeat (first | exact List.Sublist.slnil | exact List.nil_sublist _ | exact List.Sublist.refl _ | refine List.Sublist.cons_cons _ ?_ | refine List.Sublist.cons _ ?_ | refine List.Sublist.trans ?_ (List.sublist_append_right _ _)))) ?_
        refine TV.virt 18 rfl rfl (by decide) rfl (by kernel_rfl) (SOK.pure (PV.build rfl Tb.zero_63 Tb.pl_63 (fill_sg _ _ _ _)) rfl) ?_
        refine TV.step [19] (by kernel_rfl) (by decide) rfl ⟨⟨_, rfl, ?_⟩, trivial⟩
        refine TL.buildSlice (cs := #[gval ha (ss.getD x.1 default).g.length, gval hb (ss.getD x.1 default).t.length]) rfl Tb.sl_22 Tb.zi_63 (by decide) (fill_s1 _ _ _ _) (by decide) rfl (by decide) (fun bE hbE => ?_)
        refine TL.nil ?_
        refine TV.next (.inl (by repeat (first | exact List.Sublist.slnil | exact List.nil_sublist _ | exact List.Sublist.refl _ | refine List.Sublist.cons_cons _ ?_ | refine List.Sublist.cons _ ?_ | refine List.Sublist.trans ?_ (List.sublist_append_right _ _)))) ?_
        refine TV.step [20] (by kernel_rfl) (by decide) rfl ⟨⟨_, rfl, ?_⟩, trivial⟩
        refine TL.appendRec (R := srR) (h0 := x.2.1) (ys := x.2.2) (b := bE) (r := ⟨ha, hb, swS (ss.getD x.1 default)⟩) Tb.sl_22 Tb.zi_63 rfl rfl rfl (by repeat (first | exact List.Mem.head _ | refine List.Mem.tail _ ?_ | refine List.mem_append_right _ ?_)) hx9.ok.1 (by repeat (first | exact TakeH.here _ _ _ _ | apply TakeH.tail | apply TakeH.app)) (by omega) (by omega) rfl (by decide) (fun hh hho => ?_)
        refine TL.nil ?_
        refine TV.next (.inl (by repeat (first | exact List.Sublist.slnil | exact List.nil_sublist _ | exact List.Sublist.refl _ | refine List.Sublist.cons_cons _ ?_ | refine List.Sublist.cons _ ?_ | refine List.Sublist.trans ?_ (List.sublist_append_right _ _)))) ?_
        refine TV.virt 21 rfl rfl (by decide) rfl (by kernel_rfl) (SOK.pure (PV.fieldAddr rfl Tb.fo_24_1) rfl) ?_
        refine TV.step [22] (by kernel_rfl) (by decide) rfl ⟨⟨_, rfl, ?_⟩, trivial⟩
        refine TL.store (v := gval hh (x.2.2 ++ [(⟨ha, hb, swS (ss.getD x.1 default)⟩ : SR)]).length) rfl rfl Tb.cells_22 (gval_one _ _) (by repeat (first | exact Upd.head _ | apply Upd.tail | apply Upd.appR)) (by show 1 < 2; decide) rfl rfl ?_
        refine TL.nil ?_
        refine TV.next (.inr (by kernel_rfl)) ?_
        refine TV.done (by kernel_rfl) ?_
        refine TQ.blkN ?_
        refine TQ.thenC ?_
        refine TC.region ?_
        refine TL.pure (PV.move rfl) rfl (by decide) ?_
        refine TL.pure (PV.add rfl rfl (by omega)) rfl (by decide) ?_
        refine TL.pure (PV.assign rfl) rfl (by decide) ?_
        refine TL.nil ?_
        refine TQ.thenN ?_
        refine TQ.perm (G' := gbR srR 63 hh (x.2.2 ++ [(⟨ha, hb, swS (ss.getD x.1 default)⟩ : SR)]) ++ (srB (x.2.2 ++ [(⟨ha, hb, swS (ss.getD x.1 default)⟩ : SR)]) ++ [(bT, Obj.cells #[.int .i64 n, gval hh (x.2.2 ++ [(⟨ha, hb, swS (ss.getD x.1 default)⟩ : SR)]).length] 24 (0, 0)), (b1, Obj.cells #[.int .i64 0, .slice none 0 0] 24 (0, 0)), (b0, Obj.cells #[.int .i64 n, .slice p ss.length cp] 24 (0, 0)), (bE, Obj.cells #[gval ha (ss.getD x.1 default).g.length, gval hb (ss.getD x.1 default).t.length] 63 (0, 0))])) (perm_of fun c9 => by simp only [List.map_append, List.sum_append, List.map_cons, List.sum_cons, List.map_nil, List.sum_nil, srB_snoc, swS, gbI, gbR, arr_set1]; omega) ?_
        refine TQ.backK (x.1 + 1, hh, (x.2.2 ++ [(⟨ha, hb, swS (ss.getD x.1 default)⟩ : SR)])) (by repeat (first | exact True.intro | refine And.intro rfl ?_)) (by repeat (first | exact True.intro | refine And.intro rfl ?_)) (List.Sublist.append_left (List.Sublist.append_left (List.Sublist.cons_cons _ (List.Sublist.cons_cons _ (List.Sublist.cons_cons _ (List.nil_sublist _)))) _) _) (hx9.step (by omega) hho hha hhb) (by simp only; omega)
    · skip
      refine TL.buildSlice0 Tb.sl_25 Tb.zi_3 rfl (by decide) (fun bC hbC => ?_)
      refine TL.nil ?_
      refine TV.next (.inl (by repeat (first | exact List.Sublist.slnil | exact List.nil_sublist _ | exact List.Sublist.refl _ | refine List.Sublist.cons_cons _ ?_ | refine List.Sublist.cons _ ?_ | refine List.Sublist.trans ?_ (List.sublist_append_right _ _)))) ?_
      refine TV.step [2] (by kernel_rfl) (by decide) rfl ⟨⟨_, rfl, ?_⟩, trivial⟩
      refine TL.buildSlice0 Tb.sl_25 Tb.zi_3 rfl (by decide) (fun bA hbA => ?_)
      refine TL.nil ?_
      refine TV.next (.inl (by repeat (first | exact List.Sublist.slnil | exact List.nil_sublist _ | exact List.Sublist.refl _ | refine List.Sublist.cons_cons _ ?_ | refine List.Sublist.cons _ ?_ | refine List.Sublist.trans ?_ (List.sublist_append_right _ _)))) ?_
      refine TV.step [9] (by kernel_rfl) (by decide) rfl ⟨⟨_, rfl, ?_⟩, trivial⟩
      refine TL.append0 (bA := bA) (m := (ss.getD x.1 default).g.length) (news := ival (ss.getD x.1 default).g) rfl rfl Tb.sl_25 Tb.zi_3 rfl (by repeat (first | exact Take.head _ | apply Take.tail | apply Take.appR)) (fun w' hN => ints_src Tb.sl_25 rfl (htb.new hN)) (by omega) (by omega) rfl (by decide) (fun ha hha => ?_)
      refine TL.nil ?_
      refine TV.next (.inl (by repeat (first | exact List.Sublist.slnil | exact List.nil_sublist _ | exact List.Sublist.refl _ | refine List.Sublist.cons_cons _ ?_ | refine List.Sublist.cons _ ?_ | refine List.Sublist.trans ?_ (List.sublist_append_right _ _)))) ?_
      refine TV.step [17] (by kernel_rfl) (by decide) rfl ⟨⟨_, rfl, ?_⟩, trivial⟩
      refine TL.append0 (bA := bC) (m := (ss.getD x.1 default).t.length) (news := ival (ss.getD x.1 default).t) rfl rfl Tb.sl_25 Tb.zi_3 rfl (by repeat (first | exact Take.head _ | apply Take.tail | apply Take.appR)) (fun w' hN => ints_src Tb.sl_25 rfl (hta.new hN)) (by omega) (by omega) rfl (by decide) (fun hb hhb => ?_)
      refine TL.nil ?_
      refine TV.next (.inl (by repeat (first | exact List.Sublist.slnil | exact List.nil_sublist _ | exact List.Sublist.refl _ | refine List.Sublist.cons_cons _ ?_ | refine List.Sublist.cons _ ?_ | refine List.Sublist.trans ?_ (List.sublist_append_right _ _)))) ?_
      refine TV.virt 18 rfl rfl (by decide) rfl (by kernel_rfl) (SOK.pure (PV.build rfl Tb.zero_63 Tb.pl_63 (fill_sg _ _ _ _)) rfl) ?_
      refine TV.step [19] (by kernel_rfl) (by decide) rfl ⟨⟨_, rfl, ?_⟩, trivial⟩
      refine TL.buildSlice (cs := #[gval ha (ss.getD x.1 default).g.length, gval hb (ss.getD x.1 default).t.length]) rfl Tb.sl_22 Tb.zi_63 (by decide) (fill_s1 _ _ _ _) (by decide) rfl (by decide) (fun bE hbE => ?_)
      refine TL.nil ?_
      refine TV.next (.inl (by repeat (first | exact List.Sublist.slnil | exact List.nil_sublist _ | exact List.Sublist.refl _ | refine List.Sublist.cons_cons _ ?_ | refine List.Sublist.cons _ ?_ | refine List.Sublist.trans ?_ (List.sublist_append_right _ _)))) ?_
      refine TV.step [20] (by kernel_rfl) (by decide) rfl ⟨⟨_, rfl, ?_⟩, trivial⟩
      refine TL.appendRec (R := srR) (h0 := x.2.1) (ys := x.2.2) (b := bE) (r := ⟨ha, hb, swS (ss.getD x.1 default)⟩) Tb.sl_22 Tb.zi_63 rfl rfl rfl (by repeat (first | exact List.Mem.head _ | refine List.Mem.tail _ ?_ | refine List.mem_append_right _ ?_)) hx9.ok.1 (by repeat (first | exact TakeH.here _ _ _ _ | apply TakeH.tail | apply TakeH.app)) (by omega) (by omega) rfl (by decide) (fun hh hho => ?_)
      refine TL.nil ?_
      refine TV.next (.inl (by repeat (first | exact List.Sublist.slnil | exact List.nil_sublist _ | exact List.Sublist.refl _ | refine List.Sublist.cons_cons _ ?_ | refine List.Sublist.cons _ ?_ | refine List.Sublist.trans ?_ (List.sublist_append_right _ _)))) ?_
      refine TV.virt 21 rfl rfl (by decide) rfl (by kernel_rfl) (SOK.pure (PV.fieldAddr rfl Tb.fo_24_1) rfl) ?_
      refine TV.step [22] (by kernel_rfl) (by decide) rfl ⟨⟨_, rfl, ?_⟩, trivial⟩
      refine TL.store (v := gval hh (x.2.2 ++ [(⟨ha, hb, swS (ss.getD x.1 default)⟩ : SR)]).length) rfl rfl Tb.cells_22 (gval_one _ _) (by repeat (first | exact Upd.head _ | apply Upd.tail | apply Upd.appR)) (by show 1 < 2; decide) rfl rfl ?_
      refine TL.nil ?_
      refine TV.next (.inr (by kernel_rfl)) ?_
      refine TV.done (by kernel_rfl) ?_
      refine TQ.blkN ?_
      refine TQ.thenC ?_
      refine TC.region ?_
      refine TL.pure (PV.move rfl) rfl (by decide) ?_
      refine TL.pure (PV.add rfl rfl (by omega)) rfl (by decide) ?_
      refine TL.pure (PV.assign rfl) rfl (by decide) ?_
      refine TL.nil ?_
      refine TQ.thenN ?_
      refine TQ.perm (G' := gbR srR 63 hh (x.2.2 ++ [(⟨ha, hb, swS (ss.getD x.1 default)⟩ : SR)]) ++ (srB (x.2.2 ++ [(⟨ha, hb, swS (ss.getD x.1 default)⟩ : SR)]) ++ [(bT, Obj.cells #[.int .i64 n, gval hh (x.2.2 ++ [(⟨ha, hb, swS (ss.getD x.1 default)⟩ : SR)]).length] 24 (0, 0)), (b1, Obj.cells #[.int .i64 0, .slice none 0 0] 24 (0, 0)), (b0, Obj.cells #[.int .i64 n, .slice p ss.length cp] 24 (0, 0)), (bE, Obj.cells #[gval ha (ss.getD x.1 default).g.length, gval hb (ss.getD x.1 default).t.length] 63 (0, 0))])) (perm_of fun c9 => by simp only [List.map_append, List.sum_append, List.map_cons, List.sum_cons, List.map_nil, List.sum_nil, srB_snoc, swS, gbI, gbR, arr_set1]; omega) ?_
      refine TQ.backK (x.1 + 1, hh, (x.2.2 ++ [(⟨ha, hb, swS (ss.getD x.1 default)⟩ : SR)])) (by repeat (first | exact True.intro | refine And.intro rfl ?_)) (by repeat (first | exact True.intro | refine And.intro rfl ?_)) (List.Sublist.append_left (List.Sublist.append_left (List.Sublist.cons_cons _ (List.Sublist.cons_cons _ (List.Sublist.cons_cons _ (List.nil_sublist _)))) _) _) (hx9.step (by omega) hho hha hhb) (by simp only; omega)
  · skip
    refine TC.exit ?_
    refine TQ.thenE ?_
    refine TQ.thenE ?_
    refine TQ.blkS ?_
    refine TQ.thenC ?_
    refine TC.seq ?_
    have hxe : x.1 = ss.length := by have := hx9.le; omega
    have hfin := hx9.fin hxe
    refine TC.region ?_
    refine TL.pure (PV.loadBox rfl Tb.agg_24 (by repeat (first | exact List.Mem.head _ | refine List.Mem.tail _ ?_ | refine List.mem_append_right _ ?_)) rfl) rfl (by decide) ?_
    refine TL.storeAgg rfl rfl Tb.cells_24 (by repeat (first | exact Upd.head _ | apply Upd.tail | apply Upd.appR)) rfl rfl (by first | rfl | exact sv_one _ _ _) rfl rfl ?_
    refine TL.nil ?_
    refine TQ.thenC ?_
    refine TC.ret ?_
    refine TQ.retR rfl (Res.agg rfl Tb.agg_24 (by repeat (first | exact List.Mem.head _ | refine List.Mem.tail _ ?_ | refine List.mem_append_right _ ?_)) rfl Res.nil) ?_
    simp only [tup]
    exact ⟨x.2, by rw [hx9.ln, hxe, List.length_map], hfin, by simp only [ydB, List.append_assoc]; exact List.Sublist.append_left (List.sublist_append_left _ _) _⟩

set_option maxRecDepth 100000 in
set_option maxHeartbeats 4000000 in
theorem copy_ok (w0 : World) (n : Int) (p : Option Addr) (cp : Nat) (ss : List St) (hr : StsAt w0 p ss) (hS : SmS ss) :
    Calls Try.prog 57 #[yv n p ss.length cp] w0 (Post (X := HD × List SR) (fun y => .agg #[.int .i64 n, gval y.1 (ss.map (fun s => s)).length]) (fun y => ydOk y (ss.map (fun s => s))) (fun y => ydB y) w0) := by
  have hS1 := hS.1
  refine calls Try.func57 rfl (n := 38) rfl (by simp) ?_
  refine TC.seq ?_
  refine TC.region ?_
  refine TL.box rfl rfl (by decide) (fun b0 hb0 => ?_)
  refine TL.alloc Tb.zero_24 rfl (by decide) (fun b1 hb1 => ?_)
  refine TL.nil ?_
  refine TQ.thenC ?_
  refine TC.seq ?_
  refine TC.region ?_
  refine TL.pure (PV.fieldAddr rfl Tb.fo_24_0) rfl (by decide) ?_
  refine TL.pure (PV.load rfl Tb.one_3 (by repeat (first | exact List.Mem.head _ | refine List.Mem.tail _ ?_ | refine List.mem_append_right _ ?_)) rfl) rfl (by decide) ?_
  refine TL.pure (PV.build rfl Tb.zero_24 Tb.pl_24 (fill_n _)) rfl (by decide) ?_
  refine TL.alloc Tb.zero_24 rfl (by decide) (fun bT hbT => ?_)
  refine TL.storeAgg (vs := [.int .i64 n, .slice none 0 0]) rfl rfl Tb.cells_24 (by repeat (first | exact Upd.head _ | apply Upd.tail | apply Upd.appR)) rfl rfl rfl rfl rfl ?_
  refine TL.nil ?_
  refine TQ.thenC ?_
  refine TC.seq ?_
  refine TC.seq ?_
  refine TC.region ?_
  refine TL.pure (PV.assign rfl) rfl (by decide) ?_
  refine TL.nil ?_
  refine TQ.thenC ?_
  refine TC.block ?_
  refine TC.lit [(1, _), (2, _), (3, _), (4, _)] (by repeat (first | exact True.intro | refine And.intro rfl ?_)) ?_
  refine TC.loopK [1, 2, 3] (X := Nat × HD × List SR) (fun x => TK (fun s => s) ss x.1 x.2) (fun x => [(4, .int .i64 x.1)]) (fun x => gbR srR 63 x.2.1 x.2.2 ++ (srB x.2.2 ++ [(bT, Obj.cells #[.int .i64 n, gval x.2.1 x.2.2.length] 24 (0, 0)), (b1, Obj.cells #[.int .i64 0, .slice none 0 0] 24 (0, 0)), (b0, Obj.cells #[.int .i64 n, .slice p ss.length cp] 24 (0, 0))])) (fun x => ss.length - x.1) (0, none, []) (TK.zero _ _) (by repeat (first | exact True.intro | refine And.intro rfl ?_)) (by repeat (first | exact List.Sublist.refl _ | refine List.Sublist.cons_cons _ ?_ | refine List.Sublist.cons _ ?_)) ?_
  intro x hx9
  refine TC.lit [(1, _), (2, _), (3, _), (4, _)] (by repeat (first | exact True.intro | refine And.intro rfl ?_)) ?_
  refine TC.seq ?_
  refine TC.seq ?_
  refine TC.region ?_
  refine TL.pure (PV.move rfl) rfl (by decide) ?_
  refine TL.pure (PV.fieldAddr rfl Tb.fo_24_1) rfl (by decide) ?_
  refine TL.pure (PV.load rfl Tb.one_22 (by repeat (first | exact List.Mem.head _ | refine List.Mem.tail _ ?_ | refine List.mem_append_right _ ?_)) rfl) rfl (by decide) ?_
  refine TL.pure (PV.len rfl Tb.sl_22) rfl (by decide) ?_
  refine TL.pure (PV.lss rfl rfl) rfl (by decide) ?_
  refine TL.nil ?_
  refine TQ.thenC ?_
  first | refine TC.condD rfl (fun hlt => ?_) (fun hlt => ?_) | refine TC.cond rfl (fun hlt => ?_) (fun hlt => ?_)
  · skip
    refine TC.skip ?_
    refine TQ.thenC ?_
    refine TC.seq ?_
    refine TC.block ?_
    have hxl := hx9.ln
    have hS2 := hS.2 x.1
    obtain ⟨q1, hq1p, pa, pb, ca, cb, hq10, hq11, hta, htb⟩ := hr x.1 (by omega)
    refine TC.mixV [true, true, false, true, true, true, true, true, true, false, false, true, true, true, true, true, true, false, true, false, false, true, false] [(bT, Obj.cells #[.int .i64 n, gval x.2.1 x.2.2.length] 24 (0, 0)), (b0, Obj.cells #[.int .i64 n, .slice p ss.length cp] 24 (0, 0))] 23 Tb.mixed rfl (by kernel_rfl) (by kernel_rfl) (by kernel_rfl) (by kernel_rfl) (by repeat (first | exact List.Sublist.slnil | exact List.nil_sublist _ | exact List.Sublist.refl _ | refine List.Sublist.cons_cons _ ?_ | refine List.Sublist.cons _ ?_ | refine List.Sublist.trans ?_ (List.sublist_append_right _ _))) ?_
    refine TV.virt 0 rfl rfl (by decide) rfl (by kernel_rfl) (SOK.pure (PV.fieldAddr rfl Tb.fo_24_1) rfl) ?_
    refine TV.virt 1 rfl rfl (by decide) rfl (by kernel_rfl) (SOK.pure (PV.load rfl Tb.one_22 (by repeat (first | exact List.Mem.head _ | refine List.Mem.tail _ ?_ | refine List.mem_append_right _ ?_)) rfl) rfl) ?_
    refine TV.virt 3 rfl rfl (by decide) rfl (by kernel_rfl) (SOK.pure (PV.fieldAddr rfl Tb.fo_24_1) rfl) ?_
    refine TV.virt 4 rfl rfl (by decide) rfl (by kernel_rfl) (SOK.pure (PV.load rfl Tb.one_22 (by repeat (first | exact List.Mem.head _ | refine List.Mem.tail _ ?_ | refine List.mem_append_right _ ?_)) rfl) rfl) ?_
    refine TV.virt 5 rfl rfl (by decide) rfl (by kernel_rfl) (SOK.pure (PV.move rfl) rfl) ?_
    refine TV.virt 6 rfl rfl (by decide) rfl (by kernel_rfl) (SOK.pure (PV.indexA (j := x.1) rfl hq1p rfl Tb.elm_22 rfl (by omega)) rfl) ?_
    refine TV.virt 7 rfl rfl (by decide) rfl (by kernel_rfl) (SOK.pure (PV.fieldAddrA rfl Tb.fo_63_0) rfl) ?_
    refine TV.virt 8 rfl rfl (by decide) rfl (by kernel_rfl) (SOK.pure (PV.loadOld rfl Tb.one_25 hq10) rfl) ?_
    refine TV.virt 11 rfl rfl (by decide) rfl (by kernel_rfl) (SOK.pure (PV.fieldAddr rfl Tb.fo_24_1) rfl) ?_
    refine TV.virt 12 rfl rfl (by decide) rfl (by kernel_rfl) (SOK.pure (PV.load rfl Tb.one_22 (by repeat (first | exact List.Mem.head _ | refine List.Mem.tail _ ?_ | refine List.mem_append_right _ ?_)) rfl) rfl) ?_
    refine TV.virt 13 rfl rfl (by decide) rfl (by kernel_rfl) (SOK.pure (PV.move rfl) rfl) ?_
    refine TV.virt 14 rfl rfl (by decide) rfl (by kernel_rfl) (SOK.pure (PV.indexA (j := x.1) rfl hq1p rfl Tb.elm_22 rfl (by omega)) rfl) ?_
    refine TV.virt 15 rfl rfl (by decide) rfl (by kernel_rfl) (SOK.pure (PV.fieldAddrA rfl Tb.fo_63_1) rfl) ?_
    refine TV.virt 16 rfl rfl (by decide) rfl (by kernel_rfl) (SOK.pure (PV.loadOld rfl Tb.one_25 hq11) rfl) ?_
    refine TV.step [2, 10] (by kernel_rfl) (by decide) rfl ⟨⟨_, rfl, ?_⟩, ⟨_, rfl, ?_⟩, trivial⟩
    · skip
      refine TL.buildSlice0 Tb.sl_25 Tb.zi_3 rfl (by decide) (fun bA hbA => ?_)
      refine TL.nil ?_
      refine TV.next (.inl (by repeat (first | exact List.Sublist.slnil | exact List.nil_sublist _ | exact List.Sublist.refl _ | refine List.Sublist.cons_cons _ ?_ | refine List.Sublist.cons _ ?_ | refine List.Sublist.trans ?_ (List.sublist_append_right _ _)))) ?_
      refine TV.step [9, 10] (by kernel_rfl) (by decide) rfl ⟨⟨_, rfl, ?_⟩, ⟨_, rfl, ?_⟩, trivial⟩
      · skip
        refine TL.append0 (bA := bA) (m := (ss.getD x.1 default).t.length) (news := ival (ss.getD x.1 default).t) rfl rfl Tb.sl_25 Tb.zi_3 rfl (by repeat (first | exact Take.head _ | apply Take.tail | apply Take.appR)) (fun w' hN => ints_src Tb.sl_25 rfl (hta.new hN)) (by omega) (by omega) rfl (by decide) (fun ha hha => ?_)
        refine TL.nil ?_
        refine TV.next (.inl (by repeat (first | exact List.Sublist.slnil | exact List.nil_sublist _ | exact List.Sublist.refl _ | refine List.Sublist.cons_cons _ ?_ | refine List.Sublist.cons _ ?_ | refine List.Sublist.trans ?_ (List.sublist_append_right _ _)))) ?_
        refine TV.step [10] (by kernel_rfl) (by decide) rfl ⟨⟨_, rfl, ?_⟩, trivial⟩
        refine TL.buildSlice0 Tb.sl_25 Tb.zi_3 rfl (by decide) (fun bC hbC => ?_)
        refine TL.nil ?_
        refine TV.next (.inl (by repeat (first | exact List.Sublist.slnil | exact List.nil_sublist _ | exact List.Sublist.refl _ | refine List.Sublist.cons_cons _ ?_ | refine List.Sublist.cons _ ?_ | refine List.Sublist.trans ?_ (List.sublist_append_right _ _)))) ?_
        refine TV.step [17] (by kernel_rfl) (by decide) rfl ⟨⟨_, rfl, ?_⟩, trivial⟩
        refine TL.append0 (bA := bC) (m := (ss.getD x.1 default).g.length) (news := ival (ss.getD x.1 default).g) rfl rfl Tb.sl_25 Tb.zi_3 rfl (by repeat (first | exact Take.head _ | apply Take.tail | apply Take.appR)) (fun w' hN => ints_src Tb.sl_25 rfl (htb.new hN)) (by omega) (by omega) rfl (by decide) (fun hb hhb => ?_)
        refine TL.nil ?_
        refine TV.next (.inl (by repeat (first | exact List.Sublist.slnil | exact List.nil_sublist _ | exact List.Sublist.refl _ | refine List.Sublist.cons_cons _ ?_ | refine List.Sublist.cons _ ?_ | refine List.Sublist.trans ?_ (List.sublist_append_right _ _)))) ?_
        refine TV.virt 18 rfl rfl (by decide) rfl (by kernel_rfl) (SOK.pure (PV.build rfl Tb.zero_63 Tb.pl_63 (fill_sg _ _ _ _)) rfl) ?_
        refine TV.step [19] (by kernel_rfl) (by decide) rfl ⟨⟨_, rfl, ?_⟩, trivial⟩
        refine TL.buildSlice (cs := #[gval ha (ss.getD x.1 default).t.length, gval hb (ss.getD x.1 default).g.length]) rfl Tb.sl_22 Tb.zi_63 (by decide) (fill_s1 _ _ _ _) (by decide) rfl (by decide) (fun bE hbE => ?_)
        refine TL.nil ?_
        refine TV.next (.inl (by repeat (first | exact List.Sublist.slnil | exact List.nil_sublist _ | exact List.Sublist.refl _ | refine List.Sublist.cons_cons _ ?_ | refine List.Sublist.cons _ ?_ | refine List.Sublist.trans ?_ (List.sublist_append_right _ _)))) ?_
        refine TV.step [20] (by kernel_rfl) (by decide) rfl ⟨⟨_, rfl, ?_⟩, trivial⟩
        refine TL.appendRec (R := srR) (h0 := x.2.1) (ys := x.2.2) (b := bE) (r := ⟨ha, hb, (fun s => s) (ss.getD x.1 default)⟩) Tb.sl_22 Tb.zi_63 rfl rfl rfl (by repeat (first | exact List.Mem.head _ | refine List.Mem.tail _ ?_ | refine List.mem_append_right _ ?_)) hx9.ok.1 (by repeat (first | exact TakeH.here _ _ _ _ | apply TakeH.tail | apply TakeH.app)) (by omega) (by omega) rfl (by decide) (fun hh hho => ?_)
        refine TL.nil ?_
        refine TV.next (.inl (by repeat (first | exact List.Sublist.slnil | exact List.nil_sublist _ | exact List.Sublist.refl _ | refine List.Sublist.cons_cons _ ?_ | refine List.Sublist.cons _ ?_ | refine List.Sublist.trans ?_ (List.sublist_append_right _ _)))) ?_
        refine TV.virt 21 rfl rfl (by decide) rfl (by kernel_rfl) (SOK.pure (PV.fieldAddr rfl Tb.fo_24_1) rfl) ?_
        refine TV.step [22] (by kernel_rfl) (by decide) rfl ⟨⟨_, rfl, ?_⟩, trivial⟩
        refine TL.store (v := gval hh (x.2.2 ++ [(⟨ha, hb, (fun s => s) (ss.getD x.1 default)⟩ : SR)]).length) rfl rfl Tb.cells_22 (gval_one _ _) (by repeat (first | exact Upd.head _ | apply Upd.tail | apply Upd.appR)) (by show 1 < 2; decide) rfl rfl ?_
        refine TL.nil ?_
        refine TV.next (.inr (by kernel_rfl)) ?_
        refine TV.done (by kernel_rfl) ?_
        refine TQ.blkN ?_
        refine TQ.thenC ?_
        refine TC.region ?_
        refine TL.pure (PV.move rfl) rfl (by decide) ?_
        refine TL.pure (PV.add rfl rfl (by omega)) rfl (by decide) ?_
        refine TL.pure (PV.assign rfl) rfl (by decide) ?_
        refine TL.nil ?_
        refine TQ.thenN ?_
        refine TQ.perm (G' := gbR srR 63 hh (x.2.2 ++ [(⟨ha, hb, (fun s => s) (ss.getD x.1 default)⟩ : SR)]) ++ (srB (x.2.2 ++ [(⟨ha, hb, (fun s => s) (ss.getD x.1 default)⟩ : SR)]) ++ [(bT, Obj.cells #[.int .i64 n, gval hh (x.2.2 ++ [(⟨ha, hb, (fun s => s) (ss.getD x.1 default)⟩ : SR)]).length] 24 (0, 0)), (b1, Obj.cells #[.int .i64 0, .slice none 0 0] 24 (0, 0)), (b0, Obj.cells #[.int .i64 n, .slice p ss.length cp] 24 (0, 0)), (bE, Obj.cells #[gval ha (ss.getD x.1 default).t.length, gval hb (ss.getD x.1 default).g.length] 63 (0, 0))])) (perm_of fun c9 => by simp only [List.map_append, List.sum_append, List.map_cons, List.sum_cons, List.map_nil, List.sum_nil, srB_snoc, swS, gbI, gbR, arr_set1]; omega) ?_
        refine TQ.backK (x.1 + 1, hh, (x.2.2 ++ [(⟨ha, hb, (fun s => s) (ss.getD x.1 default)⟩ : SR)])) (by repeat (first | exact True.intro | refine And.intro rfl ?_)) (by repeat (first | exact True.intro | refine And.intro rfl ?_)) (List.Sublist.append_left (List.Sublist.append_left (List.Sublist.cons_cons _ (List.Sublist.cons_cons _ (List.Sublist.cons_cons _ (List.nil_sublist _)))) _) _) (hx9.step (by omega) hho hha hhb) (by simp only; omega)
      · skip
        refine TL.buildSlice0 Tb.sl_25 Tb.zi_3 rfl (by decide) (fun bC hbC => ?_)
        refine TL.nil ?_
        refine TV.next (.inl (by repeat (first | exact List.Sublist.slnil | exact List.nil_sublist _ | exact List.Sublist.refl _ | refine List.Sublist.cons_cons _ ?_ | refine List.Sublist.cons _ ?_ | refine List.Sublist.trans ?_ (List.sublist_append_right _ _)))) ?_
        refine TV.step [9] (by kernel_rfl) (by decide) rfl ⟨⟨_, rfl, ?_⟩, trivial⟩
        refine TL.append0 (bA := bA) (m := (ss.getD x.1 default).t.length) (news := ival (ss.getD x.1 default).t) rfl rfl Tb.sl_25 Tb.zi_3 rfl (by repeat (first | exact Take.head _ | apply Take.tail | apply Take.appR)) (fun w' hN => ints_src Tb.sl_25 rfl (hta.new hN)) (by omega) (by omega) rfl (by decide) (fun ha hha => ?_)
        refine TL.nil ?_
        refine TV.next (.inl (by repeat (first | exact List.Sublist.slnil | exact List.nil_sublist _ | exact List.Sublist.refl _ | refine List.Sublist.cons_cons _ ?_ | refine List.Sublist.cons _ ?_ | refine List.Sublist.trans ?_ (List.sublist_append_right _ _)))) ?_
        refine TV.step [17] (by kernel_rfl) (by decide) rfl ⟨⟨_, rfl, ?_⟩, trivial⟩
        refine TL.append0 (bA := bC) (m := (ss.getD x.1 default).g.length) (news := ival (ss.getD x.1 default).g) rfl rfl Tb.sl_25 Tb.zi_3 rfl (by repeat (first | exact Take.head _ | apply Take.tail | apply Take.appR)) (fun w' hN => ints_src Tb.sl_25 rfl (htb.new hN)) (by omega) (by omega) rfl (by decide) (fun hb hhb => ?_)
        refine TL.nil ?_
        refine TV.next (.inl (by repeat (first | exact List.Sublist.slnil | exact List.nil_sublist _ | exact List.Sublist.refl _ | refine List.Sublist.cons_cons _ ?_ | refine List.Sublist.cons _ ?_ | refine List.Sublist.trans ?_ (List.sublist_append_right _ _)))) ?_
        refine TV.virt 18 rfl rfl (by decide) rfl (by kernel_rfl) (SOK.pure (PV.build rfl Tb.zero_63 Tb.pl_63 (fill_sg _ _ _ _)) rfl) ?_
        refine TV.step [19] (by kernel_rfl) (by decide) rfl ⟨⟨_, rfl, ?_⟩, trivial⟩
        refine TL.buildSlice (cs := #[gval ha (ss.getD x.1 default).t.length, gval hb (ss.getD x.1 default).g.length]) rfl Tb.sl_22 Tb.zi_63 (by decide) (fill_s1 _ _ _ _) (by decide) rfl (by decide) (fun bE hbE => ?_)
        refine TL.nil ?_
        refine TV.next (.inl (by repeat (first | exact List.Sublist.slnil | exact List.nil_sublist _ | exact List.Sublist.refl _ | refine List.Sublist.cons_cons _ ?_ | refine List.Sublist.cons _ ?_ | refine List.Sublist.trans ?_ (List.sublist_append_right _ _)))) ?_
        refine TV.step [20] (by kernel_rfl) (by decide) rfl ⟨⟨_, rfl, ?_⟩, trivial⟩
        refine TL.appendRec (R := srR) (h0 := x.2.1) (ys := x.2.2) (b := bE) (r := ⟨ha, hb, (fun s => s) (ss.getD x.1 default)⟩) Tb.sl_22 Tb.zi_63 rfl rfl rfl (by repeat (first | exact List.Mem.head _ | refine List.Mem.tail _ ?_ | refine List.mem_append_right _ ?_)) hx9.ok.1 (by repeat (first | exact TakeH.here _ _ _ _ | apply TakeH.tail | apply TakeH.app)) (by omega) (by omega) rfl (by decide) (fun hh hho => ?_)
        refine TL.nil ?_
        refine TV.next (.inl (by repeat (first | exact List.Sublist.slnil | exact List.nil_sublist _ | exact List.Sublist.refl _ | refine List.Sublist.cons_cons _ ?_ | refine List.Sublist.cons _ ?_ | refine List.Sublist.trans ?_ (List.sublist_append_right _ _)))) ?_
        refine TV.virt 21 rfl rfl (by decide) rfl (by kernel_rfl) (SOK.pure (PV.fieldAddr rfl Tb.fo_24_1) rfl) ?_
        refine TV.step [22] (by kernel_rfl) (by decide) rfl ⟨⟨_, rfl, ?_⟩, trivial⟩
        refine TL.store (v := gval hh (x.2.2 ++ [(⟨ha, hb, (fun s => s) (ss.getD x.1 default)⟩ : SR)]).length) rfl rfl Tb.cells_22 (gval_one _ _) (by repeat (first | exact Upd.head _ | apply Upd.tail | apply Upd.appR)) (by show 1 < 2; decide) rfl rfl ?_
        refine TL.nil ?_
        refine TV.next (.inr (by kernel_rfl)) ?_
        refine TV.done (by kernel_rfl) ?_
        refine TQ.blkN ?_
        refine TQ.thenC ?_
        refine TC.region ?_
        refine TL.pure (PV.move rfl) rfl (by decide) ?_
        refine TL.pure (PV.add rfl rfl (by omega)) rfl (by decide) ?_
        refine TL.pure (PV.assign rfl) rfl (by decide) ?_
        refine TL.nil ?_
        refine TQ.thenN ?_
        refine TQ.perm (G' := gbR srR 63 hh (x.2.2 ++ [(⟨ha, hb, (fun s => s) (ss.getD x.1 default)⟩ : SR)]) ++ (srB (x.2.2 ++ [(⟨ha, hb, (fun s => s) (ss.getD x.1 default)⟩ : SR)]) ++ [(bT, Obj.cells #[.int .i64 n, gval hh (x.2.2 ++ [(⟨ha, hb, (fun s => s) (ss.getD x.1 default)⟩ : SR)]).length] 24 (0, 0)), (b1, Obj.cells #[.int .i64 0, .slice none 0 0] 24 (0, 0)), (b0, Obj.cells #[.int .i64 n, .slice p ss.length cp] 24 (0, 0)), (bE, Obj.cells #[gval ha (ss.getD x.1 default).t.length, gval hb (ss.getD x.1 default).g.length] 63 (0, 0))])) (perm_of fun c9 => by simp only [List.map_append, List.sum_append, List.map_cons, List.sum_cons, List.map_nil, List.sum_nil, srB_snoc, swS, gbI, gbR, arr_set1]; omega) ?_
        refine TQ.backK (x.1 + 1, hh, (x.2.2 ++ [(⟨ha, hb, (fun s => s) (ss.getD x.1 default)⟩ : SR)])) (by repeat (first | exact True.intro | refine And.intro rfl ?_)) (by repeat (first | exact True.intro | refine And.intro rfl ?_)) (List.Sublist.append_left (List.Sublist.append_left (List.Sublist.cons_cons _ (List.Sublist.cons_cons _ (List.Sublist.cons_cons _ (List.nil_sublist _)))) _) _) (hx9.step (by omega) hho hha hhb) (by simp only; omega)
    · skip
      refine TL.buildSlice0 Tb.sl_25 Tb.zi_3 rfl (by decide) (fun bC hbC => ?_)
      refine TL.nil ?_
      refine TV.next (.inl (by repeat (first | exact List.Sublist.slnil | exact List.nil_sublist _ | exact List.Sublist.refl _ | refine List.Sublist.cons_cons _ ?_ | refine List.Sublist.cons _ ?_ | refine List.Sublist.trans ?_ (List.sublist_append_right _ _)))) ?_
      refine TV.step [2] (by kernel_rfl) (by decide) rfl ⟨⟨_, rfl, ?_⟩, trivial⟩
      refine TL.buildSlice0 Tb.sl_25 Tb.zi_3 rfl (by decide) (fun bA hbA => ?_)
      refine TL.nil ?_
      refine TV.next (.inl (by repeat (first | exact List.Sublist.slnil | exact List.nil_sublist _ | exact List.Sublist.refl _ | refine List.Sublist.cons_cons _ ?_ | refine List.Sublist.cons _ ?_ | refine List.Sublist.trans ?_ (List.sublist_append_right _ _)))) ?_
      refine TV.step [9] (by kernel_rfl) (by decide) rfl ⟨⟨_, rfl, ?_⟩, trivial⟩
      refine TL.append0 (bA := bA) (m := (ss.getD x.1 default).t.length) (news := ival (ss.getD x.1 default).t) rfl rfl Tb.sl_25 Tb.zi_3 rfl (by repeat (first | exact Take.head _ | apply Take.tail | apply Take.appR)) (fun w' hN => ints_src Tb.sl_25 rfl (hta.new hN)) (by omega) (by omega) rfl (by decide) (fun ha hha => ?_)
      refine TL.nil ?_
      refine TV.next (.inl (by repeat (first | exact List.Sublist.slnil | exact List.nil_sublist _ | exact List.Sublist.refl _ | refine List.Sublist.cons_cons _ ?_ | refine List.Sublist.cons _ ?_ | refine List.Sublist.trans ?_ (List.sublist_append_right _ _)))) ?_
      refine TV.step [17] (by kernel_rfl) (by decide) rfl ⟨⟨_, rfl, ?_⟩, trivial⟩
      refine TL.append0 (bA := bC) (m := (ss.getD x.1 default).g.length) (news := ival (ss.getD x.1 default).g) rfl rfl Tb.sl_25 Tb.zi_3 rfl (by repeat (first | exact Take.head _ | apply Take.tail | apply Take.appR)) (fun w' hN => ints_src Tb.sl_25 rfl (htb.new hN)) (by omega) (by omega) rfl (by decide) (fun hb hhb => ?_)
      refine TL.nil ?_
      refine TV.next (.inl (by repeat (first | exact List.Sublist.slnil | exact List.nil_sublist _ | exact List.Sublist.refl _ | refine List.Sublist.cons_cons _ ?_ | refine List.Sublist.cons _ ?_ | refine List.Sublist.trans ?_ (List.sublist_append_right _ _)))) ?_
      refine TV.virt 18 rfl rfl (by decide) rfl (by kernel_rfl) (SOK.pure (PV.build rfl Tb.zero_63 Tb.pl_63 (fill_sg _ _ _ _)) rfl) ?_
      refine TV.step [19] (by kernel_rfl) (by decide) rfl ⟨⟨_, rfl, ?_⟩, trivial⟩
      refine TL.buildSlice (cs := #[gval ha (ss.getD x.1 default).t.length, gval hb (ss.getD x.1 default).g.length]) rfl Tb.sl_22 Tb.zi_63 (by decide) (fill_s1 _ _ _ _) (by decide) rfl (by decide) (fun bE hbE => ?_)
      refine TL.nil ?_
      refine TV.next (.inl (by repeat (first | exact List.Sublist.slnil | exact List.nil_sublist _ | exact List.Sublist.refl _ | refine List.Sublist.cons_cons _ ?_ | refine List.Sublist.cons _ ?_ | refine List.Sublist.trans ?_ (List.sublist_append_right _ _)))) ?_
      refine TV.step [20] (by kernel_rfl) (by decide) rfl ⟨⟨_, rfl, ?_⟩, trivial⟩
      refine TL.appendRec (R := srR) (h0 := x.2.1) (ys := x.2.2) (b := bE) (r := ⟨ha, hb, (fun s => s) (ss.getD x.1 default)⟩) Tb.sl_22 Tb.zi_63 rfl rfl rfl (by repeat (first | exact List.Mem.head _ | refine List.Mem.tail _ ?_ | refine List.mem_append_right _ ?_)) hx9.ok.1 (by repeat (first | exact TakeH.here _ _ _ _ | apply TakeH.tail | apply TakeH.app)) (by omega) (by omega) rfl (by decide) (fun hh hho => ?_)
      refine TL.nil ?_
      refine TV.next (.inl (by repeat (first | exact List.Sublist.slnil | exact List.nil_sublist _ | exact List.Sublist.refl _ | refine List.Sublist.cons_cons _ ?_ | refine List.Sublist.cons _ ?_ | refine List.Sublist.trans ?_ (List.sublist_append_right _ _)))) ?_
      refine TV.virt 21 rfl rfl (by decide) rfl (by kernel_rfl) (SOK.pure (PV.fieldAddr rfl Tb.fo_24_1) rfl) ?_
      refine TV.step [22] (by kernel_rfl) (by decide) rfl ⟨⟨_, rfl, ?_⟩, trivial⟩
      refine TL.store (v := gval hh (x.2.2 ++ [(⟨ha, hb, (fun s => s) (ss.getD x.1 default)⟩ : SR)]).length) rfl rfl Tb.cells_22 (gval_one _ _) (by repeat (first | exact Upd.head _ | apply Upd.tail | apply Upd.appR)) (by show 1 < 2; decide) rfl rfl ?_
      refine TL.nil ?_
      refine TV.next (.inr (by kernel_rfl)) ?_
      refine TV.done (by kernel_rfl) ?_
      refine TQ.blkN ?_
      refine TQ.thenC ?_
      refine TC.region ?_
      refine TL.pure (PV.move rfl) rfl (by decide) ?_
      refine TL.pure (PV.add rfl rfl (by omega)) rfl (by decide) ?_
      refine TL.pure (PV.assign rfl) rfl (by decide) ?_
      refine TL.nil ?_
      refine TQ.thenN ?_
      refine TQ.perm (G' := gbR srR 63 hh (x.2.2 ++ [(⟨ha, hb, (fun s => s) (ss.getD x.1 default)⟩ : SR)]) ++ (srB (x.2.2 ++ [(⟨ha, hb, (fun s => s) (ss.getD x.1 default)⟩ : SR)]) ++ [(bT, Obj.cells #[.int .i64 n, gval hh (x.2.2 ++ [(⟨ha, hb, (fun s => s) (ss.getD x.1 default)⟩ : SR)]).length] 24 (0, 0)), (b1, Obj.cells #[.int .i64 0, .slice none 0 0] 24 (0, 0)), (b0, Obj.cells #[.int .i64 n, .slice p ss.length cp] 24 (0, 0)), (bE, Obj.cells #[gval ha (ss.getD x.1 default).t.length, gval hb (ss.getD x.1 default).g.length] 63 (0, 0))])) (perm_of fun c9 => by simp only [List.map_append, List.sum_append, List.map_cons, List.sum_cons, List.map_nil, List.sum_nil, srB_snoc, swS, gbI, gbR, arr_set1]; omega) ?_
      refine TQ.backK (x.1 + 1, hh, (x.2.2 ++ [(⟨ha, hb, (fun s => s) (ss.getD x.1 default)⟩ : SR)])) (by repeat (first | exact True.intro | refine And.intro rfl ?_)) (by repeat (first | exact True.intro | refine And.intro rfl ?_)) (List.Sublist.append_left (List.Sublist.append_left (List.Sublist.cons_cons _ (List.Sublist.cons_cons _ (List.Sublist.cons_cons _ (List.nil_sublist _)))) _) _) (hx9.step (by omega) hho hha hhb) (by simp only; omega)
  · skip
    refine TC.exit ?_
    refine TQ.thenE ?_
    refine TQ.thenE ?_
    refine TQ.blkS ?_
    refine TQ.thenC ?_
    refine TC.seq ?_
    have hxe : x.1 = ss.length := by have := hx9.le; omega
    have hfin := hx9.fin hxe
    refine TC.region ?_
    refine TL.pure (PV.loadBox rfl Tb.agg_24 (by repeat (first | exact List.Mem.head _ | refine List.Mem.tail _ ?_ | refine List.mem_append_right _ ?_)) rfl) rfl (by decide) ?_
    refine TL.storeAgg rfl rfl Tb.cells_24 (by repeat (first | exact Upd.head _ | apply Upd.tail | apply Upd.appR)) rfl rfl (by first | rfl | exact sv_one _ _ _) rfl rfl ?_
    refine TL.nil ?_
    refine TQ.thenC ?_
    refine TC.ret ?_
    refine TQ.retR rfl (Res.agg rfl Tb.agg_24 (by repeat (first | exact List.Mem.head _ | refine List.Mem.tail _ ?_ | refine List.mem_append_right _ ?_)) rfl Res.nil) ?_
    simp only [tup]
    exact ⟨x.2, by rw [hx9.ln, hxe, List.length_map], hfin, by simp only [ydB, List.append_assoc]; exact List.Sublist.append_left (List.sublist_append_left _ _) _⟩

set_option maxRecDepth 100000 in
set_option maxHeartbeats 4000000 in
theorem Turn_ok (w0 : World) (n : Int) (p : Option Addr) (cp : Nat) (ss : List St) (hr : StsAt w0 p ss) (hS : SmS ss) :
    Calls Try.prog 47 #[yv n p ss.length cp] w0 (Post (X := HD × List SR) (fun y => .tuple #[.agg #[.int .i64 (trnR n ss).1, gval y.1 (trnR n ss).2.length], .int .i64 (validI n ss)]) (fun y => ydOk y (trnR n ss).2) (fun y => ydB y) w0) := by
  have hS1 := hS.1
  refine calls Try.func47 rfl (n := 38) rfl (by simp) ?_
  refine TC.seq ?_
  refine TC.region ?_
  refine TL.box rfl rfl (by decide) (fun b0 hb0 => ?_)
  refine TL.alloc Tb.zero_24 rfl (by decide) (fun b1 hb1 => ?_)
  refine TL.pure (PV.assign rfl) rfl (by decide) ?_
  refine TL.nil ?_
  refine TQ.thenC ?_
  refine TC.seq ?_
  refine TC.seq ?_
  refine TC.region ?_
  refine TL.pure (PV.loadBox rfl Tb.agg_24 (by repeat (first | exact List.Mem.head _ | refine List.Mem.tail _ ?_ | refine List.mem_append_right _ ?_)) rfl) rfl (by decide) ?_
  refine TL.call rfl Tb.gofn_24 (fun a w hs => validate_ok w _ _ _ _ (hr.new hs.new) hS) rfl (by decide) (fun _ _ => ?_)
  refine TL.pure (PV.assign rfl) rfl (by decide) ?_
  refine TL.nil ?_
  refine TQ.thenC ?_
  refine TC.seq ?_
  refine TC.region ?_
  refine TL.pure (PV.move rfl) rfl (by decide) ?_
  refine TL.pure (PV.neq rfl rfl) rfl (by decide) ?_
  refine TL.nil ?_
  refine TQ.thenC ?_
  first | refine TC.condD rfl (fun a1 => ?_) (fun a1 => ?_) | refine TC.cond rfl (fun a1 => ?_) (fun a1 => ?_)
  · skip
    refine TC.seq ?_
    refine TC.region ?_
    refine TL.pure (PV.build rfl Tb.zero_24 Tb.pl_24 rfl) rfl (by decide) ?_
    refine TL.pure (PV.move rfl) rfl (by decide) ?_
    refine TL.storeAgg (vs := [.int .i64 0, .slice none 0 0]) rfl rfl Tb.cells_24 (by repeat (first | exact Upd.head _ | apply Upd.tail | apply Upd.appR)) rfl rfl rfl rfl rfl ?_
    refine TL.pure (PV.assign rfl) rfl (by decide) ?_
    refine TL.nil ?_
    refine TQ.thenC ?_
    refine TC.ret ?_
    refine TQ.thenR ?_
    refine TQ.retR rfl (Res.agg rfl Tb.agg_24 (by repeat (first | exact List.Mem.head _ | refine List.Mem.tail _ ?_ | refine List.mem_append_right _ ?_)) rfl (Res.tmp rfl Res.nil)) ?_
    simp only [tup]
    have e9 : trnR n ss = (0, []) := if_pos a1
    exact ⟨(none, []), by rw [e9]; rfl, by rw [e9]; exact ydOk.nil, List.nil_sublist _⟩
  · skip
    refine TC.skip ?_
    refine TQ.thenC ?_
    refine TC.seq ?_
    have e9 : trnR n ss = (n, ss.map swS) := if_neg a1
    refine TC.region ?_
    refine TL.pure (PV.fieldAddr rfl Tb.fo_24_0) rfl (by decide) ?_
    refine TL.pure (PV.load rfl Tb.one_3 (by repeat (first | exact List.Mem.head _ | refine List.Mem.tail _ ?_ | refine List.mem_append_right _ ?_)) rfl) rfl (by decide) ?_
    refine TL.pure (PV.build rfl Tb.zero_24 Tb.pl_24 (fill_n _)) rfl (by decide) ?_
    refine TL.alloc Tb.zero_24 rfl (by decide) (fun bT hbT => ?_)
    refine TL.storeAgg (vs := [.int .i64 n, .slice none 0 0]) rfl rfl Tb.cells_24 (by repeat (first | exact Upd.head _ | apply Upd.tail | apply Upd.appR)) rfl rfl rfl rfl rfl ?_
    refine TL.nil ?_
    refine TQ.thenC ?_
    refine TC.seq ?_
    refine TC.seq ?_
    refine TC.region ?_
    refine TL.pure (PV.fieldAddr rfl Tb.fo_24_1) rfl (by decide) ?_
    refine TL.pure (PV.load rfl Tb.one_22 (by repeat (first | exact List.Mem.head _ | refine List.Mem.tail _ ?_ | refine List.mem_append_right _ ?_)) rfl) rfl (by decide) ?_
    refine TL.pure (PV.len rfl Tb.sl_22) rfl (by decide) ?_
    refine TL.pure (PV.move rfl) rfl (by decide) ?_
    refine TL.nil ?_
    refine TQ.thenC ?_
    refine TC.block ?_
    refine TC.lit [(2, _), (3, _), (5, _), (18, _), (19, _), (20, _)] (by repeat (first | exact True.intro | refine And.intro rfl ?_)) ?_
    refine TC.loopK [2, 3, 5, 18, 19] (X := Nat × HD × List SR) (fun x => TK swS ss x.1 x.2) (fun x => [(20, .int .i64 x.1)]) (fun x => gbR srR 63 x.2.1 x.2.2 ++ (srB x.2.2 ++ [(bT, Obj.cells #[.int .i64 n, gval x.2.1 x.2.2.length] 24 (0, 0)), (b1, Obj.cells #[.int .i64 0, .slice none 0 0] 24 (0, 0)), (b0, Obj.cells #[.int .i64 n, .slice p ss.length cp] 24 (0, 0))])) (fun x => ss.length - x.1) (0, none, []) (TK.zero _ _) (by repeat (first | exact True.intro | refine And.intro rfl ?_)) (by repeat (first | exact List.Sublist.refl _ | refine List.Sublist.cons_cons _ ?_ | refine List.Sublist.cons _ ?_)) ?_
    intro x hx9
    refine TC.lit [(2, _), (3, _), (5, _), (18, _), (19, _), (20, _)] (by repeat (first | exact True.intro | refine And.intro rfl ?_)) ?_
    refine TC.seq ?_
    refine TC.region ?_
    refine TL.pure (PV.lss rfl rfl) rfl (by decide) ?_
    refine TL.nil ?_
    refine TQ.thenC ?_
    refine TC.seq ?_
    first | refine TC.condD rfl (fun hlt => ?_) (fun hlt => ?_) | refine TC.cond rfl (fun hlt => ?_) (fun hlt => ?_)
    · skip
      refine TC.skip ?_
      refine TQ.thenC ?_
      refine TC.seq ?_
      refine TC.block ?_
      refine TC.seq ?_
      have hxl := hx9.ln
      have hS2 := hS.2 x.1
      obtain ⟨q1, hq1p, pa, pb, ca, cb, hq10, hq11, hta, htb⟩ := hr x.1 (by omega)
      refine TC.region ?_
      refine TL.pure (PV.indexA (j := x.1) rfl hq1p rfl Tb.elm_22 rfl (by omega)) rfl (by decide) ?_
      refine TL.pure (PV.loadAggA rfl Tb.agg_63 rfl (two_cells hq10 hq11)) rfl (by decide) ?_
      refine TL.alloc Tb.zero_63 rfl (by decide) (fun bq hbq => ?_)
      refine TL.storeAgg (vs := [.slice pa (ss.getD x.1 default).t.length ca, .slice pb (ss.getD x.1 default).g.length cb]) rfl rfl Tb.cells_63 (by repeat (first | exact Upd.head _ | apply Upd.tail | apply Upd.appR)) rfl rfl rfl rfl rfl ?_
      refine TL.nil ?_
      refine TQ.thenC ?_
      refine TC.mixV [true, true, true, true, false, true, true, false, true, false, false, true, false] [(bq, Obj.cells #[.slice pa (ss.getD x.1 default).t.length ca, .slice pb (ss.getD x.1 default).g.length cb] 63 (0, 0)), (bT, Obj.cells #[.int .i64 n, gval x.2.1 x.2.2.length] 24 (0, 0)), (b1, Obj.cells #[.int .i64 0, .slice none 0 0] 24 (0, 0)), (b0, Obj.cells #[.int .i64 n, .slice p ss.length cp] 24 (0, 0))] 13 Tb.mixed rfl (by kernel_rfl) (by kernel_rfl) (by kernel_rfl) (by kernel_rfl) (by repeat (first | exact List.Sublist.slnil | exact List.nil_sublist _ | exact List.Sublist.refl _ | refine List.Sublist.cons_cons _ ?_ | refine List.Sublist.cons _ ?_ | refine List.Sublist.trans ?_ (List.sublist_append_right _ _))) ?_
      refine TV.virt 0 rfl rfl (by decide) rfl (by kernel_rfl) (SOK.pure (PV.fieldAddr rfl Tb.fo_24_1) rfl) ?_
      refine TV.virt 1 rfl rfl (by decide) rfl (by kernel_rfl) (SOK.pure (PV.load rfl Tb.one_22 (by repeat (first | exact List.Mem.head _ | refine List.Mem.tail _ ?_ | refine List.mem_append_right _ ?_)) rfl) rfl) ?_
      refine TV.virt 2 rfl rfl (by decide) rfl (by kernel_rfl) (SOK.pure (PV.fieldAddr rfl Tb.fo_63_1) rfl) ?_
      refine TV.virt 3 rfl rfl (by decide) rfl (by kernel_rfl) (SOK.pure (PV.load rfl Tb.one_25 (by repeat (first | exact List.Mem.head _ | refine List.Mem.tail _ ?_ | refine List.mem_append_right _ ?_)) rfl) rfl) ?_
      refine TV.virt 5 rfl rfl (by decide) rfl (by kernel_rfl) (SOK.pure (PV.fieldAddr rfl Tb.fo_63_0) rfl) ?_
      refine TV.virt 6 rfl rfl (by decide) rfl (by kernel_rfl) (SOK.pure (PV.load rfl Tb.one_25 (by repeat (first | exact List.Mem.head _ | refine List.Mem.tail _ ?_ | refine List.mem_append_right _ ?_)) rfl) rfl) ?_
      refine TV.step [4] (by kernel_rfl) (by decide) rfl ⟨⟨_, rfl, ?_⟩, trivial⟩
      refine TL.call rfl Tb.gofn_97 (fun a w hs => clone_ok w _ _ _ (htb.new hs.new) hS2.2) rfl (by decide) (fun ha hha => ?_)
      refine TL.nil ?_
      refine TV.next (.inl (by repeat (first | exact List.Sublist.slnil | exact List.nil_sublist _ | exact List.Sublist.refl _ | refine List.Sublist.cons_cons _ ?_ | refine List.Sublist.cons _ ?_ | refine List.Sublist.trans ?_ (List.sublist_append_right _ _)))) ?_
      refine TV.step [7] (by kernel_rfl) (by decide) rfl ⟨⟨_, rfl, ?_⟩, trivial⟩
      refine TL.call rfl Tb.gofn_97 (fun a w hs => clone_ok w _ _ _ (hta.new hs.new) hS2.1) rfl (by decide) (fun hb hhb => ?_)
      refine TL.nil ?_
      refine TV.next (.inl (by repeat (first | exact List.Sublist.slnil | exact List.nil_sublist _ | exact List.Sublist.refl _ | refine List.Sublist.cons_cons _ ?_ | refine List.Sublist.cons _ ?_ | refine List.Sublist.trans ?_ (List.sublist_append_right _ _)))) ?_
      refine TV.virt 8 rfl rfl (by decide) rfl (by kernel_rfl) (SOK.pure (PV.build rfl Tb.zero_63 Tb.pl_63 (fill_sg _ _ _ _)) rfl) ?_
      refine TV.step [9] (by kernel_rfl) (by decide) rfl ⟨⟨_, rfl, ?_⟩, trivial⟩
      refine TL.buildSlice (cs := #[gval ha (ss.getD x.1 default).g.length, gval hb (ss.getD x.1 default).t.length]) rfl Tb.sl_22 Tb.zi_63 (by decide) (fill_s1 _ _ _ _) (by decide) rfl (by decide) (fun bE hbE => ?_)
      refine TL.nil ?_
      refine TV.next (.inl (by repeat (first | exact List.Sublist.slnil | exact List.nil_sublist _ | exact List.Sublist.refl _ | refine List.Sublist.cons_cons _ ?_ | refine List.Sublist.cons _ ?_ | refine List.Sublist.trans ?_ (List.sublist_append_right _ _)))) ?_
      refine TV.step [10] (by kernel_rfl) (by decide) rfl ⟨⟨_, rfl, ?_⟩, trivial⟩
      refine TL.appendRec (R := srR) (h0 := x.2.1) (ys := x.2.2) (b := bE) (r := ⟨ha, hb, swS (ss.getD x.1 default)⟩) Tb.sl_22 Tb.zi_63 rfl rfl rfl (by repeat (first | exact List.Mem.head _ | refine List.Mem.tail _ ?_ | refine List.mem_append_right _ ?_)) hx9.ok.1 (by repeat (first | exact TakeH.here _ _ _ _ | apply TakeH.tail | apply TakeH.app)) (by omega) (by omega) rfl (by decide) (fun hh hho => ?_)
      refine TL.nil ?_
      refine TV.next (.inl (by repeat (first | exact List.Sublist.slnil | exact List.nil_sublist _ | exact List.Sublist.refl _ | refine List.Sublist.cons_cons _ ?_ | refine List.Sublist.cons _ ?_ | refine List.Sublist.trans ?_ (List.sublist_append_right _ _)))) ?_
      refine TV.virt 11 rfl rfl (by decide) rfl (by kernel_rfl) (SOK.pure (PV.fieldAddr rfl Tb.fo_24_1) rfl) ?_
      refine TV.step [12] (by kernel_rfl) (by decide) rfl ⟨⟨_, rfl, ?_⟩, trivial⟩
      refine TL.store (v := gval hh (x.2.2 ++ [(⟨ha, hb, swS (ss.getD x.1 default)⟩ : SR)]).length) rfl rfl Tb.cells_22 (gval_one _ _) (by repeat (first | exact Upd.head _ | apply Upd.tail | apply Upd.appR)) (by show 1 < 2; decide) rfl rfl ?_
      refine TL.nil ?_
      refine TV.next (.inr (by kernel_rfl)) ?_
      refine TV.done (by kernel_rfl) ?_
      refine TQ.blkN ?_
      refine TQ.thenC ?_
      refine TC.region ?_
      refine TL.pure (PV.add rfl rfl (by omega)) rfl (by decide) ?_
      refine TL.pure (PV.move rfl) rfl (by decide) ?_
      refine TL.nil ?_
      refine TQ.thenN ?_
      refine TQ.perm (G' := gbR srR 63 hh (x.2.2 ++ [(⟨ha, hb, swS (ss.getD x.1 default)⟩ : SR)]) ++ (srB (x.2.2 ++ [(⟨ha, hb, swS (ss.getD x.1 default)⟩ : SR)]) ++ [(bT, Obj.cells #[.int .i64 n, gval hh (x.2.2 ++ [(⟨ha, hb, swS (ss.getD x.1 default)⟩ : SR)]).length] 24 (0, 0)), (b1, Obj.cells #[.int .i64 0, .slice none 0 0] 24 (0, 0)), (b0, Obj.cells #[.int .i64 n, .slice p ss.length cp] 24 (0, 0)), (bE, Obj.cells #[gval ha (ss.getD x.1 default).g.length, gval hb (ss.getD x.1 default).t.length] 63 (0, 0)), (bq, Obj.cells #[.slice pa (ss.getD x.1 default).t.length ca, .slice pb (ss.getD x.1 default).g.length cb] 63 (0, 0))])) (perm_of fun c9 => by simp only [List.map_append, List.sum_append, List.map_cons, List.sum_cons, List.map_nil, List.sum_nil, srB_snoc, swS, gbI, gbR, arr_set1]; omega) ?_
      refine TQ.backK (x.1 + 1, hh, (x.2.2 ++ [(⟨ha, hb, swS (ss.getD x.1 default)⟩ : SR)])) (by repeat (first | exact True.intro | refine And.intro rfl ?_)) (by repeat (first | exact True.intro | refine And.intro rfl ?_)) (List.Sublist.append_left (List.Sublist.append_left (List.Sublist.cons_cons _ (List.Sublist.cons_cons _ (List.Sublist.cons_cons _ (List.nil_sublist _)))) _) _) (hx9.step (by omega) hho hha hhb) (by simp only; omega)
    · skip
      refine TC.exit ?_
      refine TQ.thenE ?_
      refine TQ.thenE ?_
      refine TQ.blkS ?_
      refine TQ.thenC ?_
      refine TC.seq ?_
      have hxe : x.1 = ss.length := by have := hx9.le; omega
      have hfin := hx9.fin hxe
      refine TC.region ?_
      refine TL.pure (PV.loadBox (cs := [.int .i64 n, gval x.2.1 x.2.2.length]) rfl Tb.agg_24 (by repeat (first | exact List.Mem.head _ | refine List.Mem.tail _ ?_ | refine List.mem_append_right _ ?_)) rfl) rfl (by decide) ?_
      refine TL.storeAgg (vs := [.int .i64 n, gval x.2.1 x.2.2.length]) rfl rfl Tb.cells_24 (by repeat (first | exact Upd.head _ | apply Upd.tail | apply Upd.appR)) rfl rfl (sv_one _ _ _) rfl rfl ?_
      refine TL.pure (PV.assign rfl) rfl (by decide) ?_
      refine TL.nil ?_
      refine TQ.thenC ?_
      refine TC.ret ?_
      refine TQ.retR rfl (Res.agg rfl Tb.agg_24 (by repeat (first | exact List.Mem.head _ | refine List.Mem.tail _ ?_ | refine List.mem_append_right _ ?_)) rfl (Res.tmp rfl Res.nil)) ?_
      simp only [tup]
      exact ⟨x.2, by rw [e9, hx9.ln, hxe, List.length_map, Decidable.of_not_not a1], by rw [e9]; exact hfin, by simp only [ydB, List.append_assoc]; exact List.Sublist.append_left (List.sublist_append_left _ _) _⟩

set_option maxRecDepth 100000 in
set_option maxHeartbeats 1000000 in
theorem rTurn_ok (w0 : World) (n : Int) (p : Option Addr) (cp : Nat) (ss : List St) (hr : StsAt w0 p ss) (hS : SmS ss) :
    Calls Try.prog 58 #[yv n p ss.length cp] w0 (Post (X := HD × List SR) (fun y => .tuple #[.agg #[.int .i64 (trnR n ss).1, gval y.1 (trnR n ss).2.length], .int .i64 (validI n ss)]) (fun y => ydOk y (trnR n ss).2) (fun y => ydB y) w0) := by
  refine calls Try.func58 rfl (n := 13) rfl (by simp) ?_
  refine TC.seq ?_
  refine TC.region ?_
  refine TL.box rfl rfl (by decide) (fun b0 hb0 => ?_)
  refine TL.alloc Tb.zero_24 rfl (by decide) (fun b1 hb1 => ?_)
  refine TL.pure (PV.assign rfl) rfl (by decide) ?_
  refine TL.nil ?_
  refine TQ.thenC ?_
  refine TC.seq ?_
  refine TC.seq ?_
  refine TC.region ?_
  refine TL.pure (PV.loadBox rfl Tb.agg_24 (by repeat (first | exact List.Mem.head _ | refine List.Mem.tail _ ?_ | refine List.mem_append_right _ ?_)) rfl) rfl (by decide) ?_
  refine TL.call rfl Tb.gofn_25 (fun a w hs => rvalidate_ok w _ _ _ _ (hr.new hs.new) hS) rfl (by decide) (fun _ _ => ?_)
  refine TL.pure (PV.assign rfl) rfl (by decide) ?_
  refine TL.nil ?_
  refine TQ.thenC ?_
  refine TC.seq ?_
  refine TC.region ?_
  refine TL.pure (PV.move rfl) rfl (by decide) ?_
  refine TL.pure (PV.neq rfl rfl) rfl (by decide) ?_
  refine TL.nil ?_
  refine TQ.thenC ?_
  first | refine TC.condD rfl (fun a1 => ?_) (fun a1 => ?_) | refine TC.cond rfl (fun a1 => ?_) (fun a1 => ?_)
  · skip
    refine TC.seq ?_
    refine TC.region ?_
    refine TL.pure (PV.build rfl Tb.zero_24 Tb.pl_24 rfl) rfl (by decide) ?_
    refine TL.pure (PV.move rfl) rfl (by decide) ?_
    refine TL.storeAgg (vs := [.int .i64 0, .slice none 0 0]) rfl rfl Tb.cells_24 (by repeat (first | exact Upd.head _ | apply Upd.tail | apply Upd.appR)) rfl rfl rfl rfl rfl ?_
    refine TL.pure (PV.assign rfl) rfl (by decide) ?_
    refine TL.nil ?_
    refine TQ.thenC ?_
    refine TC.ret ?_
    refine TQ.thenR ?_
    refine TQ.retR rfl (Res.agg rfl Tb.agg_24 (by repeat (first | exact List.Mem.head _ | refine List.Mem.tail _ ?_ | refine List.mem_append_right _ ?_)) rfl (Res.tmp rfl Res.nil)) ?_
    simp only [tup]
    have e9 : trnR n ss = (0, []) := if_pos a1
    exact ⟨(none, []), by rw [e9]; rfl, by rw [e9]; exact ydOk.nil, List.nil_sublist _⟩
  · skip
    refine TC.skip ?_
    refine TQ.thenC ?_
    refine TC.seq ?_
    refine TC.region ?_
    refine TL.pure (PV.loadBox rfl Tb.agg_24 (by repeat (first | exact List.Mem.head _ | refine List.Mem.tail _ ?_ | refine List.mem_append_right _ ?_)) rfl) rfl (by decide) ?_
    refine TL.call rfl Tb.gofn_101 (fun a w hs => turned_ok w _ _ _ _ (hr.new hs.new) hS) rfl (by decide) (fun y9 hy9 => ?_)
    refine TL.storeAgg (vs := [.int .i64 n, gval y9.1 (ss.map swS).length]) rfl rfl Tb.cells_24 (by repeat (first | exact Upd.head _ | apply Upd.tail | apply Upd.appR)) rfl rfl (sv_one _ _ _) rfl rfl ?_
    refine TL.pure (PV.assign rfl) rfl (by decide) ?_
    refine TL.nil ?_
    refine TQ.thenC ?_
    refine TC.ret ?_
    refine TQ.retR rfl (Res.agg rfl Tb.agg_24 (by repeat (first | exact List.Mem.head _ | refine List.Mem.tail _ ?_ | refine List.mem_append_right _ ?_)) rfl (Res.tmp rfl Res.nil)) ?_
    simp only [tup]
    have e9 : trnR n ss = (n, ss.map swS) := if_neg a1
    exact ⟨y9, by rw [e9, Decidable.of_not_not a1], by rw [e9]; exact hy9, by exact List.sublist_append_left _ _⟩

set_option maxRecDepth 100000 in
theorem same_ok (w0 : World) (pl : Option Addr) (cl : Nat) (xs : List Int) (hx : IntsAt w0 pl xs) (p2 : Option Addr) (c2 : Nat) (ys : List Int) (hy : IntsAt w0 p2 ys) (hl : xs.length ≤ 1000000) (hl2 : ys.length ≤ 1000000) :
    Calls Try.prog 90 #[.slice pl xs.length cl, .slice p2 ys.length c2] w0 (Post (X := Unit) (fun _ => .bool (decide (xs = ys))) (fun _ => True) (fun _ => []) w0) := by
  refine calls Try.func90 rfl (n := 26) rfl (by simp) ?_
  refine TC.seq ?_
  refine TC.region ?_
  refine TL.pure (PV.assign rfl) rfl (by decide) ?_
  refine TL.nil ?_
  refine TQ.thenC ?_
  refine TC.seq ?_
  refine TC.seq ?_
  refine TC.region ?_
  refine TL.pure (PV.move rfl) rfl (by decide) ?_
  refine TL.pure (PV.len rfl Tb.sl_25) rfl (by decide) ?_
  refine TL.pure (PV.move rfl) rfl (by decide) ?_
  refine TL.pure (PV.len rfl Tb.sl_25) rfl (by decide) ?_
  refine TL.pure (PV.neq rfl rfl) rfl (by decide) ?_
  refine TL.nil ?_
  refine TQ.thenC ?_
  first | refine TC.condD rfl (fun hne => ?_) (fun hne => ?_) | refine TC.cond rfl (fun hne => ?_) (fun hne => ?_)
  · skip
    refine TC.seq ?_
    refine TC.region ?_
    refine TL.pure (PV.assign rfl) rfl (by decide) ?_
    refine TL.nil ?_
    refine TQ.thenC ?_
    refine TC.ret ?_
    refine TQ.thenR ?_
    refine TQ.retE1 rfl rfl ?_
    exact ⟨(), by rw [decide_eq_false (fun e => by subst e; omega)], trivial, List.nil_sublist _⟩
  · skip
    refine TC.skip ?_
    refine TQ.thenC ?_
    refine TC.seq ?_
    refine TC.seq ?_
    refine TC.region ?_
    refine TL.pure (PV.assign rfl) rfl (by decide) ?_
    refine TL.nil ?_
    refine TQ.thenC ?_
    refine TC.block ?_
    -- live and written in the loop, not told: [4]
    refine TC.loopG [0, 1] (X := Nat) (fun k => k ≤ xs.length ∧ ∀ j, j < k → xs.getD j 0 = ys.getD j 0) (fun k => [(5, .int .i64 k)]) (fun k => xs.length - k) 0 ⟨Nat.zero_le _, fun j hj => absurd hj (Nat.not_lt_zero _)⟩ (by repeat (first | exact True.intro | refine And.intro rfl ?_)) ?_
    intro k hk
    refine TC.seq ?_
    refine TC.seq ?_
    refine TC.region ?_
    refine TL.pure (PV.move rfl) rfl (by decide) ?_
    refine TL.pure (PV.move rfl) rfl (by decide) ?_
    refine TL.pure (PV.len rfl Tb.sl_25) rfl (by decide) ?_
    refine TL.pure (PV.lss rfl rfl) rfl (by decide) ?_
    refine TL.nil ?_
    refine TQ.thenC ?_
    first | refine TC.condD rfl (fun hlt => ?_) (fun hlt => ?_) | refine TC.cond rfl (fun hlt => ?_) (fun hlt => ?_)
    · skip
      refine TC.skip ?_
      refine TQ.thenC ?_
      refine TC.seq ?_
      refine TC.block ?_
      refine TC.seq ?_
      obtain ⟨q1, hq1p, hq1⟩ := hx k (by omega)
      obtain ⟨q2, hq2p, hq2⟩ := hy k (by omega)
      refine TC.any Tb.mixed rfl rfl ?_
      refine TA.op (OpOK.pure (PV.move rfl) rfl (by decide)) (by decide) ?_
      refine TA.op (OpOK.pure (PV.move rfl) rfl (by decide)) (by decide) ?_
      refine TA.op (OpOK.pure (PV.indexA rfl hq1p rfl Tb.elm_25 rfl (by omega)) rfl (by decide)) (by decide) ?_
      refine TA.op (OpOK.pure (PV.loadOld rfl Tb.one_3 hq1) rfl (by decide)) (by decide) ?_
      refine TA.op (OpOK.pure (PV.move rfl) rfl (by decide)) (by decide) ?_
      refine TA.op (OpOK.pure (PV.move rfl) rfl (by decide)) (by decide) ?_
      refine TA.op (OpOK.pure (PV.indexA rfl hq2p rfl Tb.elm_25 rfl (by omega)) rfl (by decide)) (by decide) ?_
      refine TA.op (OpOK.pure (PV.loadOld rfl Tb.one_3 hq2) rfl (by decide)) (by decide) ?_
      refine TA.op (OpOK.pure (PV.neq rfl rfl) rfl (by decide)) (by decide) ?_
      show TQ _ _ _ _ _
      refine TQ.thenC ?_
      first | refine TC.condD rfl (fun hno => ?_) (fun hno => ?_) | refine TC.cond rfl (fun hno => ?_) (fun hno => ?_)
      · skip
        refine TC.seq ?_
        refine TC.region ?_
        refine TL.pure (PV.assign rfl) rfl (by decide) ?_
        refine TL.nil ?_
        refine TQ.thenC ?_
        refine TC.ret ?_
        refine TQ.blkR ?_
        refine TQ.thenR ?_
        refine TQ.thenR ?_
        refine TQ.blkR ?_
        refine TQ.thenR ?_
        refine TQ.retE1 rfl rfl ?_
        exact ⟨(), by rw [decide_eq_false (fun e => by subst e; omega)], trivial, List.nil_sublist _⟩
      · skip
        refine TC.skip ?_
        refine TQ.blkN ?_
        refine TQ.thenC ?_
        refine TC.region ?_
        refine TL.pure (PV.move rfl) rfl (by decide) ?_
        refine TL.pure (PV.add rfl rfl (by omega)) rfl (by decide) ?_
        refine TL.pure (PV.assign rfl) rfl (by decide) ?_
        refine TL.nil ?_
        refine TQ.thenN ?_
        refine TQ.backK (k + 1) (by repeat (first | exact True.intro | refine And.intro rfl ?_)) (by repeat (first | exact True.intro | refine And.intro rfl ?_)) (by repeat (first | exact List.Sublist.slnil | exact List.nil_sublist _ | exact List.Sublist.refl _ | refine List.Sublist.cons_cons _ ?_ | refine List.Sublist.cons _ ?_ | refine List.Sublist.trans ?_ (List.sublist_append_right _ _))) ⟨by omega, fun j hj => if e : j < k then hk.2 j e else (show k = j by omega) ▸ (by omega)⟩ (by omega)
    · skip
      refine TC.exit ?_
      refine TQ.thenE ?_
      refine TQ.thenE ?_
      refine TQ.blkS ?_
      refine TQ.thenC ?_
      refine TC.seq ?_
      refine TC.region ?_
      refine TL.pure (PV.assign rfl) rfl (by decide) ?_
      refine TL.nil ?_
      refine TQ.thenC ?_
      refine TC.ret ?_
      refine TQ.retE1 rfl rfl ?_
      exact ⟨(), by rw [decide_eq_true (ints_ext (by omega) (fun j hj => hk.2 j (by omega)))], trivial, List.nil_sublist _⟩

set_option maxRecDepth 100000 in
set_option maxHeartbeats 2000000 in
theorem Same_ok (w0 : World) (v1 v2 : Value) (n n2 : Int) (ss tt : List St) (h1 : IsY w0 v1 n ss) (h2 : IsY w0 v2 n2 tt) (hS : SmS ss) (hS2 : SmS tt) :
    Calls Try.prog 59 #[v1, v2] w0 (Post (X := Unit) (fun _ => .bool (decide (n = n2 ∧ ss = tt))) (fun _ => True) (fun _ => []) w0) := by
  obtain ⟨p, cp, rfl, hr⟩ := h1
  obtain ⟨p2, cp2, rfl, hr2⟩ := h2
  have hS1 := hS.1
  refine calls Try.func59 rfl (n := 57) rfl (by simp) ?_
  refine TC.seq ?_
  refine TC.region ?_
  refine TL.box rfl rfl (by decide) (fun b0 hb0 => ?_)
  refine TL.box rfl rfl (by decide) (fun b1 hb1 => ?_)
  refine TL.pure (PV.assign rfl) rfl (by decide) ?_
  refine TL.nil ?_
  refine TQ.thenC ?_
  refine TC.seq ?_
  refine TC.seq ?_
  refine TC.region ?_
  refine TL.pure (PV.fieldAddr rfl Tb.fo_24_0) rfl (by decide) ?_
  refine TL.pure (PV.load rfl Tb.one_3 (by repeat (first | exact List.Mem.head _ | refine List.Mem.tail _ ?_ | refine List.mem_append_right _ ?_)) rfl) rfl (by decide) ?_
  refine TL.pure (PV.fieldAddr rfl Tb.fo_24_0) rfl (by decide) ?_
  refine TL.pure (PV.load rfl Tb.one_3 (by repeat (first | exact List.Mem.head _ | refine List.Mem.tail _ ?_ | refine List.mem_append_right _ ?_)) rfl) rfl (by decide) ?_
  refine TL.pure (PV.neq rfl rfl) rfl (by decide) ?_
  refine TL.pure (PV.move rfl) rfl (by decide) ?_
  first | refine TL.splitD 11 rfl (fun a1 => ?_) (fun a1 => ?_) | refine TL.split 11 rfl (fun a1 => ?_) (fun a1 => ?_)
  · skip
    refine TL.skip rfl (fun k hk => by cases hk; decide) ?_
    refine TL.skip rfl (fun k hk => by cases hk; decide) ?_
    refine TL.skip rfl (fun k hk => by cases hk; decide) ?_
    refine TL.skip rfl (fun k hk => by cases hk; decide) ?_
    refine TL.skip rfl (fun k hk => by cases hk; decide) ?_
    refine TL.skip rfl (fun k hk => by cases hk; decide) ?_
    refine TL.skip rfl (fun k hk => by cases hk; decide) ?_
    refine TL.pure (PV.pickT rfl rfl) rfl (by decide) ?_
    refine TL.nil ?_
    refine TQ.thenC ?_
    refine TC.condT rfl ?_
    refine TC.seq ?_
    refine TC.region ?_
    refine TL.pure (PV.assign rfl) rfl (by decide) ?_
    refine TL.nil ?_
    refine TQ.thenC ?_
    refine TC.ret ?_
    refine TQ.thenR ?_
    refine TQ.retE1 rfl rfl ?_
    first | (exact ⟨(), by rw [decide_eq_true (p := n = n2 ∧ ss = tt) ⟨by omega, sts_len (by omega) (fun j hj => hk.2 j (by omega))⟩], trivial, List.nil_sublist _⟩) | (refine ⟨(), ?_, trivial, List.nil_sublist _⟩; rw [decide_eq_false (p := n = n2 ∧ ss = tt) (fun h9 => by obtain ⟨e1, e2⟩ := h9; subst e2; first | omega | simp_all)]; done)
  · skip
    refine TL.pure (PV.fieldAddr rfl Tb.fo_24_1) rfl (by decide) ?_
    refine TL.pure (PV.load rfl Tb.one_22 (by repeat (first | exact List.Mem.head _ | refine List.Mem.tail _ ?_ | refine List.mem_append_right _ ?_)) rfl) rfl (by decide) ?_
    refine TL.pure (PV.len rfl Tb.sl_22) rfl (by decide) ?_
    refine TL.pure (PV.fieldAddr rfl Tb.fo_24_1) rfl (by decide) ?_
    refine TL.pure (PV.load rfl Tb.one_22 (by repeat (first | exact List.Mem.head _ | refine List.Mem.tail _ ?_ | refine List.mem_append_right _ ?_)) rfl) rfl (by decide) ?_
    refine TL.pure (PV.len rfl Tb.sl_22) rfl (by decide) ?_
    refine TL.pure (PV.neq rfl rfl) rfl (by decide) ?_
    refine TL.pure (PV.pickF rfl rfl) rfl (by decide) ?_
    refine TL.nil ?_
    refine TQ.thenC ?_
    first | refine TC.condD rfl (fun a2 => ?_) (fun a2 => ?_) | refine TC.cond rfl (fun a2 => ?_) (fun a2 => ?_)
    · skip
      refine TC.seq ?_
      refine TC.region ?_
      refine TL.pure (PV.assign rfl) rfl (by decide) ?_
      refine TL.nil ?_
      refine TQ.thenC ?_
      refine TC.ret ?_
      refine TQ.thenR ?_
      refine TQ.retE1 rfl rfl ?_
      first | (exact ⟨(), by rw [decide_eq_true (p := n = n2 ∧ ss = tt) ⟨by omega, sts_len (by omega) (fun j hj => hk.2 j (by omega))⟩], trivial, List.nil_sublist _⟩) | (refine ⟨(), ?_, trivial, List.nil_sublist _⟩; rw [decide_eq_false (p := n = n2 ∧ ss = tt) (fun h9 => by obtain ⟨e1, e2⟩ := h9; subst e2; first | omega | simp_all)]; done)
    · skip
      refine TC.skip ?_
      refine TQ.thenC ?_
      refine TC.seq ?_
      refine TC.seq ?_
      refine TC.region ?_
      refine TL.pure (PV.assign rfl) rfl (by decide) ?_
      refine TL.nil ?_
      refine TQ.thenC ?_
      refine TC.block ?_
      -- live and written in the loop, not told: [4]
      refine TC.loopG [2, 3] (X := Nat) (fun k => k ≤ ss.length ∧ ∀ j, j < k → (ss.getD j default).t = (tt.getD j default).t ∧ (ss.getD j default).g = (tt.getD j default).g) (fun k => [(5, .int .i64 k)]) (fun k => ss.length - k) 0 ⟨Nat.zero_le _, fun j hj => absurd hj (Nat.not_lt_zero _)⟩ (by repeat (first | exact True.intro | refine And.intro rfl ?_)) ?_
      intro k hk
      refine TC.seq ?_
      refine TC.seq ?_
      refine TC.region ?_
      refine TL.pure (PV.move rfl) rfl (by decide) ?_
      refine TL.pure (PV.fieldAddr rfl Tb.fo_24_1) rfl (by decide) ?_
      refine TL.pure (PV.load rfl Tb.one_22 (by repeat (first | exact List.Mem.head _ | refine List.Mem.tail _ ?_ | refine List.mem_append_right _ ?_)) rfl) rfl (by decide) ?_
      refine TL.pure (PV.len rfl Tb.sl_22) rfl (by decide) ?_
      refine TL.pure (PV.lss rfl rfl) rfl (by decide) ?_
      refine TL.nil ?_
      refine TQ.thenC ?_
      first | refine TC.condD rfl (fun hlt => ?_) (fun hlt => ?_) | refine TC.cond rfl (fun hlt => ?_) (fun hlt => ?_)
      · skip
        refine TC.skip ?_
        refine TQ.thenC ?_
        refine TC.seq ?_
        refine TC.block ?_
        refine TC.seq ?_
        obtain ⟨q1, hq1p, pa, pb, ca, cb, hq10, hq11, hta, htb⟩ := hr k (by omega)
        obtain ⟨q3, hq3p, pc, pd, cc, cd, hq30, hq31, htc, htd⟩ := hr2 k (by omega)
        have hSk := hS.2 k
        have hSl := hS2.2 k
        refine TC.mixV [true, true, true, true, true, true, true, true, true, true, true, true, false, true, true, true, true, true, true, true, true, true, true, true, true, true, true, false, true, true] [(b1, Obj.cells #[.int .i64 n2, .slice p2 tt.length cp2] 24 (0, 0)), (b0, Obj.cells #[.int .i64 n, .slice p ss.length cp] 24 (0, 0))] 30 Tb.mixed rfl (by kernel_rfl) (by kernel_rfl) (by kernel_rfl) (by kernel_rfl) (by repeat (first | exact List.Sublist.slnil | exact List.nil_sublist _ | exact List.Sublist.refl _ | refine List.Sublist.cons_cons _ ?_ | refine List.Sublist.cons _ ?_ | refine List.Sublist.trans ?_ (List.sublist_append_right _ _))) ?_
        refine TV.virt 0 rfl rfl (by decide) rfl (by kernel_rfl) (SOK.pure (PV.fieldAddr rfl Tb.fo_24_1) rfl) ?_
        refine TV.virt 1 rfl rfl (by decide) rfl (by kernel_rfl) (SOK.pure (PV.load rfl Tb.one_22 (by repeat (first | exact List.Mem.head _ | refine List.Mem.tail _ ?_ | refine List.mem_append_right _ ?_)) rfl) rfl) ?_
        refine TV.virt 2 rfl rfl (by decide) rfl (by kernel_rfl) (SOK.pure (PV.move rfl) rfl) ?_
        refine TV.virt 3 rfl rfl (by decide) rfl (by kernel_rfl) (SOK.pure (PV.indexA (j := k) rfl hq1p rfl Tb.elm_22 rfl (by omega)) rfl) ?_
        refine TV.virt 4 rfl rfl (by decide) rfl (by kernel_rfl) (SOK.pure (PV.fieldAddrA rfl Tb.fo_63_0) rfl) ?_
        refine TV.virt 5 rfl rfl (by decide) rfl (by kernel_rfl) (SOK.pure (PV.loadOld rfl Tb.one_25 hq10) rfl) ?_
        refine TV.virt 6 rfl rfl (by decide) rfl (by kernel_rfl) (SOK.pure (PV.fieldAddr rfl Tb.fo_24_1) rfl) ?_
        refine TV.virt 7 rfl rfl (by decide) rfl (by kernel_rfl) (SOK.pure (PV.load rfl Tb.one_22 (by repeat (first | exact List.Mem.head _ | refine List.Mem.tail _ ?_ | refine List.mem_append_right _ ?_)) rfl) rfl) ?_
        refine TV.virt 8 rfl rfl (by decide) rfl (by kernel_rfl) (SOK.pure (PV.move rfl) rfl) ?_
        refine TV.virt 9 rfl rfl (by decide) rfl (by kernel_rfl) (SOK.pure (PV.indexA (j := k) rfl hq3p rfl Tb.elm_22 rfl (by omega)) rfl) ?_
        refine TV.virt 10 rfl rfl (by decide) rfl (by kernel_rfl) (SOK.pure (PV.fieldAddrA rfl Tb.fo_63_0) rfl) ?_
        refine TV.virt 11 rfl rfl (by decide) rfl (by kernel_rfl) (SOK.pure (PV.loadOld rfl Tb.one_25 hq30) rfl) ?_
        refine TV.step [12] (by kernel_rfl) (by decide) rfl ⟨⟨_, rfl, ?_⟩, trivial⟩
        refine TL.call rfl Tb.gofn_90 (fun a w hs => same_ok w _ _ _ (hta.new hs.new) _ _ _ (htc.new hs.new) hSk.1 hSl.1) rfl (by decide) (fun _ _ => ?_)
        refine TL.nil ?_
        refine TV.next (.inl (by repeat (first | exact List.Sublist.slnil | exact List.nil_sublist _ | exact List.Sublist.refl _ | refine List.Sublist.cons_cons _ ?_ | refine List.Sublist.cons _ ?_ | refine List.Sublist.trans ?_ (List.sublist_append_right _ _)))) ?_
        refine TV.virt 13 rfl rfl (by decide) rfl (by kernel_rfl) (SOK.pure ((by first | exact PV.notD rfl | exact PV.not rfl)) rfl) ?_
        refine TV.virt 14 rfl rfl (by decide) rfl (by kernel_rfl) (SOK.pure (PV.move rfl) rfl) ?_
        first | refine TV.splitD 41 rfl (fun a3 => ?_) (fun a3 => ?_) | refine TV.split 41 rfl (fun a3 => ?_) (fun a3 => ?_)
        · skip
          refine TV.virt 15 rfl rfl (by decide) rfl (by kernel_rfl) (SOK.skip rfl) ?_
          refine TV.virt 16 rfl rfl (by decide) rfl (by kernel_rfl) (SOK.skip rfl) ?_
          refine TV.virt 17 rfl rfl (by decide) rfl (by kernel_rfl) (SOK.skip rfl) ?_
          refine TV.virt 18 rfl rfl (by decide) rfl (by kernel_rfl) (SOK.skip rfl) ?_
          refine TV.virt 19 rfl rfl (by decide) rfl (by kernel_rfl) (SOK.skip rfl) ?_
          refine TV.virt 20 rfl rfl (by decide) rfl (by kernel_rfl) (SOK.skip rfl) ?_
          refine TV.virt 21 rfl rfl (by decide) rfl (by kernel_rfl) (SOK.skip rfl) ?_
          refine TV.virt 22 rfl rfl (by decide) rfl (by kernel_rfl) (SOK.skip rfl) ?_
          refine TV.virt 23 rfl rfl (by decide) rfl (by kernel_rfl) (SOK.skip rfl) ?_
          refine TV.virt 24 rfl rfl (by decide) rfl (by kernel_rfl) (SOK.skip rfl) ?_
          refine TV.virt 25 rfl rfl (by decide) rfl (by kernel_rfl) (SOK.skip rfl) ?_
          refine TV.virt 26 rfl rfl (by decide) rfl (by kernel_rfl) (SOK.skip rfl) ?_
          refine TV.step [27] (by kernel_rfl) (by decide) rfl ⟨⟨_, rfl, ?_⟩, trivial⟩
          refine TL.skip rfl (fun k hk => by cases hk; decide) ?_
          refine TL.nil ?_
          refine TV.next (.inl (by repeat (first | exact List.Sublist.slnil | exact List.nil_sublist _ | exact List.Sublist.refl _ | refine List.Sublist.cons_cons _ ?_ | refine List.Sublist.cons _ ?_ | refine List.Sublist.trans ?_ (List.sublist_append_right _ _)))) ?_
          refine TV.virt 28 rfl rfl (by decide) rfl (by kernel_rfl) (SOK.skip rfl) ?_
          refine TV.virt 29 rfl rfl (by decide) rfl (by kernel_rfl) (SOK.pure (PV.pickT rfl rfl) rfl) ?_
          refine TV.done (by kernel_rfl) ?_
          refine TQ.thenC ?_
          refine TC.condT rfl ?_
          refine TC.seq ?_
          refine TC.region ?_
          refine TL.pure (PV.assign rfl) rfl (by decide) ?_
          refine TL.nil ?_
          refine TQ.thenC ?_
          refine TC.ret ?_
          refine TQ.blkR ?_
          refine TQ.thenR ?_
          refine TQ.thenR ?_
          refine TQ.blkR ?_
          refine TQ.thenR ?_
          refine TQ.retE1 rfl rfl ?_
          first | (exact ⟨(), by rw [decide_eq_true (p := n = n2 ∧ ss = tt) ⟨by omega, sts_len (by omega) (fun j hj => hk.2 j (by omega))⟩], trivial, List.nil_sublist _⟩) | (refine ⟨(), ?_, trivial, List.nil_sublist _⟩; rw [decide_eq_false (p := n = n2 ∧ ss = tt) (fun h9 => by obtain ⟨e1, e2⟩ := h9; subst e2; first | omega | simp_all)]; done)
        · skip
          refine TV.virt 15 rfl rfl (by decide) rfl (by kernel_rfl) (SOK.pure (PV.fieldAddr rfl Tb.fo_24_1) rfl) ?_
          refine TV.virt 16 rfl rfl (by decide) rfl (by kernel_rfl) (SOK.pure (PV.load rfl Tb.one_22 (by repeat (first | exact List.Mem.head _ | refine List.Mem.tail _ ?_ | refine List.mem_append_right _ ?_)) rfl) rfl) ?_
          refine TV.virt 17 rfl rfl (by decide) rfl (by kernel_rfl) (SOK.pure (PV.move rfl) rfl) ?_
          refine TV.virt 18 rfl rfl (by decide) rfl (by kernel_rfl) (SOK.pure (PV.indexA (j := k) rfl hq1p rfl Tb.elm_22 rfl (by omega)) rfl) ?_
          refine TV.virt 19 rfl rfl (by decide) rfl (by kernel_rfl) (SOK.pure (PV.fieldAddrA rfl Tb.fo_63_1) rfl) ?_
          refine TV.virt 20 rfl rfl (by decide) rfl (by kernel_rfl) (SOK.pure (PV.loadOld rfl Tb.one_25 hq11) rfl) ?_
          refine TV.virt 21 rfl rfl (by decide) rfl (by kernel_rfl) (SOK.pure (PV.fieldAddr rfl Tb.fo_24_1) rfl) ?_
          refine TV.virt 22 rfl rfl (by decide) rfl (by kernel_rfl) (SOK.pure (PV.load rfl Tb.one_22 (by repeat (first | exact List.Mem.head _ | refine List.Mem.tail _ ?_ | refine List.mem_append_right _ ?_)) rfl) rfl) ?_
          refine TV.virt 23 rfl rfl (by decide) rfl (by kernel_rfl) (SOK.pure (PV.move rfl) rfl) ?_
          refine TV.virt 24 rfl rfl (by decide) rfl (by kernel_rfl) (SOK.pure (PV.indexA (j := k) rfl hq3p rfl Tb.elm_22 rfl (by omega)) rfl) ?_
          refine TV.virt 25 rfl rfl (by decide) rfl (by kernel_rfl) (SOK.pure (PV.fieldAddrA rfl Tb.fo_63_1) rfl) ?_
          refine TV.virt 26 rfl rfl (by decide) rfl (by kernel_rfl) (SOK.pure (PV.loadOld rfl Tb.one_25 hq31) rfl) ?_
          refine TV.step [27] (by kernel_rfl) (by decide) rfl ⟨⟨_, rfl, ?_⟩, trivial⟩
          refine TL.call rfl Tb.gofn_90 (fun a w hs => same_ok w _ _ _ (htb.new hs.new) _ _ _ (htd.new hs.new) hSk.2 hSl.2) rfl (by decide) (fun _ _ => ?_)
          refine TL.nil ?_
          refine TV.next (.inl (by repeat (first | exact List.Sublist.slnil | exact List.nil_sublist _ | exact List.Sublist.refl _ | refine List.Sublist.cons_cons _ ?_ | refine List.Sublist.cons _ ?_ | refine List.Sublist.trans ?_ (List.sublist_append_right _ _)))) ?_
          refine TV.virt 28 rfl rfl (by decide) rfl (by kernel_rfl) (SOK.pure ((by first | exact PV.notD rfl | exact PV.not rfl)) rfl) ?_
          refine TV.virt 29 rfl rfl (by decide) rfl (by kernel_rfl) (SOK.pure (PV.pickF rfl rfl) rfl) ?_
          refine TV.done (by kernel_rfl) ?_
          refine TQ.thenC ?_
          first | refine TC.condD rfl (fun a4 => ?_) (fun a4 => ?_) | refine TC.cond rfl (fun a4 => ?_) (fun a4 => ?_)
          · skip
            refine TC.seq ?_
            refine TC.region ?_
            refine TL.pure (PV.assign rfl) rfl (by decide) ?_
            refine TL.nil ?_
            refine TQ.thenC ?_
            refine TC.ret ?_
            refine TQ.blkR ?_
            refine TQ.thenR ?_
            refine TQ.thenR ?_
            refine TQ.blkR ?_
            refine TQ.thenR ?_
            refine TQ.retE1 rfl rfl ?_
            first | (exact ⟨(), by rw [decide_eq_true (p := n = n2 ∧ ss = tt) ⟨by omega, sts_len (by omega) (fun j hj => hk.2 j (by omega))⟩], trivial, List.nil_sublist _⟩) | (refine ⟨(), ?_, trivial, List.nil_sublist _⟩; rw [decide_eq_false (p := n = n2 ∧ ss = tt) (fun h9 => by obtain ⟨e1, e2⟩ := h9; subst e2; first | omega | simp_all)]; done)
          · skip
            refine TC.skip ?_
            refine TQ.blkN ?_
            refine TQ.thenC ?_
            refine TC.region ?_
            refine TL.pure (PV.move rfl) rfl (by decide) ?_
            refine TL.pure (PV.add rfl rfl (by omega)) rfl (by decide) ?_
            refine TL.pure (PV.assign rfl) rfl (by decide) ?_
            refine TL.nil ?_
            refine TQ.thenN ?_
            refine TQ.backK (k + 1) (by repeat (first | exact True.intro | refine And.intro rfl ?_)) (by repeat (first | exact True.intro | refine And.intro rfl ?_)) (by repeat (first | exact List.Sublist.slnil | exact List.nil_sublist _ | exact List.Sublist.refl _ | refine List.Sublist.cons_cons _ ?_ | refine List.Sublist.cons _ ?_ | refine List.Sublist.trans ?_ (List.sublist_append_right _ _))) ⟨by omega, fun j hj => if e : j < k then hk.2 j e else (show k = j by omega) ▸ ⟨by simpa using a3, by simpa using a4⟩⟩ (by omega)
      · skip
        refine TC.exit ?_
        refine TQ.thenE ?_
        refine TQ.thenE ?_
        refine TQ.blkS ?_
        refine TQ.thenC ?_
        refine TC.seq ?_
        refine TC.region ?_
        refine TL.pure (PV.assign rfl) rfl (by decide) ?_
        refine TL.nil ?_
        refine TQ.thenC ?_
        refine TC.ret ?_
        refine TQ.retE1 rfl rfl ?_
        first | (exact ⟨(), by rw [decide_eq_true (p := n = n2 ∧ ss = tt) ⟨by omega, sts_len (by omega) (fun j hj => hk.2 j (by omega))⟩], trivial, List.nil_sublist _⟩) | (refine ⟨(), ?_, trivial, List.nil_sublist _⟩; rw [decide_eq_false (p := n = n2 ∧ ss = tt) (fun h9 => by obtain ⟨e1, e2⟩ := h9; subst e2; first | omega | simp_all)]; done)

set_option maxRecDepth 100000 in
set_option maxHeartbeats 1000000 in
theorem rIsSiphon_ok (w0 : World) (n : Int) (p : Option Addr) (cp : Nat) (ss : List St) (hr : StsAt w0 p ss) (hS : SmS ss) (vx : Value) (xs : List Int) (hv : IsI w0 vx xs) (hl : xs.length ≤ 1000000) :
    Calls Try.prog 49 #[yv n p ss.length cp, vx] w0 (Post (X := Unit) (fun _ => .tuple #[.bool (kindR 0 n ss xs).1, .int .i64 (kindR 0 n ss xs).2]) (fun _ => True) (fun _ => []) w0) := by
  refine calls Try.func49 rfl (n := 16) rfl (by simp) ?_
  refine TC.seq ?_
  refine TC.region ?_
  refine TL.box rfl rfl (by decide) (fun b0 hb0 => ?_)
  refine TL.pure (PV.assign rfl) rfl (by decide) ?_
  refine TL.pure (PV.assign rfl) rfl (by decide) ?_
  refine TL.nil ?_
  refine TQ.thenC ?_
  refine TC.seq ?_
  refine TC.seq ?_
  refine TC.region ?_
  refine TL.pure (PV.loadBox rfl Tb.agg_24 (by repeat (first | exact List.Mem.head _ | refine List.Mem.tail _ ?_ | refine List.mem_append_right _ ?_)) rfl) rfl (by decide) ?_
  refine TL.pure (PV.move rfl) rfl (by decide) ?_
  refine TL.call rfl Tb.gofn_99 (fun a w hs => placed_ok w _ _ _ _ (hr.new hs.new) hS _ _ (hv.new hs.new) hl) rfl (by decide) (fun _ _ => ?_)
  refine TL.pure (PV.assign rfl) rfl (by decide) ?_
  refine TL.nil ?_
  refine TQ.thenC ?_
  refine TC.seq ?_
  refine TC.region ?_
  refine TL.pure (PV.move rfl) rfl (by decide) ?_
  refine TL.pure (PV.neq rfl rfl) rfl (by decide) ?_
  refine TL.nil ?_
  refine TQ.thenC ?_
  first | refine TC.condD rfl (fun a1 => ?_) (fun a1 => ?_) | refine TC.cond rfl (fun a1 => ?_) (fun a1 => ?_)
  · skip
    refine TC.seq ?_
    refine TC.region ?_
    refine TL.pure (PV.move rfl) rfl (by decide) ?_
    refine TL.pure (PV.assign rfl) rfl (by decide) ?_
    refine TL.pure (PV.assign rfl) rfl (by decide) ?_
    refine TL.nil ?_
    refine TQ.thenC ?_
    refine TC.ret ?_
    refine TQ.thenR ?_
    refine TQ.retE2 rfl rfl rfl ?_
    exact ⟨(), by rw [kind_1 a1], trivial, List.nil_sublist _⟩
  · skip
    refine TC.skip ?_
    refine TQ.thenC ?_
    refine TC.seq ?_
    have hVP := set_of a1
    refine TC.region ?_
    refine TL.pure (PV.loadBox rfl Tb.agg_24 (by repeat (first | exact List.Mem.head _ | refine List.Mem.tail _ ?_ | refine List.mem_append_right _ ?_)) rfl) rfl (by decide) ?_
    refine TL.pure (PV.move rfl) rfl (by decide) ?_
    refine TL.call rfl Tb.gofn_100 (fun a w hs => siphonic_ok w _ _ _ _ (hr.new hs.new) hS hVP.1 _ _ (hv.new hs.new) hl hVP.2.inp) rfl (by decide) (fun _ _ => ?_)
    refine TL.pure (PV.assign rfl) rfl (by decide) ?_
    refine TL.pure (PV.assign rfl) rfl (by decide) ?_
    refine TL.nil ?_
    refine TQ.thenC ?_
    refine TC.ret ?_
    refine TQ.retE2 rfl rfl rfl ?_
    exact ⟨(), by rw [kind_0 a1, kS0], trivial, List.nil_sublist _⟩

theorem siphonicY (w : World) (v : Value) (n : Int) (ss : List St) (h : IsY w v n ss) (hS : SmS ss) (hV : VY n ss) (vx : Value) (xs : List Int) (hv : IsI w vx xs) (hl : xs.length ≤ 1000000) (hin : InP n xs) :
    Calls Try.prog 100 #[v, vx] w (Post (X := Unit) (fun _ => .bool (sipB ss xs)) (fun _ => True) (fun _ => []) w) := by
  obtain ⟨p, cp, rfl, hr⟩ := h
  exact siphonic_ok w n p cp ss hr hS hV vx xs hv hl hin
theorem rgreatestY (w : World) (v : Value) (n : Int) (ss : List St) (h : IsY w v n ss) (hS : SmS ss) (hV : VY n ss) (vx : Value) (xs : List Int) (hv : IsI w vx xs) (hl : xs.length ≤ 1000000) (hP : Plc n xs) :
    Calls Try.prog 103 #[v, vx] w (Post (X := HD) (fun h => gval h (gsL ss xs).length) (fun h => goI (h, gsL ss xs)) (fun h => gbI (h, gsL ss xs)) w) := by
  obtain ⟨p, cp, rfl, hr⟩ := h
  exact rgreatest_ok w n p cp ss hr hS hV vx xs hv hl hP

set_option maxRecDepth 100000 in
set_option maxHeartbeats 1000000 in
theorem rIsTrap_ok (w0 : World) (n : Int) (p : Option Addr) (cp : Nat) (ss : List St) (hr : StsAt w0 p ss) (hS : SmS ss) (vx : Value) (xs : List Int) (hv : IsI w0 vx xs) (hl : xs.length ≤ 1000000) :
    Calls Try.prog 51 #[yv n p ss.length cp, vx] w0 (Post (X := Unit) (fun _ => .tuple #[.bool (kindR 1 n ss xs).1, .int .i64 (kindR 1 n ss xs).2]) (fun _ => True) (fun _ => []) w0) := by
  refine calls Try.func51 rfl (n := 17) rfl (by simp) ?_
  refine TC.seq ?_
  refine TC.region ?_
  refine TL.box rfl rfl (by decide) (fun b0 hb0 => ?_)
  refine TL.pure (PV.assign rfl) rfl (by decide) ?_
  refine TL.pure (PV.assign rfl) rfl (by decide) ?_
  refine TL.nil ?_
  refine TQ.thenC ?_
  refine TC.seq ?_
  refine TC.seq ?_
  refine TC.region ?_
  refine TL.pure (PV.loadBox rfl Tb.agg_24 (by repeat (first | exact List.Mem.head _ | refine List.Mem.tail _ ?_ | refine List.mem_append_right _ ?_)) rfl) rfl (by decide) ?_
  refine TL.pure (PV.move rfl) rfl (by decide) ?_
  refine TL.call rfl Tb.gofn_99 (fun a w hs => placed_ok w _ _ _ _ (hr.new hs.new) hS _ _ (hv.new hs.new) hl) rfl (by decide) (fun _ _ => ?_)
  refine TL.pure (PV.assign rfl) rfl (by decide) ?_
  refine TL.nil ?_
  refine TQ.thenC ?_
  refine TC.seq ?_
  refine TC.region ?_
  refine TL.pure (PV.move rfl) rfl (by decide) ?_
  refine TL.pure (PV.neq rfl rfl) rfl (by decide) ?_
  refine TL.nil ?_
  refine TQ.thenC ?_
  first | refine TC.condD rfl (fun a1 => ?_) (fun a1 => ?_) | refine TC.cond rfl (fun a1 => ?_) (fun a1 => ?_)
  · skip
    refine TC.seq ?_
    refine TC.region ?_
    refine TL.pure (PV.move rfl) rfl (by decide) ?_
    refine TL.pure (PV.assign rfl) rfl (by decide) ?_
    refine TL.pure (PV.assign rfl) rfl (by decide) ?_
    refine TL.nil ?_
    refine TQ.thenC ?_
    refine TC.ret ?_
    refine TQ.thenR ?_
    refine TQ.retE2 rfl rfl rfl ?_
    exact ⟨(), by rw [kind_1 a1], trivial, List.nil_sublist _⟩
  · skip
    refine TC.skip ?_
    refine TQ.thenC ?_
    refine TC.seq ?_
    have hVP := set_of a1
    refine TC.region ?_
    refine TL.pure (PV.loadBox rfl Tb.agg_24 (by repeat (first | exact List.Mem.head _ | refine List.Mem.tail _ ?_ | refine List.mem_append_right _ ?_)) rfl) rfl (by decide) ?_
    refine TL.call rfl Tb.gofn_101 (fun a w hs => turned_ok w _ _ _ _ (hr.new hs.new) hS) rfl (by decide) (fun y9 hy9 => ?_)
    refine TL.pure (PV.move rfl) rfl (by decide) ?_
    refine TL.call rfl Tb.gofn_100 (fun a w hs => siphonicY w _ n _ (IsY.sr hy9 hs.new (fun yy hyy => by repeat (first | exact List.mem_append_left _ hyy | exact List.mem_append_left _ (List.mem_append_right _ hyy) | exact List.mem_append_left _ (List.mem_append_left _ hyy) | refine List.mem_append_right _ ?_ | refine List.Mem.tail _ ?_))) hS.sw hVP.1.sw _ _ (hv.new hs.new) hl hVP.2.inp) rfl (by decide) (fun _ _ => ?_)
    refine TL.pure (PV.assign rfl) rfl (by decide) ?_
    refine TL.pure (PV.assign rfl) rfl (by decide) ?_
    refine TL.nil ?_
    refine TQ.thenC ?_
    refine TC.ret ?_
    refine TQ.retE2 rfl rfl rfl ?_
    exact ⟨(), by rw [kind_0 a1, kS1], trivial, List.nil_sublist _⟩

set_option maxRecDepth 100000 in
set_option maxHeartbeats 1000000 in
theorem rSiphon_ok (w0 : World) (n : Int) (p : Option Addr) (cp : Nat) (ss : List St) (hr : StsAt w0 p ss) (hS : SmS ss) (vx : Value) (xs : List Int) (hv : IsI w0 vx xs) (hl : xs.length ≤ 1000000) :
    Calls Try.prog 53 #[yv n p ss.length cp, vx] w0 (Post (X := HD) (fun h => .tuple #[gval h (grR 0 n ss xs).1.length, .int .i64 (grR 0 n ss xs).2]) (fun h => goI (h, (grR 0 n ss xs).1)) (fun h => gbI (h, (grR 0 n ss xs).1)) w0) := by
  refine calls Try.func53 rfl (n := 16) rfl (by simp) ?_
  refine TC.seq ?_
  refine TC.region ?_
  refine TL.box rfl rfl (by decide) (fun b0 hb0 => ?_)
  refine TL.pure (PV.assign rfl) rfl (by decide) ?_
  refine TL.pure (PV.assign rfl) rfl (by decide) ?_
  refine TL.nil ?_
  refine TQ.thenC ?_
  refine TC.seq ?_
  refine TC.seq ?_
  refine TC.region ?_
  refine TL.pure (PV.loadBox rfl Tb.agg_24 (by repeat (first | exact List.Mem.head _ | refine List.Mem.tail _ ?_ | refine List.mem_append_right _ ?_)) rfl) rfl (by decide) ?_
  refine TL.pure (PV.move rfl) rfl (by decide) ?_
  refine TL.call rfl Tb.gofn_99 (fun a w hs => placed_ok w _ _ _ _ (hr.new hs.new) hS _ _ (hv.new hs.new) hl) rfl (by decide) (fun _ _ => ?_)
  refine TL.pure (PV.assign rfl) rfl (by decide) ?_
  refine TL.nil ?_
  refine TQ.thenC ?_
  refine TC.seq ?_
  refine TC.region ?_
  refine TL.pure (PV.move rfl) rfl (by decide) ?_
  refine TL.pure (PV.neq rfl rfl) rfl (by decide) ?_
  refine TL.nil ?_
  refine TQ.thenC ?_
  first | refine TC.condD rfl (fun a1 => ?_) (fun a1 => ?_) | refine TC.cond rfl (fun a1 => ?_) (fun a1 => ?_)
  · skip
    refine TC.seq ?_
    refine TC.region ?_
    refine TL.pure (PV.move rfl) rfl (by decide) ?_
    refine TL.pure (PV.assign rfl) rfl (by decide) ?_
    refine TL.pure (PV.assign rfl) rfl (by decide) ?_
    refine TL.nil ?_
    refine TQ.thenC ?_
    refine TC.ret ?_
    refine TQ.thenR ?_
    refine TQ.retE2 rfl rfl rfl ?_
    have e9 := gr_1 (kd := 0) a1
    exact ⟨none, by rw [e9]; rfl, by rw [e9]; exact goI_nil, List.nil_sublist _⟩
  · skip
    refine TC.skip ?_
    refine TQ.thenC ?_
    refine TC.seq ?_
    have hVP := set_of a1
    refine TC.region ?_
    refine TL.pure (PV.loadBox rfl Tb.agg_24 (by repeat (first | exact List.Mem.head _ | refine List.Mem.tail _ ?_ | refine List.mem_append_right _ ?_)) rfl) rfl (by decide) ?_
    refine TL.pure (PV.move rfl) rfl (by decide) ?_
    refine TL.call rfl Tb.gofn_103 (fun a w hs => rgreatest_ok w _ _ _ _ (hr.new hs.new) hS hVP.1 _ _ (hv.new hs.new) hl hVP.2) rfl (by decide) (fun h9 hh9 => ?_)
    refine TL.pure (PV.assign rfl) rfl (by decide) ?_
    refine TL.pure (PV.assign rfl) rfl (by decide) ?_
    refine TL.nil ?_
    refine TQ.thenC ?_
    refine TC.ret ?_
    refine TQ.retE2 rfl rfl rfl ?_
    have e9 := gr_0 (kd := 0) a1
    rw [kS0] at e9
    exact ⟨h9, by rw [e9], by rw [e9]; exact hh9, by rw [e9]; exact List.sublist_append_left _ _⟩

set_option maxRecDepth 100000 in
set_option maxHeartbeats 1000000 in
theorem rTrap_ok (w0 : World) (n : Int) (p : Option Addr) (cp : Nat) (ss : List St) (hr : StsAt w0 p ss) (hS : SmS ss) (vx : Value) (xs : List Int) (hv : IsI w0 vx xs) (hl : xs.length ≤ 1000000) :
    Calls Try.prog 55 #[yv n p ss.length cp, vx] w0 (Post (X := HD) (fun h => .tuple #[gval h (grR 1 n ss xs).1.length, .int .i64 (grR 1 n ss xs).2]) (fun h => goI (h, (grR 1 n ss xs).1)) (fun h => gbI (h, (grR 1 n ss xs).1)) w0) := by
  refine calls Try.func55 rfl (n := 17) rfl (by simp) ?_
  refine TC.seq ?_
  refine TC.region ?_
  refine TL.box rfl rfl (by decide) (fun b0 hb0 => ?_)
  refine TL.pure (PV.assign rfl) rfl (by decide) ?_
  refine TL.pure (PV.assign rfl) rfl (by decide) ?_
  refine TL.nil ?_
  refine TQ.thenC ?_
  refine TC.seq ?_
  refine TC.seq ?_
  refine TC.region ?_
  refine TL.pure (PV.loadBox rfl Tb.agg_24 (by repeat (first | exact List.Mem.head _ | refine List.Mem.tail _ ?_ | refine List.mem_append_right _ ?_)) rfl) rfl (by decide) ?_
  refine TL.pure (PV.move rfl) rfl (by decide) ?_
  refine TL.call rfl Tb.gofn_99 (fun a w hs => placed_ok w _ _ _ _ (hr.new hs.new) hS _ _ (hv.new hs.new) hl) rfl (by decide) (fun _ _ => ?_)
  refine TL.pure (PV.assign rfl) rfl (by decide) ?_
  refine TL.nil ?_
  refine TQ.thenC ?_
  refine TC.seq ?_
  refine TC.region ?_
  refine TL.pure (PV.move rfl) rfl (by decide) ?_
  refine TL.pure (PV.neq rfl rfl) rfl (by decide) ?_
  refine TL.nil ?_
  refine TQ.thenC ?_
  first | refine TC.condD rfl (fun a1 => ?_) (fun a1 => ?_) | refine TC.cond rfl (fun a1 => ?_) (fun a1 => ?_)
  · skip
    refine TC.seq ?_
    refine TC.region ?_
    refine TL.pure (PV.move rfl) rfl (by decide) ?_
    refine TL.pure (PV.assign rfl) rfl (by decide) ?_
    refine TL.pure (PV.assign rfl) rfl (by decide) ?_
    refine TL.nil ?_
    refine TQ.thenC ?_
    refine TC.ret ?_
    refine TQ.thenR ?_
    refine TQ.retE2 rfl rfl rfl ?_
    have e9 := gr_1 (kd := 1) a1
    exact ⟨none, by rw [e9]; rfl, by rw [e9]; exact goI_nil, List.nil_sublist _⟩
  · skip
    refine TC.skip ?_
    refine TQ.thenC ?_
    refine TC.seq ?_
    have hVP := set_of a1
    refine TC.region ?_
    refine TL.pure (PV.loadBox rfl Tb.agg_24 (by repeat (first | exact List.Mem.head _ | refine List.Mem.tail _ ?_ | refine List.mem_append_right _ ?_)) rfl) rfl (by decide) ?_
    refine TL.call rfl Tb.gofn_101 (fun a w hs => turned_ok w _ _ _ _ (hr.new hs.new) hS) rfl (by decide) (fun y9 hy9 => ?_)
    refine TL.pure (PV.move rfl) rfl (by decide) ?_
    refine TL.call rfl Tb.gofn_103 (fun a w hs => rgreatestY w _ n _ (IsY.sr hy9 hs.new (fun yy hyy => by repeat (first | exact List.mem_append_left _ hyy | exact List.mem_append_left _ (List.mem_append_right _ hyy) | exact List.mem_append_left _ (List.mem_append_left _ hyy) | refine List.mem_append_right _ ?_ | refine List.Mem.tail _ ?_))) hS.sw hVP.1.sw _ _ (hv.new hs.new) hl hVP.2) rfl (by decide) (fun h9 hh9 => ?_)
    refine TL.pure (PV.assign rfl) rfl (by decide) ?_
    refine TL.pure (PV.assign rfl) rfl (by decide) ?_
    refine TL.nil ?_
    refine TQ.thenC ?_
    refine TC.ret ?_
    refine TQ.retE2 rfl rfl rfl ?_
    have e9 := gr_0 (kd := 1) a1
    rw [kS1] at e9
    exact ⟨h9, by rw [e9], by rw [e9]; exact hh9, by rw [e9]; exact List.sublist_append_left _ _⟩

set_option maxRecDepth 100000 in
theorem Siphon_ok (w0 : World) (n : Int) (p : Option Addr) (cp : Nat) (ss : List St) (hr : StsAt w0 p ss) (hS : SmS ss) (vx : Value) (xs : List Int) (hv : IsI w0 vx xs) (hl : xs.length ≤ 1000000) :
    Calls Try.prog 52 #[yv n p ss.length cp, vx] w0 (Post (X := HD) (fun h => .tuple #[gval h (grR 0 n ss xs).1.length, .int .i64 (grR 0 n ss xs).2]) (fun h => goI (h, (grR 0 n ss xs).1)) (fun h => gbI (h, (grR 0 n ss xs).1)) w0) := by
  refine calls Try.func52 rfl (n := 11) rfl (by simp) ?_
  refine TC.seq ?_
  refine TC.region ?_
  refine TL.box rfl rfl (by decide) (fun b0 hb0 => ?_)
  refine TL.pure (PV.assign rfl) rfl (by decide) ?_
  refine TL.pure (PV.assign rfl) rfl (by decide) ?_
  refine TL.nil ?_
  refine TQ.thenC ?_
  refine TC.seq ?_
  refine TC.region ?_
  refine TL.pure (PV.loadBox rfl Tb.agg_24 (by repeat (first | exact List.Mem.head _ | refine List.Mem.tail _ ?_ | refine List.mem_append_right _ ?_)) rfl) rfl (by decide) ?_
  refine TL.pure (PV.move rfl) rfl (by decide) ?_
  refine TL.call rfl Tb.gofn_102 (fun a w hs => greatest0_ok w _ _ _ _ (hr.new hs.new) hS _ _ (hv.new hs.new) hl) rfl (by decide) (fun h9 hh9 => ?_)
  refine TL.pure (PV.extract rfl rfl) rfl (by decide) ?_
  refine TL.pure (PV.extract rfl rfl) rfl (by decide) ?_
  refine TL.pure (PV.assign rfl) rfl (by decide) ?_
  refine TL.pure (PV.assign rfl) rfl (by decide) ?_
  refine TL.nil ?_
  refine TQ.thenC ?_
  refine TC.ret ?_
  refine TQ.retE2 rfl rfl rfl ?_
  exact ⟨h9, rfl, hh9, List.sublist_append_left _ _⟩

set_option maxRecDepth 100000 in
theorem Trap_ok (w0 : World) (n : Int) (p : Option Addr) (cp : Nat) (ss : List St) (hr : StsAt w0 p ss) (hS : SmS ss) (vx : Value) (xs : List Int) (hv : IsI w0 vx xs) (hl : xs.length ≤ 1000000) :
    Calls Try.prog 54 #[yv n p ss.length cp, vx] w0 (Post (X := HD) (fun h => .tuple #[gval h (grR 1 n ss xs).1.length, .int .i64 (grR 1 n ss xs).2]) (fun h => goI (h, (grR 1 n ss xs).1)) (fun h => gbI (h, (grR 1 n ss xs).1)) w0) := by
  refine calls Try.func54 rfl (n := 11) rfl (by simp) ?_
  refine TC.seq ?_
  refine TC.region ?_
  refine TL.box rfl rfl (by decide) (fun b0 hb0 => ?_)
  refine TL.pure (PV.assign rfl) rfl (by decide) ?_
  refine TL.pure (PV.assign rfl) rfl (by decide) ?_
  refine TL.nil ?_
  refine TQ.thenC ?_
  refine TC.seq ?_
  refine TC.region ?_
  refine TL.pure (PV.loadBox rfl Tb.agg_24 (by repeat (first | exact List.Mem.head _ | refine List.Mem.tail _ ?_ | refine List.mem_append_right _ ?_)) rfl) rfl (by decide) ?_
  refine TL.pure (PV.move rfl) rfl (by decide) ?_
  refine TL.call rfl Tb.gofn_102 (fun a w hs => greatest1_ok w _ _ _ _ (hr.new hs.new) hS _ _ (hv.new hs.new) hl) rfl (by decide) (fun h9 hh9 => ?_)
  refine TL.pure (PV.extract rfl rfl) rfl (by decide) ?_
  refine TL.pure (PV.extract rfl rfl) rfl (by decide) ?_
  refine TL.pure (PV.assign rfl) rfl (by decide) ?_
  refine TL.pure (PV.assign rfl) rfl (by decide) ?_
  refine TL.nil ?_
  refine TQ.thenC ?_
  refine TC.ret ?_
  refine TQ.retE2 rfl rfl rfl ?_
  exact ⟨h9, rfl, hh9, List.sublist_append_left _ _⟩

end Go.Proofs.Ytkkipbkkijoneaa
