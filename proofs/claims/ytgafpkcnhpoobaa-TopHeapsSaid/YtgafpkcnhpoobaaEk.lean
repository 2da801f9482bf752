/- The examples of the chapter: contracts. -/
import Derived.Test.YtgafpkcnhpoobaaEj
set_option linter.unusedVariables false
set_option linter.unusedSimpArgs false
namespace Go.Proofs.Ytgafpkcnhpoobaa
open Go.Sx Go.RowKit Go.Sand

structure Sml (ls : List (List Int)) (gs : List Int) (xss : List (List Int)) : Prop where
  x : ∀ k, (xss.getD k []).length ≤ 400
  r : ∀ k, (ls.getD k []).length ≤ 50
  n : ls.length ≤ 50 ∧ gs.length ≤ 50
theorem len_of {xss : List (List Int)} {B : Nat} (h : ∀ j, j < xss.length → (xss.getD j []).length ≤ B) (k : Nat) : (xss.getD k []).length ≤ B := by
  by_cases hk : k < xss.length
  · exact h k hk
  · rw [show xss.getD k [] = [] by simp [List.getD, hk]]; exact Nat.zero_le _
theorem Sml.lo {ls : List (List Int)} {gs : List Int} {xss : List (List Int)} (h : Sml ls gs xss) : ∀ k, (ls.getD k []).length ≤ 1000000 := fun k => by have := h.r k; omega
def l2 : List (List Int) := [[0, 1], [1, 0]]
def g2 : List Int := [1, 1]
theorem shp2 : Shp l2 g2 where
  n := by decide
  len := rfl
  row := fun k hk => by
    match k, hk with
    | 0, _ => decide
    | 1, _ => decide
  gr := by decide
  mu := fun i j hi hj => by
    match i, hi, j, hj with
    | 0, _, 0, _ => decide
    | 0, _, 1, _ => decide
    | 1, _, 0, _ => decide
    | 1, _, 1, _ => decide
theorem joi2 : JoiP l2 g2 := fun i hi => .gr i hi (by
  match i, hi with
  | 0, _ => decide
  | 1, _ => decide)
theorem val2 : validI l2 g2 = 0 := valid_0 shp2 joi2
theorem hb2 : HB l2 g2 := hb_of (by rw [val2]; decide)
theorem giv2 {xss : List (List Int)} (h : xss.all (numB 2 30) = true) : ¬ givI l2 g2 xss ≠ 0 := by
  have h1 : givI l2 g2 xss = 0 := by
    unfold givI
    rw [if_neg (by rw [val2]; decide)]
    exact if_pos h
  rw [h1]; decide
theorem stb2 : StbL l2 g2 [3, 0] [1, 1] [1, 0] := by
  have h := (RunL.start (ls := l2) (gs := g2) (xs := [3, 0]) rfl (fun k => by
    match k with
    | 0 => decide
    | 1 => decide
    | k + 2 => simp [List.getD])).step hb2 (i := 0) (by decide) (k := 1) (by decide) (by decide)
  rw [show tpN l2 g2 [3, 0] 0 1 = [1, 1] by decide, show (List.replicate g2.length (0 : Int)).set 0 ((List.replicate g2.length (0 : Int)).getD 0 0 + 1) = [1, 0] by decide] at h
  exact h.stb fun j hj => by
    match j, hj with
    | 0, _ => decide
    | 1, _ => decide
theorem StbL.unique {ls : List (List Int)} {gs xs c m c2 m2 : List Int} (h : StbL ls gs xs c m) (h2 : StbL ls gs xs c2 m2) : c = c2 ∧ m = m2 := by
  have h3 := h.2.2.unique h2.2.2
  exact ⟨ints_ext (by rw [h.1, h2.1]) fun j hj => h3.2 j (by rw [← h.1]; exact hj), ints_ext (by rw [h.2.1, h2.2.1]) fun j hj => h3.1 j (by rw [← h.2.1]; exact hj)⟩
theorem las2 : LasP l2 g2 (List.replicate 2 0) [1, 1] := by
  refine ⟨⟨rfl, fun i hi => ?_, fun i hi => ?_, (nf_top hb2.G).congr fun i hi => ?_⟩, fun _ => -1, fun i hi => ?_⟩
  · match i, hi with
    | 0, _ => decide
    | 1, _ => decide
  · match i, hi with
    | 0, _ => decide
    | 1, _ => decide
  · match i, hi with
    | 0, _ => decide
    | 1, _ => decide
  · match i, hi with
    | 0, _ => decide
    | 1, _ => decide
theorem kSettle (w : World) (p : Option Addr) (cp : Nat) (hr : LsAt w p l2) (q : Option Addr) (cq : Nat) (hg : IntsAt w q g2) (pl : Option Addr) (cl : Nat) (hx : IntsAt w pl [3, 0]) :
    Calls Try.prog 31 #[hv p 2 cp q 2 cq, .slice pl 2 cl] w (Post (X := HD × HD) (fun h => .tuple #[gval h.1 2, gval h.2 2, .int .i64 1, .int .i64 0]) (fun h => goI (h.1, [1, 1]) ∧ goI (h.2, [1, 0])) (fun h => gbI (h.2, [1, 0]) ++ gbI (h.1, [1, 1])) w) := by
  refine (Settle_ok w p cp l2 hr q cq g2 hg (len_of fun j hj => by
    match j, hj with
    | 0, _ => decide
    | 1, _ => decide) pl cl [3, 0] hx (by decide)).mono ?_
  rintro e w' ⟨⟨h1, h2, c, m⟩, he, ⟨hP, ho1, ho2⟩, hN⟩
  have hgv := giv2 (xss := [[3, 0]]) (by decide)
  obtain ⟨rfl, rfl⟩ := (hP.ok hgv).unique stb2
  dsimp only at he
  rw [setG_0 hgv, show grI g2 [1, 0] = 1 by decide, Decidable.of_not_not hgv] at he
  exact ⟨(h1, h2), he, ⟨ho1, ho2⟩, hN⟩
theorem kCount (w : World) (p : Option Addr) (cp : Nat) (hr : LsAt w p l2) (q : Option Addr) (cq : Nat) (hg : IntsAt w q g2) :
    Calls Try.prog 45 #[hv p 2 cp q 2 cq] w (Post (X := Unit) (fun _ => .tuple #[.int .i64 3, .int .i64 0]) (fun _ => True) (fun _ => []) w) := by
  have h := Count_ok w p cp l2 hr q cq g2 hg (len_of fun j hj => by
    match j, hj with
    | 0, _ => decide
    | 1, _ => decide)
  rw [cou_ok (by rw [val2]; decide), val2, show detF g2.length (mF l2 g2) = 3 by decide] at h
  exact h
theorem kZero (w : World) (p : Option Addr) (cp : Nat) (hr : LsAt w p l2) (q : Option Addr) (cq : Nat) (hg : IntsAt w q g2) :
    Calls Try.prog 47 #[hv p 2 cp q 2 cq] w (Post (X := HD) (fun h => .tuple #[gval h 2, .int .i64 0]) (fun h => goI (h, [1, 1])) (fun h => gbI (h, [1, 1])) w) := by
  refine (Zero_ok w p cp l2 hr q cq g2 hg (len_of fun j hj => by
    match j, hj with
    | 0, _ => decide
    | 1, _ => decide)).mono ?_
  rintro e w' ⟨⟨h1, c⟩, he, ⟨hP, ho1⟩, hN⟩
  obtain rfl := (hP.ok (by rw [val2]; decide)).unique hb2 las2
  dsimp only at he
  rw [val2] at he
  exact ⟨h1, he, ho1, hN⟩
theorem kScript (w : World) (p : Option Addr) (cp : Nat) (hr : LsAt w p l2) (q : Option Addr) (cq : Nat) (hg : IntsAt w q g2) (pl : Option Addr) (cl : Nat) (hx : IntsAt w pl [0, 0]) (p2 : Option Addr) (c2 : Nat) (hy : IntsAt w p2 [1, 1]) :
    Calls Try.prog 56 #[hv p 2 cp q 2 cq, .slice pl 2 cl, .slice p2 2 c2] w (Post (X := HD) (fun h => .tuple #[gval h 2, .bool true, .int .i64 0]) (fun h => goI (h, [-1, -1])) (fun h => gbI (h, [-1, -1])) w) := by
  refine (Script_ok w p cp l2 hr q cq g2 hg (len_of fun j hj => by
    match j, hj with
    | 0, _ => decide
    | 1, _ => decide) pl cl [0, 0] hx (by decide) p2 c2 [1, 1] hy (by decide)).mono ?_
  rintro e w' ⟨⟨h1, s, b⟩, he, ⟨hP, ho1⟩, hN⟩
  have hgv := giv2 (xss := [[0, 0], [1, 1]]) (by decide)
  cases b with
  | false => exact absurd las2.2 (hP.no hgv rfl).2
  | true =>
    obtain ⟨h2, h3⟩ := hP.yes hgv rfl
    have hs : s = [-1, -1] := by
      match s, h2 with
      | [a, b], _ =>
        have e0 : (1 : Int) = 0 - ((1 + (0 + 0 + 1)) * a - (0 + 0 * a + 1 * b)) := h3 0 (by decide)
        have e1 : (1 : Int) = 0 - ((1 + (0 + 1 + 0)) * b - (0 + 1 * a + 0 * b)) := h3 1 (by decide)
        have ea : a = -1 := by omega
        have eb : b = -1 := by omega
        rw [ea, eb]
    subst hs
    dsimp only at he
    rw [Decidable.of_not_not hgv] at he
    exact ⟨h1, he, ho1, hN⟩
theorem fill_i2 (x y : Int) : Instr.fill (fun i => some (i * 1, 1)) ((Array.range (2 * 1)).map ((Value.int .i64 0).cells[· % (Value.int .i64 0).cells.size]!)) [(0, .int .i64 x), (1, .int .i64 y)] = some #[.int .i64 x, .int .i64 y] := by kernel_rfl
theorem fill_hv (x y : Option Addr) (n c m d : Nat) : Instr.fill ([(0, 1), (1, 1)][·]?) #[.slice none 0 0, .slice none 0 0] [(0, .slice x n c), (1, .slice y m d)] = some #[.slice x n c, .slice y m d] := by kernel_rfl
theorem sameG (w : World) (h : HD) (xs : List Int) (ho : goI (h, xs)) (hi : IntsAt w (gp h) xs) (p2 : Option Addr) (c2 : Nat) (ys : List Int) (hy : IntsAt w p2 ys) (hl : xs.length ≤ 1000000) (hl2 : ys.length ≤ 1000000) :
    Calls Try.prog 30 #[gval h xs.length, .slice p2 ys.length c2] w (Post (X := Unit) (fun _ => .bool (decide (xs = ys))) (fun _ => True) (fun _ => []) w) := by
  rw [gval_eq ho]
  exact sameInts_ok w _ _ xs hi _ rfl p2 c2 ys hy _ rfl hl hl2
theorem sameGG (w : World) (h : HD) (xs : List Int) (ho : goI (h, xs)) (hi : IntsAt w (gp h) xs) (h2 : HD) (ys : List Int) (ho2 : goI (h2, ys)) (hy : IntsAt w (gp h2) ys) (hl : xs.length ≤ 1000000) (hl2 : ys.length ≤ 1000000) :
    Calls Try.prog 30 #[gval h xs.length, gval h2 ys.length] w (Post (X := Unit) (fun _ => .bool (decide (xs = ys))) (fun _ => True) (fun _ => []) w) := by
  rw [gval_eq ho, gval_eq ho2]
  exact sameInts_ok w _ _ xs hi _ rfl _ _ ys hy _ rfl hl hl2
theorem two_ls {w0 w : World} {G : Heap} {a b c : Nat} (hn : New w0 w G) (h1 : (a, Obj.cells (intsA [0, 1]) 3 (0, 0)) ∈ G) (h2 : (b, Obj.cells (intsA [1, 0]) 3 (0, 0)) ∈ G) (h3 : (c, Obj.cells #[.slice (some ⟨a, 0, none⟩) 2 2, .slice (some ⟨b, 0, none⟩) 2 2] 23 (0, 0)) ∈ G) : LsAt w (some ⟨c, 0, none⟩) l2 :=
  LsAt.two (xs := [0, 1]) (ys := [1, 0]) hn h3 (IntsAt.arr hn h1) (IntsAt.arr hn h2)


set_option maxRecDepth 100000 in
theorem two_ok (w0 : World) :
    Calls Try.prog 59 #[] w0 (Post (X := Nat × Nat × Nat × Nat) (fun y => hv (some ⟨y.2.2.1, 0, none⟩) 2 2 (some ⟨y.2.2.2, 0, none⟩) 2 2) (fun _ => True) (fun y => [(y.2.2.2, Obj.cells (intsA [1, 1]) 3 (0, 0)), (y.2.2.1, Obj.cells #[.slice (some ⟨y.1, 0, none⟩) 2 2, .slice (some ⟨y.2.1, 0, none⟩) 2 2] 23 (0, 0)), (y.2.1, Obj.cells (intsA [1, 0]) 3 (0, 0)), (y.1, Obj.cells (intsA [0, 1]) 3 (0, 0))]) w0) := by
  refine calls Try.func59 rfl (n := 6) rfl (by simp) ?_
  refine TC.seq ?_
  refine TC.region ?_
  refine TL.alloc Tb.zero_25 rfl (by decide) (fun b0 hb0 => ?_)
  refine TL.nil ?_
  refine TQ.thenC ?_
  refine TC.seq ?_
  refine TC.region ?_
  refine TL.buildSlice (cs := intsA [0, 1]) rfl Tb.sl_23 Tb.zi_3 (by decide) (fill_i2 _ _) (by decide) rfl (by decide) (fun c1 hc1 => ?_)
  refine TL.buildSlice (cs := intsA [1, 0]) rfl Tb.sl_23 Tb.zi_3 (by decide) (fill_i2 _ _) (by decide) rfl (by decide) (fun c2 hc2 => ?_)
  refine TL.buildSlice (cs := #[.slice (some ⟨c1, 0, none⟩) 2 2, .slice (some ⟨c2, 0, none⟩) 2 2]) rfl Tb.sl_22 Tb.zi_23 (by decide) (fill_oo _ _ _ _ _ _) (by decide) rfl (by decide) (fun c3 hc3 => ?_)
  refine TL.buildSlice (cs := intsA [1, 1]) rfl Tb.sl_23 Tb.zi_3 (by decide) (fill_i2 _ _) (by decide) rfl (by decide) (fun c4 hc4 => ?_)
  refine TL.pure (PV.build (cs := #[.slice (some ⟨c3, 0, none⟩) 2 2, .slice (some ⟨c4, 0, none⟩) 2 2]) rfl Tb.zero_25 Tb.pl_25 (fill_hv _ _ _ _ _ _)) rfl (by decide) ?_
  refine TL.storeAgg rfl rfl Tb.cells_25 (by repeat (first | exact Upd.head _ | apply Upd.tail | apply Upd.appR)) rfl rfl rfl rfl rfl ?_
  refine TL.nil ?_
  refine TQ.thenC ?_
  refine TC.ret ?_
  refine TQ.retR rfl (Res.agg rfl Tb.agg_25 (by repeat (first | exact List.Mem.head _ | refine List.Mem.tail _ ?_ | refine List.mem_append_right _ ?_)) rfl Res.nil) ?_
  simp only [tup]
  refine ⟨(c1, c2, c3, c4), rfl, trivial, ?_⟩
  repeat (first | exact List.Sublist.refl _ | refine List.Sublist.cons_cons _ ?_ | refine List.Sublist.cons _ ?_ | exact List.nil_sublist _)

set_option maxRecDepth 100000 in
set_option maxHeartbeats 1000000 in
theorem long_ok (w0 : World) (p : Option Addr) (cp : Nat) (ls : List (List Int)) (hr : LsAt w0 p ls) (q : Option Addr) (cq : Nat) (gs : List Int) (hg : IntsAt w0 q gs) (pv : Option Addr) (cv : Nat) (xss : List (List Int)) (hxv : LsAt w0 pv xss) (hl1 : ls.length ≤ 9223372036854775807) (hl2 : xss.length ≤ 9223372036854775807) :
    Calls Try.prog 20 #[hv p ls.length cp q gs.length cq, .slice pv xss.length cv] w0 (Post (X := Bool) (fun b => .bool b) (fun b => b = false → Sml ls gs xss) (fun _ => []) w0) := by
  refine calls Try.func20 rfl (n := 43) rfl (by simp) ?_
  refine TC.seq ?_
  refine TC.region ?_
  refine TL.box rfl rfl (by decide) (fun b0 hb0 => ?_)
  refine TL.pure (PV.assign rfl) rfl (by decide) ?_
  refine TL.nil ?_
  refine TQ.thenC ?_
  refine TC.seq ?_
  refine TC.seq ?_
  refine TC.region ?_
  refine TL.pure (PV.assign rfl) rfl (by decide) ?_
  refine TL.nil ?_
  refine TQ.thenC ?_
  refine TC.block ?_
  -- live and written in the loop, not told: [4]
  refine TC.loopG [1, 2] (X := Nat) (fun k => k ≤ xss.length ∧ ∀ j, j < k → (xss.getD j []).length ≤ 400) (fun k => [(5, .int .i64 k)]) (fun k => xss.length - k) 0 ⟨Nat.zero_le _, fun j hj => absurd hj (Nat.not_lt_zero _)⟩ (by repeat (first | exact True.intro | refine And.intro rfl ?_)) ?_
  intro k hk
  refine TC.seq ?_
  refine TC.seq ?_
  refine TC.region ?_
  refine TL.pure (PV.move rfl) rfl (by decide) ?_
  refine TL.pure (PV.move rfl) rfl (by decide) ?_
  refine TL.pure (PV.len rfl Tb.sl_22) rfl (by decide) ?_
  refine TL.pure (PV.lss rfl rfl) rfl (by decide) ?_
  refine TL.nil ?_
  refine TQ.thenC ?_
  first | refine TC.condD rfl (fun hlt => ?_) (fun hlt => ?_) | refine TC.cond rfl (fun hlt => ?_) (fun hlt => ?_)
  · skip
    refine TC.skip ?_
    refine TQ.thenC ?_
    refine TC.seq ?_
    refine TC.block ?_
    refine TC.seq ?_
    obtain ⟨q1, hq1p, p1, c1, hq1, hi1⟩ := hxv k (by omega)
    refine TC.region ?_
    refine TL.pure (PV.move rfl) rfl (by decide) ?_
    refine TL.pure (PV.move rfl) rfl (by decide) ?_
    refine TL.pure (PV.indexA rfl hq1p rfl Tb.elm_22 rfl (by omega)) rfl (by decide) ?_
    refine TL.pure (PV.loadOld rfl Tb.one_23 hq1) rfl (by decide) ?_
    refine TL.pure (PV.len rfl Tb.sl_23) rfl (by decide) ?_
    refine TL.pure (PV.gtr rfl rfl) rfl (by decide) ?_
    refine TL.nil ?_
    refine TQ.thenC ?_
    first | refine TC.condD rfl (fun hno => ?_) (fun hno => ?_) | refine TC.cond rfl (fun hno => ?_) (fun hno => ?_)
    · skip
      refine TC.seq ?_
      refine TC.region ?_
      refine TL.pure (PV.assign rfl) rfl (by decide) ?_
      refine TL.nil ?_
      refine TQ.thenC ?_
      refine TC.ret ?_
      refine TQ.blkR ?_
      refine TQ.thenR ?_
      refine TQ.thenR ?_
      refine TQ.blkR ?_
      refine TQ.thenR ?_
      refine TQ.retE1 rfl rfl ?_
      exact ⟨true, rfl, fun h => Bool.noConfusion h, List.nil_sublist _⟩
    · skip
      refine TC.skip ?_
      refine TQ.blkN ?_
      refine TQ.thenC ?_
      refine TC.region ?_
      refine TL.pure (PV.move rfl) rfl (by decide) ?_
      refine TL.pure (PV.add rfl rfl (by omega)) rfl (by decide) ?_
      refine TL.pure (PV.assign rfl) rfl (by decide) ?_
      refine TL.nil ?_
      refine TQ.thenN ?_
      refine TQ.backK (k + 1) (by repeat (first | exact True.intro | refine And.intro rfl ?_)) (by repeat (first | exact True.intro | refine And.intro rfl ?_)) (by repeat (first | exact List.Sublist.slnil | exact List.nil_sublist _ | exact List.Sublist.refl _ | refine List.Sublist.cons_cons _ ?_ | refine List.Sublist.cons _ ?_ | refine List.Sublist.trans ?_ (List.sublist_append_right _ _))) ⟨by omega, fun j hj => if e : j < k then hk.2 j e else (show k = j by omega) ▸ (by omega)⟩ (by omega)
  · skip
    refine TC.exit ?_
    refine TQ.thenE ?_
    refine TQ.thenE ?_
    refine TQ.blkS ?_
    refine TQ.thenC ?_
    refine TC.seq ?_
    refine TC.seq ?_
    refine TC.region ?_
    refine TL.pure (PV.assign rfl) rfl (by decide) ?_
    refine TL.nil ?_
    refine TQ.thenC ?_
    refine TC.block ?_
    -- live and written in the loop, not told: [4]
    refine TC.loopG [2] (X := Nat) (fun u => u ≤ ls.length ∧ ∀ j, j < u → (ls.getD j []).length ≤ 50) (fun u => [(6, .int .i64 u)]) (fun u => ls.length - u) 0 ⟨Nat.zero_le _, fun j hj => absurd hj (Nat.not_lt_zero _)⟩ (by repeat (first | exact True.intro | refine And.intro rfl ?_)) ?_
    intro u hu
    refine TC.seq ?_
    refine TC.seq ?_
    refine TC.region ?_
    refine TL.pure (PV.move rfl) rfl (by decide) ?_
    refine TL.pure (PV.fieldAddr rfl Tb.fo_25_0) rfl (by decide) ?_
    refine TL.pure (PV.load rfl Tb.one_22 (by repeat (first | exact List.Mem.head _ | refine List.Mem.tail _ ?_ | refine List.mem_append_right _ ?_)) rfl) rfl (by decide) ?_
    refine TL.pure (PV.len rfl Tb.sl_22) rfl (by decide) ?_
    refine TL.pure (PV.lss rfl rfl) rfl (by decide) ?_
    refine TL.nil ?_
    refine TQ.thenC ?_
    first | refine TC.condD rfl (fun hlt2 => ?_) (fun hlt2 => ?_) | refine TC.cond rfl (fun hlt2 => ?_) (fun hlt2 => ?_)
    · skip
      refine TC.skip ?_
      refine TQ.thenC ?_
      refine TC.seq ?_
      refine TC.block ?_
      refine TC.seq ?_
      obtain ⟨q1, hq1p, p1, c1, hq1, hi1⟩ := hr u (by omega)
      refine TC.region ?_
      refine TL.pure (PV.fieldAddr rfl Tb.fo_25_0) rfl (by decide) ?_
      refine TL.pure (PV.load rfl Tb.one_22 (by repeat (first | exact List.Mem.head _ | refine List.Mem.tail _ ?_ | refine List.mem_append_right _ ?_)) rfl) rfl (by decide) ?_
      refine TL.pure (PV.move rfl) rfl (by decide) ?_
      refine TL.pure (PV.indexA rfl hq1p rfl Tb.elm_22 rfl (by omega)) rfl (by decide) ?_
      refine TL.pure (PV.loadOld rfl Tb.one_23 hq1) rfl (by decide) ?_
      refine TL.pure (PV.len rfl Tb.sl_23) rfl (by decide) ?_
      refine TL.pure (PV.gtr rfl rfl) rfl (by decide) ?_
      refine TL.nil ?_
      refine TQ.thenC ?_
      first | refine TC.condD rfl (fun hno2 => ?_) (fun hno2 => ?_) | refine TC.cond rfl (fun hno2 => ?_) (fun hno2 => ?_)
      · skip
        refine TC.seq ?_
        refine TC.region ?_
        refine TL.pure (PV.assign rfl) rfl (by decide) ?_
        refine TL.nil ?_
        refine TQ.thenC ?_
        refine TC.ret ?_
        refine TQ.blkR ?_
        refine TQ.thenR ?_
        refine TQ.thenR ?_
        refine TQ.blkR ?_
        refine TQ.thenR ?_
        refine TQ.retE1 rfl rfl ?_
        exact ⟨true, rfl, fun h => Bool.noConfusion h, List.nil_sublist _⟩
      · skip
        refine TC.skip ?_
        refine TQ.blkN ?_
        refine TQ.thenC ?_
        refine TC.region ?_
        refine TL.pure (PV.move rfl) rfl (by decide) ?_
        refine TL.pure (PV.add rfl rfl (by omega)) rfl (by decide) ?_
        refine TL.pure (PV.assign rfl) rfl (by decide) ?_
        refine TL.nil ?_
        refine TQ.thenN ?_
        refine TQ.backK (u + 1) (by repeat (first | exact True.intro | refine And.intro rfl ?_)) (by repeat (first | exact True.intro | refine And.intro rfl ?_)) (by repeat (first | exact List.Sublist.slnil | exact List.nil_sublist _ | exact List.Sublist.refl _ | refine List.Sublist.cons_cons _ ?_ | refine List.Sublist.cons _ ?_ | refine List.Sublist.trans ?_ (List.sublist_append_right _ _))) ⟨by omega, fun j hj => if e : j < u then hu.2 j e else (show u = j by omega) ▸ (by omega)⟩ (by omega)
    · skip
      refine TC.exit ?_
      refine TQ.thenE ?_
      refine TQ.thenE ?_
      refine TQ.blkS ?_
      refine TQ.thenC ?_
      refine TC.seq ?_
      refine TC.region ?_
      refine TL.pure (PV.fieldAddr rfl Tb.fo_25_0) rfl (by decide) ?_
      refine TL.pure (PV.load rfl Tb.one_22 (by repeat (first | exact List.Mem.head _ | refine List.Mem.tail _ ?_ | refine List.mem_append_right _ ?_)) rfl) rfl (by decide) ?_
      refine TL.pure (PV.len rfl Tb.sl_22) rfl (by decide) ?_
      refine TL.pure (PV.gtr rfl rfl) rfl (by decide) ?_
      refine TL.pure (PV.move rfl) rfl (by decide) ?_
      first | refine TL.splitD 37 rfl (fun e1 => ?_) (fun e1 => ?_) | refine TL.split 37 rfl (fun e1 => ?_) (fun e1 => ?_)
      · skip
        refine TL.skip rfl (fun k hk => by cases hk; decide) ?_
        refine TL.skip rfl (fun k hk => by cases hk; decide) ?_
        refine TL.skip rfl (fun k hk => by cases hk; decide) ?_
        refine TL.skip rfl (fun k hk => by cases hk; decide) ?_
        refine TL.pure (PV.pickT rfl rfl) rfl (by decide) ?_
        refine TL.pure (PV.assign rfl) rfl (by decide) ?_
        refine TL.nil ?_
        refine TQ.thenC ?_
        refine TC.ret ?_
        refine TQ.retE1 rfl rfl ?_
        exact ⟨true, rfl, fun h => Bool.noConfusion h, List.nil_sublist _⟩
      · skip
        refine TL.pure (PV.fieldAddr rfl Tb.fo_25_1) rfl (by decide) ?_
        refine TL.pure (PV.load rfl Tb.one_23 (by repeat (first | exact List.Mem.head _ | refine List.Mem.tail _ ?_ | refine List.mem_append_right _ ?_)) rfl) rfl (by decide) ?_
        refine TL.pure (PV.len rfl Tb.sl_23) rfl (by decide) ?_
        refine TL.pure (PV.gtr rfl rfl) rfl (by decide) ?_
        refine TL.pure (PV.pickF rfl rfl) rfl (by decide) ?_
        refine TL.pure (PV.assign rfl) rfl (by decide) ?_
        refine TL.nil ?_
        refine TQ.thenC ?_
        refine TC.ret ?_
        refine TQ.retE1 rfl rfl ?_
        exact ⟨_, rfl, fun h => ⟨len_of fun j hj => hk.2 j (by omega), len_of fun j hj => hu.2 j (by omega), by have := of_decide_eq_false h; omega⟩, List.nil_sublist _⟩

set_option maxRecDepth 100000 in
set_option maxHeartbeats 2000000 in
theorem sane_ok (w0 : World) :
    Calls Try.prog 21 #[] w0 (Post (X := Unit) (fun _ => .bool true) (fun _ => True) (fun _ => []) w0) := by
  refine calls Try.func21 rfl (n := 83) rfl (by simp) ?_
  refine TC.seq ?_
  refine TC.region ?_
  refine TL.pure (PV.assign rfl) rfl (by decide) ?_
  refine TL.nil ?_
  refine TQ.thenC ?_
  refine TC.seq ?_
  refine TC.region ?_
  refine TL.call rfl Tb.gofn_59 (fun a w hs => two_ok w) rfl (by decide) (fun z1 _ => ?_)
  refine TL.buildSlice (cs := intsA [3, 0]) rfl Tb.sl_23 Tb.zi_3 (by decide) (fill_i2 _ _) (by decide) rfl (by decide) (fun d1 hd1 => ?_)
  refine TL.call rfl Tb.gofn_31 (fun a w hs => kSettle w _ _ (two_ls (a := z1.1) (b := z1.2.1) (c := z1.2.2.1) hs.new (by repeat (first | exact List.Mem.head _ | refine List.Mem.tail _ ?_ | refine List.mem_append_right _ ?_)) (by repeat (first | exact List.Mem.head _ | refine List.Mem.tail _ ?_ | refine List.mem_append_right _ ?_)) (by repeat (first | exact List.Mem.head _ | refine List.Mem.tail _ ?_ | refine List.mem_append_right _ ?_))) _ _ (IntsAt.arr (b := z1.2.2.2) (xs := [1, 1]) hs.new (by repeat (first | exact List.Mem.head _ | refine List.Mem.tail _ ?_ | refine List.mem_append_right _ ?_))) _ _ (IntsAt.arr (b := d1) (xs := [3, 0]) hs.new (by repeat (first | exact List.Mem.head _ | refine List.Mem.tail _ ?_ | refine List.mem_append_right _ ?_)))) rfl (by decide) (fun hA hhA => ?_)
  refine TL.pure (PV.move rfl) rfl (by decide) ?_
  refine TL.pure (PV.extract rfl rfl) rfl (by decide) ?_
  refine TL.pure (PV.extract rfl rfl) rfl (by decide) ?_
  refine TL.pure (PV.extract rfl rfl) rfl (by decide) ?_
  refine TL.pure (PV.extract rfl rfl) rfl (by decide) ?_
  refine TL.pure (PV.assign rfl) rfl (by decide) ?_
  refine TL.pure (PV.assign rfl) rfl (by decide) ?_
  refine TL.pure (PV.assign rfl) rfl (by decide) ?_
  refine TL.pure (PV.assign rfl) rfl (by decide) ?_
  refine TL.nil ?_
  refine TQ.thenC ?_
  refine TC.seq ?_
  refine TC.region ?_
  refine TL.call rfl Tb.gofn_59 (fun a w hs => two_ok w) rfl (by decide) (fun z2 _ => ?_)
  refine TL.call rfl Tb.gofn_45 (fun a w hs => kCount w _ _ (two_ls (a := z2.1) (b := z2.2.1) (c := z2.2.2.1) hs.new (by repeat (first | exact List.Mem.head _ | refine List.Mem.tail _ ?_ | refine List.mem_append_right _ ?_)) (by repeat (first | exact List.Mem.head _ | refine List.Mem.tail _ ?_ | refine List.mem_append_right _ ?_)) (by repeat (first | exact List.Mem.head _ | refine List.Mem.tail _ ?_ | refine List.mem_append_right _ ?_))) _ _ (IntsAt.arr (b := z2.2.2.2) (xs := [1, 1]) hs.new (by repeat (first | exact List.Mem.head _ | refine List.Mem.tail _ ?_ | refine List.mem_append_right _ ?_)))) rfl (by decide) (fun _ _ => ?_)
  refine TL.pure (PV.move rfl) rfl (by decide) ?_
  refine TL.pure (PV.extract rfl rfl) rfl (by decide) ?_
  refine TL.pure (PV.extract rfl rfl) rfl (by decide) ?_
  refine TL.pure (PV.assign rfl) rfl (by decide) ?_
  refine TL.pure (PV.assign rfl) rfl (by decide) ?_
  refine TL.nil ?_
  refine TQ.thenC ?_
  refine TC.seq ?_
  refine TC.region ?_
  refine TL.call rfl Tb.gofn_59 (fun a w hs => two_ok w) rfl (by decide) (fun z3 _ => ?_)
  refine TL.call rfl Tb.gofn_47 (fun a w hs => kZero w _ _ (two_ls (a := z3.1) (b := z3.2.1) (c := z3.2.2.1) hs.new (by repeat (first | exact List.Mem.head _ | refine List.Mem.tail _ ?_ | refine List.mem_append_right _ ?_)) (by repeat (first | exact List.Mem.head _ | refine List.Mem.tail _ ?_ | refine List.mem_append_right _ ?_)) (by repeat (first | exact List.Mem.head _ | refine List.Mem.tail _ ?_ | refine List.mem_append_right _ ?_))) _ _ (IntsAt.arr (b := z3.2.2.2) (xs := [1, 1]) hs.new (by repeat (first | exact List.Mem.head _ | refine List.Mem.tail _ ?_ | refine List.mem_append_right _ ?_)))) rfl (by decide) (fun hB hhB => ?_)
  refine TL.pure (PV.move rfl) rfl (by decide) ?_
  refine TL.pure (PV.extract rfl rfl) rfl (by decide) ?_
  refine TL.pure (PV.extract rfl rfl) rfl (by decide) ?_
  refine TL.pure (PV.assign rfl) rfl (by decide) ?_
  refine TL.pure (PV.assign rfl) rfl (by decide) ?_
  refine TL.nil ?_
  refine TQ.thenC ?_
  refine TC.seq ?_
  refine TC.region ?_
  refine TL.call rfl Tb.gofn_59 (fun a w hs => two_ok w) rfl (by decide) (fun z4 _ => ?_)
  refine TL.buildSlice (cs := intsA [0, 0]) rfl Tb.sl_23 Tb.zi_3 (by decide) (fill_i2 _ _) (by decide) rfl (by decide) (fun d2 hd2 => ?_)
  refine TL.buildSlice (cs := intsA [1, 1]) rfl Tb.sl_23 Tb.zi_3 (by decide) (fill_i2 _ _) (by decide) rfl (by decide) (fun d3 hd3 => ?_)
  refine TL.call rfl Tb.gofn_56 (fun a w hs => kScript w _ _ (two_ls (a := z4.1) (b := z4.2.1) (c := z4.2.2.1) hs.new (by repeat (first | exact List.Mem.head _ | refine List.Mem.tail _ ?_ | refine List.mem_append_right _ ?_)) (by repeat (first | exact List.Mem.head _ | refine List.Mem.tail _ ?_ | refine List.mem_append_right _ ?_)) (by repeat (first | exact List.Mem.head _ | refine List.Mem.tail _ ?_ | refine List.mem_append_right _ ?_))) _ _ (IntsAt.arr (b := z4.2.2.2) (xs := [1, 1]) hs.new (by repeat (first | exact List.Mem.head _ | refine List.Mem.tail _ ?_ | refine List.mem_append_right _ ?_))) _ _ (IntsAt.arr (b := d2) (xs := [0, 0]) hs.new (by repeat (first | exact List.Mem.head _ | refine List.Mem.tail _ ?_ | refine List.mem_append_right _ ?_))) _ _ (IntsAt.arr (b := d3) (xs := [1, 1]) hs.new (by repeat (first | exact List.Mem.head _ | refine List.Mem.tail _ ?_ | refine List.mem_append_right _ ?_)))) rfl (by decide) (fun hC hhC => ?_)
  refine TL.pure (PV.move rfl) rfl (by decide) ?_
  refine TL.pure (PV.extract rfl rfl) rfl (by decide) ?_
  refine TL.pure (PV.extract rfl rfl) rfl (by decide) ?_
  refine TL.pure (PV.extract rfl rfl) rfl (by decide) ?_
  refine TL.pure (PV.assign rfl) rfl (by decide) ?_
  refine TL.pure (PV.assign rfl) rfl (by decide) ?_
  refine TL.pure (PV.assign rfl) rfl (by decide) ?_
  refine TL.nil ?_
  refine TQ.thenC ?_
  refine TC.seq ?_
  refine TC.region ?_
  refine TL.pure (PV.move rfl) rfl (by decide) ?_
  refine TL.pure (PV.eql rfl rfl) rfl (by decide) ?_
  refine TL.pure (PV.move rfl) rfl (by decide) ?_
  first | refine TL.splitD 40 rfl (fun h0 => ?_) (fun h0 => ?_) | refine TL.split 40 rfl (fun h0 => ?_) (fun h0 => ?_)
  · skip
    refine TL.pure (PV.move rfl) rfl (by decide) ?_
    refine TL.pure (PV.eql rfl rfl) rfl (by decide) ?_
    refine TL.pure (PV.pickT rfl rfl) rfl (by decide) ?_
    refine TL.pure (PV.move rfl) rfl (by decide) ?_
    first | refine TL.splitD 44 rfl (fun h1 => ?_) (fun h1 => ?_) | refine TL.split 44 rfl (fun h1 => ?_) (fun h1 => ?_)
    · skip
      refine TL.pure (PV.move rfl) rfl (by decide) ?_
      refine TL.buildSlice (cs := intsA [1, 1]) rfl Tb.sl_23 Tb.zi_3 (by decide) (fill_i2 _ _) (by decide) rfl (by decide) (fun d4 hd4 => ?_)
      refine TL.call rfl Tb.gofn_30 (fun a w hs => sameG w hA.1 [1, 1] hhA.1 (IntsAt.g (x := (hA.1, [1, 1])) hs.new (fun yy hyy => by repeat (first | exact List.mem_append_left _ hyy | exact List.mem_append_left _ (List.mem_append_right _ hyy) | exact List.mem_append_left _ (List.mem_append_left _ hyy) | refine List.mem_append_right _ ?_ | refine List.Mem.tail _ ?_)) hhA.1) _ _ [1, 1] (IntsAt.arr (b := d4) (xs := [1, 1]) hs.new (by repeat (first | exact List.Mem.head _ | refine List.Mem.tail _ ?_ | refine List.mem_append_right _ ?_))) (by decide) (by decide)) rfl (by decide) (fun _ _ => ?_)
      refine TL.pure (PV.pickT rfl rfl) rfl (by decide) ?_
      refine TL.pure (PV.move rfl) rfl (by decide) ?_
      first | refine TL.splitD 49 rfl (fun h2 => ?_) (fun h2 => ?_) | refine TL.split 49 rfl (fun h2 => ?_) (fun h2 => ?_)
      · skip
        refine TL.pure (PV.move rfl) rfl (by decide) ?_
        refine TL.buildSlice (cs := intsA [1, 0]) rfl Tb.sl_23 Tb.zi_3 (by decide) (fill_i2 _ _) (by decide) rfl (by decide) (fun d5 hd5 => ?_)
        refine TL.call rfl Tb.gofn_30 (fun a w hs => sameG w hA.2 [1, 0] hhA.2 (IntsAt.g (x := (hA.2, [1, 0])) hs.new (fun yy hyy => by repeat (first | exact List.mem_append_left _ hyy | exact List.mem_append_left _ (List.mem_append_right _ hyy) | exact List.mem_append_left _ (List.mem_append_left _ hyy) | refine List.mem_append_right _ ?_ | refine List.Mem.tail _ ?_)) hhA.2) _ _ [1, 0] (IntsAt.arr (b := d5) (xs := [1, 0]) hs.new (by repeat (first | exact List.Mem.head _ | refine List.Mem.tail _ ?_ | refine List.mem_append_right _ ?_))) (by decide) (by decide)) rfl (by decide) (fun _ _ => ?_)
        refine TL.pure (PV.pickT rfl rfl) rfl (by decide) ?_
        refine TL.pure (PV.move rfl) rfl (by decide) ?_
        first | refine TL.splitD 54 rfl (fun h3 => ?_) (fun h3 => ?_) | refine TL.split 54 rfl (fun h3 => ?_) (fun h3 => ?_)
        · skip
          refine TL.pure (PV.move rfl) rfl (by decide) ?_
          refine TL.pure (PV.eql rfl rfl) rfl (by decide) ?_
          refine TL.pure (PV.pickT rfl rfl) rfl (by decide) ?_
          refine TL.pure (PV.move rfl) rfl (by decide) ?_
          first | refine TL.splitD 58 rfl (fun h4 => ?_) (fun h4 => ?_) | refine TL.split 58 rfl (fun h4 => ?_) (fun h4 => ?_)
          · skip
            refine TL.pure (PV.move rfl) rfl (by decide) ?_
            refine TL.pure (PV.eql rfl rfl) rfl (by decide) ?_
            refine TL.pure (PV.pickT rfl rfl) rfl (by decide) ?_
            refine TL.pure (PV.move rfl) rfl (by decide) ?_
            first | refine TL.splitD 62 rfl (fun h5 => ?_) (fun h5 => ?_) | refine TL.split 62 rfl (fun h5 => ?_) (fun h5 => ?_)
            · skip
              refine TL.pure (PV.move rfl) rfl (by decide) ?_
              refine TL.pure (PV.eql rfl rfl) rfl (by decide) ?_
              refine TL.pure (PV.pickT rfl rfl) rfl (by decide) ?_
              refine TL.pure (PV.move rfl) rfl (by decide) ?_
              first | refine TL.splitD 66 rfl (fun h6 => ?_) (fun h6 => ?_) | refine TL.split 66 rfl (fun h6 => ?_) (fun h6 => ?_)
              · skip
                refine TL.pure (PV.move rfl) rfl (by decide) ?_
                refine TL.buildSlice (cs := intsA [1, 1]) rfl Tb.sl_23 Tb.zi_3 (by decide) (fill_i2 _ _) (by decide) rfl (by decide) (fun d6 hd6 => ?_)
                refine TL.call rfl Tb.gofn_30 (fun a w hs => sameG w hB [1, 1] hhB (IntsAt.g (x := (hB, [1, 1])) hs.new (fun yy hyy => by repeat (first | exact List.mem_append_left _ hyy | exact List.mem_append_left _ (List.mem_append_right _ hyy) | exact List.mem_append_left _ (List.mem_append_left _ hyy) | refine List.mem_append_right _ ?_ | refine List.Mem.tail _ ?_)) hhB) _ _ [1, 1] (IntsAt.arr (b := d6) (xs := [1, 1]) hs.new (by repeat (first | exact List.Mem.head _ | refine List.Mem.tail _ ?_ | refine List.mem_append_right _ ?_))) (by decide) (by decide)) rfl (by decide) (fun _ _ => ?_)
                refine TL.pure (PV.pickT rfl rfl) rfl (by decide) ?_
                refine TL.pure (PV.move rfl) rfl (by decide) ?_
                first | refine TL.splitD 71 rfl (fun h7 => ?_) (fun h7 => ?_) | refine TL.split 71 rfl (fun h7 => ?_) (fun h7 => ?_)
                · skip
                  refine TL.pure (PV.move rfl) rfl (by decide) ?_
                  refine TL.pure (PV.eql rfl rfl) rfl (by decide) ?_
                  refine TL.pure (PV.pickT rfl rfl) rfl (by decide) ?_
                  refine TL.pure (PV.move rfl) rfl (by decide) ?_
                  first | refine TL.splitD 75 rfl (fun h8 => ?_) (fun h8 => ?_) | refine TL.split 75 rfl (fun h8 => ?_) (fun h8 => ?_)
                  · skip
                    refine TL.pure (PV.move rfl) rfl (by decide) ?_
                    refine TL.pure (PV.pickT rfl rfl) rfl (by decide) ?_
                    refine TL.pure (PV.move rfl) rfl (by decide) ?_
                    first | refine TL.splitD 78 rfl (fun h9 => ?_) (fun h9 => ?_) | refine TL.split 78 rfl (fun h9 => ?_) (fun h9 => ?_)
                    · skip
                      refine TL.pure (PV.move rfl) rfl (by decide) ?_
                      refine TL.buildSlice (cs := intsA [-1, -1]) rfl Tb.sl_23 Tb.zi_3 (by decide) (fill_i2 _ _) (by decide) rfl (by decide) (fun d7 hd7 => ?_)
                      refine TL.call rfl Tb.gofn_30 (fun a w hs => sameG w hC [-1, -1] hhC (IntsAt.g (x := (hC, [-1, -1])) hs.new (fun yy hyy => by repeat (first | exact List.mem_append_left _ hyy | exact List.mem_append_left _ (List.mem_append_right _ hyy) | exact List.mem_append_left _ (List.mem_append_left _ hyy) | refine List.mem_append_right _ ?_ | refine List.Mem.tail _ ?_)) hhC) _ _ [-1, -1] (IntsAt.arr (b := d7) (xs := [-1, -1]) hs.new (by repeat (first | exact List.Mem.head _ | refine List.Mem.tail _ ?_ | refine List.mem_append_right _ ?_))) (by decide) (by decide)) rfl (by decide) (fun _ _ => ?_)
                      refine TL.pure (PV.pickT rfl rfl) rfl (by decide) ?_
                      refine TL.pure (PV.assign rfl) rfl (by decide) ?_
                      refine TL.nil ?_
                      refine TQ.thenC ?_
                      refine TC.ret ?_
                      refine TQ.retE1 rfl rfl ?_
                      first | exact ⟨(), rfl, trivial, List.nil_sublist _⟩ | (exfalso; simp_all; done)
                    · skip
                      refine TL.skip rfl (fun k hk => by cases hk; decide) ?_
                      refine TL.skip rfl (fun k hk => by cases hk; decide) ?_
                      refine TL.skip rfl (fun k hk => by cases hk; decide) ?_
                      refine TL.pure (PV.pickF rfl rfl) rfl (by decide) ?_
                      refine TL.pure (PV.assign rfl) rfl (by decide) ?_
                      refine TL.nil ?_
                      refine TQ.thenC ?_
                      refine TC.ret ?_
                      refine TQ.retE1 rfl rfl ?_
                      first | exact ⟨(), rfl, trivial, List.nil_sublist _⟩ | (exfalso; simp_all; done)
                  · skip
                    refine TL.skip rfl (fun k hk => by cases hk; decide) ?_
                    refine TL.pure (PV.pickF rfl rfl) rfl (by decide) ?_
                    refine TL.pure (PV.move rfl) rfl (by decide) ?_
                    refine TL.skip rfl (fun k hk => by cases hk; decide) ?_
                    refine TL.skip rfl (fun k hk => by cases hk; decide) ?_
                    refine TL.skip rfl (fun k hk => by cases hk; decide) ?_
                    refine TL.pure (PV.pickF rfl rfl) rfl (by decide) ?_
                    refine TL.pure (PV.assign rfl) rfl (by decide) ?_
                    refine TL.nil ?_
                    refine TQ.thenC ?_
                    refine TC.ret ?_
                    refine TQ.retE1 rfl rfl ?_
                    first | exact ⟨(), rfl, trivial, List.nil_sublist _⟩ | (exfalso; simp_all; done)
                · skip
                  refine TL.skip rfl (fun k hk => by cases hk; decide) ?_
                  refine TL.skip rfl (fun k hk => by cases hk; decide) ?_
                  refine TL.pure (PV.pickF rfl rfl) rfl (by decide) ?_
                  refine TL.pure (PV.move rfl) rfl (by decide) ?_
                  refine TL.skip rfl (fun k hk => by cases hk; decide) ?_
                  refine TL.pure (PV.pickF rfl rfl) rfl (by decide) ?_
                  refine TL.pure (PV.move rfl) rfl (by decide) ?_
                  refine TL.skip rfl (fun k hk => by cases hk; decide) ?_
                  refine TL.skip rfl (fun k hk => by cases hk; decide) ?_
                  refine TL.skip rfl (fun k hk => by cases hk; decide) ?_
                  refine TL.pure (PV.pickF rfl rfl) rfl (by decide) ?_
                  refine TL.pure (PV.assign rfl) rfl (by decide) ?_
                  refine TL.nil ?_
                  refine TQ.thenC ?_
                  refine TC.ret ?_
                  refine TQ.retE1 rfl rfl ?_
                  first | exact ⟨(), rfl, trivial, List.nil_sublist _⟩ | (exfalso; simp_all; done)
              · skip
                refine TL.skip rfl (fun k hk => by cases hk; decide) ?_
                refine TL.skip rfl (fun k hk => by cases hk; decide) ?_
                refine TL.skip rfl (fun k hk => by cases hk; decide) ?_
                refine TL.pure (PV.pickF rfl rfl) rfl (by decide) ?_
                refine TL.pure (PV.move rfl) rfl (by decide) ?_
                refine TL.skip rfl (fun k hk => by cases hk; decide) ?_
                refine TL.skip rfl (fun k hk => by cases hk; decide) ?_
                refine TL.pure (PV.pickF rfl rfl) rfl (by decide) ?_
                refine TL.pure (PV.move rfl) rfl (by decide) ?_
                refine TL.skip rfl (fun k hk => by cases hk; decide) ?_
                refine TL.pure (PV.pickF rfl rfl) rfl (by decide) ?_
                refine TL.pure (PV.move rfl) rfl (by decide) ?_
                refine TL.skip rfl (fun k hk => by cases hk; decide) ?_
                refine TL.skip rfl (fun k hk => by cases hk; decide) ?_
                refine TL.skip rfl (fun k hk => by cases hk; decide) ?_
                refine TL.pure (PV.pickF rfl rfl) rfl (by decide) ?_
                refine TL.pure (PV.assign rfl) rfl (by decide) ?_
                refine TL.nil ?_
                refine TQ.thenC ?_
                refine TC.ret ?_
                refine TQ.retE1 rfl rfl ?_
                first | exact ⟨(), rfl, trivial, List.nil_sublist _⟩ | (exfalso; simp_all; done)
            · skip
              refine TL.skip rfl (fun k hk => by cases hk; decide) ?_
              refine TL.skip rfl (fun k hk => by cases hk; decide) ?_
              refine TL.pure (PV.pickF rfl rfl) rfl (by decide) ?_
              refine TL.pure (PV.move rfl) rfl (by decide) ?_
              refine TL.skip rfl (fun k hk => by cases hk; decide) ?_
              refine TL.skip rfl (fun k hk => by cases hk; decide) ?_
              refine TL.skip rfl (fun k hk => by cases hk; decide) ?_
              refine TL.pure (PV.pickF rfl rfl) rfl (by decide) ?_
              refine TL.pure (PV.move rfl) rfl (by decide) ?_
              refine TL.skip rfl (fun k hk => by cases hk; decide) ?_
              refine TL.skip rfl (fun k hk => by cases hk; decide) ?_
              refine TL.pure (PV.pickF rfl rfl) rfl (by decide) ?_
              refine TL.pure (PV.move rfl) rfl (by decide) ?_
              refine TL.skip rfl (fun k hk => by cases hk; decide) ?_
              refine TL.pure (PV.pickF rfl rfl) rfl (by decide) ?_
              refine TL.pure (PV.move rfl) rfl (by decide) ?_
              refine TL.skip rfl (fun k hk => by cases hk; decide) ?_
              refine TL.skip rfl (fun k hk => by cases hk; decide) ?_
              refine TL.skip rfl (fun k hk => by cases hk; decide) ?_
              refine TL.pure (PV.pickF rfl rfl) rfl (by decide) ?_
              refine TL.pure (PV.assign rfl) rfl (by decide) ?_
              refine TL.nil ?_
              refine TQ.thenC ?_
              refine TC.ret ?_
              refine TQ.retE1 rfl rfl ?_
              first | exact ⟨(), rfl, trivial, List.nil_sublist _⟩ | (exfalso; simp_all; done)
          · skip
            refine TL.skip rfl (fun k hk => by cases hk; decide) ?_
            refine TL.skip rfl (fun k hk => by cases hk; decide) ?_
            refine TL.pure (PV.pickF rfl rfl) rfl (by decide) ?_
            refine TL.pure (PV.move rfl) rfl (by decide) ?_
            refine TL.skip rfl (fun k hk => by cases hk; decide) ?_
            refine TL.skip rfl (fun k hk => by cases hk; decide) ?_
            refine TL.pure (PV.pickF rfl rfl) rfl (by decide) ?_
            refine TL.pure (PV.move rfl) rfl (by decide) ?_
            refine TL.skip rfl (fun k hk => by cases hk; decide) ?_
            refine TL.skip rfl (fun k hk => by cases hk; decide) ?_
            refine TL.skip rfl (fun k hk => by cases hk; decide) ?_
            refine TL.pure (PV.pickF rfl rfl) rfl (by decide) ?_
            refine TL.pure (PV.move rfl) rfl (by decide) ?_
            refine TL.skip rfl (fun k hk => by cases hk; decide) ?_
            refine TL.skip rfl (fun k hk => by cases hk; decide) ?_
            refine TL.pure (PV.pickF rfl rfl) rfl (by decide) ?_
            refine TL.pure (PV.move rfl) rfl (by decide) ?_
            refine TL.skip rfl (fun k hk => by cases hk; decide) ?_
            refine TL.pure (PV.pickF rfl rfl) rfl (by decide) ?_
            refine TL.pure (PV.move rfl) rfl (by decide) ?_
            refine TL.skip rfl (fun k hk => by cases hk; decide) ?_
            refine TL.skip rfl (fun k hk => by cases hk; decide) ?_
            refine TL.skip rfl (fun k hk => by cases hk; decide) ?_
            refine TL.pure (PV.pickF rfl rfl) rfl (by decide) ?_
            refine TL.pure (PV.assign rfl) rfl (by decide) ?_
            refine TL.nil ?_
            refine TQ.thenC ?_
            refine TC.ret ?_
            refine TQ.retE1 rfl rfl ?_
            first | exact ⟨(), rfl, trivial, List.nil_sublist _⟩ | (exfalso; simp_all; done)
        · skip
          refine TL.skip rfl (fun k hk => by cases hk; decide) ?_
          refine TL.skip rfl (fun k hk => by cases hk; decide) ?_
          refine TL.pure (PV.pickF rfl rfl) rfl (by decide) ?_
          refine TL.pure (PV.move rfl) rfl (by decide) ?_
          refine TL.skip rfl (fun k hk => by cases hk; decide) ?_
          refine TL.skip rfl (fun k hk => by cases hk; decide) ?_
          refine TL.pure (PV.pickF rfl rfl) rfl (by decide) ?_
          refine TL.pure (PV.move rfl) rfl (by decide) ?_
          refine TL.skip rfl (fun k hk => by cases hk; decide) ?_
          refine TL.skip rfl (fun k hk => by cases hk; decide) ?_
          refine TL.pure (PV.pickF rfl rfl) rfl (by decide) ?_
          refine TL.pure (PV.move rfl) rfl (by decide) ?_
          refine TL.skip rfl (fun k hk => by cases hk; decide) ?_
          refine TL.skip rfl (fun k hk => by cases hk; decide) ?_
          refine TL.skip rfl (fun k hk => by cases hk; decide) ?_
          refine TL.pure (PV.pickF rfl rfl) rfl (by decide) ?_
          refine TL.pure (PV.move rfl) rfl (by decide) ?_
          refine TL.skip rfl (fun k hk => by cases hk; decide) ?_
          refine TL.skip rfl (fun k hk => by cases hk; decide) ?_
          refine TL.pure (PV.pickF rfl rfl) rfl (by decide) ?_
          refine TL.pure (PV.move rfl) rfl (by decide) ?_
          refine TL.skip rfl (fun k hk => by cases hk; decide) ?_
          refine TL.pure (PV.pickF rfl rfl) rfl (by decide) ?_
          refine TL.pure (PV.move rfl) rfl (by decide) ?_
          refine TL.skip rfl (fun k hk => by cases hk; decide) ?_
          refine TL.skip rfl (fun k hk => by cases hk; decide) ?_
          refine TL.skip rfl (fun k hk => by cases hk; decide) ?_
          refine TL.pure (PV.pickF rfl rfl) rfl (by decide) ?_
          refine TL.pure (PV.assign rfl) rfl (by decide) ?_
          refine TL.nil ?_
          refine TQ.thenC ?_
          refine TC.ret ?_
          refine TQ.retE1 rfl rfl ?_
          first | exact ⟨(), rfl, trivial, List.nil_sublist _⟩ | (exfalso; simp_all; done)
      · skip
        refine TL.skip rfl (fun k hk => by cases hk; decide) ?_
        refine TL.skip rfl (fun k hk => by cases hk; decide) ?_
        refine TL.skip rfl (fun k hk => by cases hk; decide) ?_
        refine TL.pure (PV.pickF rfl rfl) rfl (by decide) ?_
        refine TL.pure (PV.move rfl) rfl (by decide) ?_
        refine TL.skip rfl (fun k hk => by cases hk; decide) ?_
        refine TL.skip rfl (fun k hk => by cases hk; decide) ?_
        refine TL.pure (PV.pickF rfl rfl) rfl (by decide) ?_
        refine TL.pure (PV.move rfl) rfl (by decide) ?_
        refine TL.skip rfl (fun k hk => by cases hk; decide) ?_
        refine TL.skip rfl (fun k hk => by cases hk; decide) ?_
        refine TL.pure (PV.pickF rfl rfl) rfl (by decide) ?_
        refine TL.pure (PV.move rfl) rfl (by decide) ?_
        refine TL.skip rfl (fun k hk => by cases hk; decide) ?_
        refine TL.skip rfl (fun k hk => by cases hk; decide) ?_
        refine TL.pure (PV.pickF rfl rfl) rfl (by decide) ?_
        refine TL.pure (PV.move rfl) rfl (by decide) ?_
        refine TL.skip rfl (fun k hk => by cases hk; decide) ?_
        refine TL.skip rfl (fun k hk => by cases hk; decide) ?_
        refine TL.skip rfl (fun k hk => by cases hk; decide) ?_
        refine TL.pure (PV.pickF rfl rfl) rfl (by decide) ?_
        refine TL.pure (PV.move rfl) rfl (by decide) ?_
        refine TL.skip rfl (fun k hk => by cases hk; decide) ?_
        refine TL.skip rfl (fun k hk => by cases hk; decide) ?_
        refine TL.pure (PV.pickF rfl rfl) rfl (by decide) ?_
        refine TL.pure (PV.move rfl) rfl (by decide) ?_
        refine TL.skip rfl (fun k hk => by cases hk; decide) ?_
        refine TL.pure (PV.pickF rfl rfl) rfl (by decide) ?_
        refine TL.pure (PV.move rfl) rfl (by decide) ?_
        refine TL.skip rfl (fun k hk => by cases hk; decide) ?_
        refine TL.skip rfl (fun k hk => by cases hk; decide) ?_
        refine TL.skip rfl (fun k hk => by cases hk; decide) ?_
        refine TL.pure (PV.pickF rfl rfl) rfl (by decide) ?_
        refine TL.pure (PV.assign rfl) rfl (by decide) ?_
        refine TL.nil ?_
        refine TQ.thenC ?_
        refine TC.ret ?_
        refine TQ.retE1 rfl rfl ?_
        first | exact ⟨(), rfl, trivial, List.nil_sublist _⟩ | (exfalso; simp_all; done)
    · skip
      refine TL.skip rfl (fun k hk => by cases hk; decide) ?_
      refine TL.skip rfl (fun k hk => by cases hk; decide) ?_
      refine TL.skip rfl (fun k hk => by cases hk; decide) ?_
      refine TL.pure (PV.pickF rfl rfl) rfl (by decide) ?_
      refine TL.pure (PV.move rfl) rfl (by decide) ?_
      refine TL.skip rfl (fun k hk => by cases hk; decide) ?_
      refine TL.skip rfl (fun k hk => by cases hk; decide) ?_
      refine TL.skip rfl (fun k hk => by cases hk; decide) ?_
      refine TL.pure (PV.pickF rfl rfl) rfl (by decide) ?_
      refine TL.pure (PV.move rfl) rfl (by decide) ?_
      refine TL.skip rfl (fun k hk => by cases hk; decide) ?_
      refine TL.skip rfl (fun k hk => by cases hk; decide) ?_
      refine TL.pure (PV.pickF rfl rfl) rfl (by decide) ?_
      refine TL.pure (PV.move rfl) rfl (by decide) ?_
      refine TL.skip rfl (fun k hk => by cases hk; decide) ?_
      refine TL.skip rfl (fun k hk => by cases hk; decide) ?_
      refine TL.pure (PV.pickF rfl rfl) rfl (by decide) ?_
      refine TL.pure (PV.move rfl) rfl (by decide) ?_
      refine TL.skip rfl (fun k hk => by cases hk; decide) ?_
      refine TL.skip rfl (fun k hk => by cases hk; decide) ?_
      refine TL.pure (PV.pickF rfl rfl) rfl (by decide) ?_
      refine TL.pure (PV.move rfl) rfl (by decide) ?_
      refine TL.skip rfl (fun k hk => by cases hk; decide) ?_
      refine TL.skip rfl (fun k hk => by cases hk; decide) ?_
      refine TL.skip rfl (fun k hk => by cases hk; decide) ?_
      refine TL.pure (PV.pickF rfl rfl) rfl (by decide) ?_
      refine TL.pure (PV.move rfl) rfl (by decide) ?_
      refine TL.skip rfl (fun k hk => by cases hk; decide) ?_
      refine TL.skip rfl (fun k hk => by cases hk; decide) ?_
      refine TL.pure (PV.pickF rfl rfl) rfl (by decide) ?_
      refine TL.pure (PV.move rfl) rfl (by decide) ?_
      refine TL.skip rfl (fun k hk => by cases hk; decide) ?_
      refine TL.pure (PV.pickF rfl rfl) rfl (by decide) ?_
      refine TL.pure (PV.move rfl) rfl (by decide) ?_
      refine TL.skip rfl (fun k hk => by cases hk; decide) ?_
      refine TL.skip rfl (fun k hk => by cases hk; decide) ?_
      refine TL.skip rfl (fun k hk => by cases hk; decide) ?_
      refine TL.pure (PV.pickF rfl rfl) rfl (by decide) ?_
      refine TL.pure (PV.assign rfl) rfl (by decide) ?_
      refine TL.nil ?_
      refine TQ.thenC ?_
      refine TC.ret ?_
      refine TQ.retE1 rfl rfl ?_
      first | exact ⟨(), rfl, trivial, List.nil_sublist _⟩ | (exfalso; simp_all; done)
  · skip
    refine TL.skip rfl (fun k hk => by cases hk; decide) ?_
    refine TL.skip rfl (fun k hk => by cases hk; decide) ?_
    refine TL.pure (PV.pickF rfl rfl) rfl (by decide) ?_
    refine TL.pure (PV.move rfl) rfl (by decide) ?_
    refine TL.skip rfl (fun k hk => by cases hk; decide) ?_
    refine TL.skip rfl (fun k hk => by cases hk; decide) ?_
    refine TL.skip rfl (fun k hk => by cases hk; decide) ?_
    refine TL.pure (PV.pickF rfl rfl) rfl (by decide) ?_
    refine TL.pure (PV.move rfl) rfl (by decide) ?_
    refine TL.skip rfl (fun k hk => by cases hk; decide) ?_
    refine TL.skip rfl (fun k hk => by cases hk; decide) ?_
    refine TL.skip rfl (fun k hk => by cases hk; decide) ?_
    refine TL.pure (PV.pickF rfl rfl) rfl (by decide) ?_
    refine TL.pure (PV.move rfl) rfl (by decide) ?_
    refine TL.skip rfl (fun k hk => by cases hk; decide) ?_
    refine TL.skip rfl (fun k hk => by cases hk; decide) ?_
    refine TL.pure (PV.pickF rfl rfl) rfl (by decide) ?_
    refine TL.pure (PV.move rfl) rfl (by decide) ?_
    refine TL.skip rfl (fun k hk => by cases hk; decide) ?_
    refine TL.skip rfl (fun k hk => by cases hk; decide) ?_
    refine TL.pure (PV.pickF rfl rfl) rfl (by decide) ?_
    refine TL.pure (PV.move rfl) rfl (by decide) ?_
    refine TL.skip rfl (fun k hk => by cases hk; decide) ?_
    refine TL.skip rfl (fun k hk => by cases hk; decide) ?_
    refine TL.pure (PV.pickF rfl rfl) rfl (by decide) ?_
    refine TL.pure (PV.move rfl) rfl (by decide) ?_
    refine TL.skip rfl (fun k hk => by cases hk; decide) ?_
    refine TL.skip rfl (fun k hk => by cases hk; decide) ?_
    refine TL.skip rfl (fun k hk => by cases hk; decide) ?_
    refine TL.pure (PV.pickF rfl rfl) rfl (by decide) ?_
    refine TL.pure (PV.move rfl) rfl (by decide) ?_
    refine TL.skip rfl (fun k hk => by cases hk; decide) ?_
    refine TL.skip rfl (fun k hk => by cases hk; decide) ?_
    refine TL.pure (PV.pickF rfl rfl) rfl (by decide) ?_
    refine TL.pure (PV.move rfl) rfl (by decide) ?_
    refine TL.skip rfl (fun k hk => by cases hk; decide) ?_
    refine TL.pure (PV.pickF rfl rfl) rfl (by decide) ?_
    refine TL.pure (PV.move rfl) rfl (by decide) ?_
    refine TL.skip rfl (fun k hk => by cases hk; decide) ?_
    refine TL.skip rfl (fun k hk => by cases hk; decide) ?_
    refine TL.skip rfl (fun k hk => by cases hk; decide) ?_
    refine TL.pure (PV.pickF rfl rfl) rfl (by decide) ?_
    refine TL.pure (PV.assign rfl) rfl (by decide) ?_
    refine TL.nil ?_
    refine TQ.thenC ?_
    refine TC.ret ?_
    refine TQ.retE1 rfl rfl ?_
    first | exact ⟨(), rfl, trivial, List.nil_sublist _⟩ | (exfalso; simp_all; done)

end Go.Proofs.Ytgafpkcnhpoobaa
