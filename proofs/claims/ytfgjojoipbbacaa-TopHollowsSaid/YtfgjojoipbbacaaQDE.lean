/- Orders that lead to a hollow: contracts. -/
import Derived.Test.YtfgjojoipbbacaaQDD
set_option linter.unusedVariables false
set_option linter.unusedSimpArgs false
namespace Go.Proofs.Ytfgjojoipbbacaa
open Go.Sx Go.RowKit

theorem neq69_guard (x y : Operand) (xs ys : List Int) (w : World) : (eqGuard .neq 69 x y (.agg (intsA xs)) (.agg (intsA ys))).run Try.prog w = .ok () w :=
  run_eqGuard_agg (w := w) .neq 69 x y _ _ (by kernel_rfl)
theorem neq69 {xs ys : List Int} (hx : xs.length = 6) (hy : ys.length = 6) (w : World) : (binOp .neq 69 (.agg (intsA xs)) (.agg (intsA ys))).run Try.prog w = .ok (.bool (decide (¬ xs = ys))) w := by
  have h := run_eqK key_69 hx hy w
  rw [show (Op.equal 69 (.agg (intsA xs)) (.agg (intsA ys))) = Op.equalIn 10000 69 (.agg (intsA xs)) (.agg (intsA ys)) from rfl] at h
  rw [run_neq_struct, h, decide_not]
  rfl
/-- The first open column in which something is left. -/
def cndU (ls : List (List Int)) (d g : List Int) (u : Nat) : Bool := decide (d.getD ((opN ls (pad6 d) ls.length).getD u 0).toNat 0 < g.getD ((opN ls (pad6 d) ls.length).getD u 0).toNat 0)
def ordU (ls : List (List Int)) (d g : List Int) : Nat := ((List.range (opN ls (pad6 d) ls.length).length).find? (cndU ls d g)).getD 0
def ordC (ls : List (List Int)) (d g : List Int) : Nat := ((opN ls (pad6 d) ls.length).getD (ordU ls d g) 0).toNat
theorem ordU_is {ls : List (List Int)} {d g : List Int} {u : Nat} (hu : u < (opN ls (pad6 d) ls.length).length) (h : ∀ v, v < u → cndU ls d g v = false) (h2 : cndU ls d g u = true) : ordU ls d g = u := by
  unfold ordU
  have e : (List.range (opN ls (pad6 d) ls.length).length).find? (cndU ls d g) = some u := by
    rw [List.find?_eq_some_iff_getElem]
    refine ⟨h2, u, by simpa using hu, by simp, fun j hj => ?_⟩
    simp only [List.getElem_range, h j hj]
    rfl
  rw [e]; rfl
def stL (ls : List (List Int)) (g : List Int) : Nat → List Int
  | 0 => List.replicate ls.length 0
  | k + 1 => upL (stL ls g k) (ordC ls (stL ls g k) g)
def odL (ls : List (List Int)) (g : List Int) (k : Nat) : List Int := (List.range k).map fun j => (ordC ls (stL ls g j) g : Int)
theorem od_succ (ls : List (List Int)) (g : List Int) (k : Nat) : odL ls g (k + 1) = odL ls g k ++ [(ordC ls (stL ls g k) g : Int)] := by simp [odL, List.range_succ]
theorem od_len (ls : List (List Int)) (g : List Int) (k : Nat) : (odL ls g k).length = k := by simp [odL]
theorem od_at {ls : List (List Int)} {g : List Int} {k j : Nat} (hj : j < k) : (odL ls g k).getD j 0 = (ordC ls (stL ls g j) g : Int) := by simp [odL, List.getD, hj]
theorem st_len (ls : List (List Int)) (g : List Int) : ∀ k, (stL ls g k).length = ls.length
  | 0 => by simp [stL]
  | k + 1 => by show (upL _ _).length = _; rw [List.length_set, st_len ls g k]
/-- Where something is left, the highest block of it is open. -/
theorem ex_open {ls : List (List Int)} {d g : List Int} (hd : HO ls d) (hg : HO ls g) (hle : ∀ c, d.getD c 0 ≤ g.getD c 0) (hne : ¬ d = g) : ∃ u, u < (opN ls (pad6 d) ls.length).length ∧ cndU ls d g u = true := by
  have hdl := hd.len
  have hgl := hg.len
  have h1 : ∃ c, c < ls.length ∧ d.getD c 0 < g.getD c 0 := Classical.byContradiction fun hno => hne (ints_ext (by omega) fun j hj => by
    have := hle j
    have : ¬ d.getD j 0 < g.getD j 0 := fun h => hno ⟨j, by omega, h⟩
    omega)
  have h2 : ∀ (m : Nat) (c : Nat), c < ls.length → d.getD c 0 < g.getD c 0 → (d.getD c 0).toNat = m → ∃ c, c < ls.length ∧ d.getD c 0 < g.getD c 0 ∧ ∀ e, e < ls.length → d.getD e 0 < g.getD e 0 → d.getD c 0 ≤ d.getD e 0 := by
    intro m
    induction m using Nat.strongRecOn with
    | _ m ih =>
      intro c hc hlt hm
      by_cases hall : ∀ e, e < ls.length → d.getD e 0 < g.getD e 0 → d.getD c 0 ≤ d.getD e 0
      · exact ⟨c, hc, hlt, hall⟩
      · have : ∃ e, e < ls.length ∧ d.getD e 0 < g.getD e 0 ∧ d.getD e 0 < d.getD c 0 := Classical.byContradiction fun hno => hall fun e he hlt2 => by
          have : ¬ d.getD e 0 < d.getD c 0 := fun h => hno ⟨e, he, hlt2, h⟩
          omega
        obtain ⟨e, he, he2, he3⟩ := this
        have := hd.at_ e
        exact ih _ (by omega) e he he2 rfl
  obtain ⟨c0, hc0, hlt0⟩ := h1
  obtain ⟨c, hc, hlt, hmin⟩ := h2 _ c0 hc0 hlt0 rfl
  have ho : opB ls (pad6 d) c = true := by
    refine op_yes (by rw [pad_at]; have := hg.at_ c; omega) fun u hu => ?_
    have hb := near_bd hu
    rw [pad_at, pad_at]
    intro hlt2
    have hst : ∀ e : Nat, e < ls.length → ((e : Int) = c - 1 ∨ (e : Int) = c + 1) → g.getD c 0 - g.getD e 0 ≤ 1 := fun e he h => by
      rcases h with h | h
      · obtain rfl : c = e + 1 := by omega
        exact (hg.stp e hc).2
      · obtain rfl : e = c + 1 := by omega
        have := (hg.stp c he).1
        omega
    have key : ∀ e : Nat, e < ls.length → ((e : Int) = c - 1 ∨ (e : Int) = c + 1) → ¬ d.getD e 0 < d.getD c 0 := fun e he h h3 => by
      have h4 := hst e he h
      by_cases h5 : d.getD e 0 < g.getD e 0
      · have := hmin e he h5; omega
      · omega
    rcases near_is hu with e | e | e
    · rw [e] at hlt2 hb
      exact key ((c : Int) - 1).toNat (by omega) (.inl (by omega)) hlt2
    · rw [e, Int.toNat_natCast] at hlt2; omega
    · rw [e] at hlt2 hb
      exact key ((c : Int) + 1).toNat (by omega) (.inr (by omega)) hlt2
  obtain ⟨u, hu, hu2⟩ := op_idx ho hc
  refine ⟨u, hu, ?_⟩
  unfold cndU
  rw [hu2, Int.toNat_natCast]
  exact decide_eq_true hlt
theorem sumN_set {xs : List Int} {c : Nat} (hc : c < xs.length) : ∀ n, sumN (upL xs c) n = sumN xs n + if c < n then 1 else 0
  | 0 => by simp [sumN]
  | n + 1 => by
    have ih := sumN_set hc n
    show sumN (upL xs c) n + (upL xs c).getD n 0 = sumN xs n + xs.getD n 0 + _
    rw [ih, up_at hc]
    by_cases e : c = n
    · subst e
      rw [if_neg (Nat.lt_irrefl _), if_pos rfl, if_pos (by omega)]; omega
    · rw [if_neg e]
      by_cases h : c < n
      · rw [if_pos h, if_pos (by omega)]; omega
      · rw [if_neg h, if_neg (by omega)]; omega
theorem sumN_le {xs ys : List Int} (h : ∀ c, xs.getD c 0 ≤ ys.getD c 0) : ∀ n, sumN xs n ≤ sumN ys n
  | 0 => Int.le_refl _
  | n + 1 => by have := sumN_le h n; have := h n; show _ + _ ≤ _ + _; omega
theorem sumN_rep (m : Nat) : ∀ n, sumN (List.replicate m 0) n = 0
  | 0 => rfl
  | n + 1 => by show sumN _ n + _ = 0; rw [sumN_rep m n, rep_at]; rfl
theorem sumN_hi {ls : List (List Int)} {g : List Int} (h : HO ls g) : ∀ n : Nat, sumN g n ≤ 4 * n
  | 0 => by simp [sumN]
  | n + 1 => by have := sumN_hi h n; have := h.at_ n; have := h.vb.d; show _ + _ ≤ _; omega
/-- On the way to a hollow. -/
structure StI (ls : List (List Int)) (g : List Int) (k : Nat) : Prop where
  ho : HO ls (stL ls g k)
  le : ∀ c, (stL ls g k).getD c 0 ≤ g.getD c 0
  sum : sumN (stL ls g k) ls.length = k
  ne : ∀ j, j < k → ¬ stL ls g j = g
  ok : ∀ j, j < k → ordC ls (stL ls g j) g < ls.length ∧ opB ls (pad6 (stL ls g j)) (ordC ls (stL ls g j) g) = true
theorem StI.zero {ls : List (List Int)} {g : List Int} (hg : HO ls g) : StI ls g 0 :=
  ⟨ho_zero hg.vb, fun c => by show (List.replicate ls.length (0 : Int)).getD c 0 ≤ _; rw [rep_at]; exact (hg.at_ c).1, sumN_rep _ _, fun j hj => absurd hj (Nat.not_lt_zero _), fun j hj => absurd hj (Nat.not_lt_zero _)⟩
theorem StI.step {ls : List (List Int)} {g : List Int} {k u : Nat} (hg : HO ls g) (h : StI ls g k) (hne : ¬ stL ls g k = g) (hu : u < (opN ls (pad6 (stL ls g k)) ls.length).length) (hv : ∀ v, v < u → cndU ls (stL ls g k) g v = false) (hu2 : cndU ls (stL ls g k) g u = true) :
    StI ls g (k + 1) ∧ ((ordC ls (stL ls g k) g : Nat) : Int) = (opN ls (pad6 (stL ls g k)) ls.length).getD u 0 ∧ ordC ls (stL ls g k) g < ls.length ∧ 0 ≤ (stL ls g k).getD (ordC ls (stL ls g k) g) 0 ∧ (stL ls g k).getD (ordC ls (stL ls g k) g) 0 ≤ 4 := by
  have hU := ordU_is hu hv hu2
  obtain ⟨c, h1, h2, h3⟩ := op_get hu
  have hc : ordC ls (stL ls g k) g = c := by unfold ordC; rw [hU, h2, Int.toNat_natCast]
  have hl := st_len ls g k
  have hlt := of_decide_eq_true hu2
  rw [h2, Int.toNat_natCast] at hlt
  have hat := h.ho.at_ c
  have hd := h.ho.vb.d
  refine ⟨⟨?_, fun e => ?_, ?_, fun j hj => ?_, fun j hj => ?_⟩, by rw [hc, h2], by rw [hc]; exact h1, by rw [hc]; exact hat.1, by rw [hc]; omega⟩
  · show HO ls (upL (stL ls g k) _); rw [hc]; exact h.ho.up h1 h3
  · show (upL (stL ls g k) _).getD e 0 ≤ _
    rw [hc, up_at (by omega)]
    have := h.le e
    split
    · rename_i e1; subst e1; omega
    · exact this
  · show sumN (upL (stL ls g k) _) ls.length = _
    rw [hc, sumN_set (by omega), if_pos h1, h.sum]; omega
  · by_cases e : j = k
    · rw [e]; exact hne
    · exact h.ne j (by omega)
  · by_cases e : j = k
    · rw [e, hc]; exact ⟨h1, h3⟩
    · exact h.ok j (by omega)
theorem StI.lt {ls : List (List Int)} {g : List Int} {k : Nat} (hg : HO ls g) (h : StI ls g k) : (k : Int) ≤ sumN g ls.length ∧ sumN g ls.length ≤ 24 := by
  have h1 := sumN_le h.le ls.length
  have h2 := sumN_hi hg ls.length
  have h3 := hg.vb.n
  rw [h.sum] at h1
  exact ⟨h1, by omega⟩
/-- What Order says. -/
structure OdP (ls : List (List Int)) (g l : List Int) : Prop where
  bad : holI ls g ≠ 0 → l = []
  ok : ¬ holI ls g ≠ 0 → ∃ k, StI ls g k ∧ stL ls g k = g ∧ l = odL ls g k
theorem OdP.unique {ls : List (List Int)} {g l m : List Int} (h : OdP ls g l) (h2 : OdP ls g m) : l = m := by
  by_cases h0 : holI ls g ≠ 0
  · rw [h.bad h0, h2.bad h0]
  · obtain ⟨k, a1, a2, a3⟩ := h.ok h0
    obtain ⟨j, b1, b2, b3⟩ := h2.ok h0
    rcases Nat.lt_trichotomy k j with e | e | e
    · exact absurd a2 (b1.ne k e)
    · rw [a3, b3, e]
    · exact absurd b2 (a1.ne j e)
theorem OdP.len {ls : List (List Int)} {g l : List Int} (h : OdP ls g l) : l.length ≤ 1000000 := by
  by_cases h0 : holI ls g ≠ 0
  · rw [h.bad h0]; exact Nat.zero_le _
  · obtain ⟨k, a1, a2, a3⟩ := h.ok h0
    have := a1.lt (ho_of h0)
    rw [a3, od_len]; omega
theorem hw_st {ls : List (List Int)} {g : List Int} {k : Nat} : ∀ j, j ≤ k → hwL ls.length (odL ls g k) j = stL ls g j
  | 0, _ => rfl
  | j + 1, h => by
    show upL (hwL ls.length (odL ls g k) j) _ = upL (stL ls g j) _
    rw [hw_st j (by omega), od_at (by omega), Int.toNat_natCast]
/-- The order leads there. -/
theorem plans {ls : List (List Int)} {g l : List Int} {a : CoR} (h0 : ¬ holI ls g ≠ 0) (h : OdP ls g l) (ha : OrP ls l a) : a.e = 0 ∧ a.n = l.length ∧ a.l = g := by
  obtain ⟨k, a1, a2, rfl⟩ := h.ok h0
  have hb := a1.lt (ho_of h0)
  have hr : ∀ j, j < (odL ls g k).length → 0 ≤ (odL ls g k).getD j 0 ∧ (odL ls g k).getD j 0 < ls.length := fun j hj => by
    rw [od_len] at hj
    rw [od_at hj]
    have := (a1.ok j hj).1
    omega
  have hs : ∀ j, j < (odL ls g k).length → oaB ls (odL ls g k) j = true := fun j hj => by
    rw [od_len] at hj
    show opB ls (pad6 (hwL ls.length (odL ls g k) j)) _ = true
    rw [hw_st j (by omega), od_at hj, Int.toNat_natCast]
    exact (a1.ok j hj).2
  have hn : ¬ 24 < (odL ls g k).length := by rw [od_len]; omega
  have e := ha.unique (.ok (hol_val h0) hn hr hs)
  subst e
  refine ⟨rfl, rfl, ?_⟩
  show hwL ls.length (odL ls g k) (odL ls g k).length = g
  rw [od_len, hw_st k (Nat.le_refl _), a2]
theorem cnd_f {ls : List (List Int)} {d g : List Int} {u : Nat} (h : ¬ d.getD ((opN ls (pad6 d) ls.length).getD u 0).toNat 0 < g.getD ((opN ls (pad6 d) ls.length).getD u 0).toNat 0) : cndU ls d g u = false := decide_eq_false h
theorem cnd_t {ls : List (List Int)} {d g : List Int} {u : Nat} (h : d.getD ((opN ls (pad6 d) ls.length).getD u 0).toNat 0 < g.getD ((opN ls (pad6 d) ls.length).getD u 0).toNat 0) : cndU ls d g u = true := decide_eq_true h
theorem pad_inj {xs ys : List Int} {n : Nat} (hx : xs.length = n) (hy : ys.length = n) (h : pad6 xs = pad6 ys) : xs = ys := by
  have := congrArg (List.take n) h
  rwa [pad_take hx, pad_take hy] at this


set_option maxRecDepth 100000 in
set_option maxHeartbeats 4000000 in
theorem Order_ok (w0 : World) (p : Option Addr) (cap : Nat) (ls : List (List Int)) (hr : LsAt w0 p ls) (pl : Option Addr) (cl : Nat) (xs : List Int) (hx : IntsAt w0 pl xs) :
    Calls Try.prog 55 #[bv p ls.length cap, .slice pl xs.length cl] w0 (Post (X := HD × List Int) (fun y => .tuple #[gval y.1 y.2.length, .int .i64 (holI ls xs)]) (fun y => OdP ls xs y.2 ∧ goI y) (fun y => gbI y) w0) := by
  refine calls Try.func55 rfl (n := 48) rfl (by simp) ?_
  refine TC.seq ?_
  refine TC.region ?_
  refine TL.box rfl rfl (by decide) (fun b0 hb0 => ?_)
  refine TL.pure (PV.assign rfl) rfl (by decide) ?_
  refine TL.pure (PV.assign rfl) rfl (by decide) ?_
  refine TL.nil ?_
  refine TQ.thenC ?_
  refine TC.seq ?_
  refine TC.seq ?_
  refine TC.region ?_
  refine TL.pure (PV.loadBox rfl Tb.agg_24 (by repeat (first | exact List.Mem.head _ | refine List.Mem.tail _ ?_ | refine List.mem_append_right _ ?_)) rfl) rfl (by decide) ?_
  refine TL.pure (PV.move rfl) rfl (by decide) ?_
  refine TL.call rfl Tb.gofn_23 (fun a w hs => checkHollow_ok w _ _ _ (hr.new hs.new) _ _ _ (hx.new hs.new)) rfl (by decide) (fun _ _ => ?_)
  refine TL.pure (PV.assign rfl) rfl (by decide) ?_
  refine TL.nil ?_
  refine TQ.thenC ?_
  refine TC.seq ?_
  refine TC.region ?_
  refine TL.pure (PV.move rfl) rfl (by decide) ?_
  refine TL.pure (PV.neq rfl rfl) rfl (by decide) ?_
  refine TL.nil ?_
  refine TQ.thenC ?_
  first | refine TC.condD rfl (fun hbad => ?_) (fun hbad => ?_) | refine TC.cond rfl (fun hbad => ?_) (fun hbad => ?_)
  · skip
    refine TC.seq ?_
    refine TC.region ?_
    refine TL.pure (PV.move rfl) rfl (by decide) ?_
    refine TL.pure (PV.assign rfl) rfl (by decide) ?_
    refine TL.pure (PV.assign rfl) rfl (by decide) ?_
    refine TL.nil ?_
    refine TQ.thenC ?_
    refine TC.ret ?_
    refine TQ.thenR ?_
    refine TQ.retE2 rfl rfl rfl ?_
    exact ⟨(none, []), rfl, ⟨⟨fun _ => rfl, fun h2 => absurd hbad h2⟩, goI_nil⟩, List.nil_sublist _⟩
  · skip
    refine TC.skip ?_
    refine TQ.thenC ?_
    refine TC.seq ?_
    have hg := ho_of hbad
    have hn9 := hg.vb.n
    have hxl := hg.len
    have hx6 : (pad6 xs).length = 6 := pad_len (by omega)
    refine TC.region ?_
    refine TL.pure (PV.assign rfl) rfl (by decide) ?_
    refine TL.nil ?_
    refine TQ.thenC ?_
    refine TC.seq ?_
    refine TC.region ?_
    refine TL.pure (PV.move rfl) rfl (by decide) ?_
    refine TL.call rfl Tb.gofn_84 (fun a w hs => hollowOf_ok w _ _ _ (hx.new hs.new) (by omega)) rfl (by decide) (fun _ _ => ?_)
    refine TL.pure (PV.build0 Tb.zero_69 arr_69) rfl (by decide) ?_
    refine TL.alloc Tb.zero_69 rfl (by decide) (fun b8 hb8 => ?_)
    refine TL.alloc Tb.zero_69 rfl (by decide) (fun b9 hb9 => ?_)
    refine TL.storeAgg (vs := (pad6 xs).map (Value.int .i64)) rfl rfl Tb.cells_69 (by repeat (first | exact Upd.head _ | apply Upd.tail | apply Upd.appR)) (map_len hx6) rfl (ints_one _) rfl rfl ?_
    refine TL.storeAgg (vs := Zl.map (Value.int .i64)) rfl rfl Tb.cells_69 (by repeat (first | exact Upd.head _ | apply Upd.tail | apply Upd.appR)) rfl rfl (ints_one _) rfl rfl ?_
    refine TL.nil ?_
    refine TQ.thenC ?_
    refine TC.seq ?_
    refine TC.block ?_
    refine TC.lit [(2, _), (4, _), (5, _), (7, _), (8, _), (9, _)] (by repeat (first | exact True.intro | refine And.intro rfl ?_)) ?_
    refine TC.loopK [2, 4, 5, 8, 9] (X := Nat × HD × List Int) (fun x => StI ls xs x.1 ∧ x.2.2 = odL ls xs x.1 ∧ goI x.2) (fun x => [(7, gvI x.2)]) (fun x => gbI x.2 ++ ((b9, Obj.cells (intsA (pad6 (stL ls xs x.1))) 69 (0, 0)) :: (b8, Obj.cells (intsA (pad6 xs)) 69 (0, 0)) :: [(b0, Obj.cells #[.slice p ls.length cap] 24 (0, 0))])) (fun x => (sumN xs ls.length).toNat - x.1) (0, none, []) ⟨StI.zero hg, rfl, goI_nil⟩ (by repeat (first | exact True.intro | refine And.intro rfl ?_)) (by rw [show stL ls xs 0 = List.replicate ls.length 0 from rfl, pad_zero hn9.2]; exact List.Sublist.refl _) ?_
    intro x hx9
    have hsl := st_len ls xs x.1
    have hs6 : (pad6 (stL ls xs x.1)).length = 6 := pad_len (by omega)
    refine TC.lit [(2, _), (4, _), (5, _), (7, _), (8, _), (9, _)] (by repeat (first | exact True.intro | refine And.intro rfl ?_)) ?_
    refine TC.seq ?_
    refine TC.seq ?_
    refine TC.region ?_
    refine TL.pure (PV.loadBox (cs := (pad6 (stL ls xs x.1)).map (Value.int .i64)) rfl Tb.agg_69 (by repeat (first | exact List.Mem.head _ | refine List.Mem.tail _ ?_ | refine List.mem_append_right _ ?_)) (map_len hs6)) rfl (by decide) ?_
    refine TL.pure (PV.loadBox (cs := (pad6 xs).map (Value.int .i64)) rfl Tb.agg_69 (by repeat (first | exact List.Mem.head _ | refine List.Mem.tail _ ?_ | refine List.mem_append_right _ ?_)) (map_len hx6)) rfl (by decide) ?_
    refine TL.pure (PV.cmp rfl rfl (neq69_guard _ _ _ _) (neq69 hs6 hx6)) rfl (by decide) ?_
    refine TL.nil ?_
    refine TQ.thenC ?_
    first | refine TC.condD rfl (fun hneq => ?_) (fun hneq => ?_) | refine TC.cond rfl (fun hneq => ?_) (fun hneq => ?_)
    · skip
      refine TC.skip ?_
      refine TQ.thenC ?_
      refine TC.block ?_
      refine TC.seq ?_
      have hne : ¬ stL ls xs x.1 = xs := fun e => hneq (by rw [e])
      have hex := ex_open hx9.1.ho hg hx9.1.le hne
      refine TC.region ?_
      refine TL.pure (PV.loadBox rfl Tb.agg_24 (by repeat (first | exact List.Mem.head _ | refine List.Mem.tail _ ?_ | refine List.mem_append_right _ ?_)) rfl) rfl (by decide) ?_
      refine TL.pure (PV.loadBox (cs := (pad6 (stL ls xs x.1)).map (Value.int .i64)) rfl Tb.agg_69 (by repeat (first | exact List.Mem.head _ | refine List.Mem.tail _ ?_ | refine List.mem_append_right _ ?_)) (map_len hs6)) rfl (by decide) ?_
      refine TL.call rfl Tb.gofn_86 (fun a w hs => open_ok w _ _ _ (hr.new hs.new) hn9 (pad6 (stL ls xs x.1)) hs6) rfl (by decide) (fun h9 hh9 => ?_)
      refine TL.pure (PV.lenG rfl hh9 Tb.sl_25) rfl (by decide) ?_
      refine TL.pure (PV.move rfl) rfl (by decide) ?_
      refine TL.nil ?_
      refine TQ.thenC ?_
      refine TC.block ?_
      refine TC.lit [(2, _), (4, _), (5, _), (7, _), (8, _), (9, _), (26, _), (27, _), (28, _)] (by repeat (first | exact True.intro | refine And.intro rfl ?_)) ?_
      refine TC.loopK [2, 4, 5, 8, 9, 26, 27] (X := Nat) (fun u => u ≤ (opN ls (pad6 (stL ls xs x.1)) ls.length).length ∧ ∀ v, v < u → cndU ls (stL ls xs x.1) xs v = false) (fun u => [(28, .int .i64 u), (7, gvI x.2)]) (fun u => gbI (h9, (opN ls (pad6 (stL ls xs x.1)) ls.length)) ++ (gbI x.2 ++ ((b9, Obj.cells (intsA (pad6 (stL ls xs x.1))) 69 (0, 0)) :: (b8, Obj.cells (intsA (pad6 xs)) 69 (0, 0)) :: [(b0, Obj.cells #[.slice p ls.length cap] 24 (0, 0))]))) (fun u => (opN ls (pad6 (stL ls xs x.1)) ls.length).length - u) 0 ⟨Nat.zero_le _, fun v hv => absurd hv (Nat.not_lt_zero _)⟩ (by repeat (first | exact True.intro | refine And.intro rfl ?_)) (List.Sublist.refl _) ?_
      intro u hu
      refine TC.lit [(2, _), (4, _), (5, _), (7, _), (8, _), (9, _), (26, _), (27, _), (28, _)] (by repeat (first | exact True.intro | refine And.intro rfl ?_)) ?_
      refine TC.seq ?_
      refine TC.region ?_
      refine TL.pure (PV.lss rfl rfl) rfl (by decide) ?_
      refine TL.nil ?_
      refine TQ.thenC ?_
      refine TC.seq ?_
      first | refine TC.condD rfl (fun hlt => ?_) (fun hlt => ?_) | refine TC.cond rfl (fun hlt => ?_) (fun hlt => ?_)
      · skip
        refine TC.skip ?_
        refine TQ.thenC ?_
        refine TC.seq ?_
        refine TC.block ?_
        refine TC.seq ?_
        have hul : u < (opN ls (pad6 (stL ls xs x.1)) ls.length).length := Int.ofNat_lt.1 hlt
        have hol := op_len ls (pad6 (stL ls xs x.1)) ls.length
        refine TC.region ?_
        refine TL.pure (PV.indexG (j := u) rfl rfl hh9 Tb.elm_25 rfl (by show u < (opN _ _ _).length; omega)) rfl (by decide) ?_
        refine TL.pure (PV.loadGI (y := (h9, (opN ls (pad6 (stL ls xs x.1)) ls.length))) (j := u) (v := (opN ls (pad6 (stL ls xs x.1)) ls.length).getD u 0) rfl Tb.one_3 (fun yy hyy => by repeat (first | exact List.mem_append_left _ hyy | exact List.mem_append_left _ (List.mem_append_right _ hyy) | exact List.mem_append_left _ (List.mem_append_left _ hyy) | refine List.mem_append_right _ ?_ | refine List.Mem.tail _ ?_)) hh9 (by show u < (opN _ _ _).length; omega) rfl) rfl (by decide) ?_
        refine TL.pure (PV.assign rfl) rfl (by decide) ?_
        refine TL.nil ?_
        refine TQ.thenC ?_
        refine TC.seq ?_
        obtain ⟨c9, hc1, hc2, hc3⟩ := op_get (ls := ls) (xs := pad6 (stL ls xs x.1)) (n := ls.length) (u := u) hul
        refine TC.any Tb.mixed rfl rfl ?_
        refine TA.op (OpOK.pure (PV.move rfl) rfl (by decide)) (by decide) ?_
        refine TA.op (OpOK.pure (PV.indexArr (j := c9) rfl rfl arr_69 hc2 (by omega)) rfl (by decide)) (by decide) ?_
        refine TA.op (OpOK.pure (PV.loadI (xs := pad6 (stL ls xs x.1)) rfl Tb.one_3 (by repeat (first | exact List.Mem.head _ | refine List.Mem.tail _ ?_ | refine List.mem_append_right _ ?_)) (by omega)) rfl (by decide)) (by decide) ?_
        refine TA.op (OpOK.pure (PV.move rfl) rfl (by decide)) (by decide) ?_
        refine TA.op (OpOK.pure (PV.indexArr (j := c9) rfl rfl arr_69 hc2 (by omega)) rfl (by decide)) (by decide) ?_
        refine TA.op (OpOK.pure (PV.loadI (xs := pad6 xs) rfl Tb.one_3 (by repeat (first | exact List.Mem.head _ | refine List.Mem.tail _ ?_ | refine List.mem_append_right _ ?_)) (by omega)) rfl (by decide)) (by decide) ?_
        refine TA.op (OpOK.pure (PV.lss rfl rfl) rfl (by decide)) (by decide) ?_
        show TQ _ _ _ _ _
        refine TQ.thenC ?_
        first | refine TC.condD rfl (fun hc => ?_) (fun hc => ?_) | refine TC.cond rfl (fun hc => ?_) (fun hc => ?_)
        · skip
          refine TC.seq ?_
          have hc7 : cndU ls (stL ls xs x.1) xs u = true := cnd_t (by rw [hc2, Int.toNat_natCast]; rw [pad_at, pad_at] at hc; exact hc)
          obtain ⟨hsn, hcu, hcl, hc0, hc4⟩ := hx9.1.step hg hne (by omega) hu.2 hc7
          have hset : (pad6 (stL ls xs x.1)).set (ordC ls (stL ls xs x.1) xs) ((pad6 (stL ls xs x.1)).getD (ordC ls (stL ls xs x.1) xs) 0 + 1) = pad6 (stL ls xs (x.1 + 1)) := (pad_up (by omega) (by omega)).symm
          have hsl2 := st_len ls xs (x.1 + 1)
          refine TC.region ?_
          refine TL.pure (PV.move rfl) rfl (by decide) ?_
          refine TL.pure (PV.move rfl) rfl (by decide) ?_
          refine TL.buildSlice (cs := #[.int .i64 ((opN ls (pad6 (stL ls xs x.1)) ls.length).getD u 0)]) rfl Tb.sl_25 Tb.zi_3 (by decide) (fill_i _) (by decide) rfl (by decide) (fun bE hbE => ?_)
          refine TL.appendI (x0 := x.2) rfl rfl (by repeat (first | exact List.Mem.head _ | refine List.Mem.tail _ ?_ | refine List.mem_append_right _ ?_)) hx9.2.2 (by repeat (first | exact TakeH.here _ _ _ _ | apply TakeH.tail | apply TakeH.app)) (by rw [hx9.2.1, od_len]; have := hx9.1.lt hg; omega) rfl (by decide) (fun hh hho => ?_)
          refine TL.pure (PV.assign rfl) rfl (by decide) ?_
          refine TL.nil ?_
          refine TQ.thenC ?_
          refine TC.seq ?_
          refine TC.region ?_
          refine TL.pure (PV.loadBox (cs := (pad6 (stL ls xs x.1)).map (Value.int .i64)) rfl Tb.agg_69 (by repeat (first | exact List.Mem.head _ | refine List.Mem.tail _ ?_ | refine List.mem_append_right _ ?_)) (map_len hs6)) rfl (by decide) ?_
          refine TL.pure (PV.move rfl) rfl (by decide) ?_
          refine TL.call rfl Tb.gofn_90 (fun a w hs => (by rw [← hcu]; exact deeper_ok w (pad6 (stL ls xs x.1)) hs6 (ordC ls (stL ls xs x.1) xs) (by omega) (by rw [pad_at]; omega))) rfl (by decide) (fun _ _ => ?_)
          rw [hset]
          refine TL.storeAgg (vs := (pad6 (stL ls xs (x.1 + 1))).map (Value.int .i64)) rfl rfl Tb.cells_69 (by repeat (first | exact Upd.head _ | apply Upd.tail | apply Upd.appR)) (map_len (pad_len (by omega))) (map_len hs6) (ints_one _) rfl rfl ?_
          refine TL.nil ?_
          refine TQ.thenC ?_
          refine TC.exit ?_
          refine TQ.blkE (by decide) ?_
          refine TQ.thenE ?_
          refine TQ.thenE ?_
          refine TQ.blkS ?_
          refine TQ.blkN ?_
          refine TQ.thenN ?_
          refine TQ.backK (x.1 + 1, hh, x.2.2 ++ [(opN ls (pad6 (stL ls xs x.1)) ls.length).getD u 0]) (by repeat (first | exact True.intro | refine And.intro rfl ?_)) (by repeat (first | exact True.intro | refine And.intro rfl ?_)) (List.Sublist.append_left (List.Sublist.cons _ (List.sublist_append_right _ _)) _) ⟨hsn, by rw [od_succ, hx9.2.1, hcu], hho⟩ (by have := hsn.lt hg; have := hx9.1.lt hg; simp only; omega)
        · skip
          refine TC.skip ?_
          refine TQ.blkN ?_
          refine TQ.thenC ?_
          refine TC.region ?_
          refine TL.pure (PV.add rfl rfl (by omega)) rfl (by decide) ?_
          refine TL.pure (PV.move rfl) rfl (by decide) ?_
          refine TL.nil ?_
          refine TQ.thenN ?_
          refine TQ.backK (u + 1) (by repeat (first | exact True.intro | refine And.intro rfl ?_)) (by repeat (first | exact True.intro | refine And.intro rfl ?_)) (List.Sublist.refl _) ⟨by omega, fun v hv => if e : v < u then hu.2 v e else (show u = v by omega) ▸ cnd_f (by rw [hc2, Int.toNat_natCast]; rw [pad_at, pad_at] at hc; exact hc)⟩ (by omega)
      · skip
        exfalso; obtain ⟨u9, hu9, hu8⟩ := hex; have hnl : ¬ u < (opN ls (pad6 (stL ls xs x.1)) ls.length).length := fun h => hlt (Int.ofNat_lt.2 h); have := hu.2 u9 (by omega); rw [hu8] at this; cases this
    · skip
      refine TC.exit ?_
      refine TQ.thenE ?_
      refine TQ.thenE ?_
      refine TQ.blkS ?_
      refine TQ.thenC ?_
      refine TC.seq ?_
      refine TC.region ?_
      refine TL.pure (PV.move rfl) rfl (by decide) ?_
      refine TL.pure (PV.assign rfl) rfl (by decide) ?_
      refine TL.pure (PV.assign rfl) rfl (by decide) ?_
      refine TL.nil ?_
      refine TQ.thenC ?_
      refine TC.ret ?_
      refine TQ.retE2 rfl rfl rfl ?_
      have heq : stL ls xs x.1 = xs := pad_inj hsl hxl (by first | exact Decidable.of_not_not hneq | simpa using hneq)
      exact ⟨x.2, by rw [Decidable.of_not_not hbad], ⟨⟨fun h2 => absurd h2 hbad, fun _ => ⟨x.1, hx9.1, heq, hx9.2.1⟩⟩, hx9.2.2⟩, List.sublist_append_left _ _⟩

end Go.Proofs.Ytfgjojoipbbacaa
