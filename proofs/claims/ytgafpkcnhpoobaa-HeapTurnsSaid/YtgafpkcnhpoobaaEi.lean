/- Limit, IsCalm, Topple, Settle, Zero, Script, Alike: contracts. -/
import Derived.Test.YtgafpkcnhpoobaaEh
set_option linter.unusedVariables false
set_option linter.unusedSimpArgs false
namespace Go.Proofs.Ytgafpkcnhpoobaa
open Go.Sx Go.RowKit Go.Sand

theorem one_len {xs : List Int} (h : xs.length ≤ 1000000) (k : Nat) : ([xs].getD k []).length ≤ 1000000 := by
  match k with
  | 0 => exact h
  | k + 1 => simp [List.getD]
theorem two_len {xs ys : List Int} (h : xs.length ≤ 1000000) (h2 : ys.length ≤ 1000000) (k : Nat) : ([xs, ys].getD k []).length ≤ 1000000 := by
  match k with
  | 0 => exact h
  | 1 => exact h2
  | k + 2 => simp [List.getD]
theorem giv_two {ls : List (List Int)} {gs : List Int} {x y : List Int} (h : ¬ givI ls gs [x, y] ≠ 0) : (x.length = gs.length ∧ ∀ k, 0 ≤ x.getD k 0 ∧ x.getD k 0 ≤ 30) ∧ y.length = gs.length ∧ ∀ k, 0 ≤ y.getD k 0 ∧ y.getD k 0 ≤ 30 := by
  refine ⟨giv_ne h, ?_⟩
  have h1 := (giv_hb h).2 1 (by simp)
  have h2 := num_len h1
  exact ⟨by simp only [List.getD_cons_succ, List.getD_cons_zero] at h2; omega, fun k => num_at h1 (by decide) k⟩
noncomputable def limE (ls : List (List Int)) (gs : List Int) (i : Int) : Int := if validI ls gs ≠ 0 then validI ls gs else if 0 ≤ i ∧ i < gs.length then 0 else 4
noncomputable def limV (ls : List (List Int)) (gs : List Int) (i : Int) : Int := if limE ls gs i ≠ 0 then 0 else limI ls gs i.toNat
theorem limE_bad {ls : List (List Int)} {gs : List Int} {i : Int} (h : validI ls gs ≠ 0) : limE ls gs i = validI ls gs := if_pos h
theorem limE_4 {ls : List (List Int)} {gs : List Int} {i : Int} (h : ¬ validI ls gs ≠ 0) (h2 : ¬ (0 ≤ i ∧ i < gs.length)) : limE ls gs i = 4 := by unfold limE; rw [if_neg h, if_neg h2]
theorem limE_0 {ls : List (List Int)} {gs : List Int} {i : Int} (h : ¬ validI ls gs ≠ 0) (h2 : 0 ≤ i ∧ i < gs.length) : limE ls gs i = 0 := by unfold limE; rw [if_neg h, if_pos h2]
theorem limV_bad {ls : List (List Int)} {gs : List Int} {i : Int} (h : limE ls gs i ≠ 0) : limV ls gs i = 0 := if_pos h
theorem limV_0 {ls : List (List Int)} {gs : List Int} {u : Nat} (h : limE ls gs (u : Int) = 0) : limV ls gs u = limI ls gs u := by unfold limV; rw [if_neg (by omega), Int.toNat_natCast]
noncomputable def icB (ls : List (List Int)) (gs xs : List Int) : Bool := if givI ls gs [xs] ≠ 0 then false else calmB ls gs xs
theorem icB_bad {ls : List (List Int)} {gs xs : List Int} (h : givI ls gs [xs] ≠ 0) : icB ls gs xs = false := if_pos h
theorem icB_0 {ls : List (List Int)} {gs xs : List Int} (h : ¬ givI ls gs [xs] ≠ 0) : icB ls gs xs = calmB ls gs xs := if_neg h
noncomputable def vhI (ls : List (List Int)) (gs xs : List Int) (i : Int) : Int := if givI ls gs [xs] ≠ 0 then givI ls gs [xs] else if 0 ≤ i ∧ i < gs.length then 0 else 4
theorem vh_bad {ls : List (List Int)} {gs xs : List Int} {i : Int} (h : givI ls gs [xs] ≠ 0) : vhI ls gs xs i = givI ls gs [xs] := if_pos h
theorem vh_4 {ls : List (List Int)} {gs xs : List Int} {i : Int} (h : ¬ givI ls gs [xs] ≠ 0) (h2 : ¬ (0 ≤ i ∧ i < gs.length)) : vhI ls gs xs i = 4 := by unfold vhI; rw [if_neg h, if_neg h2]
theorem vh_0 {ls : List (List Int)} {gs xs : List Int} {i : Int} (h : ¬ givI ls gs [xs] ≠ 0) (h2 : 0 ≤ i ∧ i < gs.length) : vhI ls gs xs i = 0 := by unfold vhI; rw [if_neg h, if_pos h2]
theorem vh_of {ls : List (List Int)} {gs xs : List Int} {i : Int} (h : ¬ vhI ls gs xs i ≠ 0) : ¬ givI ls gs [xs] ≠ 0 ∧ 0 ≤ i ∧ i < gs.length := by
  by_cases h1 : givI ls gs [xs] ≠ 0
  · rw [vh_bad h1] at h; exact absurd h1 h
  · by_cases h2 : 0 ≤ i ∧ i < gs.length
    · exact ⟨h1, h2⟩
    · rw [vh_4 h1 h2] at h; exact absurd (by decide) h
noncomputable def topI (ls : List (List Int)) (gs xs : List Int) (i : Int) : Int := if vhI ls gs xs i ≠ 0 then vhI ls gs xs i else if limI ls gs i.toNat ≤ xs.getD i.toNat 0 then 0 else 6
noncomputable def topL (ls : List (List Int)) (gs xs : List Int) (i : Int) : List Int := if topI ls gs xs i ≠ 0 then [] else tpN ls gs xs i.toNat 1
theorem top_bad {ls : List (List Int)} {gs xs : List Int} {i : Int} (h : vhI ls gs xs i ≠ 0) : topI ls gs xs i = vhI ls gs xs i := if_pos h
theorem top_6 {ls : List (List Int)} {gs xs : List Int} {u : Nat} (h : ¬ vhI ls gs xs (u : Int) ≠ 0) (h2 : ¬ limI ls gs u ≤ xs.getD u 0) : topI ls gs xs u = 6 := by unfold topI; rw [if_neg h, Int.toNat_natCast, if_neg h2]
theorem top_0 {ls : List (List Int)} {gs xs : List Int} {u : Nat} (h : ¬ vhI ls gs xs (u : Int) ≠ 0) (h2 : limI ls gs u ≤ xs.getD u 0) : topI ls gs xs u = 0 := by unfold topI; rw [if_neg h, Int.toNat_natCast, if_pos h2]
theorem topL_bad {ls : List (List Int)} {gs xs : List Int} {i : Int} (h : topI ls gs xs i ≠ 0) : topL ls gs xs i = [] := if_pos h
theorem topL_0 {ls : List (List Int)} {gs xs : List Int} {u : Nat} (h : topI ls gs xs (u : Int) = 0) : topL ls gs xs u = tpN ls gs xs u 1 := by unfold topL; rw [if_neg (by omega), Int.toNat_natCast]
theorem goI_nil : goI (none, []) := ⟨rfl, rfl⟩
theorem gbI_nil : gbI (none, []) = [] := rfl
theorem goI_arr {b n : Nat} {l : List Int} (h : l.length = n) : goI (some (b, n, []), l) := by subst h; exact goI_blk b l
/-- What Settle says. -/
structure SetP (ls : List (List Int)) (gs xs c m : List Int) : Prop where
  bad : givI ls gs [xs] ≠ 0 → c = [] ∧ m = []
  ok : ¬ givI ls gs [xs] ≠ 0 → StbL ls gs xs c m
noncomputable def setG (ls : List (List Int)) (gs xs m : List Int) : Int := if givI ls gs [xs] ≠ 0 then 0 else grI gs m
theorem setG_bad {ls : List (List Int)} {gs xs m : List Int} (h : givI ls gs [xs] ≠ 0) : setG ls gs xs m = 0 := if_pos h
theorem setG_0 {ls : List (List Int)} {gs xs m : List Int} (h : ¬ givI ls gs [xs] ≠ 0) : setG ls gs xs m = grI gs m := if_neg h
theorem SetP.mk_bad {ls : List (List Int)} {gs xs : List Int} (h : givI ls gs [xs] ≠ 0) : SetP ls gs xs [] [] := ⟨fun _ => ⟨rfl, rfl⟩, fun h2 => absurd h h2⟩
theorem SetP.mk_ok {ls : List (List Int)} {gs xs c m : List Int} (h : ¬ givI ls gs [xs] ≠ 0) (h2 : StbL ls gs xs c m) : SetP ls gs xs c m := ⟨fun h3 => absurd h3 h, fun _ => h2⟩
theorem stb_m {ls : List (List Int)} {gs xs c m : List Int} (hB : HB ls gs) (h : StbL ls gs xs c m) (h0 : ∀ k, 0 ≤ xs.getD k 0 ∧ xs.getD k 0 ≤ 1000) : (∀ j, j < gs.length → 0 ≤ m.getD j 0 ∧ m.getD j 0 ≤ 25000) ∧ 0 ≤ grI gs m ∧ grI gs m ≤ 250000 :=
  have hr : RunL ls gs xs c m := ⟨h.1, h.2.1, h.2.2.toRun⟩
  ⟨(hr.bd hB h0).1, gr_bd hB hr h0⟩
theorem grk_bd {ls : List (List Int)} {gs m : List Int} (hB : HB ls gs) (hm : ∀ j, j < gs.length → 0 ≤ m.getD j 0 ∧ m.getD j 0 ≤ 25000) : ∀ k, k ≤ gs.length → 0 ≤ sm k (fun i => m.getD i 0 * gs.getD i 0) ∧ sm k (fun i => m.getD i 0 * gs.getD i 0) ≤ 50000 * k
  | 0, _ => by simp [sm]
  | k + 1, h => by
    have h1 := grk_bd hB hm k (by omega)
    have h2 := mul_bd (t := m.getD k 0) (T := 25000) (a := gs.getD k 0) (c := 2) (by have := hm k (by omega); omega) (hB.gat k)
    have h3 := Int.mul_nonneg (hm k (by omega)).1 (hB.gat k).1
    have e : sm (k + 1) (fun i => m.getD i 0 * gs.getD i 0) = sm k (fun i => m.getD i 0 * gs.getD i 0) + m.getD k 0 * gs.getD k 0 := rfl
    omega
noncomputable def zerE (ls : List (List Int)) (gs : List Int) : Int := validI ls gs
structure ZerP (ls : List (List Int)) (gs c : List Int) : Prop where
  bad : validI ls gs ≠ 0 → c = []
  ok : ¬ validI ls gs ≠ 0 → LasP ls gs (List.replicate gs.length 0) c
/-- What Script says. -/
structure ScrP (ls : List (List Int)) (gs xs ys s : List Int) (b : Bool) : Prop where
  bad : givI ls gs [xs, ys] ≠ 0 → s = [] ∧ b = false
  yes : ¬ givI ls gs [xs, ys] ≠ 0 → b = true → s.length = gs.length ∧ ∀ i, i < gs.length → ys.getD i 0 = xs.getD i 0 - dl gs.length (lk ls) (gd gs) (gd s) i
  no : ¬ givI ls gs [xs, ys] ≠ 0 → b = false → s = [] ∧ ¬ AlkL ls gs xs ys
theorem scr_full {ls : List (List Int)} {gs xs c m : List Int} (hl : xs.length = gs.length) (h : StbL ls gs (adN xs (limL ls gs) 1) c m) : ∀ i, i < gs.length → c.getD i 0 = xs.getD i 0 + limI ls gs i - dl gs.length (lk ls) (gd gs) (gd m) i := fun i hi => by
  have h1 : c.getD i 0 = (adN xs (limL ls gs) 1).getD i 0 - dl gs.length (lk ls) (gd gs) (gd m) i := h.2.2.eq i hi
  rw [h1, ad_at (by omega), limL_at hi]; omega
theorem scr_lst {ls : List (List Int)} {gs xs c m : List Int} (hB : HB ls gs) (hl : xs.length = gs.length) (h0 : ∀ k, 0 ≤ xs.getD k 0) (h : StbL ls gs (adN xs (limL ls gs) 1) c m) : Lst gs.length (lk ls) (gd gs) (gd c) :=
  h.2.2.lst hB.G fun i hi => by
    show limI ls gs i ≤ (adN xs (limL ls gs) 1).getD i 0
    rw [ad_at (by omega), limL_at hi]
    have := h0 i
    omega
theorem scr_no {ls : List (List Int)} {gs xs ys c m c2 m2 : List Int} (hB : HB ls gs) (hl : xs.length = gs.length) (hl2 : ys.length = gs.length) (h0 : ∀ k, 0 ≤ xs.getD k 0) (h1 : ∀ k, 0 ≤ ys.getD k 0) (h : StbL ls gs (adN xs (limL ls gs) 1) c m) (h2 : StbL ls gs (adN ys (limL ls gs) 1) c2 m2) (hne : ¬ c = c2) : ¬ AlkL ls gs xs ys := fun ha => hne (by
  have ka := scr_full hl h
  have kb := scr_full hl2 h2
  have a1 : Alk gs.length (lk ls) (gd gs) (gd c) (gd c2) := by
    obtain ⟨s, ha⟩ := ha
    refine ⟨fun i => s i - gd m i + gd m2 i, fun i hi => ?_⟩
    have e1 := ka i hi
    have e2 := kb i hi
    have e3 : ys.getD i 0 = xs.getD i 0 - dl gs.length (lk ls) (gd gs) s i := ha i hi
    show c2.getD i 0 = c.getD i 0 - _
    rw [dl_add (fun i => s i - gd m i) (gd m2), dl_sub]
    omega
  exact ints_ext (by rw [h.1, h2.1]) fun j hj => ((scr_lst hB hl h0 h).unique hB.G (scr_lst hB hl2 h1 h2) a1 j (by rw [← h.1]; exact hj)).symm)
theorem scr_yes {ls : List (List Int)} {gs xs ys c m c2 m2 : List Int} (hl : xs.length = gs.length) (hl2 : ys.length = gs.length) (h : StbL ls gs (adN xs (limL ls gs) 1) c m) (h2 : StbL ls gs (adN ys (limL ls gs) 1) c2 m2) (he : c = c2) :
    ∀ i, i < gs.length → ys.getD i 0 = xs.getD i 0 - dl gs.length (lk ls) (gd gs) (gd (adN m m2 (-1))) i := fun i hi => by
  have e1 := scr_full hl h i hi
  have e2 := scr_full hl2 h2 i hi
  rw [← he] at e2
  have e3 : dl gs.length (lk ls) (gd gs) (gd (adN m m2 (-1))) i = dl gs.length (lk ls) (gd gs) (fun j => gd m j - gd m2 j) i := dl_congr (fun j hj => by
    show (adN m m2 (-1)).getD j 0 = m.getD j 0 - m2.getD j 0
    rw [ad_at (by rw [h.2.1]; exact hj)]; omega) hi
  rw [e3, dl_sub]
  omega
theorem mb9 {m : List Int} {n : Nat} (h : ∀ j, j < n → 0 ≤ m.getD j 0 ∧ m.getD j 0 ≤ 25000) (hl : m.length = n) (k : Nat) : -1000000 ≤ m.getD k 0 ∧ m.getD k 0 ≤ 1000000 :=
  at_bd (by decide) (fun j hj => by have := h j (by omega); omega) k


set_option maxRecDepth 100000 in
theorem Limit_ok (w0 : World) (p : Option Addr) (cp : Nat) (ls : List (List Int)) (hr : LsAt w0 p ls) (q : Option Addr) (cq : Nat) (gs : List Int) (hg : IntsAt w0 q gs) (hlo : ∀ k, (ls.getD k []).length ≤ 1000000) (i : Int) :
    Calls Try.prog 22 #[hv p ls.length cp q gs.length cq, .int .i64 i] w0 (Post (X := Unit) (fun _ => .tuple #[.int .i64 (limV ls gs i), .int .i64 (limE ls gs i)]) (fun _ => True) (fun _ => []) w0) := by
  refine calls Try.func22 rfl (n := 19) rfl (by simp) ?_
  refine TC.seq ?_
  refine TC.region ?_
  refine TL.box rfl rfl (by decide) (fun b0 hb0 => ?_)
  refine TL.pure (PV.assign rfl) rfl (by decide) ?_
  refine TL.pure (PV.assign rfl) rfl (by decide) ?_
  refine TL.nil ?_
  refine TQ.thenC ?_
  refine TC.seq ?_
  refine TC.seq ?_
  refine TC.region ?_
  refine TL.pure (PV.loadBox rfl Tb.agg_25 (by repeat (first | exact List.Mem.head _ | refine List.Mem.tail _ ?_ | refine List.mem_append_right _ ?_)) rfl) rfl (by decide) ?_
  refine TL.call rfl Tb.gofn_24 (fun a w hs => validate_ok w _ _ _ (hr.new hs.new) _ _ _ (hg.new hs.new) hlo) rfl (by decide) (fun _ _ => ?_)
  refine TL.pure (PV.assign rfl) rfl (by decide) ?_
  refine TL.nil ?_
  refine TQ.thenC ?_
  refine TC.seq ?_
  refine TC.region ?_
  refine TL.pure (PV.move rfl) rfl (by decide) ?_
  refine TL.pure (PV.neq rfl rfl) rfl (by decide) ?_
  refine TL.nil ?_
  refine TQ.thenC ?_
  first | refine TC.condD rfl (fun hbad => ?_) (fun hbad => ?_) | refine TC.cond rfl (fun hbad => ?_) (fun hbad => ?_)
  · skip
    refine TC.seq ?_
    refine TC.region ?_
    refine TL.pure (PV.move rfl) rfl (by decide) ?_
    refine TL.pure (PV.assign rfl) rfl (by decide) ?_
    refine TL.pure (PV.assign rfl) rfl (by decide) ?_
    refine TL.nil ?_
    refine TQ.thenC ?_
    refine TC.ret ?_
    refine TQ.thenR ?_
    refine TQ.retE2 rfl rfl rfl ?_
    exact ⟨(), by rw [limV_bad (by rw [limE_bad hbad]; exact hbad), limE_bad hbad], trivial, List.nil_sublist _⟩
  · skip
    refine TC.skip ?_
    refine TQ.thenC ?_
    refine TC.seq ?_
    refine TC.seq ?_
    refine TC.region ?_
    refine TL.pure (PV.loadBox rfl Tb.agg_25 (by repeat (first | exact List.Mem.head _ | refine List.Mem.tail _ ?_ | refine List.mem_append_right _ ?_)) rfl) rfl (by decide) ?_
    refine TL.pure (PV.move rfl) rfl (by decide) ?_
    refine TL.call rfl Tb.gofn_60 (fun a w hs => isHeap_ok w _ _ _ (hr.new hs.new) _ _ _ (hg.new hs.new) _) rfl (by decide) (fun _ _ => ?_)
    refine TL.pure ((by first | exact PV.notD rfl | exact PV.not rfl)) rfl (by decide) ?_
    refine TL.nil ?_
    refine TQ.thenC ?_
    first | refine TC.condD rfl (fun hne => ?_) (fun hne => ?_) | refine TC.cond rfl (fun hne => ?_) (fun hne => ?_)
    · skip
      refine TC.seq ?_
      refine TC.region ?_
      refine TL.pure (PV.assign rfl) rfl (by decide) ?_
      refine TL.pure (PV.assign rfl) rfl (by decide) ?_
      refine TL.nil ?_
      refine TQ.thenC ?_
      refine TC.ret ?_
      refine TQ.thenR ?_
      refine TQ.retE2 rfl rfl rfl ?_
      exact ⟨(), by rw [limV_bad (by rw [limE_4 hbad (by omega)]; decide), limE_4 hbad (by omega)], trivial, List.nil_sublist _⟩
    · skip
      refine TC.skip ?_
      refine TQ.thenC ?_
      refine TC.seq ?_
      obtain ⟨u, rfl⟩ : ∃ u : Nat, i = u := ⟨i.toNat, by omega⟩
      have h7 := limE_0 (i := (u : Int)) hbad (by omega)
      refine TC.region ?_
      refine TL.pure (PV.loadBox rfl Tb.agg_25 (by repeat (first | exact List.Mem.head _ | refine List.Mem.tail _ ?_ | refine List.mem_append_right _ ?_)) rfl) rfl (by decide) ?_
      refine TL.pure (PV.move rfl) rfl (by decide) ?_
      refine TL.call rfl Tb.gofn_61 (fun a w hs => limit_ok w _ _ _ (hr.new hs.new) _ _ _ (hg.new hs.new) (hb_of hbad) u (by omega)) rfl (by decide) (fun _ _ => ?_)
      refine TL.pure (PV.assign rfl) rfl (by decide) ?_
      refine TL.pure (PV.assign rfl) rfl (by decide) ?_
      refine TL.nil ?_
      refine TQ.thenC ?_
      refine TC.ret ?_
      refine TQ.retE2 rfl rfl rfl ?_
      exact ⟨(), by rw [limV_0 h7, h7], trivial, List.nil_sublist _⟩

set_option maxRecDepth 100000 in
theorem rLimit_ok (w0 : World) (p : Option Addr) (cp : Nat) (ls : List (List Int)) (hr : LsAt w0 p ls) (q : Option Addr) (cq : Nat) (gs : List Int) (hg : IntsAt w0 q gs) (hlo : ∀ k, (ls.getD k []).length ≤ 1000000) (i : Int) :
    Calls Try.prog 23 #[hv p ls.length cp q gs.length cq, .int .i64 i] w0 (Post (X := Unit) (fun _ => .tuple #[.int .i64 (limV ls gs i), .int .i64 (limE ls gs i)]) (fun _ => True) (fun _ => []) w0) := by
  refine calls Try.func23 rfl (n := 22) rfl (by simp) ?_
  refine TC.seq ?_
  refine TC.region ?_
  refine TL.box rfl rfl (by decide) (fun b0 hb0 => ?_)
  refine TL.pure (PV.assign rfl) rfl (by decide) ?_
  refine TL.pure (PV.assign rfl) rfl (by decide) ?_
  refine TL.nil ?_
  refine TQ.thenC ?_
  refine TC.seq ?_
  refine TC.region ?_
  refine TL.pure (PV.loadBox rfl Tb.agg_25 (by repeat (first | exact List.Mem.head _ | refine List.Mem.tail _ ?_ | refine List.mem_append_right _ ?_)) rfl) rfl (by decide) ?_
  refine TL.call rfl Tb.gofn_25 (fun a w hs => rvalidate_ok w _ _ _ (hr.new hs.new) _ _ _ (hg.new hs.new)) rfl (by decide) (fun _ _ => ?_)
  refine TL.pure (PV.assign rfl) rfl (by decide) ?_
  refine TL.nil ?_
  refine TQ.thenC ?_
  refine TC.seq ?_
  refine TC.seq ?_
  refine TC.region ?_
  refine TL.pure (PV.move rfl) rfl (by decide) ?_
  refine TL.pure (PV.neq rfl rfl) rfl (by decide) ?_
  refine TL.nil ?_
  refine TQ.thenC ?_
  first | refine TC.condD rfl (fun hbad => ?_) (fun hbad => ?_) | refine TC.cond rfl (fun hbad => ?_) (fun hbad => ?_)
  · skip
    refine TC.seq ?_
    refine TC.region ?_
    refine TL.pure (PV.move rfl) rfl (by decide) ?_
    refine TL.pure (PV.assign rfl) rfl (by decide) ?_
    refine TL.pure (PV.assign rfl) rfl (by decide) ?_
    refine TL.nil ?_
    refine TQ.thenC ?_
    refine TC.ret ?_
    refine TQ.thenR ?_
    refine TQ.retE2 rfl rfl rfl ?_
    exact ⟨(), by rw [limV_bad (by rw [limE_bad hbad]; exact hbad), limE_bad hbad], trivial, List.nil_sublist _⟩
  · skip
    refine TC.skip ?_
    refine TQ.thenC ?_
    refine TC.seq ?_
    refine TC.seq ?_
    have hn9 := (hb_of hbad).n
    refine TC.region ?_
    refine TL.pure (PV.move rfl) rfl (by decide) ?_
    refine TL.pure (PV.fieldAddr rfl Tb.fo_25_1) rfl (by decide) ?_
    refine TL.pure (PV.load rfl Tb.one_23 (by repeat (first | exact List.Mem.head _ | refine List.Mem.tail _ ?_ | refine List.mem_append_right _ ?_)) rfl) rfl (by decide) ?_
    refine TL.pure (PV.len rfl Tb.sl_23) rfl (by decide) ?_
    refine TL.pure (PV.sub rfl rfl (by omega)) rfl (by decide) ?_
    refine TL.call rfl Tb.gofn_62 (fun a w hs => within_ok w _ _ _) rfl (by decide) (fun _ _ => ?_)
    refine TL.pure ((by first | exact PV.notD rfl | exact PV.not rfl)) rfl (by decide) ?_
    refine TL.nil ?_
    refine TQ.thenC ?_
    first | refine TC.condD rfl (fun hne => ?_) (fun hne => ?_) | refine TC.cond rfl (fun hne => ?_) (fun hne => ?_)
    · skip
      refine TC.seq ?_
      refine TC.region ?_
      refine TL.pure (PV.assign rfl) rfl (by decide) ?_
      refine TL.pure (PV.assign rfl) rfl (by decide) ?_
      refine TL.nil ?_
      refine TQ.thenC ?_
      refine TC.ret ?_
      refine TQ.thenR ?_
      refine TQ.retE2 rfl rfl rfl ?_
      exact ⟨(), by rw [limV_bad (by rw [limE_4 hbad (by omega)]; decide), limE_4 hbad (by omega)], trivial, List.nil_sublist _⟩
    · skip
      refine TC.skip ?_
      refine TQ.thenC ?_
      refine TC.seq ?_
      obtain ⟨u, rfl⟩ : ∃ u : Nat, i = u := ⟨i.toNat, by omega⟩
      have h7 := limE_0 (i := (u : Int)) hbad (by omega)
      refine TC.region ?_
      refine TL.pure (PV.loadBox rfl Tb.agg_25 (by repeat (first | exact List.Mem.head _ | refine List.Mem.tail _ ?_ | refine List.mem_append_right _ ?_)) rfl) rfl (by decide) ?_
      refine TL.pure (PV.move rfl) rfl (by decide) ?_
      refine TL.call rfl Tb.gofn_63 (fun a w hs => rlimit_ok w _ _ _ (hr.new hs.new) _ _ _ (hg.new hs.new) (hb_of hbad) u (by omega)) rfl (by decide) (fun _ _ => ?_)
      refine TL.pure (PV.assign rfl) rfl (by decide) ?_
      refine TL.pure (PV.assign rfl) rfl (by decide) ?_
      refine TL.nil ?_
      refine TQ.thenC ?_
      refine TC.ret ?_
      refine TQ.retE2 rfl rfl rfl ?_
      exact ⟨(), by rw [limV_0 h7, h7], trivial, List.nil_sublist _⟩

set_option maxRecDepth 100000 in
theorem IsCalm_ok (w0 : World) (p : Option Addr) (cp : Nat) (ls : List (List Int)) (hr : LsAt w0 p ls) (q : Option Addr) (cq : Nat) (gs : List Int) (hg : IntsAt w0 q gs) (hlo : ∀ k, (ls.getD k []).length ≤ 1000000) (pl : Option Addr) (cl : Nat) (xs : List Int) (hx : IntsAt w0 pl xs) (hxo : xs.length ≤ 1000000) :
    Calls Try.prog 26 #[hv p ls.length cp q gs.length cq, .slice pl xs.length cl] w0 (Post (X := Unit) (fun _ => .tuple #[.bool (icB ls gs xs), .int .i64 (givI ls gs [xs])]) (fun _ => True) (fun _ => []) w0) := by
  refine calls Try.func26 rfl (n := 17) rfl (by simp) ?_
  refine TC.seq ?_
  refine TC.region ?_
  refine TL.box rfl rfl (by decide) (fun b0 hb0 => ?_)
  refine TL.pure (PV.assign rfl) rfl (by decide) ?_
  refine TL.pure (PV.assign rfl) rfl (by decide) ?_
  refine TL.nil ?_
  refine TQ.thenC ?_
  refine TC.seq ?_
  refine TC.seq ?_
  refine TC.region ?_
  refine TL.pure (PV.loadBox rfl Tb.agg_25 (by repeat (first | exact List.Mem.head _ | refine List.Mem.tail _ ?_ | refine List.mem_append_right _ ?_)) rfl) rfl (by decide) ?_
  refine TL.pure (PV.move rfl) rfl (by decide) ?_
  refine TL.buildSlice (cs := #[.slice pl xs.length cl]) rfl Tb.sl_22 Tb.zi_23 (by decide) (fill_o _ _ _) (by decide) rfl (by decide) (fun bS hbS => ?_)
  refine TL.call rfl Tb.gofn_67 (fun a w hs => validateHeapings_ok w _ _ _ (hr.new hs.new) _ _ _ (hg.new hs.new) hlo _ 1 [xs] (LsAt.one hs.new (by repeat (first | exact List.Mem.head _ | refine List.Mem.tail _ ?_ | refine List.mem_append_right _ ?_)) (hx.new hs.new)) (by simp) (one_len hxo)) rfl (by decide) (fun _ _ => ?_)
  refine TL.pure (PV.assign rfl) rfl (by decide) ?_
  refine TL.nil ?_
  refine TQ.thenC ?_
  refine TC.seq ?_
  refine TC.region ?_
  refine TL.pure (PV.move rfl) rfl (by decide) ?_
  refine TL.pure (PV.neq rfl rfl) rfl (by decide) ?_
  refine TL.nil ?_
  refine TQ.thenC ?_
  first | refine TC.condD rfl (fun hbad => ?_) (fun hbad => ?_) | refine TC.cond rfl (fun hbad => ?_) (fun hbad => ?_)
  · skip
    refine TC.seq ?_
    refine TC.region ?_
    refine TL.pure (PV.move rfl) rfl (by decide) ?_
    refine TL.pure (PV.assign rfl) rfl (by decide) ?_
    refine TL.pure (PV.assign rfl) rfl (by decide) ?_
    refine TL.nil ?_
    refine TQ.thenC ?_
    refine TC.ret ?_
    refine TQ.thenR ?_
    refine TQ.retE2 rfl rfl rfl ?_
    exact ⟨(), by rw [icB_bad hbad], trivial, List.nil_sublist _⟩
  · skip
    refine TC.skip ?_
    refine TQ.thenC ?_
    refine TC.seq ?_
    refine TC.region ?_
    refine TL.pure (PV.loadBox rfl Tb.agg_25 (by repeat (first | exact List.Mem.head _ | refine List.Mem.tail _ ?_ | refine List.mem_append_right _ ?_)) rfl) rfl (by decide) ?_
    refine TL.pure (PV.move rfl) rfl (by decide) ?_
    refine TL.call rfl Tb.gofn_68 (fun a w hs => isCalm_ok w _ _ _ (hr.new hs.new) _ _ _ (hg.new hs.new) (giv_hb hbad).1 _ _ _ (hx.new hs.new) _ rfl (giv_ne hbad).1) rfl (by decide) (fun _ _ => ?_)
    refine TL.pure (PV.assign rfl) rfl (by decide) ?_
    refine TL.pure (PV.assign rfl) rfl (by decide) ?_
    refine TL.nil ?_
    refine TQ.thenC ?_
    refine TC.ret ?_
    refine TQ.retE2 rfl rfl rfl ?_
    exact ⟨(), by rw [icB_0 hbad, Decidable.of_not_not hbad], trivial, List.nil_sublist _⟩

set_option maxRecDepth 100000 in
theorem rIsCalm_ok (w0 : World) (p : Option Addr) (cp : Nat) (ls : List (List Int)) (hr : LsAt w0 p ls) (q : Option Addr) (cq : Nat) (gs : List Int) (hg : IntsAt w0 q gs) (hlo : ∀ k, (ls.getD k []).length ≤ 1000000) (pl : Option Addr) (cl : Nat) (xs : List Int) (hx : IntsAt w0 pl xs) (hxo : xs.length ≤ 1000000) :
    Calls Try.prog 27 #[hv p ls.length cp q gs.length cq, .slice pl xs.length cl] w0 (Post (X := Unit) (fun _ => .tuple #[.bool (icB ls gs xs), .int .i64 (givI ls gs [xs])]) (fun _ => True) (fun _ => []) w0) := by
  refine calls Try.func27 rfl (n := 17) rfl (by simp) ?_
  refine TC.seq ?_
  refine TC.region ?_
  refine TL.box rfl rfl (by decide) (fun b0 hb0 => ?_)
  refine TL.pure (PV.assign rfl) rfl (by decide) ?_
  refine TL.pure (PV.assign rfl) rfl (by decide) ?_
  refine TL.nil ?_
  refine TQ.thenC ?_
  refine TC.seq ?_
  refine TC.region ?_
  refine TL.pure (PV.loadBox rfl Tb.agg_25 (by repeat (first | exact List.Mem.head _ | refine List.Mem.tail _ ?_ | refine List.mem_append_right _ ?_)) rfl) rfl (by decide) ?_
  refine TL.pure (PV.move rfl) rfl (by decide) ?_
  refine TL.buildSlice (cs := #[.slice pl xs.length cl]) rfl Tb.sl_22 Tb.zi_23 (by decide) (fill_o _ _ _) (by decide) rfl (by decide) (fun bS hbS => ?_)
  refine TL.call rfl Tb.gofn_69 (fun a w hs => given_ok w _ _ _ (hr.new hs.new) _ _ _ (hg.new hs.new) hlo _ 1 [xs] (LsAt.one hs.new (by repeat (first | exact List.Mem.head _ | refine List.Mem.tail _ ?_ | refine List.mem_append_right _ ?_)) (hx.new hs.new)) (by simp) (one_len hxo)) rfl (by decide) (fun _ _ => ?_)
  refine TL.pure (PV.assign rfl) rfl (by decide) ?_
  refine TL.nil ?_
  refine TQ.thenC ?_
  refine TC.seq ?_
  refine TC.seq ?_
  refine TC.region ?_
  refine TL.pure (PV.move rfl) rfl (by decide) ?_
  refine TL.pure (PV.neq rfl rfl) rfl (by decide) ?_
  refine TL.nil ?_
  refine TQ.thenC ?_
  first | refine TC.condD rfl (fun hbad => ?_) (fun hbad => ?_) | refine TC.cond rfl (fun hbad => ?_) (fun hbad => ?_)
  · skip
    refine TC.seq ?_
    refine TC.region ?_
    refine TL.pure (PV.move rfl) rfl (by decide) ?_
    refine TL.pure (PV.assign rfl) rfl (by decide) ?_
    refine TL.pure (PV.assign rfl) rfl (by decide) ?_
    refine TL.nil ?_
    refine TQ.thenC ?_
    refine TC.ret ?_
    refine TQ.thenR ?_
    refine TQ.retE2 rfl rfl rfl ?_
    exact ⟨(), by rw [icB_bad hbad], trivial, List.nil_sublist _⟩
  · skip
    refine TC.skip ?_
    refine TQ.thenC ?_
    refine TC.seq ?_
    refine TC.region ?_
    refine TL.pure (PV.loadBox rfl Tb.agg_25 (by repeat (first | exact List.Mem.head _ | refine List.Mem.tail _ ?_ | refine List.mem_append_right _ ?_)) rfl) rfl (by decide) ?_
    refine TL.pure (PV.move rfl) rfl (by decide) ?_
    refine TL.call rfl Tb.gofn_70 (fun a w hs => calm_ok w _ _ _ (hr.new hs.new) _ _ _ (hg.new hs.new) (giv_hb hbad).1 _ _ _ (hx.new hs.new) _ rfl (giv_ne hbad).1) rfl (by decide) (fun _ _ => ?_)
    refine TL.pure (PV.assign rfl) rfl (by decide) ?_
    refine TL.pure (PV.assign rfl) rfl (by decide) ?_
    refine TL.nil ?_
    refine TQ.thenC ?_
    refine TC.ret ?_
    refine TQ.retE2 rfl rfl rfl ?_
    exact ⟨(), by rw [icB_0 hbad, Decidable.of_not_not hbad], trivial, List.nil_sublist _⟩

set_option maxRecDepth 100000 in
theorem validateHeap_ok (w0 : World) (p : Option Addr) (cp : Nat) (ls : List (List Int)) (hr : LsAt w0 p ls) (q : Option Addr) (cq : Nat) (gs : List Int) (hg : IntsAt w0 q gs) (hlo : ∀ k, (ls.getD k []).length ≤ 1000000) (pl : Option Addr) (cl : Nat) (xs : List Int) (hx : IntsAt w0 pl xs) (hxo : xs.length ≤ 1000000) (i : Int) :
    Calls Try.prog 71 #[hv p ls.length cp q gs.length cq, .slice pl xs.length cl, .int .i64 i] w0 (Post (X := Unit) (fun _ => .int .i64 (vhI ls gs xs i)) (fun _ => True) (fun _ => []) w0) := by
  refine calls Try.func71 rfl (n := 19) rfl (by simp) ?_
  refine TC.seq ?_
  refine TC.region ?_
  refine TL.box rfl rfl (by decide) (fun b0 hb0 => ?_)
  refine TL.pure (PV.assign rfl) rfl (by decide) ?_
  refine TL.nil ?_
  refine TQ.thenC ?_
  refine TC.seq ?_
  refine TC.seq ?_
  refine TC.region ?_
  refine TL.pure (PV.loadBox rfl Tb.agg_25 (by repeat (first | exact List.Mem.head _ | refine List.Mem.tail _ ?_ | refine List.mem_append_right _ ?_)) rfl) rfl (by decide) ?_
  refine TL.pure (PV.move rfl) rfl (by decide) ?_
  refine TL.buildSlice (cs := #[.slice pl xs.length cl]) rfl Tb.sl_22 Tb.zi_23 (by decide) (fill_o _ _ _) (by decide) rfl (by decide) (fun bS hbS => ?_)
  refine TL.call rfl Tb.gofn_67 (fun a w hs => validateHeapings_ok w _ _ _ (hr.new hs.new) _ _ _ (hg.new hs.new) hlo _ 1 [xs] (LsAt.one hs.new (by repeat (first | exact List.Mem.head _ | refine List.Mem.tail _ ?_ | refine List.mem_append_right _ ?_)) (hx.new hs.new)) (by simp) (one_len hxo)) rfl (by decide) (fun _ _ => ?_)
  refine TL.pure (PV.assign rfl) rfl (by decide) ?_
  refine TL.nil ?_
  refine TQ.thenC ?_
  refine TC.seq ?_
  refine TC.region ?_
  refine TL.pure (PV.move rfl) rfl (by decide) ?_
  refine TL.pure (PV.neq rfl rfl) rfl (by decide) ?_
  refine TL.nil ?_
  refine TQ.thenC ?_
  first | refine TC.condD rfl (fun hbad => ?_) (fun hbad => ?_) | refine TC.cond rfl (fun hbad => ?_) (fun hbad => ?_)
  · skip
    refine TC.seq ?_
    refine TC.region ?_
    refine TL.pure (PV.move rfl) rfl (by decide) ?_
    refine TL.pure (PV.assign rfl) rfl (by decide) ?_
    refine TL.nil ?_
    refine TQ.thenC ?_
    refine TC.ret ?_
    refine TQ.thenR ?_
    refine TQ.retE1 rfl rfl ?_
    exact ⟨(), by rw [vh_bad hbad], trivial, List.nil_sublist _⟩
  · skip
    refine TC.skip ?_
    refine TQ.thenC ?_
    refine TC.seq ?_
    refine TC.seq ?_
    refine TC.region ?_
    refine TL.pure (PV.loadBox rfl Tb.agg_25 (by repeat (first | exact List.Mem.head _ | refine List.Mem.tail _ ?_ | refine List.mem_append_right _ ?_)) rfl) rfl (by decide) ?_
    refine TL.pure (PV.move rfl) rfl (by decide) ?_
    refine TL.call rfl Tb.gofn_60 (fun a w hs => isHeap_ok w _ _ _ (hr.new hs.new) _ _ _ (hg.new hs.new) _) rfl (by decide) (fun _ _ => ?_)
    refine TL.pure ((by first | exact PV.notD rfl | exact PV.not rfl)) rfl (by decide) ?_
    refine TL.nil ?_
    refine TQ.thenC ?_
    first | refine TC.condD rfl (fun hne => ?_) (fun hne => ?_) | refine TC.cond rfl (fun hne => ?_) (fun hne => ?_)
    · skip
      refine TC.seq ?_
      refine TC.region ?_
      refine TL.pure (PV.assign rfl) rfl (by decide) ?_
      refine TL.nil ?_
      refine TQ.thenC ?_
      refine TC.ret ?_
      refine TQ.thenR ?_
      refine TQ.retE1 rfl rfl ?_
      exact ⟨(), by rw [vh_4 hbad (by omega)], trivial, List.nil_sublist _⟩
    · skip
      refine TC.skip ?_
      refine TQ.thenC ?_
      refine TC.seq ?_
      refine TC.region ?_
      refine TL.pure (PV.assign rfl) rfl (by decide) ?_
      refine TL.nil ?_
      refine TQ.thenC ?_
      refine TC.ret ?_
      refine TQ.retE1 rfl rfl ?_
      exact ⟨(), by rw [vh_0 hbad (by omega)], trivial, List.nil_sublist _⟩

set_option maxRecDepth 100000 in
set_option maxHeartbeats 1000000 in
theorem Topple_ok (w0 : World) (p : Option Addr) (cp : Nat) (ls : List (List Int)) (hr : LsAt w0 p ls) (q : Option Addr) (cq : Nat) (gs : List Int) (hg : IntsAt w0 q gs) (hlo : ∀ k, (ls.getD k []).length ≤ 1000000) (pl : Option Addr) (cl : Nat) (xs : List Int) (hx : IntsAt w0 pl xs) (hxo : xs.length ≤ 1000000) (i : Int) :
    Calls Try.prog 28 #[hv p ls.length cp q gs.length cq, .slice pl xs.length cl, .int .i64 i] w0 (Post (X := HD) (fun h => .tuple #[gval h (topL ls gs xs i).length, .int .i64 (topI ls gs xs i)]) (fun h => goI (h, topL ls gs xs i)) (fun h => gbI (h, topL ls gs xs i)) w0) := by
  refine calls Try.func28 rfl (n := 29) rfl (by simp) ?_
  refine TC.seq ?_
  refine TC.region ?_
  refine TL.box rfl rfl (by decide) (fun b0 hb0 => ?_)
  refine TL.pure (PV.assign rfl) rfl (by decide) ?_
  refine TL.pure (PV.assign rfl) rfl (by decide) ?_
  refine TL.nil ?_
  refine TQ.thenC ?_
  refine TC.seq ?_
  refine TC.seq ?_
  refine TC.region ?_
  refine TL.pure (PV.loadBox rfl Tb.agg_25 (by repeat (first | exact List.Mem.head _ | refine List.Mem.tail _ ?_ | refine List.mem_append_right _ ?_)) rfl) rfl (by decide) ?_
  refine TL.pure (PV.move rfl) rfl (by decide) ?_
  refine TL.pure (PV.move rfl) rfl (by decide) ?_
  refine TL.call rfl Tb.gofn_71 (fun a w hs => validateHeap_ok w _ _ _ (hr.new hs.new) _ _ _ (hg.new hs.new) hlo _ _ _ (hx.new hs.new) hxo _) rfl (by decide) (fun _ _ => ?_)
  refine TL.pure (PV.assign rfl) rfl (by decide) ?_
  refine TL.nil ?_
  refine TQ.thenC ?_
  refine TC.seq ?_
  refine TC.region ?_
  refine TL.pure (PV.move rfl) rfl (by decide) ?_
  refine TL.pure (PV.neq rfl rfl) rfl (by decide) ?_
  refine TL.nil ?_
  refine TQ.thenC ?_
  first | refine TC.condD rfl (fun hbad => ?_) (fun hbad => ?_) | refine TC.cond rfl (fun hbad => ?_) (fun hbad => ?_)
  · skip
    refine TC.seq ?_
    refine TC.region ?_
    refine TL.pure (PV.move rfl) rfl (by decide) ?_
    refine TL.pure (PV.assign rfl) rfl (by decide) ?_
    refine TL.pure (PV.assign rfl) rfl (by decide) ?_
    refine TL.nil ?_
    refine TQ.thenC ?_
    refine TC.ret ?_
    refine TQ.thenR ?_
    refine TQ.retE2 rfl rfl rfl ?_
    exact ⟨none, by rw [topL_bad (by rw [top_bad hbad]; exact hbad), top_bad hbad]; rfl, by rw [topL_bad (by rw [top_bad hbad]; exact hbad)]; exact goI_nil, by rw [topL_bad (by rw [top_bad hbad]; exact hbad)]; exact List.nil_sublist _⟩
  · skip
    refine TC.skip ?_
    refine TQ.thenC ?_
    refine TC.seq ?_
    refine TC.seq ?_
    obtain ⟨hgv, hi1, hi2⟩ := vh_of hbad
    have hB := (giv_hb hgv).1
    obtain ⟨hxl, hx0⟩ := giv_ne hgv
    obtain ⟨u, rfl⟩ : ∃ u : Nat, i = u := ⟨i.toNat, by omega⟩
    refine TC.region ?_
    refine TL.pure (PV.loadBox rfl Tb.agg_25 (by repeat (first | exact List.Mem.head _ | refine List.Mem.tail _ ?_ | refine List.mem_append_right _ ?_)) rfl) rfl (by decide) ?_
    refine TL.pure (PV.move rfl) rfl (by decide) ?_
    refine TL.pure (PV.move rfl) rfl (by decide) ?_
    refine TL.call rfl Tb.gofn_72 (fun a w hs => canTopple_ok w _ _ _ (hr.new hs.new) _ _ _ (hg.new hs.new) hB _ _ _ (hx.new hs.new) _ rfl hxl u (by omega)) rfl (by decide) (fun _ _ => ?_)
    refine TL.pure ((by first | exact PV.notD rfl | exact PV.not rfl)) rfl (by decide) ?_
    refine TL.nil ?_
    refine TQ.thenC ?_
    first | refine TC.condD rfl (fun hno => ?_) (fun hno => ?_) | refine TC.cond rfl (fun hno => ?_) (fun hno => ?_)
    · skip
      refine TC.seq ?_
      refine TC.region ?_
      refine TL.pure (PV.assign rfl) rfl (by decide) ?_
      refine TL.pure (PV.assign rfl) rfl (by decide) ?_
      refine TL.nil ?_
      refine TQ.thenC ?_
      refine TC.ret ?_
      refine TQ.thenR ?_
      refine TQ.retE2 rfl rfl rfl ?_
      exact ⟨none, by rw [topL_bad (by rw [top_6 hbad (by omega)]; decide), top_6 hbad (by omega)]; rfl, by rw [topL_bad (by rw [top_6 hbad (by omega)]; decide)]; exact goI_nil, by rw [topL_bad (by rw [top_6 hbad (by omega)]; decide)]; exact List.nil_sublist _⟩
    · skip
      refine TC.skip ?_
      refine TQ.thenC ?_
      refine TC.seq ?_
      refine TC.region ?_
      refine TL.pure (PV.move rfl) rfl (by decide) ?_
      refine TL.call rfl Tb.gofn_73 (fun a w hs => copied_ok w _ _ _ (hx.new hs.new) _ rfl hxo) rfl (by decide) (fun b1 _ => ?_)
      refine TL.pure (PV.assign rfl) rfl (by decide) ?_
      refine TL.nil ?_
      refine TQ.thenC ?_
      refine TC.seq ?_
      have h7 := top_0 hbad (by omega)
      have h8 := topL_0 h7
      refine TC.region ?_
      refine TL.pure (PV.loadBox rfl Tb.agg_25 (by repeat (first | exact List.Mem.head _ | refine List.Mem.tail _ ?_ | refine List.mem_append_right _ ?_)) rfl) rfl (by decide) ?_
      refine TL.pure (PV.move rfl) rfl (by decide) ?_
      refine TL.pure (PV.move rfl) rfl (by decide) ?_
      refine TL.callW (X := Unit) (fun _ => .tuple #[]) (fun _ => True) (fun _ => (b1, Obj.cells (intsA (tpN ls gs xs u 1)) 3 (0, 0)) :: [(b0, Obj.cells #[.slice p ls.length cp, .slice q gs.length cq] 25 (0, 0))]) rfl Tb.gofn_74 (fun a w hs => topple_ok (R := [(b0, Obj.cells #[.slice p ls.length cp, .slice q gs.length cq] 25 (0, 0))]) hs.new p cp ls hr q cq gs hg hB _ rfl hxl u (by omega) 1 (by omega) (fun k => by have := hx0 k; omega)) rfl (by decide) (fun _ _ => ?_)
      refine TL.nil ?_
      refine TQ.thenC ?_
      refine TC.seq ?_
      refine TC.region ?_
      refine TL.pure (PV.move rfl) rfl (by decide) ?_
      refine TL.pure (PV.assign rfl) rfl (by decide) ?_
      refine TL.pure (PV.assign rfl) rfl (by decide) ?_
      refine TL.nil ?_
      refine TQ.thenC ?_
      refine TC.ret ?_
      refine TQ.retE2 rfl rfl rfl ?_
      exact ⟨some (b1, xs.length, []), by rw [h8, h7, tp_len]; rfl, by rw [h8]; exact goI_arr (tp_len _ _ _ _ _), by rw [h8, gbI_blk]; exact List.Sublist.cons_cons _ (List.nil_sublist _)⟩

set_option maxRecDepth 100000 in
set_option maxHeartbeats 1000000 in
theorem rTopple_ok (w0 : World) (p : Option Addr) (cp : Nat) (ls : List (List Int)) (hr : LsAt w0 p ls) (q : Option Addr) (cq : Nat) (gs : List Int) (hg : IntsAt w0 q gs) (hlo : ∀ k, (ls.getD k []).length ≤ 1000000) (pl : Option Addr) (cl : Nat) (xs : List Int) (hx : IntsAt w0 pl xs) (hxo : xs.length ≤ 1000000) (i : Int) :
    Calls Try.prog 29 #[hv p ls.length cp q gs.length cq, .slice pl xs.length cl, .int .i64 i] w0 (Post (X := HD) (fun h => .tuple #[gval h (topL ls gs xs i).length, .int .i64 (topI ls gs xs i)]) (fun h => goI (h, topL ls gs xs i)) (fun h => gbI (h, topL ls gs xs i)) w0) := by
  refine calls Try.func29 rfl (n := 34) rfl (by simp) ?_
  refine TC.seq ?_
  refine TC.region ?_
  refine TL.box rfl rfl (by decide) (fun b0 hb0 => ?_)
  refine TL.pure (PV.assign rfl) rfl (by decide) ?_
  refine TL.pure (PV.assign rfl) rfl (by decide) ?_
  refine TL.nil ?_
  refine TQ.thenC ?_
  refine TC.seq ?_
  refine TC.region ?_
  refine TL.pure (PV.loadBox rfl Tb.agg_25 (by repeat (first | exact List.Mem.head _ | refine List.Mem.tail _ ?_ | refine List.mem_append_right _ ?_)) rfl) rfl (by decide) ?_
  refine TL.pure (PV.move rfl) rfl (by decide) ?_
  refine TL.buildSlice (cs := #[.slice pl xs.length cl]) rfl Tb.sl_22 Tb.zi_23 (by decide) (fill_o _ _ _) (by decide) rfl (by decide) (fun bS hbS => ?_)
  refine TL.call rfl Tb.gofn_69 (fun a w hs => given_ok w _ _ _ (hr.new hs.new) _ _ _ (hg.new hs.new) hlo _ 1 [xs] (LsAt.one hs.new (by repeat (first | exact List.Mem.head _ | refine List.Mem.tail _ ?_ | refine List.mem_append_right _ ?_)) (hx.new hs.new)) (by simp) (one_len hxo)) rfl (by decide) (fun _ _ => ?_)
  refine TL.pure (PV.assign rfl) rfl (by decide) ?_
  refine TL.nil ?_
  refine TQ.thenC ?_
  refine TC.seq ?_
  refine TC.seq ?_
  refine TC.region ?_
  refine TL.pure (PV.move rfl) rfl (by decide) ?_
  refine TL.pure (PV.neq rfl rfl) rfl (by decide) ?_
  refine TL.nil ?_
  refine TQ.thenC ?_
  first | refine TC.condD rfl (fun hbad => ?_) (fun hbad => ?_) | refine TC.cond rfl (fun hbad => ?_) (fun hbad => ?_)
  · skip
    refine TC.seq ?_
    refine TC.region ?_
    refine TL.pure (PV.move rfl) rfl (by decide) ?_
    refine TL.pure (PV.assign rfl) rfl (by decide) ?_
    refine TL.pure (PV.assign rfl) rfl (by decide) ?_
    refine TL.nil ?_
    refine TQ.thenC ?_
    refine TC.ret ?_
    refine TQ.thenR ?_
    refine TQ.retE2 rfl rfl rfl ?_
    have h7 := vh_bad (i := i) hbad
    exact ⟨none, by rw [topL_bad (by rw [top_bad (by rw [h7]; exact hbad), h7]; exact hbad), top_bad (by rw [h7]; exact hbad), h7]; rfl, by rw [topL_bad (by rw [top_bad (by rw [h7]; exact hbad), h7]; exact hbad)]; exact goI_nil, by rw [topL_bad (by rw [top_bad (by rw [h7]; exact hbad), h7]; exact hbad)]; exact List.nil_sublist _⟩
  · skip
    refine TC.skip ?_
    refine TQ.thenC ?_
    refine TC.seq ?_
    refine TC.seq ?_
    have hB := (giv_hb hbad).1
    have hn9 := hB.n
    obtain ⟨hxl, hx0⟩ := giv_ne hbad
    refine TC.region ?_
    refine TL.pure (PV.move rfl) rfl (by decide) ?_
    refine TL.pure (PV.move rfl) rfl (by decide) ?_
    refine TL.pure (PV.len rfl Tb.sl_23) rfl (by decide) ?_
    refine TL.pure (PV.sub rfl rfl (by omega)) rfl (by decide) ?_
    refine TL.call rfl Tb.gofn_62 (fun a w hs => within_ok w _ _ _) rfl (by decide) (fun _ _ => ?_)
    refine TL.pure ((by first | exact PV.notD rfl | exact PV.not rfl)) rfl (by decide) ?_
    refine TL.nil ?_
    refine TQ.thenC ?_
    first | refine TC.condD rfl (fun hne => ?_) (fun hne => ?_) | refine TC.cond rfl (fun hne => ?_) (fun hne => ?_)
    · skip
      refine TC.seq ?_
      refine TC.region ?_
      refine TL.pure (PV.assign rfl) rfl (by decide) ?_
      refine TL.pure (PV.assign rfl) rfl (by decide) ?_
      refine TL.nil ?_
      refine TQ.thenC ?_
      refine TC.ret ?_
      refine TQ.thenR ?_
      refine TQ.retE2 rfl rfl rfl ?_
      have h7 := vh_4 (i := i) hbad (by omega)
      have h6 : topI ls gs xs i = 4 := by rw [top_bad (by rw [h7]; decide), h7]
      exact ⟨none, by rw [topL_bad (by rw [h6]; decide), h6]; rfl, by rw [topL_bad (by rw [h6]; decide)]; exact goI_nil, by rw [topL_bad (by rw [h6]; decide)]; exact List.nil_sublist _⟩
    · skip
      refine TC.skip ?_
      refine TQ.thenC ?_
      refine TC.seq ?_
      refine TC.seq ?_
      obtain ⟨u, rfl⟩ : ∃ u : Nat, i = u := ⟨i.toNat, by omega⟩
      have hvh := vh_0 (i := (u : Int)) hbad (by omega)
      obtain ⟨q2, hq2p, hq2⟩ := hx u (by omega)
      refine TC.any Tb.mixed rfl rfl ?_
      refine TA.op (OpOK.pure (PV.move rfl) rfl (by decide)) (by decide) ?_
      refine TA.op (OpOK.pure (PV.move rfl) rfl (by decide)) (by decide) ?_
      refine TA.op (OpOK.pure (PV.indexA rfl hq2p rfl Tb.elm_23 rfl (by omega)) rfl (by decide)) (by decide) ?_
      refine TA.op (OpOK.pure (PV.loadOld rfl Tb.one_3 hq2) rfl (by decide)) (by decide) ?_
      refine TA.op (OpOK.pure (PV.loadBox rfl Tb.agg_25 (by repeat (first | exact List.Mem.head _ | refine List.Mem.tail _ ?_ | refine List.mem_append_right _ ?_)) rfl) rfl (by decide)) (by decide) ?_
      refine TA.op (OpOK.pure (PV.move rfl) rfl (by decide)) (by decide) ?_
      refine TA.op (OpOK.call rfl Tb.gofn_63 (fun a w hs => rlimit_ok w _ _ _ (hr.new hs.new) _ _ _ (hg.new hs.new) hB u (by omega)) rfl (by decide)) (by decide) ?_
      refine TA.op (OpOK.pure (PV.lss rfl rfl) rfl (by decide)) (by decide) ?_
      show TQ _ _ _ _ _
      refine TQ.thenC ?_
      first | refine TC.condD rfl (fun hno => ?_) (fun hno => ?_) | refine TC.cond rfl (fun hno => ?_) (fun hno => ?_)
      · skip
        refine TC.seq ?_
        refine TC.region ?_
        refine TL.pure (PV.assign rfl) rfl (by decide) ?_
        refine TL.pure (PV.assign rfl) rfl (by decide) ?_
        refine TL.nil ?_
        refine TQ.thenC ?_
        refine TC.ret ?_
        refine TQ.thenR ?_
        refine TQ.retE2 rfl rfl rfl ?_
        have h6 := top_6 (u := u) (by rw [hvh]; decide) (by omega)
        exact ⟨none, by rw [topL_bad (by rw [h6]; decide), h6]; rfl, by rw [topL_bad (by rw [h6]; decide)]; exact goI_nil, by rw [topL_bad (by rw [h6]; decide)]; exact List.nil_sublist _⟩
      · skip
        refine TC.skip ?_
        refine TQ.thenC ?_
        refine TC.seq ?_
        have h7 := top_0 (u := u) (by rw [hvh]; decide) (by omega)
        have h8 := topL_0 h7
        refine TC.region ?_
        refine TL.pure (PV.loadBox rfl Tb.agg_25 (by repeat (first | exact List.Mem.head _ | refine List.Mem.tail _ ?_ | refine List.mem_append_right _ ?_)) rfl) rfl (by decide) ?_
        refine TL.pure (PV.move rfl) rfl (by decide) ?_
        refine TL.pure (PV.move rfl) rfl (by decide) ?_
        refine TL.call rfl Tb.gofn_75 (fun a w hs => rtopple_ok w _ _ _ (hr.new hs.new) _ _ _ (hg.new hs.new) hB _ _ _ (hx.new hs.new) _ rfl hxl u (by omega) 1 (by omega) (fun k => by have := hx0 k; omega)) rfl (by decide) (fun h9 hh9 => ?_)
        refine TL.pure (PV.assign rfl) rfl (by decide) ?_
        refine TL.pure (PV.assign rfl) rfl (by decide) ?_
        refine TL.nil ?_
        refine TQ.thenC ?_
        refine TC.ret ?_
        refine TQ.retE2 rfl rfl rfl ?_
        exact ⟨h9, by rw [h8, h7, tp_len], by rw [h8]; exact go_lenI hh9 (tp_len _ _ _ _ _), by rw [h8]; exact List.sublist_append_left _ _⟩

set_option maxRecDepth 100000 in
set_option maxHeartbeats 1000000 in
theorem Settle_ok (w0 : World) (p : Option Addr) (cp : Nat) (ls : List (List Int)) (hr : LsAt w0 p ls) (q : Option Addr) (cq : Nat) (gs : List Int) (hg : IntsAt w0 q gs) (hlo : ∀ k, (ls.getD k []).length ≤ 1000000) (pl : Option Addr) (cl : Nat) (xs : List Int) (hx : IntsAt w0 pl xs) (hxo : xs.length ≤ 1000000) :
    Calls Try.prog 31 #[hv p ls.length cp q gs.length cq, .slice pl xs.length cl] w0 (Post (X := HD × HD × List Int × List Int) (fun y => .tuple #[gval y.1 y.2.2.1.length, gval y.2.1 y.2.2.2.length, .int .i64 (setG ls gs xs y.2.2.2), .int .i64 (givI ls gs [xs])]) (fun y => SetP ls gs xs y.2.2.1 y.2.2.2 ∧ goI (y.1, y.2.2.1) ∧ goI (y.2.1, y.2.2.2)) (fun y => gbI (y.2.1, y.2.2.2) ++ gbI (y.1, y.2.2.1)) w0) := by
  refine calls Try.func31 rfl (n := 44) rfl (by simp) ?_
  refine TC.seq ?_
  refine TC.region ?_
  refine TL.box rfl rfl (by decide) (fun b0 hb0 => ?_)
  refine TL.pure (PV.assign rfl) rfl (by decide) ?_
  refine TL.pure (PV.assign rfl) rfl (by decide) ?_
  refine TL.pure (PV.assign rfl) rfl (by decide) ?_
  refine TL.pure (PV.assign rfl) rfl (by decide) ?_
  refine TL.nil ?_
  refine TQ.thenC ?_
  refine TC.seq ?_
  refine TC.seq ?_
  refine TC.region ?_
  refine TL.pure (PV.loadBox rfl Tb.agg_25 (by repeat (first | exact List.Mem.head _ | refine List.Mem.tail _ ?_ | refine List.mem_append_right _ ?_)) rfl) rfl (by decide) ?_
  refine TL.pure (PV.move rfl) rfl (by decide) ?_
  refine TL.buildSlice (cs := #[.slice pl xs.length cl]) rfl Tb.sl_22 Tb.zi_23 (by decide) (fill_o _ _ _) (by decide) rfl (by decide) (fun bS hbS => ?_)
  refine TL.call rfl Tb.gofn_67 (fun a w hs => validateHeapings_ok w _ _ _ (hr.new hs.new) _ _ _ (hg.new hs.new) hlo _ 1 [xs] (LsAt.one hs.new (by repeat (first | exact List.Mem.head _ | refine List.Mem.tail _ ?_ | refine List.mem_append_right _ ?_)) (hx.new hs.new)) (by simp) (one_len hxo)) rfl (by decide) (fun _ _ => ?_)
  refine TL.pure (PV.assign rfl) rfl (by decide) ?_
  refine TL.nil ?_
  refine TQ.thenC ?_
  refine TC.seq ?_
  refine TC.region ?_
  refine TL.pure (PV.move rfl) rfl (by decide) ?_
  refine TL.pure (PV.neq rfl rfl) rfl (by decide) ?_
  refine TL.nil ?_
  refine TQ.thenC ?_
  first | refine TC.condD rfl (fun hbad => ?_) (fun hbad => ?_) | refine TC.cond rfl (fun hbad => ?_) (fun hbad => ?_)
  · skip
    refine TC.seq ?_
    refine TC.region ?_
    refine TL.pure (PV.move rfl) rfl (by decide) ?_
    refine TL.pure (PV.assign rfl) rfl (by decide) ?_
    refine TL.pure (PV.assign rfl) rfl (by decide) ?_
    refine TL.pure (PV.assign rfl) rfl (by decide) ?_
    refine TL.pure (PV.assign rfl) rfl (by decide) ?_
    refine TL.nil ?_
    refine TQ.thenC ?_
    refine TC.ret ?_
    refine TQ.thenR ?_
    refine TQ.retR rfl (Res.tmp rfl (Res.tmp rfl (Res.tmp rfl (Res.tmp rfl Res.nil)))) ?_
    simp only [tup]
    exact ⟨(none, none, [], []), by rw [setG_bad hbad]; rfl, ⟨SetP.mk_bad hbad, goI_nil, goI_nil⟩, List.nil_sublist _⟩
  · skip
    refine TC.skip ?_
    refine TQ.thenC ?_
    refine TC.seq ?_
    have hB := (giv_hb hbad).1
    have hn9 := hB.n
    obtain ⟨hxl, hx0⟩ := giv_ne hbad
    refine TC.region ?_
    refine TL.pure (PV.loadBox rfl Tb.agg_25 (by repeat (first | exact List.Mem.head _ | refine List.Mem.tail _ ?_ | refine List.mem_append_right _ ?_)) rfl) rfl (by decide) ?_
    refine TL.pure (PV.move rfl) rfl (by decide) ?_
    refine TL.call rfl Tb.gofn_76 (fun a w hs => settle_ok w _ _ _ (hr.new hs.new) _ _ _ (hg.new hs.new) hB _ _ _ (hx.new hs.new) _ rfl hxl (fun k => by have := hx0 k; omega)) rfl (by decide) (fun y9 hy9 => ?_)
    refine TL.pure (PV.move rfl) rfl (by decide) ?_
    refine TL.pure (PV.extract rfl rfl) rfl (by decide) ?_
    refine TL.pure (PV.extract rfl rfl) rfl (by decide) ?_
    refine TL.pure (PV.assign rfl) rfl (by decide) ?_
    refine TL.pure (PV.assign rfl) rfl (by decide) ?_
    refine TL.nil ?_
    refine TQ.thenC ?_
    refine TC.seq ?_
    refine TC.seq ?_
    have hsm := stb_m hB hy9 (fun k => by have := hx0 k; omega)
    have hml := hy9.2.1
    refine TC.region ?_
    refine TL.pure (PV.move rfl) rfl (by decide) ?_
    refine TL.pure (PV.len rfl Tb.sl_23) rfl (by decide) ?_
    refine TL.pure (PV.move rfl) rfl (by decide) ?_
    refine TL.nil ?_
    refine TQ.thenC ?_
    refine TC.block ?_
    refine TC.loopK [2, 4, 5, 7, 24, 25] (X := Nat) (fun k => k ≤ gs.length) (fun k => [(26, .int .i64 k), (6, .int .i64 (sm k fun i => y9.2.2.2.getD i 0 * gs.getD i 0))]) (fun k => [(y9.2.1, Obj.cells (intsA (y9.2.2.2)) 3 (0, 0)), (y9.1, Obj.cells (intsA (y9.2.2.1)) 3 (0, 0)), (bS, Obj.cells #[.slice pl xs.length cl] 23 (0, 0)), (b0, Obj.cells #[.slice p ls.length cp, .slice q gs.length cq] 25 (0, 0))]) (fun k => gs.length - k) 0 (Nat.zero_le _) (by repeat (first | exact True.intro | refine And.intro rfl ?_)) (by repeat (first | exact List.Sublist.slnil | exact List.nil_sublist _ | exact List.Sublist.refl _ | refine List.Sublist.cons_cons _ ?_ | refine List.Sublist.cons _ ?_ | refine List.Sublist.trans ?_ (List.sublist_append_right _ _))) ?_
    intro k hk
    refine TC.seq ?_
    refine TC.region ?_
    refine TL.pure (PV.lss rfl rfl) rfl (by decide) ?_
    refine TL.nil ?_
    refine TQ.thenC ?_
    refine TC.seq ?_
    first | refine TC.condD rfl (fun h1 => ?_) (fun h1 => ?_) | refine TC.cond rfl (fun h1 => ?_) (fun h1 => ?_)
    · skip
      refine TC.skip ?_
      refine TQ.thenC ?_
      refine TC.seq ?_
      refine TC.block ?_
      refine TC.seq ?_
      refine TC.region ?_
      refine TL.pure (PV.move rfl) rfl (by decide) ?_
      refine TL.pure (PV.index1 (j := k) rfl rfl Tb.elm_23 rfl (by omega)) rfl (by decide) ?_
      refine TL.pure (PV.loadI rfl Tb.one_3 (by repeat (first | exact List.Mem.head _ | refine List.Mem.tail _ ?_ | refine List.mem_append_right _ ?_)) (by omega)) rfl (by decide) ?_
      refine TL.pure (PV.assign rfl) rfl (by decide) ?_
      refine TL.pure (PV.assign rfl) rfl (by decide) ?_
      refine TL.nil ?_
      refine TQ.thenC ?_
      obtain ⟨q2, hq2p, hq2⟩ := hg k (by omega)
      have h5 := grk_bd hB hsm.1 k (by omega)
      have h6 := mul_bd (t := y9.2.2.2.getD k 0) (T := 25000) (a := gs.getD k 0) (c := 2) (by have := hsm.1 k (by omega); omega) (hB.gat k)
      refine TC.region ?_
      refine TL.pure (PV.move rfl) rfl (by decide) ?_
      refine TL.pure (PV.move rfl) rfl (by decide) ?_
      refine TL.pure (PV.fieldAddr rfl Tb.fo_25_1) rfl (by decide) ?_
      refine TL.pure (PV.load rfl Tb.one_23 (by repeat (first | exact List.Mem.head _ | refine List.Mem.tail _ ?_ | refine List.mem_append_right _ ?_)) rfl) rfl (by decide) ?_
      refine TL.pure (PV.move rfl) rfl (by decide) ?_
      refine TL.pure (PV.indexA rfl hq2p rfl Tb.elm_23 rfl (by omega)) rfl (by decide) ?_
      refine TL.pure (PV.loadOld rfl Tb.one_3 hq2) rfl (by decide) ?_
      refine TL.pure (PV.mul rfl rfl (by omega)) rfl (by decide) ?_
      refine TL.pure (PV.add rfl rfl (by omega)) rfl (by decide) ?_
      refine TL.pure (PV.assign rfl) rfl (by decide) ?_
      refine TL.nil ?_
      refine TQ.blkN ?_
      refine TQ.thenC ?_
      refine TC.region ?_
      refine TL.pure (PV.add rfl rfl (by omega)) rfl (by decide) ?_
      refine TL.pure (PV.move rfl) rfl (by decide) ?_
      refine TL.nil ?_
      refine TQ.thenN ?_
      refine TQ.backK (k + 1) (by repeat (first | exact True.intro | refine And.intro rfl ?_)) (by repeat (first | exact True.intro | refine And.intro rfl ?_)) (by repeat (first | exact List.Sublist.slnil | exact List.nil_sublist _ | exact List.Sublist.refl _ | refine List.Sublist.cons_cons _ ?_ | refine List.Sublist.cons _ ?_ | refine List.Sublist.trans ?_ (List.sublist_append_right _ _))) (by omega) (by omega)
    · skip
      refine TC.exit ?_
      refine TQ.thenE ?_
      refine TQ.thenE ?_
      refine TQ.blkS ?_
      refine TQ.thenC ?_
      refine TC.seq ?_
      refine TC.region ?_
      refine TL.pure (PV.move rfl) rfl (by decide) ?_
      refine TL.pure (PV.move rfl) rfl (by decide) ?_
      refine TL.pure (PV.move rfl) rfl (by decide) ?_
      refine TL.pure (PV.assign rfl) rfl (by decide) ?_
      refine TL.pure (PV.assign rfl) rfl (by decide) ?_
      refine TL.pure (PV.assign rfl) rfl (by decide) ?_
      refine TL.pure (PV.assign rfl) rfl (by decide) ?_
      refine TL.nil ?_
      refine TQ.thenC ?_
      refine TC.ret ?_
      refine TQ.retR rfl (Res.tmp rfl (Res.tmp rfl (Res.tmp rfl (Res.tmp rfl Res.nil)))) ?_
      simp only [tup]
      exact ⟨(some (y9.1, gs.length, []), some (y9.2.1, gs.length, []), y9.2.2.1, y9.2.2.2), by rw [setG_0 hbad, Decidable.of_not_not hbad, hy9.1, hml]; unfold grI; rw [show k = gs.length by omega]; rfl, ⟨SetP.mk_ok hbad hy9, goI_arr hy9.1, goI_arr hml⟩, by rw [gbI_blk, gbI_blk]; exact List.Sublist.cons_cons _ (List.Sublist.cons_cons _ (List.nil_sublist _))⟩

set_option maxRecDepth 100000 in
set_option maxHeartbeats 1000000 in
theorem rSettle_ok (w0 : World) (p : Option Addr) (cp : Nat) (ls : List (List Int)) (hr : LsAt w0 p ls) (q : Option Addr) (cq : Nat) (gs : List Int) (hg : IntsAt w0 q gs) (hlo : ∀ k, (ls.getD k []).length ≤ 1000000) (pl : Option Addr) (cl : Nat) (xs : List Int) (hx : IntsAt w0 pl xs) (hxo : xs.length ≤ 1000000) :
    Calls Try.prog 32 #[hv p ls.length cp q gs.length cq, .slice pl xs.length cl] w0 (Post (X := HD × HD × List Int × List Int) (fun y => .tuple #[gval y.1 y.2.2.1.length, gval y.2.1 y.2.2.2.length, .int .i64 (setG ls gs xs y.2.2.2), .int .i64 (givI ls gs [xs])]) (fun y => SetP ls gs xs y.2.2.1 y.2.2.2 ∧ goI (y.1, y.2.2.1) ∧ goI (y.2.1, y.2.2.2)) (fun y => gbI (y.1, y.2.2.1) ++ gbI (y.2.1, y.2.2.2)) w0) := by
  refine calls Try.func32 rfl (n := 29) rfl (by simp) ?_
  refine TC.seq ?_
  refine TC.region ?_
  refine TL.box rfl rfl (by decide) (fun b0 hb0 => ?_)
  refine TL.pure (PV.assign rfl) rfl (by decide) ?_
  refine TL.pure (PV.assign rfl) rfl (by decide) ?_
  refine TL.pure (PV.assign rfl) rfl (by decide) ?_
  refine TL.pure (PV.assign rfl) rfl (by decide) ?_
  refine TL.nil ?_
  refine TQ.thenC ?_
  refine TC.seq ?_
  refine TC.region ?_
  refine TL.pure (PV.loadBox rfl Tb.agg_25 (by repeat (first | exact List.Mem.head _ | refine List.Mem.tail _ ?_ | refine List.mem_append_right _ ?_)) rfl) rfl (by decide) ?_
  refine TL.pure (PV.move rfl) rfl (by decide) ?_
  refine TL.buildSlice (cs := #[.slice pl xs.length cl]) rfl Tb.sl_22 Tb.zi_23 (by decide) (fill_o _ _ _) (by decide) rfl (by decide) (fun bS hbS => ?_)
  refine TL.call rfl Tb.gofn_69 (fun a w hs => given_ok w _ _ _ (hr.new hs.new) _ _ _ (hg.new hs.new) hlo _ 1 [xs] (LsAt.one hs.new (by repeat (first | exact List.Mem.head _ | refine List.Mem.tail _ ?_ | refine List.mem_append_right _ ?_)) (hx.new hs.new)) (by simp) (one_len hxo)) rfl (by decide) (fun _ _ => ?_)
  refine TL.pure (PV.assign rfl) rfl (by decide) ?_
  refine TL.nil ?_
  refine TQ.thenC ?_
  refine TC.seq ?_
  refine TC.seq ?_
  refine TC.region ?_
  refine TL.pure (PV.move rfl) rfl (by decide) ?_
  refine TL.pure (PV.neq rfl rfl) rfl (by decide) ?_
  refine TL.nil ?_
  refine TQ.thenC ?_
  first | refine TC.condD rfl (fun hbad => ?_) (fun hbad => ?_) | refine TC.cond rfl (fun hbad => ?_) (fun hbad => ?_)
  · skip
    refine TC.seq ?_
    refine TC.region ?_
    refine TL.pure (PV.move rfl) rfl (by decide) ?_
    refine TL.pure (PV.assign rfl) rfl (by decide) ?_
    refine TL.pure (PV.assign rfl) rfl (by decide) ?_
    refine TL.pure (PV.assign rfl) rfl (by decide) ?_
    refine TL.pure (PV.assign rfl) rfl (by decide) ?_
    refine TL.nil ?_
    refine TQ.thenC ?_
    refine TC.ret ?_
    refine TQ.thenR ?_
    refine TQ.retR rfl (Res.tmp rfl (Res.tmp rfl (Res.tmp rfl (Res.tmp rfl Res.nil)))) ?_
    simp only [tup]
    exact ⟨(none, none, [], []), by rw [setG_bad hbad]; rfl, ⟨SetP.mk_bad hbad, goI_nil, goI_nil⟩, List.nil_sublist _⟩
  · skip
    refine TC.skip ?_
    refine TQ.thenC ?_
    refine TC.seq ?_
    have hB := (giv_hb hbad).1
    have hn9 := hB.n
    obtain ⟨hxl, hx0⟩ := giv_ne hbad
    refine TC.region ?_
    refine TL.pure (PV.loadBox rfl Tb.agg_25 (by repeat (first | exact List.Mem.head _ | refine List.Mem.tail _ ?_ | refine List.mem_append_right _ ?_)) rfl) rfl (by decide) ?_
    refine TL.pure (PV.move rfl) rfl (by decide) ?_
    refine TL.call rfl Tb.gofn_77 (fun a w hs => rsettle_ok w _ _ _ (hr.new hs.new) _ _ _ (hg.new hs.new) hB _ _ _ (hx.new hs.new) _ rfl hxl (fun k => by have := hx0 k; omega)) rfl (by decide) (fun y9 hy9 => ?_)
    refine TL.pure (PV.move rfl) rfl (by decide) ?_
    refine TL.pure (PV.extract rfl rfl) rfl (by decide) ?_
    refine TL.pure (PV.extract rfl rfl) rfl (by decide) ?_
    refine TL.pure (PV.extract rfl rfl) rfl (by decide) ?_
    refine TL.pure (PV.assign rfl) rfl (by decide) ?_
    refine TL.pure (PV.assign rfl) rfl (by decide) ?_
    refine TL.pure (PV.assign rfl) rfl (by decide) ?_
    refine TL.nil ?_
    refine TQ.thenC ?_
    refine TC.seq ?_
    refine TC.region ?_
    refine TL.pure (PV.move rfl) rfl (by decide) ?_
    refine TL.pure (PV.move rfl) rfl (by decide) ?_
    refine TL.pure (PV.move rfl) rfl (by decide) ?_
    refine TL.pure (PV.assign rfl) rfl (by decide) ?_
    refine TL.pure (PV.assign rfl) rfl (by decide) ?_
    refine TL.pure (PV.assign rfl) rfl (by decide) ?_
    refine TL.pure (PV.assign rfl) rfl (by decide) ?_
    refine TL.nil ?_
    refine TQ.thenC ?_
    refine TC.ret ?_
    refine TQ.retR rfl (Res.tmp rfl (Res.tmp rfl (Res.tmp rfl (Res.tmp rfl Res.nil)))) ?_
    simp only [tup]
    exact ⟨(y9.1, some (y9.2.1, gs.length, []), y9.2.2.1, y9.2.2.2), by rw [setG_0 hbad, Decidable.of_not_not hbad, hy9.1.1, hy9.1.2.1]; rfl, ⟨SetP.mk_ok hbad hy9.1, go_lenI hy9.2 hy9.1.1, goI_arr hy9.1.2.1⟩, by rw [gbI_blk]; exact List.sublist_append_left _ _⟩

set_option maxRecDepth 100000 in
set_option maxHeartbeats 1000000 in
theorem Zero_ok (w0 : World) (p : Option Addr) (cp : Nat) (ls : List (List Int)) (hr : LsAt w0 p ls) (q : Option Addr) (cq : Nat) (gs : List Int) (hg : IntsAt w0 q gs) (hlo : ∀ k, (ls.getD k []).length ≤ 1000000) :
    Calls Try.prog 47 #[hv p ls.length cp q gs.length cq] w0 (Post (X := HD × List Int) (fun y => .tuple #[gval y.1 y.2.length, .int .i64 (validI ls gs)]) (fun y => ZerP ls gs y.2 ∧ goI y) (fun y => gbI y) w0) := by
  refine calls Try.func47 rfl (n := 12) rfl (by simp) ?_
  refine TC.seq ?_
  refine TC.region ?_
  refine TL.box rfl rfl (by decide) (fun b0 hb0 => ?_)
  refine TL.pure (PV.assign rfl) rfl (by decide) ?_
  refine TL.pure (PV.assign rfl) rfl (by decide) ?_
  refine TL.nil ?_
  refine TQ.thenC ?_
  refine TC.seq ?_
  refine TC.seq ?_
  refine TC.region ?_
  refine TL.pure (PV.loadBox rfl Tb.agg_25 (by repeat (first | exact List.Mem.head _ | refine List.Mem.tail _ ?_ | refine List.mem_append_right _ ?_)) rfl) rfl (by decide) ?_
  refine TL.call rfl Tb.gofn_24 (fun a w hs => validate_ok w _ _ _ (hr.new hs.new) _ _ _ (hg.new hs.new) hlo) rfl (by decide) (fun _ _ => ?_)
  refine TL.pure (PV.assign rfl) rfl (by decide) ?_
  refine TL.nil ?_
  refine TQ.thenC ?_
  refine TC.seq ?_
  refine TC.region ?_
  refine TL.pure (PV.move rfl) rfl (by decide) ?_
  refine TL.pure (PV.neq rfl rfl) rfl (by decide) ?_
  refine TL.nil ?_
  refine TQ.thenC ?_
  first | refine TC.condD rfl (fun hbad => ?_) (fun hbad => ?_) | refine TC.cond rfl (fun hbad => ?_) (fun hbad => ?_)
  · skip
    refine TC.seq ?_
    refine TC.region ?_
    refine TL.pure (PV.move rfl) rfl (by decide) ?_
    refine TL.pure (PV.assign rfl) rfl (by decide) ?_
    refine TL.pure (PV.assign rfl) rfl (by decide) ?_
    refine TL.nil ?_
    refine TQ.thenC ?_
    refine TC.ret ?_
    refine TQ.thenR ?_
    refine TQ.retE2 rfl rfl rfl ?_
    exact ⟨(none, []), rfl, ⟨⟨fun _ => rfl, fun h2 => absurd hbad h2⟩, goI_nil⟩, List.nil_sublist _⟩
  · skip
    refine TC.skip ?_
    refine TQ.thenC ?_
    refine TC.seq ?_
    refine TC.region ?_
    refine TL.pure (PV.loadBox rfl Tb.agg_25 (by repeat (first | exact List.Mem.head _ | refine List.Mem.tail _ ?_ | refine List.mem_append_right _ ?_)) rfl) rfl (by decide) ?_
    refine TL.call rfl Tb.gofn_91 (fun a w hs => zero_ok w _ _ _ (hr.new hs.new) _ _ _ (hg.new hs.new) (hb_of hbad)) rfl (by decide) (fun y9 hy9 => ?_)
    refine TL.pure (PV.assign rfl) rfl (by decide) ?_
    refine TL.pure (PV.assign rfl) rfl (by decide) ?_
    refine TL.nil ?_
    refine TQ.thenC ?_
    refine TC.ret ?_
    refine TQ.retE2 rfl rfl rfl ?_
    exact ⟨(some (y9.1, gs.length, []), y9.2), by rw [Decidable.of_not_not hbad, hy9.1.1]; rfl, ⟨⟨fun h2 => absurd h2 hbad, fun _ => hy9⟩, goI_arr hy9.1.1⟩, by rw [gbI_blk]; exact List.Sublist.cons_cons _ (List.nil_sublist _)⟩

set_option maxRecDepth 100000 in
set_option maxHeartbeats 2000000 in
theorem Script_ok (w0 : World) (p : Option Addr) (cp : Nat) (ls : List (List Int)) (hr : LsAt w0 p ls) (q : Option Addr) (cq : Nat) (gs : List Int) (hg : IntsAt w0 q gs) (hlo : ∀ k, (ls.getD k []).length ≤ 1000000) (pl : Option Addr) (cl : Nat) (xs : List Int) (hx : IntsAt w0 pl xs) (hxo : xs.length ≤ 1000000) (p2 : Option Addr) (c2 : Nat) (ys : List Int) (hy : IntsAt w0 p2 ys) (hyo : ys.length ≤ 1000000) :
    Calls Try.prog 56 #[hv p ls.length cp q gs.length cq, .slice pl xs.length cl, .slice p2 ys.length c2] w0 (Post (X := HD × List Int × Bool) (fun y => .tuple #[gval y.1 y.2.1.length, .bool y.2.2, .int .i64 (givI ls gs [xs, ys])]) (fun y => ScrP ls gs xs ys y.2.1 y.2.2 ∧ goI (y.1, y.2.1)) (fun y => gbI (y.1, y.2.1)) w0) := by
  refine calls Try.func56 rfl (n := 47) rfl (by simp) ?_
  refine TC.seq ?_
  refine TC.region ?_
  refine TL.box rfl rfl (by decide) (fun b0 hb0 => ?_)
  refine TL.pure (PV.assign rfl) rfl (by decide) ?_
  refine TL.pure (PV.assign rfl) rfl (by decide) ?_
  refine TL.pure (PV.assign rfl) rfl (by decide) ?_
  refine TL.nil ?_
  refine TQ.thenC ?_
  refine TC.seq ?_
  refine TC.seq ?_
  refine TC.region ?_
  refine TL.pure (PV.loadBox rfl Tb.agg_25 (by repeat (first | exact List.Mem.head _ | refine List.Mem.tail _ ?_ | refine List.mem_append_right _ ?_)) rfl) rfl (by decide) ?_
  refine TL.pure (PV.move rfl) rfl (by decide) ?_
  refine TL.pure (PV.move rfl) rfl (by decide) ?_
  refine TL.buildSlice (cs := #[.slice pl xs.length cl, .slice p2 ys.length c2]) rfl Tb.sl_22 Tb.zi_23 (by decide) (fill_oo _ _ _ _ _ _) (by decide) rfl (by decide) (fun bS hbS => ?_)
  refine TL.call rfl Tb.gofn_67 (fun a w hs => validateHeapings_ok w _ _ _ (hr.new hs.new) _ _ _ (hg.new hs.new) hlo _ 2 [xs, ys] (LsAt.two hs.new (by repeat (first | exact List.Mem.head _ | refine List.Mem.tail _ ?_ | refine List.mem_append_right _ ?_)) (hx.new hs.new) (hy.new hs.new)) (by simp) (two_len hxo hyo)) rfl (by decide) (fun _ _ => ?_)
  refine TL.pure (PV.assign rfl) rfl (by decide) ?_
  refine TL.nil ?_
  refine TQ.thenC ?_
  refine TC.seq ?_
  refine TC.region ?_
  refine TL.pure (PV.move rfl) rfl (by decide) ?_
  refine TL.pure (PV.neq rfl rfl) rfl (by decide) ?_
  refine TL.nil ?_
  refine TQ.thenC ?_
  first | refine TC.condD rfl (fun hbad => ?_) (fun hbad => ?_) | refine TC.cond rfl (fun hbad => ?_) (fun hbad => ?_)
  · skip
    refine TC.seq ?_
    refine TC.region ?_
    refine TL.pure (PV.move rfl) rfl (by decide) ?_
    refine TL.pure (PV.assign rfl) rfl (by decide) ?_
    refine TL.pure (PV.assign rfl) rfl (by decide) ?_
    refine TL.pure (PV.assign rfl) rfl (by decide) ?_
    refine TL.nil ?_
    refine TQ.thenC ?_
    refine TC.ret ?_
    refine TQ.thenR ?_
    refine TQ.retE3 rfl rfl rfl rfl ?_
    exact ⟨(none, [], false), rfl, ⟨⟨fun _ => ⟨rfl, rfl⟩, fun h2 => absurd hbad h2, fun h2 => absurd hbad h2⟩, goI_nil⟩, List.nil_sublist _⟩
  · skip
    refine TC.skip ?_
    refine TQ.thenC ?_
    refine TC.seq ?_
    have hB := (giv_hb hbad).1
    have hn9 := hB.n
    have hlb := limL_bd hB
    have hll := lim_len ls gs
    obtain ⟨⟨hxl, hx0⟩, hyl, hy0⟩ := giv_two hbad
    refine TC.mix [true, true, true, false, false, false, false, false, false, false, false] _ 8 Tb.mixed rfl (by kernel_rfl) (by kernel_rfl) (by kernel_rfl) (by kernel_rfl) (List.Sublist.refl _) ?_
    refine TB.op (SOK.pure (PV.loadBox rfl Tb.agg_25 (by repeat (first | exact List.Mem.head _ | refine List.Mem.tail _ ?_ | refine List.mem_append_right _ ?_)) rfl) rfl) (by decide) ?_
    refine TB.op (SOK.pure (PV.move rfl) rfl) (by decide) ?_
    refine TB.op (SOK.pure (PV.loadBox rfl Tb.agg_25 (by repeat (first | exact List.Mem.head _ | refine List.Mem.tail _ ?_ | refine List.mem_append_right _ ?_)) rfl) rfl) (by decide) ?_
    refine TB.no ?_
    refine TB.no ?_
    refine TB.no ?_
    refine TB.no ?_
    refine TB.no ?_
    refine TB.no ?_
    refine TB.no ?_
    refine TB.no ?_
    refine TB.fin ?_
    refine TX.step [3] (by kernel_rfl) (by decide) ⟨⟨_, rfl, ?_⟩, trivial⟩
    refine TL.call rfl Tb.gofn_98 (fun a w hs => limits_ok w _ _ _ (hr.new hs.new) _ _ _ (hg.new hs.new) hB) rfl (by decide) (fun b1 _ => ?_)
    refine TL.nil ?_
    refine TX.next (.inl (by repeat (first | exact List.Sublist.slnil | exact List.nil_sublist _ | exact List.Sublist.refl _ | refine List.Sublist.cons_cons _ ?_ | refine List.Sublist.cons _ ?_ | refine List.Sublist.trans ?_ (List.sublist_append_right _ _)))) ?_
    refine TX.step [4] (by kernel_rfl) (by decide) ⟨⟨_, rfl, ?_⟩, trivial⟩
    refine TL.call rfl Tb.gofn_95 (fun a w hs => added_ok w _ _ _ (hx.new hs.new) _ rfl _ _ (limL ls gs) (IntsAt.arr hs.new (by repeat (first | exact List.Mem.head _ | refine List.Mem.tail _ ?_ | refine List.mem_append_right _ ?_))) _ hll hxl (by omega) 1 (by omega) (fun k => by have := hx0 k; omega) (fun k => by have := hlb k; omega)) rfl (by decide) (fun b2 _ => ?_)
    refine TL.nil ?_
    refine TX.next (.inl (by repeat (first | exact List.Sublist.slnil | exact List.nil_sublist _ | exact List.Sublist.refl _ | refine List.Sublist.cons_cons _ ?_ | refine List.Sublist.cons _ ?_ | refine List.Sublist.trans ?_ (List.sublist_append_right _ _)))) ?_
    refine TX.step [5] (by kernel_rfl) (by decide) ⟨⟨_, rfl, ?_⟩, trivial⟩
    refine TL.call rfl Tb.gofn_76 (fun a w hs => settle_ok w _ _ _ (hr.new hs.new) _ _ _ (hg.new hs.new) hB _ _ (adN xs (limL ls gs) 1) (IntsAt.arr hs.new (by repeat (first | exact List.Mem.head _ | refine List.Mem.tail _ ?_ | refine List.mem_append_right _ ?_))) _ (ad_len _ _ _) ((ad_len _ _ _).trans hxl) (fun k => by have := ad_bd rfl hx0 hlb k; omega)) rfl (by decide) (fun y9 hy9 => ?_)
    refine TL.nil ?_
    refine TX.next (.inl (by repeat (first | exact List.Sublist.slnil | exact List.nil_sublist _ | exact List.Sublist.refl _ | refine List.Sublist.cons_cons _ ?_ | refine List.Sublist.cons _ ?_ | refine List.Sublist.trans ?_ (List.sublist_append_right _ _)))) ?_
    refine TX.step [6] (by kernel_rfl) (by decide) ⟨⟨_, rfl, ?_⟩, trivial⟩
    refine TL.pure (PV.move rfl) rfl (by decide) ?_
    refine TL.nil ?_
    refine TX.next (.inl (by repeat (first | exact List.Sublist.slnil | exact List.nil_sublist _ | exact List.Sublist.refl _ | refine List.Sublist.cons_cons _ ?_ | refine List.Sublist.cons _ ?_ | refine List.Sublist.trans ?_ (List.sublist_append_right _ _)))) ?_
    refine TX.step [7, 8] (by kernel_rfl) (by decide) ⟨⟨_, rfl, ?_⟩, ⟨_, rfl, ?_⟩, trivial⟩
    · skip
      refine TL.pure (PV.extract rfl rfl) rfl (by decide) ?_
      refine TL.nil ?_
      refine TX.next (.inl (by repeat (first | exact List.Sublist.slnil | exact List.nil_sublist _ | exact List.Sublist.refl _ | refine List.Sublist.cons_cons _ ?_ | refine List.Sublist.cons _ ?_ | refine List.Sublist.trans ?_ (List.sublist_append_right _ _)))) ?_
      refine TX.step [8, 9] (by kernel_rfl) (by decide) ⟨⟨_, rfl, ?_⟩, ⟨_, rfl, ?_⟩, trivial⟩
      · skip
        refine TL.pure (PV.extract rfl rfl) rfl (by decide) ?_
        refine TL.nil ?_
        refine TX.next (.inl (by repeat (first | exact List.Sublist.slnil | exact List.nil_sublist _ | exact List.Sublist.refl _ | refine List.Sublist.cons_cons _ ?_ | refine List.Sublist.cons _ ?_ | refine List.Sublist.trans ?_ (List.sublist_append_right _ _)))) ?_
        refine TX.step [9] (by kernel_rfl) (by decide) ⟨⟨_, rfl, ?_⟩, trivial⟩
        refine TL.pure (PV.assign rfl) rfl (by decide) ?_
        refine TL.nil ?_
        refine TX.next (.inr (by kernel_rfl)) ?_
        refine TX.step [10] (by kernel_rfl) (by decide) ⟨⟨_, rfl, ?_⟩, trivial⟩
        refine TL.pure (PV.assign rfl) rfl (by decide) ?_
        refine TL.nil ?_
        refine TX.next (.inr (by kernel_rfl)) ?_
        refine TX.done (by kernel_rfl) ?_
        refine TQ.thenC ?_
        refine TC.seq ?_
        refine TC.mix [true, true, true, false, false, false, false, false, false, false, false] _ 8 Tb.mixed rfl (by kernel_rfl) (by kernel_rfl) (by kernel_rfl) (by kernel_rfl) (List.Sublist.refl _) ?_
        refine TB.op (SOK.pure (PV.loadBox rfl Tb.agg_25 (by repeat (first | exact List.Mem.head _ | refine List.Mem.tail _ ?_ | refine List.mem_append_right _ ?_)) rfl) rfl) (by decide) ?_
        refine TB.op (SOK.pure (PV.move rfl) rfl) (by decide) ?_
        refine TB.op (SOK.pure (PV.loadBox rfl Tb.agg_25 (by repeat (first | exact List.Mem.head _ | refine List.Mem.tail _ ?_ | refine List.mem_append_right _ ?_)) rfl) rfl) (by decide) ?_
        refine TB.no ?_
        refine TB.no ?_
        refine TB.no ?_
        refine TB.no ?_
        refine TB.no ?_
        refine TB.no ?_
        refine TB.no ?_
        refine TB.no ?_
        refine TB.fin ?_
        refine TX.step [3] (by kernel_rfl) (by decide) ⟨⟨_, rfl, ?_⟩, trivial⟩
        refine TL.call rfl Tb.gofn_98 (fun a w hs => limits_ok w _ _ _ (hr.new hs.new) _ _ _ (hg.new hs.new) hB) rfl (by decide) (fun b3 _ => ?_)
        refine TL.nil ?_
        refine TX.next (.inl (by repeat (first | exact List.Sublist.slnil | exact List.nil_sublist _ | exact List.Sublist.refl _ | refine List.Sublist.cons_cons _ ?_ | refine List.Sublist.cons _ ?_ | refine List.Sublist.trans ?_ (List.sublist_append_right _ _)))) ?_
        refine TX.step [4] (by kernel_rfl) (by decide) ⟨⟨_, rfl, ?_⟩, trivial⟩
        refine TL.call rfl Tb.gofn_95 (fun a w hs => added_ok w _ _ _ (hy.new hs.new) _ rfl _ _ (limL ls gs) (IntsAt.arr hs.new (by repeat (first | exact List.Mem.head _ | refine List.Mem.tail _ ?_ | refine List.mem_append_right _ ?_))) _ hll hyl (by omega) 1 (by omega) (fun k => by have := hy0 k; omega) (fun k => by have := hlb k; omega)) rfl (by decide) (fun b4 _ => ?_)
        refine TL.nil ?_
        refine TX.next (.inl (by repeat (first | exact List.Sublist.slnil | exact List.nil_sublist _ | exact List.Sublist.refl _ | refine List.Sublist.cons_cons _ ?_ | refine List.Sublist.cons _ ?_ | refine List.Sublist.trans ?_ (List.sublist_append_right _ _)))) ?_
        refine TX.step [5] (by kernel_rfl) (by decide) ⟨⟨_, rfl, ?_⟩, trivial⟩
        refine TL.call rfl Tb.gofn_76 (fun a w hs => settle_ok w _ _ _ (hr.new hs.new) _ _ _ (hg.new hs.new) hB _ _ (adN ys (limL ls gs) 1) (IntsAt.arr hs.new (by repeat (first | exact List.Mem.head _ | refine List.Mem.tail _ ?_ | refine List.mem_append_right _ ?_))) _ (ad_len _ _ _) ((ad_len _ _ _).trans hyl) (fun k => by have := ad_bd rfl hy0 hlb k; omega)) rfl (by decide) (fun z9 hz9 => ?_)
        refine TL.nil ?_
        refine TX.next (.inl (by repeat (first | exact List.Sublist.slnil | exact List.nil_sublist _ | exact List.Sublist.refl _ | refine List.Sublist.cons_cons _ ?_ | refine List.Sublist.cons _ ?_ | refine List.Sublist.trans ?_ (List.sublist_append_right _ _)))) ?_
        refine TX.step [6] (by kernel_rfl) (by decide) ⟨⟨_, rfl, ?_⟩, trivial⟩
        refine TL.pure (PV.move rfl) rfl (by decide) ?_
        refine TL.nil ?_
        refine TX.next (.inl (by repeat (first | exact List.Sublist.slnil | exact List.nil_sublist _ | exact List.Sublist.refl _ | refine List.Sublist.cons_cons _ ?_ | refine List.Sublist.cons _ ?_ | refine List.Sublist.trans ?_ (List.sublist_append_right _ _)))) ?_
        refine TX.step [7, 8] (by kernel_rfl) (by decide) ⟨⟨_, rfl, ?_⟩, ⟨_, rfl, ?_⟩, trivial⟩
        · skip
          refine TL.pure (PV.extract rfl rfl) rfl (by decide) ?_
          refine TL.nil ?_
          refine TX.next (.inl (by repeat (first | exact List.Sublist.slnil | exact List.nil_sublist _ | exact List.Sublist.refl _ | refine List.Sublist.cons_cons _ ?_ | refine List.Sublist.cons _ ?_ | refine List.Sublist.trans ?_ (List.sublist_append_right _ _)))) ?_
          refine TX.step [8, 9] (by kernel_rfl) (by decide) ⟨⟨_, rfl, ?_⟩, ⟨_, rfl, ?_⟩, trivial⟩
          · skip
            refine TL.pure (PV.extract rfl rfl) rfl (by decide) ?_
            refine TL.nil ?_
            refine TX.next (.inl (by repeat (first | exact List.Sublist.slnil | exact List.nil_sublist _ | exact List.Sublist.refl _ | refine List.Sublist.cons_cons _ ?_ | refine List.Sublist.cons _ ?_ | refine List.Sublist.trans ?_ (List.sublist_append_right _ _)))) ?_
            refine TX.step [9] (by kernel_rfl) (by decide) ⟨⟨_, rfl, ?_⟩, trivial⟩
            refine TL.pure (PV.assign rfl) rfl (by decide) ?_
            refine TL.nil ?_
            refine TX.next (.inr (by kernel_rfl)) ?_
            refine TX.step [10] (by kernel_rfl) (by decide) ⟨⟨_, rfl, ?_⟩, trivial⟩
            refine TL.pure (PV.assign rfl) rfl (by decide) ?_
            refine TL.nil ?_
            refine TX.next (.inr (by kernel_rfl)) ?_
            refine TX.done (by kernel_rfl) ?_
            refine TQ.thenC ?_
            refine TC.seq ?_
            refine TC.seq ?_
            refine TC.region ?_
            refine TL.pure (PV.move rfl) rfl (by decide) ?_
            refine TL.pure (PV.move rfl) rfl (by decide) ?_
            refine TL.call rfl Tb.gofn_79 (fun a w hs => equal_ok w _ _ y9.2.2.1 (IntsAt.arr hs.new (by repeat (first | exact List.Mem.head _ | refine List.Mem.tail _ ?_ | refine List.mem_append_right _ ?_))) _ hy9.1 _ _ z9.2.2.1 (IntsAt.arr hs.new (by repeat (first | exact List.Mem.head _ | refine List.Mem.tail _ ?_ | refine List.mem_append_right _ ?_))) _ hz9.1 (by omega) (by omega)) rfl (by decide) (fun _ _ => ?_)
            refine TL.pure ((by first | exact PV.notD rfl | exact PV.not rfl)) rfl (by decide) ?_
            refine TL.nil ?_
            refine TQ.thenC ?_
            first | refine TC.condD rfl (fun hne => ?_) (fun hne => ?_) | refine TC.cond rfl (fun hne => ?_) (fun hne => ?_)
            · skip
              refine TC.seq ?_
              refine TC.region ?_
              refine TL.pure (PV.assign rfl) rfl (by decide) ?_
              refine TL.pure (PV.assign rfl) rfl (by decide) ?_
              refine TL.pure (PV.assign rfl) rfl (by decide) ?_
              refine TL.nil ?_
              refine TQ.thenC ?_
              refine TC.ret ?_
              refine TQ.thenR ?_
              refine TQ.retE3 rfl rfl rfl rfl ?_
              exact ⟨(none, [], false), by rw [Decidable.of_not_not hbad]; rfl, ⟨⟨fun h2 => absurd h2 hbad, fun _ h2 => absurd h2 Bool.noConfusion, fun _ _ => ⟨rfl, scr_no hB hxl hyl (fun k => (hx0 k).1) (fun k => (hy0 k).1) hy9 hz9 (by simpa using hne)⟩⟩, goI_nil⟩, List.nil_sublist _⟩
            · skip
              refine TC.skip ?_
              refine TQ.thenC ?_
              refine TC.seq ?_
              have hm1 := (stb_m hB hy9 (fun k => by have := ad_bd rfl hx0 hlb k; omega)).1
              have hm2 := (stb_m hB hz9 (fun k => by have := ad_bd rfl hy0 hlb k; omega)).1
              refine TC.region ?_
              refine TL.pure (PV.move rfl) rfl (by decide) ?_
              refine TL.pure (PV.move rfl) rfl (by decide) ?_
              refine TL.call rfl Tb.gofn_95 (fun a w hs => added_ok w _ _ y9.2.2.2 (IntsAt.arr hs.new (by repeat (first | exact List.Mem.head _ | refine List.Mem.tail _ ?_ | refine List.mem_append_right _ ?_))) _ hy9.2.1 _ _ z9.2.2.2 (IntsAt.arr hs.new (by repeat (first | exact List.Mem.head _ | refine List.Mem.tail _ ?_ | refine List.mem_append_right _ ?_))) _ hz9.2.1 rfl (by omega) (-1) (by omega) (mb9 hm1 hy9.2.1) (mb9 hm2 hz9.2.1)) rfl (by decide) (fun b5 _ => ?_)
              refine TL.pure (PV.assign rfl) rfl (by decide) ?_
              refine TL.pure (PV.assign rfl) rfl (by decide) ?_
              refine TL.pure (PV.assign rfl) rfl (by decide) ?_
              refine TL.nil ?_
              refine TQ.thenC ?_
              refine TC.ret ?_
              refine TQ.retE3 rfl rfl rfl rfl ?_
              exact ⟨(some (b5, gs.length, []), adN y9.2.2.2 z9.2.2.2 (-1), true), by rw [Decidable.of_not_not hbad, ad_len, hy9.2.1]; rfl, ⟨⟨fun h2 => absurd h2 hbad, fun _ _ => ⟨(ad_len _ _ _).trans hy9.2.1, scr_yes hxl hyl hy9 hz9 (by simpa using hne)⟩, fun _ h2 => absurd h2 Bool.noConfusion⟩, goI_arr ((ad_len _ _ _).trans hy9.2.1)⟩, by rw [gbI_blk]; exact List.Sublist.cons_cons _ (List.nil_sublist _)⟩
          · skip
            refine TL.pure (PV.assign rfl) rfl (by decide) ?_
            refine TL.nil ?_
            refine TX.next (.inr (by kernel_rfl)) ?_
            refine TX.step [8] (by kernel_rfl) (by decide) ⟨⟨_, rfl, ?_⟩, trivial⟩
            refine TL.pure (PV.extract rfl rfl) rfl (by decide) ?_
            refine TL.nil ?_
            refine TX.next (.inl (by repeat (first | exact List.Sublist.slnil | exact List.nil_sublist _ | exact List.Sublist.refl _ | refine List.Sublist.cons_cons _ ?_ | refine List.Sublist.cons _ ?_ | refine List.Sublist.trans ?_ (List.sublist_append_right _ _)))) ?_
            refine TX.step [10] (by kernel_rfl) (by decide) ⟨⟨_, rfl, ?_⟩, trivial⟩
            refine TL.pure (PV.assign rfl) rfl (by decide) ?_
            refine TL.nil ?_
            refine TX.next (.inr (by kernel_rfl)) ?_
            refine TX.done (by kernel_rfl) ?_
            refine TQ.thenC ?_
            refine TC.seq ?_
            refine TC.seq ?_
            refine TC.region ?_
            refine TL.pure (PV.move rfl) rfl (by decide) ?_
            refine TL.pure (PV.move rfl) rfl (by decide) ?_
            refine TL.call rfl Tb.gofn_79 (fun a w hs => equal_ok w _ _ y9.2.2.1 (IntsAt.arr hs.new (by repeat (first | exact List.Mem.head _ | refine List.Mem.tail _ ?_ | refine List.mem_append_right _ ?_))) _ hy9.1 _ _ z9.2.2.1 (IntsAt.arr hs.new (by repeat (first | exact List.Mem.head _ | refine List.Mem.tail _ ?_ | refine List.mem_append_right _ ?_))) _ hz9.1 (by omega) (by omega)) rfl (by decide) (fun _ _ => ?_)
            refine TL.pure ((by first | exact PV.notD rfl | exact PV.not rfl)) rfl (by decide) ?_
            refine TL.nil ?_
            refine TQ.thenC ?_
            first | refine TC.condD rfl (fun hne => ?_) (fun hne => ?_) | refine TC.cond rfl (fun hne => ?_) (fun hne => ?_)
            · skip
              refine TC.seq ?_
              refine TC.region ?_
              refine TL.pure (PV.assign rfl) rfl (by decide) ?_
              refine TL.pure (PV.assign rfl) rfl (by decide) ?_
              refine TL.pure (PV.assign rfl) rfl (by decide) ?_
              refine TL.nil ?_
              refine TQ.thenC ?_
              refine TC.ret ?_
              refine TQ.thenR ?_
              refine TQ.retE3 rfl rfl rfl rfl ?_
              exact ⟨(none, [], false), by rw [Decidable.of_not_not hbad]; rfl, ⟨⟨fun h2 => absurd h2 hbad, fun _ h2 => absurd h2 Bool.noConfusion, fun _ _ => ⟨rfl, scr_no hB hxl hyl (fun k => (hx0 k).1) (fun k => (hy0 k).1) hy9 hz9 (by simpa using hne)⟩⟩, goI_nil⟩, List.nil_sublist _⟩
            · skip
              refine TC.skip ?_
              refine TQ.thenC ?_
              refine TC.seq ?_
              have hm1 := (stb_m hB hy9 (fun k => by have := ad_bd rfl hx0 hlb k; omega)).1
              have hm2 := (stb_m hB hz9 (fun k => by have := ad_bd rfl hy0 hlb k; omega)).1
              refine TC.region ?_
              refine TL.pure (PV.move rfl) rfl (by decide) ?_
              refine TL.pure (PV.move rfl) rfl (by decide) ?_
              refine TL.call rfl Tb.gofn_95 (fun a w hs => added_ok w _ _ y9.2.2.2 (IntsAt.arr hs.new (by repeat (first | exact List.Mem.head _ | refine List.Mem.tail _ ?_ | refine List.mem_append_right _ ?_))) _ hy9.2.1 _ _ z9.2.2.2 (IntsAt.arr hs.new (by repeat (first | exact List.Mem.head _ | refine List.Mem.tail _ ?_ | refine List.mem_append_right _ ?_))) _ hz9.2.1 rfl (by omega) (-1) (by omega) (mb9 hm1 hy9.2.1) (mb9 hm2 hz9.2.1)) rfl (by decide) (fun b5 _ => ?_)
              refine TL.pure (PV.assign rfl) rfl (by decide) ?_
              refine TL.pure (PV.assign rfl) rfl (by decide) ?_
              refine TL.pure (PV.assign rfl) rfl (by decide) ?_
              refine TL.nil ?_
              refine TQ.thenC ?_
              refine TC.ret ?_
              refine TQ.retE3 rfl rfl rfl rfl ?_
              exact ⟨(some (b5, gs.length, []), adN y9.2.2.2 z9.2.2.2 (-1), true), by rw [Decidable.of_not_not hbad, ad_len, hy9.2.1]; rfl, ⟨⟨fun h2 => absurd h2 hbad, fun _ _ => ⟨(ad_len _ _ _).trans hy9.2.1, scr_yes hxl hyl hy9 hz9 (by simpa using hne)⟩, fun _ h2 => absurd h2 Bool.noConfusion⟩, goI_arr ((ad_len _ _ _).trans hy9.2.1)⟩, by rw [gbI_blk]; exact List.Sublist.cons_cons _ (List.nil_sublist _)⟩
        · skip
          refine TL.pure (PV.extract rfl rfl) rfl (by decide) ?_
          refine TL.nil ?_
          refine TX.next (.inl (by repeat (first | exact List.Sublist.slnil | exact List.nil_sublist _ | exact List.Sublist.refl _ | refine List.Sublist.cons_cons _ ?_ | refine List.Sublist.cons _ ?_ | refine List.Sublist.trans ?_ (List.sublist_append_right _ _)))) ?_
          refine TX.step [7] (by kernel_rfl) (by decide) ⟨⟨_, rfl, ?_⟩, trivial⟩
          refine TL.pure (PV.extract rfl rfl) rfl (by decide) ?_
          refine TL.nil ?_
          refine TX.next (.inl (by repeat (first | exact List.Sublist.slnil | exact List.nil_sublist _ | exact List.Sublist.refl _ | refine List.Sublist.cons_cons _ ?_ | refine List.Sublist.cons _ ?_ | refine List.Sublist.trans ?_ (List.sublist_append_right _ _)))) ?_
          refine TX.step [9] (by kernel_rfl) (by decide) ⟨⟨_, rfl, ?_⟩, trivial⟩
          refine TL.pure (PV.assign rfl) rfl (by decide) ?_
          refine TL.nil ?_
          refine TX.next (.inr (by kernel_rfl)) ?_
          refine TX.step [10] (by kernel_rfl) (by decide) ⟨⟨_, rfl, ?_⟩, trivial⟩
          refine TL.pure (PV.assign rfl) rfl (by decide) ?_
          refine TL.nil ?_
          refine TX.next (.inr (by kernel_rfl)) ?_
          refine TX.done (by kernel_rfl) ?_
          refine TQ.thenC ?_
          refine TC.seq ?_
          refine TC.seq ?_
          refine TC.region ?_
          refine TL.pure (PV.move rfl) rfl (by decide) ?_
          refine TL.pure (PV.move rfl) rfl (by decide) ?_
          refine TL.call rfl Tb.gofn_79 (fun a w hs => equal_ok w _ _ y9.2.2.1 (IntsAt.arr hs.new (by repeat (first | exact List.Mem.head _ | refine List.Mem.tail _ ?_ | refine List.mem_append_right _ ?_))) _ hy9.1 _ _ z9.2.2.1 (IntsAt.arr hs.new (by repeat (first | exact List.Mem.head _ | refine List.Mem.tail _ ?_ | refine List.mem_append_right _ ?_))) _ hz9.1 (by omega) (by omega)) rfl (by decide) (fun _ _ => ?_)
          refine TL.pure ((by first | exact PV.notD rfl | exact PV.not rfl)) rfl (by decide) ?_
          refine TL.nil ?_
          refine TQ.thenC ?_
          first | refine TC.condD rfl (fun hne => ?_) (fun hne => ?_) | refine TC.cond rfl (fun hne => ?_) (fun hne => ?_)
          · skip
            refine TC.seq ?_
            refine TC.region ?_
            refine TL.pure (PV.assign rfl) rfl (by decide) ?_
            refine TL.pure (PV.assign rfl) rfl (by decide) ?_
            refine TL.pure (PV.assign rfl) rfl (by decide) ?_
            refine TL.nil ?_
            refine TQ.thenC ?_
            refine TC.ret ?_
            refine TQ.thenR ?_
            refine TQ.retE3 rfl rfl rfl rfl ?_
            exact ⟨(none, [], false), by rw [Decidable.of_not_not hbad]; rfl, ⟨⟨fun h2 => absurd h2 hbad, fun _ h2 => absurd h2 Bool.noConfusion, fun _ _ => ⟨rfl, scr_no hB hxl hyl (fun k => (hx0 k).1) (fun k => (hy0 k).1) hy9 hz9 (by simpa using hne)⟩⟩, goI_nil⟩, List.nil_sublist _⟩
          · skip
            refine TC.skip ?_
            refine TQ.thenC ?_
            refine TC.seq ?_
            have hm1 := (stb_m hB hy9 (fun k => by have := ad_bd rfl hx0 hlb k; omega)).1
            have hm2 := (stb_m hB hz9 (fun k => by have := ad_bd rfl hy0 hlb k; omega)).1
            refine TC.region ?_
            refine TL.pure (PV.move rfl) rfl (by decide) ?_
            refine TL.pure (PV.move rfl) rfl (by decide) ?_
            refine TL.call rfl Tb.gofn_95 (fun a w hs => added_ok w _ _ y9.2.2.2 (IntsAt.arr hs.new (by repeat (first | exact List.Mem.head _ | refine List.Mem.tail _ ?_ | refine List.mem_append_right _ ?_))) _ hy9.2.1 _ _ z9.2.2.2 (IntsAt.arr hs.new (by repeat (first | exact List.Mem.head _ | refine List.Mem.tail _ ?_ | refine List.mem_append_right _ ?_))) _ hz9.2.1 rfl (by omega) (-1) (by omega) (mb9 hm1 hy9.2.1) (mb9 hm2 hz9.2.1)) rfl (by decide) (fun b5 _ => ?_)
            refine TL.pure (PV.assign rfl) rfl (by decide) ?_
            refine TL.pure (PV.assign rfl) rfl (by decide) ?_
            refine TL.pure (PV.assign rfl) rfl (by decide) ?_
            refine TL.nil ?_
            refine TQ.thenC ?_
            refine TC.ret ?_
            refine TQ.retE3 rfl rfl rfl rfl ?_
            exact ⟨(some (b5, gs.length, []), adN y9.2.2.2 z9.2.2.2 (-1), true), by rw [Decidable.of_not_not hbad, ad_len, hy9.2.1]; rfl, ⟨⟨fun h2 => absurd h2 hbad, fun _ _ => ⟨(ad_len _ _ _).trans hy9.2.1, scr_yes hxl hyl hy9 hz9 (by simpa using hne)⟩, fun _ h2 => absurd h2 Bool.noConfusion⟩, goI_arr ((ad_len _ _ _).trans hy9.2.1)⟩, by rw [gbI_blk]; exact List.Sublist.cons_cons _ (List.nil_sublist _)⟩
      · skip
        refine TL.pure (PV.assign rfl) rfl (by decide) ?_
        refine TL.nil ?_
        refine TX.next (.inr (by kernel_rfl)) ?_
        refine TX.step [8] (by kernel_rfl) (by decide) ⟨⟨_, rfl, ?_⟩, trivial⟩
        refine TL.pure (PV.extract rfl rfl) rfl (by decide) ?_
        refine TL.nil ?_
        refine TX.next (.inl (by repeat (first | exact List.Sublist.slnil | exact List.nil_sublist _ | exact List.Sublist.refl _ | refine List.Sublist.cons_cons _ ?_ | refine List.Sublist.cons _ ?_ | refine List.Sublist.trans ?_ (List.sublist_append_right _ _)))) ?_
        refine TX.step [10] (by kernel_rfl) (by decide) ⟨⟨_, rfl, ?_⟩, trivial⟩
        refine TL.pure (PV.assign rfl) rfl (by decide) ?_
        refine TL.nil ?_
        refine TX.next (.inr (by kernel_rfl)) ?_
        refine TX.done (by kernel_rfl) ?_
        refine TQ.thenC ?_
        refine TC.seq ?_
        refine TC.mix [true, true, true, false, false, false, false, false, false, false, false] _ 8 Tb.mixed rfl (by kernel_rfl) (by kernel_rfl) (by kernel_rfl) (by kernel_rfl) (List.Sublist.refl _) ?_
        refine TB.op (SOK.pure (PV.loadBox rfl Tb.agg_25 (by repeat (first | exact List.Mem.head _ | refine List.Mem.tail _ ?_ | refine List.mem_append_right _ ?_)) rfl) rfl) (by decide) ?_
        refine TB.op (SOK.pure (PV.move rfl) rfl) (by decide) ?_
        refine TB.op (SOK.pure (PV.loadBox rfl Tb.agg_25 (by repeat (first | exact List.Mem.head _ | refine List.Mem.tail _ ?_ | refine List.mem_append_right _ ?_)) rfl) rfl) (by decide) ?_
        refine TB.no ?_
        refine TB.no ?_
        refine TB.no ?_
        refine TB.no ?_
        refine TB.no ?_
        refine TB.no ?_
        refine TB.no ?_
        refine TB.no ?_
        refine TB.fin ?_
        refine TX.step [3] (by kernel_rfl) (by decide) ⟨⟨_, rfl, ?_⟩, trivial⟩
        refine TL.call rfl Tb.gofn_98 (fun a w hs => limits_ok w _ _ _ (hr.new hs.new) _ _ _ (hg.new hs.new) hB) rfl (by decide) (fun b3 _ => ?_)
        refine TL.nil ?_
        refine TX.next (.inl (by repeat (first | exact List.Sublist.slnil | exact List.nil_sublist _ | exact List.Sublist.refl _ | refine List.Sublist.cons_cons _ ?_ | refine List.Sublist.cons _ ?_ | refine List.Sublist.trans ?_ (List.sublist_append_right _ _)))) ?_
        refine TX.step [4] (by kernel_rfl) (by decide) ⟨⟨_, rfl, ?_⟩, trivial⟩
        refine TL.call rfl Tb.gofn_95 (fun a w hs => added_ok w _ _ _ (hy.new hs.new) _ rfl _ _ (limL ls gs) (IntsAt.arr hs.new (by repeat (first | exact List.Mem.head _ | refine List.Mem.tail _ ?_ | refine List.mem_append_right _ ?_))) _ hll hyl (by omega) 1 (by omega) (fun k => by have := hy0 k; omega) (fun k => by have := hlb k; omega)) rfl (by decide) (fun b4 _ => ?_)
        refine TL.nil ?_
        refine TX.next (.inl (by repeat (first | exact List.Sublist.slnil | exact List.nil_sublist _ | exact List.Sublist.refl _ | refine List.Sublist.cons_cons _ ?_ | refine List.Sublist.cons _ ?_ | refine List.Sublist.trans ?_ (List.sublist_append_right _ _)))) ?_
        refine TX.step [5] (by kernel_rfl) (by decide) ⟨⟨_, rfl, ?_⟩, trivial⟩
        refine TL.call rfl Tb.gofn_76 (fun a w hs => settle_ok w _ _ _ (hr.new hs.new) _ _ _ (hg.new hs.new) hB _ _ (adN ys (limL ls gs) 1) (IntsAt.arr hs.new (by repeat (first | exact List.Mem.head _ | refine List.Mem.tail _ ?_ | refine List.mem_append_right _ ?_))) _ (ad_len _ _ _) ((ad_len _ _ _).trans hyl) (fun k => by have := ad_bd rfl hy0 hlb k; omega)) rfl (by decide) (fun z9 hz9 => ?_)
        refine TL.nil ?_
        refine TX.next (.inl (by repeat (first | exact List.Sublist.slnil | exact List.nil_sublist _ | exact List.Sublist.refl _ | refine List.Sublist.cons_cons _ ?_ | refine List.Sublist.cons _ ?_ | refine List.Sublist.trans ?_ (List.sublist_append_right _ _)))) ?_
        refine TX.step [6] (by kernel_rfl) (by decide) ⟨⟨_, rfl, ?_⟩, trivial⟩
        refine TL.pure (PV.move rfl) rfl (by decide) ?_
        refine TL.nil ?_
        refine TX.next (.inl (by repeat (first | exact List.Sublist.slnil | exact List.nil_sublist _ | exact List.Sublist.refl _ | refine List.Sublist.cons_cons _ ?_ | refine List.Sublist.cons _ ?_ | refine List.Sublist.trans ?_ (List.sublist_append_right _ _)))) ?_
        refine TX.step [7, 8] (by kernel_rfl) (by decide) ⟨⟨_, rfl, ?_⟩, ⟨_, rfl, ?_⟩, trivial⟩
        · skip
          refine TL.pure (PV.extract rfl rfl) rfl (by decide) ?_
          refine TL.nil ?_
          refine TX.next (.inl (by repeat (first | exact List.Sublist.slnil | exact List.nil_sublist _ | exact List.Sublist.refl _ | refine List.Sublist.cons_cons _ ?_ | refine List.Sublist.cons _ ?_ | refine List.Sublist.trans ?_ (List.sublist_append_right _ _)))) ?_
          refine TX.step [8, 9] (by kernel_rfl) (by decide) ⟨⟨_, rfl, ?_⟩, ⟨_, rfl, ?_⟩, trivial⟩
          · skip
            refine TL.pure (PV.extract rfl rfl) rfl (by decide) ?_
            refine TL.nil ?_
            refine TX.next (.inl (by repeat (first | exact List.Sublist.slnil | exact List.nil_sublist _ | exact List.Sublist.refl _ | refine List.Sublist.cons_cons _ ?_ | refine List.Sublist.cons _ ?_ | refine List.Sublist.trans ?_ (List.sublist_append_right _ _)))) ?_
            refine TX.step [9] (by kernel_rfl) (by decide) ⟨⟨_, rfl, ?_⟩, trivial⟩
            refine TL.pure (PV.assign rfl) rfl (by decide) ?_
            refine TL.nil ?_
            refine TX.next (.inr (by kernel_rfl)) ?_
            refine TX.step [10] (by kernel_rfl) (by decide) ⟨⟨_, rfl, ?_⟩, trivial⟩
            refine TL.pure (PV.assign rfl) rfl (by decide) ?_
            refine TL.nil ?_
            refine TX.next (.inr (by kernel_rfl)) ?_
            refine TX.done (by kernel_rfl) ?_
            refine TQ.thenC ?_
            refine TC.seq ?_
            refine TC.seq ?_
            refine TC.region ?_
            refine TL.pure (PV.move rfl) rfl (by decide) ?_
            refine TL.pure (PV.move rfl) rfl (by decide) ?_
            refine TL.call rfl Tb.gofn_79 (fun a w hs => equal_ok w _ _ y9.2.2.1 (IntsAt.arr hs.new (by repeat (first | exact List.Mem.head _ | refine List.Mem.tail _ ?_ | refine List.mem_append_right _ ?_))) _ hy9.1 _ _ z9.2.2.1 (IntsAt.arr hs.new (by repeat (first | exact List.Mem.head _ | refine List.Mem.tail _ ?_ | refine List.mem_append_right _ ?_))) _ hz9.1 (by omega) (by omega)) rfl (by decide) (fun _ _ => ?_)
            refine TL.pure ((by first | exact PV.notD rfl | exact PV.not rfl)) rfl (by decide) ?_
            refine TL.nil ?_
            refine TQ.thenC ?_
            first | refine TC.condD rfl (fun hne => ?_) (fun hne => ?_) | refine TC.cond rfl (fun hne => ?_) (fun hne => ?_)
            · skip
              refine TC.seq ?_
              refine TC.region ?_
              refine TL.pure (PV.assign rfl) rfl (by decide) ?_
              refine TL.pure (PV.assign rfl) rfl (by decide) ?_
              refine TL.pure (PV.assign rfl) rfl (by decide) ?_
              refine TL.nil ?_
              refine TQ.thenC ?_
              refine TC.ret ?_
              refine TQ.thenR ?_
              refine TQ.retE3 rfl rfl rfl rfl ?_
              exact ⟨(none, [], false), by rw [Decidable.of_not_not hbad]; rfl, ⟨⟨fun h2 => absurd h2 hbad, fun _ h2 => absurd h2 Bool.noConfusion, fun _ _ => ⟨rfl, scr_no hB hxl hyl (fun k => (hx0 k).1) (fun k => (hy0 k).1) hy9 hz9 (by simpa using hne)⟩⟩, goI_nil⟩, List.nil_sublist _⟩
            · skip
              refine TC.skip ?_
              refine TQ.thenC ?_
              refine TC.seq ?_
              have hm1 := (stb_m hB hy9 (fun k => by have := ad_bd rfl hx0 hlb k; omega)).1
              have hm2 := (stb_m hB hz9 (fun k => by have := ad_bd rfl hy0 hlb k; omega)).1
              refine TC.region ?_
              refine TL.pure (PV.move rfl) rfl (by decide) ?_
              refine TL.pure (PV.move rfl) rfl (by decide) ?_
              refine TL.call rfl Tb.gofn_95 (fun a w hs => added_ok w _ _ y9.2.2.2 (IntsAt.arr hs.new (by repeat (first | exact List.Mem.head _ | refine List.Mem.tail _ ?_ | refine List.mem_append_right _ ?_))) _ hy9.2.1 _ _ z9.2.2.2 (IntsAt.arr hs.new (by repeat (first | exact List.Mem.head _ | refine List.Mem.tail _ ?_ | refine List.mem_append_right _ ?_))) _ hz9.2.1 rfl (by omega) (-1) (by omega) (mb9 hm1 hy9.2.1) (mb9 hm2 hz9.2.1)) rfl (by decide) (fun b5 _ => ?_)
              refine TL.pure (PV.assign rfl) rfl (by decide) ?_
              refine TL.pure (PV.assign rfl) rfl (by decide) ?_
              refine TL.pure (PV.assign rfl) rfl (by decide) ?_
              refine TL.nil ?_
              refine TQ.thenC ?_
              refine TC.ret ?_
              refine TQ.retE3 rfl rfl rfl rfl ?_
              exact ⟨(some (b5, gs.length, []), adN y9.2.2.2 z9.2.2.2 (-1), true), by rw [Decidable.of_not_not hbad, ad_len, hy9.2.1]; rfl, ⟨⟨fun h2 => absurd h2 hbad, fun _ _ => ⟨(ad_len _ _ _).trans hy9.2.1, scr_yes hxl hyl hy9 hz9 (by simpa using hne)⟩, fun _ h2 => absurd h2 Bool.noConfusion⟩, goI_arr ((ad_len _ _ _).trans hy9.2.1)⟩, by rw [gbI_blk]; exact List.Sublist.cons_cons _ (List.nil_sublist _)⟩
          · skip
            refine TL.pure (PV.assign rfl) rfl (by decide) ?_
            refine TL.nil ?_
            refine TX.next (.inr (by kernel_rfl)) ?_
            refine TX.step [8] (by kernel_rfl) (by decide) ⟨⟨_, rfl, ?_⟩, trivial⟩
            refine TL.pure (PV.extract rfl rfl) rfl (by decide) ?_
            refine TL.nil ?_
            refine TX.next (.inl (by repeat (first | exact List.Sublist.slnil | exact List.nil_sublist _ | exact List.Sublist.refl _ | refine List.Sublist.cons_cons _ ?_ | refine List.Sublist.cons _ ?_ | refine List.Sublist.trans ?_ (List.sublist_append_right _ _)))) ?_
            refine TX.step [10] (by kernel_rfl) (by decide) ⟨⟨_, rfl, ?_⟩, trivial⟩
            refine TL.pure (PV.assign rfl) rfl (by decide) ?_
            refine TL.nil ?_
            refine TX.next (.inr (by kernel_rfl)) ?_
            refine TX.done (by kernel_rfl) ?_
            refine TQ.thenC ?_
            refine TC.seq ?_
            refine TC.seq ?_
            refine TC.region ?_
            refine TL.pure (PV.move rfl) rfl (by decide) ?_
            refine TL.pure (PV.move rfl) rfl (by decide) ?_
            refine TL.call rfl Tb.gofn_79 (fun a w hs => equal_ok w _ _ y9.2.2.1 (IntsAt.arr hs.new (by repeat (first | exact List.Mem.head _ | refine List.Mem.tail _ ?_ | refine List.mem_append_right _ ?_))) _ hy9.1 _ _ z9.2.2.1 (IntsAt.arr hs.new (by repeat (first | exact List.Mem.head _ | refine List.Mem.tail _ ?_ | refine List.mem_append_right _ ?_))) _ hz9.1 (by omega) (by omega)) rfl (by decide) (fun _ _ => ?_)
            refine TL.pure ((by first | exact PV.notD rfl | exact PV.not rfl)) rfl (by decide) ?_
            refine TL.nil ?_
            refine TQ.thenC ?_
            first | refine TC.condD rfl (fun hne => ?_) (fun hne => ?_) | refine TC.cond rfl (fun hne => ?_) (fun hne => ?_)
            · skip
              refine TC.seq ?_
              refine TC.region ?_
              refine TL.pure (PV.assign rfl) rfl (by decide) ?_
              refine TL.pure (PV.assign rfl) rfl (by decide) ?_
              refine TL.pure (PV.assign rfl) rfl (by decide) ?_
              refine TL.nil ?_
              refine TQ.thenC ?_
              refine TC.ret ?_
              refine TQ.thenR ?_
              refine TQ.retE3 rfl rfl rfl rfl ?_
              exact ⟨(none, [], false), by rw [Decidable.of_not_not hbad]; rfl, ⟨⟨fun h2 => absurd h2 hbad, fun _ h2 => absurd h2 Bool.noConfusion, fun _ _ => ⟨rfl, scr_no hB hxl hyl (fun k => (hx0 k).1) (fun k => (hy0 k).1) hy9 hz9 (by simpa using hne)⟩⟩, goI_nil⟩, List.nil_sublist _⟩
            · skip
              refine TC.skip ?_
              refine TQ.thenC ?_
              refine TC.seq ?_
              have hm1 := (stb_m hB hy9 (fun k => by have := ad_bd rfl hx0 hlb k; omega)).1
              have hm2 := (stb_m hB hz9 (fun k => by have := ad_bd rfl hy0 hlb k; omega)).1
              refine TC.region ?_
              refine TL.pure (PV.move rfl) rfl (by decide) ?_
              refine TL.pure (PV.move rfl) rfl (by decide) ?_
              refine TL.call rfl Tb.gofn_95 (fun a w hs => added_ok w _ _ y9.2.2.2 (IntsAt.arr hs.new (by repeat (first | exact List.Mem.head _ | refine List.Mem.tail _ ?_ | refine List.mem_append_right _ ?_))) _ hy9.2.1 _ _ z9.2.2.2 (IntsAt.arr hs.new (by repeat (first | exact List.Mem.head _ | refine List.Mem.tail _ ?_ | refine List.mem_append_right _ ?_))) _ hz9.2.1 rfl (by omega) (-1) (by omega) (mb9 hm1 hy9.2.1) (mb9 hm2 hz9.2.1)) rfl (by decide) (fun b5 _ => ?_)
              refine TL.pure (PV.assign rfl) rfl (by decide) ?_
              refine TL.pure (PV.assign rfl) rfl (by decide) ?_
              refine TL.pure (PV.assign rfl) rfl (by decide) ?_
              refine TL.nil ?_
              refine TQ.thenC ?_
              refine TC.ret ?_
              refine TQ.retE3 rfl rfl rfl rfl ?_
              exact ⟨(some (b5, gs.length, []), adN y9.2.2.2 z9.2.2.2 (-1), true), by rw [Decidable.of_not_not hbad, ad_len, hy9.2.1]; rfl, ⟨⟨fun h2 => absurd h2 hbad, fun _ _ => ⟨(ad_len _ _ _).trans hy9.2.1, scr_yes hxl hyl hy9 hz9 (by simpa using hne)⟩, fun _ h2 => absurd h2 Bool.noConfusion⟩, goI_arr ((ad_len _ _ _).trans hy9.2.1)⟩, by rw [gbI_blk]; exact List.Sublist.cons_cons _ (List.nil_sublist _)⟩
        · skip
          refine TL.pure (PV.extract rfl rfl) rfl (by decide) ?_
          refine TL.nil ?_
          refine TX.next (.inl (by repeat (first | exact List.Sublist.slnil | exact List.nil_sublist _ | exact List.Sublist.refl _ | refine List.Sublist.cons_cons _ ?_ | refine List.Sublist.cons _ ?_ | refine List.Sublist.trans ?_ (List.sublist_append_right _ _)))) ?_
          refine TX.step [7] (by kernel_rfl) (by decide) ⟨⟨_, rfl, ?_⟩, trivial⟩
          refine TL.pure (PV.extract rfl rfl) rfl (by decide) ?_
          refine TL.nil ?_
          refine TX.next (.inl (by repeat (first | exact List.Sublist.slnil | exact List.nil_sublist _ | exact List.Sublist.refl _ | refine List.Sublist.cons_cons _ ?_ | refine List.Sublist.cons _ ?_ | refine List.Sublist.trans ?_ (List.sublist_append_right _ _)))) ?_
          refine TX.step [9] (by kernel_rfl) (by decide) ⟨⟨_, rfl, ?_⟩, trivial⟩
          refine TL.pure (PV.assign rfl) rfl (by decide) ?_
          refine TL.nil ?_
          refine TX.next (.inr (by kernel_rfl)) ?_
          refine TX.step [10] (by kernel_rfl) (by decide) ⟨⟨_, rfl, ?_⟩, trivial⟩
          refine TL.pure (PV.assign rfl) rfl (by decide) ?_
          refine TL.nil ?_
          refine TX.next (.inr (by kernel_rfl)) ?_
          refine TX.done (by kernel_rfl) ?_
          refine TQ.thenC ?_
          refine TC.seq ?_
          refine TC.seq ?_
          refine TC.region ?_
          refine TL.pure (PV.move rfl) rfl (by decide) ?_
          refine TL.pure (PV.move rfl) rfl (by decide) ?_
          refine TL.call rfl Tb.gofn_79 (fun a w hs => equal_ok w _ _ y9.2.2.1 (IntsAt.arr hs.new (by repeat (first | exact List.Mem.head _ | refine List.Mem.tail _ ?_ | refine List.mem_append_right _ ?_))) _ hy9.1 _ _ z9.2.2.1 (IntsAt.arr hs.new (by repeat (first | exact List.Mem.head _ | refine List.Mem.tail _ ?_ | refine List.mem_append_right _ ?_))) _ hz9.1 (by omega) (by omega)) rfl (by decide) (fun _ _ => ?_)
          refine TL.pure ((by first | exact PV.notD rfl | exact PV.not rfl)) rfl (by decide) ?_
          refine TL.nil ?_
          refine TQ.thenC ?_
          first | refine TC.condD rfl (fun hne => ?_) (fun hne => ?_) | refine TC.cond rfl (fun hne => ?_) (fun hne => ?_)
          · skip
            refine TC.seq ?_
            refine TC.region ?_
            refine TL.pure (PV.assign rfl) rfl (by decide) ?_
            refine TL.pure (PV.assign rfl) rfl (by decide) ?_
            refine TL.pure (PV.assign rfl) rfl (by decide) ?_
            refine TL.nil ?_
            refine TQ.thenC ?_
            refine TC.ret ?_
            refine TQ.thenR ?_
            refine TQ.retE3 rfl rfl rfl rfl ?_
            exact ⟨(none, [], false), by rw [Decidable.of_not_not hbad]; rfl, ⟨⟨fun h2 => absurd h2 hbad, fun _ h2 => absurd h2 Bool.noConfusion, fun _ _ => ⟨rfl, scr_no hB hxl hyl (fun k => (hx0 k).1) (fun k => (hy0 k).1) hy9 hz9 (by simpa using hne)⟩⟩, goI_nil⟩, List.nil_sublist _⟩
          · skip
            refine TC.skip ?_
            refine TQ.thenC ?_
            refine TC.seq ?_
            have hm1 := (stb_m hB hy9 (fun k => by have := ad_bd rfl hx0 hlb k; omega)).1
            have hm2 := (stb_m hB hz9 (fun k => by have := ad_bd rfl hy0 hlb k; omega)).1
            refine TC.region ?_
            refine TL.pure (PV.move rfl) rfl (by decide) ?_
            refine TL.pure (PV.move rfl) rfl (by decide) ?_
            refine TL.call rfl Tb.gofn_95 (fun a w hs => added_ok w _ _ y9.2.2.2 (IntsAt.arr hs.new (by repeat (first | exact List.Mem.head _ | refine List.Mem.tail _ ?_ | refine List.mem_append_right _ ?_))) _ hy9.2.1 _ _ z9.2.2.2 (IntsAt.arr hs.new (by repeat (first | exact List.Mem.head _ | refine List.Mem.tail _ ?_ | refine List.mem_append_right _ ?_))) _ hz9.2.1 rfl (by omega) (-1) (by omega) (mb9 hm1 hy9.2.1) (mb9 hm2 hz9.2.1)) rfl (by decide) (fun b5 _ => ?_)
            refine TL.pure (PV.assign rfl) rfl (by decide) ?_
            refine TL.pure (PV.assign rfl) rfl (by decide) ?_
            refine TL.pure (PV.assign rfl) rfl (by decide) ?_
            refine TL.nil ?_
            refine TQ.thenC ?_
            refine TC.ret ?_
            refine TQ.retE3 rfl rfl rfl rfl ?_
            exact ⟨(some (b5, gs.length, []), adN y9.2.2.2 z9.2.2.2 (-1), true), by rw [Decidable.of_not_not hbad, ad_len, hy9.2.1]; rfl, ⟨⟨fun h2 => absurd h2 hbad, fun _ _ => ⟨(ad_len _ _ _).trans hy9.2.1, scr_yes hxl hyl hy9 hz9 (by simpa using hne)⟩, fun _ h2 => absurd h2 Bool.noConfusion⟩, goI_arr ((ad_len _ _ _).trans hy9.2.1)⟩, by rw [gbI_blk]; exact List.Sublist.cons_cons _ (List.nil_sublist _)⟩
    · skip
      refine TL.pure (PV.extract rfl rfl) rfl (by decide) ?_
      refine TL.nil ?_
      refine TX.next (.inl (by repeat (first | exact List.Sublist.slnil | exact List.nil_sublist _ | exact List.Sublist.refl _ | refine List.Sublist.cons_cons _ ?_ | refine List.Sublist.cons _ ?_ | refine List.Sublist.trans ?_ (List.sublist_append_right _ _)))) ?_
      refine TX.step [7] (by kernel_rfl) (by decide) ⟨⟨_, rfl, ?_⟩, trivial⟩
      refine TL.pure (PV.extract rfl rfl) rfl (by decide) ?_
      refine TL.nil ?_
      refine TX.next (.inl (by repeat (first | exact List.Sublist.slnil | exact List.nil_sublist _ | exact List.Sublist.refl _ | refine List.Sublist.cons_cons _ ?_ | refine List.Sublist.cons _ ?_ | refine List.Sublist.trans ?_ (List.sublist_append_right _ _)))) ?_
      refine TX.step [9] (by kernel_rfl) (by decide) ⟨⟨_, rfl, ?_⟩, trivial⟩
      refine TL.pure (PV.assign rfl) rfl (by decide) ?_
      refine TL.nil ?_
      refine TX.next (.inr (by kernel_rfl)) ?_
      refine TX.step [10] (by kernel_rfl) (by decide) ⟨⟨_, rfl, ?_⟩, trivial⟩
      refine TL.pure (PV.assign rfl) rfl (by decide) ?_
      refine TL.nil ?_
      refine TX.next (.inr (by kernel_rfl)) ?_
      refine TX.done (by kernel_rfl) ?_
      refine TQ.thenC ?_
      refine TC.seq ?_
      refine TC.mix [true, true, true, false, false, false, false, false, false, false, false] _ 8 Tb.mixed rfl (by kernel_rfl) (by kernel_rfl) (by kernel_rfl) (by kernel_rfl) (List.Sublist.refl _) ?_
      refine TB.op (SOK.pure (PV.loadBox rfl Tb.agg_25 (by repeat (first | exact List.Mem.head _ | refine List.Mem.tail _ ?_ | refine List.mem_append_right _ ?_)) rfl) rfl) (by decide) ?_
      refine TB.op (SOK.pure (PV.move rfl) rfl) (by decide) ?_
      refine TB.op (SOK.pure (PV.loadBox rfl Tb.agg_25 (by repeat (first | exact List.Mem.head _ | refine List.Mem.tail _ ?_ | refine List.mem_append_right _ ?_)) rfl) rfl) (by decide) ?_
      refine TB.no ?_
      refine TB.no ?_
      refine TB.no ?_
      refine TB.no ?_
      refine TB.no ?_
      refine TB.no ?_
      refine TB.no ?_
      refine TB.no ?_
      refine TB.fin ?_
      refine TX.step [3] (by kernel_rfl) (by decide) ⟨⟨_, rfl, ?_⟩, trivial⟩
      refine TL.call rfl Tb.gofn_98 (fun a w hs => limits_ok w _ _ _ (hr.new hs.new) _ _ _ (hg.new hs.new) hB) rfl (by decide) (fun b3 _ => ?_)
      refine TL.nil ?_
      refine TX.next (.inl (by repeat (first | exact List.Sublist.slnil | exact List.nil_sublist _ | exact List.Sublist.refl _ | refine List.Sublist.cons_cons _ ?_ | refine List.Sublist.cons _ ?_ | refine List.Sublist.trans ?_ (List.sublist_append_right _ _)))) ?_
      refine TX.step [4] (by kernel_rfl) (by decide) ⟨⟨_, rfl, ?_⟩, trivial⟩
      refine TL.call rfl Tb.gofn_95 (fun a w hs => added_ok w _ _ _ (hy.new hs.new) _ rfl _ _ (limL ls gs) (IntsAt.arr hs.new (by repeat (first | exact List.Mem.head _ | refine List.Mem.tail _ ?_ | refine List.mem_append_right _ ?_))) _ hll hyl (by omega) 1 (by omega) (fun k => by have := hy0 k; omega) (fun k => by have := hlb k; omega)) rfl (by decide) (fun b4 _ => ?_)
      refine TL.nil ?_
      refine TX.next (.inl (by repeat (first | exact List.Sublist.slnil | exact List.nil_sublist _ | exact List.Sublist.refl _ | refine List.Sublist.cons_cons _ ?_ | refine List.Sublist.cons _ ?_ | refine List.Sublist.trans ?_ (List.sublist_append_right _ _)))) ?_
      refine TX.step [5] (by kernel_rfl) (by decide) ⟨⟨_, rfl, ?_⟩, trivial⟩
      refine TL.call rfl Tb.gofn_76 (fun a w hs => settle_ok w _ _ _ (hr.new hs.new) _ _ _ (hg.new hs.new) hB _ _ (adN ys (limL ls gs) 1) (IntsAt.arr hs.new (by repeat (first | exact List.Mem.head _ | refine List.Mem.tail _ ?_ | refine List.mem_append_right _ ?_))) _ (ad_len _ _ _) ((ad_len _ _ _).trans hyl) (fun k => by have := ad_bd rfl hy0 hlb k; omega)) rfl (by decide) (fun z9 hz9 => ?_)
      refine TL.nil ?_
      refine TX.next (.inl (by repeat (first | exact List.Sublist.slnil | exact List.nil_sublist _ | exact List.Sublist.refl _ | refine List.Sublist.cons_cons _ ?_ | refine List.Sublist.cons _ ?_ | refine List.Sublist.trans ?_ (List.sublist_append_right _ _)))) ?_
      refine TX.step [6] (by kernel_rfl) (by decide) ⟨⟨_, rfl, ?_⟩, trivial⟩
      refine TL.pure (PV.move rfl) rfl (by decide) ?_
      refine TL.nil ?_
      refine TX.next (.inl (by repeat (first | exact List.Sublist.slnil | exact List.nil_sublist _ | exact List.Sublist.refl _ | refine List.Sublist.cons_cons _ ?_ | refine List.Sublist.cons _ ?_ | refine List.Sublist.trans ?_ (List.sublist_append_right _ _)))) ?_
      refine TX.step [7, 8] (by kernel_rfl) (by decide) ⟨⟨_, rfl, ?_⟩, ⟨_, rfl, ?_⟩, trivial⟩
      · skip
        refine TL.pure (PV.extract rfl rfl) rfl (by decide) ?_
        refine TL.nil ?_
        refine TX.next (.inl (by repeat (first | exact List.Sublist.slnil | exact List.nil_sublist _ | exact List.Sublist.refl _ | refine List.Sublist.cons_cons _ ?_ | refine List.Sublist.cons _ ?_ | refine List.Sublist.trans ?_ (List.sublist_append_right _ _)))) ?_
        refine TX.step [8, 9] (by kernel_rfl) (by decide) ⟨⟨_, rfl, ?_⟩, ⟨_, rfl, ?_⟩, trivial⟩
        · skip
          refine TL.pure (PV.extract rfl rfl) rfl (by decide) ?_
          refine TL.nil ?_
          refine TX.next (.inl (by repeat (first | exact List.Sublist.slnil | exact List.nil_sublist _ | exact List.Sublist.refl _ | refine List.Sublist.cons_cons _ ?_ | refine List.Sublist.cons _ ?_ | refine List.Sublist.trans ?_ (List.sublist_append_right _ _)))) ?_
          refine TX.step [9] (by kernel_rfl) (by decide) ⟨⟨_, rfl, ?_⟩, trivial⟩
          refine TL.pure (PV.assign rfl) rfl (by decide) ?_
          refine TL.nil ?_
          refine TX.next (.inr (by kernel_rfl)) ?_
          refine TX.step [10] (by kernel_rfl) (by decide) ⟨⟨_, rfl, ?_⟩, trivial⟩
          refine TL.pure (PV.assign rfl) rfl (by decide) ?_
          refine TL.nil ?_
          refine TX.next (.inr (by kernel_rfl)) ?_
          refine TX.done (by kernel_rfl) ?_
          refine TQ.thenC ?_
          refine TC.seq ?_
          refine TC.seq ?_
          refine TC.region ?_
          refine TL.pure (PV.move rfl) rfl (by decide) ?_
          refine TL.pure (PV.move rfl) rfl (by decide) ?_
          refine TL.call rfl Tb.gofn_79 (fun a w hs => equal_ok w _ _ y9.2.2.1 (IntsAt.arr hs.new (by repeat (first | exact List.Mem.head _ | refine List.Mem.tail _ ?_ | refine List.mem_append_right _ ?_))) _ hy9.1 _ _ z9.2.2.1 (IntsAt.arr hs.new (by repeat (first | exact List.Mem.head _ | refine List.Mem.tail _ ?_ | refine List.mem_append_right _ ?_))) _ hz9.1 (by omega) (by omega)) rfl (by decide) (fun _ _ => ?_)
          refine TL.pure ((by first | exact PV.notD rfl | exact PV.not rfl)) rfl (by decide) ?_
          refine TL.nil ?_
          refine TQ.thenC ?_
          first | refine TC.condD rfl (fun hne => ?_) (fun hne => ?_) | refine TC.cond rfl (fun hne => ?_) (fun hne => ?_)
          · skip
            refine TC.seq ?_
            refine TC.region ?_
            refine TL.pure (PV.assign rfl) rfl (by decide) ?_
            refine TL.pure (PV.assign rfl) rfl (by decide) ?_
            refine TL.pure (PV.assign rfl) rfl (by decide) ?_
            refine TL.nil ?_
            refine TQ.thenC ?_
            refine TC.ret ?_
            refine TQ.thenR ?_
            refine TQ.retE3 rfl rfl rfl rfl ?_
            exact ⟨(none, [], false), by rw [Decidable.of_not_not hbad]; rfl, ⟨⟨fun h2 => absurd h2 hbad, fun _ h2 => absurd h2 Bool.noConfusion, fun _ _ => ⟨rfl, scr_no hB hxl hyl (fun k => (hx0 k).1) (fun k => (hy0 k).1) hy9 hz9 (by simpa using hne)⟩⟩, goI_nil⟩, List.nil_sublist _⟩
          · skip
            refine TC.skip ?_
            refine TQ.thenC ?_
            refine TC.seq ?_
            have hm1 := (stb_m hB hy9 (fun k => by have := ad_bd rfl hx0 hlb k; omega)).1
            have hm2 := (stb_m hB hz9 (fun k => by have := ad_bd rfl hy0 hlb k; omega)).1
            refine TC.region ?_
            refine TL.pure (PV.move rfl) rfl (by decide) ?_
            refine TL.pure (PV.move rfl) rfl (by decide) ?_
            refine TL.call rfl Tb.gofn_95 (fun a w hs => added_ok w _ _ y9.2.2.2 (IntsAt.arr hs.new (by repeat (first | exact List.Mem.head _ | refine List.Mem.tail _ ?_ | refine List.mem_append_right _ ?_))) _ hy9.2.1 _ _ z9.2.2.2 (IntsAt.arr hs.new (by repeat (first | exact List.Mem.head _ | refine List.Mem.tail _ ?_ | refine List.mem_append_right _ ?_))) _ hz9.2.1 rfl (by omega) (-1) (by omega) (mb9 hm1 hy9.2.1) (mb9 hm2 hz9.2.1)) rfl (by decide) (fun b5 _ => ?_)
            refine TL.pure (PV.assign rfl) rfl (by decide) ?_
            refine TL.pure (PV.assign rfl) rfl (by decide) ?_
            refine TL.pure (PV.assign rfl) rfl (by decide) ?_
            refine TL.nil ?_
            refine TQ.thenC ?_
            refine TC.ret ?_
            refine TQ.retE3 rfl rfl rfl rfl ?_
            exact ⟨(some (b5, gs.length, []), adN y9.2.2.2 z9.2.2.2 (-1), true), by rw [Decidable.of_not_not hbad, ad_len, hy9.2.1]; rfl, ⟨⟨fun h2 => absurd h2 hbad, fun _ _ => ⟨(ad_len _ _ _).trans hy9.2.1, scr_yes hxl hyl hy9 hz9 (by simpa using hne)⟩, fun _ h2 => absurd h2 Bool.noConfusion⟩, goI_arr ((ad_len _ _ _).trans hy9.2.1)⟩, by rw [gbI_blk]; exact List.Sublist.cons_cons _ (List.nil_sublist _)⟩
        · skip
          refine TL.pure (PV.assign rfl) rfl (by decide) ?_
          refine TL.nil ?_
          refine TX.next (.inr (by kernel_rfl)) ?_
          refine TX.step [8] (by kernel_rfl) (by decide) ⟨⟨_, rfl, ?_⟩, trivial⟩
          refine TL.pure (PV.extract rfl rfl) rfl (by decide) ?_
          refine TL.nil ?_
          refine TX.next (.inl (by repeat (first | exact List.Sublist.slnil | exact List.nil_sublist _ | exact List.Sublist.refl _ | refine List.Sublist.cons_cons _ ?_ | refine List.Sublist.cons _ ?_ | refine List.Sublist.trans ?_ (List.sublist_append_right _ _)))) ?_
          refine TX.step [10] (by kernel_rfl) (by decide) ⟨⟨_, rfl, ?_⟩, trivial⟩
          refine TL.pure (PV.assign rfl) rfl (by decide) ?_
          refine TL.nil ?_
          refine TX.next (.inr (by kernel_rfl)) ?_
          refine TX.done (by kernel_rfl) ?_
          refine TQ.thenC ?_
          refine TC.seq ?_
          refine TC.seq ?_
          refine TC.region ?_
          refine TL.pure (PV.move rfl) rfl (by decide) ?_
          refine TL.pure (PV.move rfl) rfl (by decide) ?_
          refine TL.call rfl Tb.gofn_79 (fun a w hs => equal_ok w _ _ y9.2.2.1 (IntsAt.arr hs.new (by repeat (first | exact List.Mem.head _ | refine List.Mem.tail _ ?_ | refine List.mem_append_right _ ?_))) _ hy9.1 _ _ z9.2.2.1 (IntsAt.arr hs.new (by repeat (first | exact List.Mem.head _ | refine List.Mem.tail _ ?_ | refine List.mem_append_right _ ?_))) _ hz9.1 (by omega) (by omega)) rfl (by decide) (fun _ _ => ?_)
          refine TL.pure ((by first | exact PV.notD rfl | exact PV.not rfl)) rfl (by decide) ?_
          refine TL.nil ?_
          refine TQ.thenC ?_
          first | refine TC.condD rfl (fun hne => ?_) (fun hne => ?_) | refine TC.cond rfl (fun hne => ?_) (fun hne => ?_)
          · skip
            refine TC.seq ?_
            refine TC.region ?_
            refine TL.pure (PV.assign rfl) rfl (by decide) ?_
            refine TL.pure (PV.assign rfl) rfl (by decide) ?_
            refine TL.pure (PV.assign rfl) rfl (by decide) ?_
            refine TL.nil ?_
            refine TQ.thenC ?_
            refine TC.ret ?_
            refine TQ.thenR ?_
            refine TQ.retE3 rfl rfl rfl rfl ?_
            exact ⟨(none, [], false), by rw [Decidable.of_not_not hbad]; rfl, ⟨⟨fun h2 => absurd h2 hbad, fun _ h2 => absurd h2 Bool.noConfusion, fun _ _ => ⟨rfl, scr_no hB hxl hyl (fun k => (hx0 k).1) (fun k => (hy0 k).1) hy9 hz9 (by simpa using hne)⟩⟩, goI_nil⟩, List.nil_sublist _⟩
          · skip
            refine TC.skip ?_
            refine TQ.thenC ?_
            refine TC.seq ?_
            have hm1 := (stb_m hB hy9 (fun k => by have := ad_bd rfl hx0 hlb k; omega)).1
            have hm2 := (stb_m hB hz9 (fun k => by have := ad_bd rfl hy0 hlb k; omega)).1
            refine TC.region ?_
            refine TL.pure (PV.move rfl) rfl (by decide) ?_
            refine TL.pure (PV.move rfl) rfl (by decide) ?_
            refine TL.call rfl Tb.gofn_95 (fun a w hs => added_ok w _ _ y9.2.2.2 (IntsAt.arr hs.new (by repeat (first | exact List.Mem.head _ | refine List.Mem.tail _ ?_ | refine List.mem_append_right _ ?_))) _ hy9.2.1 _ _ z9.2.2.2 (IntsAt.arr hs.new (by repeat (first | exact List.Mem.head _ | refine List.Mem.tail _ ?_ | refine List.mem_append_right _ ?_))) _ hz9.2.1 rfl (by omega) (-1) (by omega) (mb9 hm1 hy9.2.1) (mb9 hm2 hz9.2.1)) rfl (by decide) (fun b5 _ => ?_)
            refine TL.pure (PV.assign rfl) rfl (by decide) ?_
            refine TL.pure (PV.assign rfl) rfl (by decide) ?_
            refine TL.pure (PV.assign rfl) rfl (by decide) ?_
            refine TL.nil ?_
            refine TQ.thenC ?_
            refine TC.ret ?_
            refine TQ.retE3 rfl rfl rfl rfl ?_
            exact ⟨(some (b5, gs.length, []), adN y9.2.2.2 z9.2.2.2 (-1), true), by rw [Decidable.of_not_not hbad, ad_len, hy9.2.1]; rfl, ⟨⟨fun h2 => absurd h2 hbad, fun _ _ => ⟨(ad_len _ _ _).trans hy9.2.1, scr_yes hxl hyl hy9 hz9 (by simpa using hne)⟩, fun _ h2 => absurd h2 Bool.noConfusion⟩, goI_arr ((ad_len _ _ _).trans hy9.2.1)⟩, by rw [gbI_blk]; exact List.Sublist.cons_cons _ (List.nil_sublist _)⟩
      · skip
        refine TL.pure (PV.extract rfl rfl) rfl (by decide) ?_
        refine TL.nil ?_
        refine TX.next (.inl (by repeat (first | exact List.Sublist.slnil | exact List.nil_sublist _ | exact List.Sublist.refl _ | refine List.Sublist.cons_cons _ ?_ | refine List.Sublist.cons _ ?_ | refine List.Sublist.trans ?_ (List.sublist_append_right _ _)))) ?_
        refine TX.step [7] (by kernel_rfl) (by decide) ⟨⟨_, rfl, ?_⟩, trivial⟩
        refine TL.pure (PV.extract rfl rfl) rfl (by decide) ?_
        refine TL.nil ?_
        refine TX.next (.inl (by repeat (first | exact List.Sublist.slnil | exact List.nil_sublist _ | exact List.Sublist.refl _ | refine List.Sublist.cons_cons _ ?_ | refine List.Sublist.cons _ ?_ | refine List.Sublist.trans ?_ (List.sublist_append_right _ _)))) ?_
        refine TX.step [9] (by kernel_rfl) (by decide) ⟨⟨_, rfl, ?_⟩, trivial⟩
        refine TL.pure (PV.assign rfl) rfl (by decide) ?_
        refine TL.nil ?_
        refine TX.next (.inr (by kernel_rfl)) ?_
        refine TX.step [10] (by kernel_rfl) (by decide) ⟨⟨_, rfl, ?_⟩, trivial⟩
        refine TL.pure (PV.assign rfl) rfl (by decide) ?_
        refine TL.nil ?_
        refine TX.next (.inr (by kernel_rfl)) ?_
        refine TX.done (by kernel_rfl) ?_
        refine TQ.thenC ?_
        refine TC.seq ?_
        refine TC.seq ?_
        refine TC.region ?_
        refine TL.pure (PV.move rfl) rfl (by decide) ?_
        refine TL.pure (PV.move rfl) rfl (by decide) ?_
        refine TL.call rfl Tb.gofn_79 (fun a w hs => equal_ok w _ _ y9.2.2.1 (IntsAt.arr hs.new (by repeat (first | exact List.Mem.head _ | refine List.Mem.tail _ ?_ | refine List.mem_append_right _ ?_))) _ hy9.1 _ _ z9.2.2.1 (IntsAt.arr hs.new (by repeat (first | exact List.Mem.head _ | refine List.Mem.tail _ ?_ | refine List.mem_append_right _ ?_))) _ hz9.1 (by omega) (by omega)) rfl (by decide) (fun _ _ => ?_)
        refine TL.pure ((by first | exact PV.notD rfl | exact PV.not rfl)) rfl (by decide) ?_
        refine TL.nil ?_
        refine TQ.thenC ?_
        first | refine TC.condD rfl (fun hne => ?_) (fun hne => ?_) | refine TC.cond rfl (fun hne => ?_) (fun hne => ?_)
        · skip
          refine TC.seq ?_
          refine TC.region ?_
          refine TL.pure (PV.assign rfl) rfl (by decide) ?_
          refine TL.pure (PV.assign rfl) rfl (by decide) ?_
          refine TL.pure (PV.assign rfl) rfl (by decide) ?_
          refine TL.nil ?_
          refine TQ.thenC ?_
          refine TC.ret ?_
          refine TQ.thenR ?_
          refine TQ.retE3 rfl rfl rfl rfl ?_
          exact ⟨(none, [], false), by rw [Decidable.of_not_not hbad]; rfl, ⟨⟨fun h2 => absurd h2 hbad, fun _ h2 => absurd h2 Bool.noConfusion, fun _ _ => ⟨rfl, scr_no hB hxl hyl (fun k => (hx0 k).1) (fun k => (hy0 k).1) hy9 hz9 (by simpa using hne)⟩⟩, goI_nil⟩, List.nil_sublist _⟩
        · skip
          refine TC.skip ?_
          refine TQ.thenC ?_
          refine TC.seq ?_
          have hm1 := (stb_m hB hy9 (fun k => by have := ad_bd rfl hx0 hlb k; omega)).1
          have hm2 := (stb_m hB hz9 (fun k => by have := ad_bd rfl hy0 hlb k; omega)).1
          refine TC.region ?_
          refine TL.pure (PV.move rfl) rfl (by decide) ?_
          refine TL.pure (PV.move rfl) rfl (by decide) ?_
          refine TL.call rfl Tb.gofn_95 (fun a w hs => added_ok w _ _ y9.2.2.2 (IntsAt.arr hs.new (by repeat (first | exact List.Mem.head _ | refine List.Mem.tail _ ?_ | refine List.mem_append_right _ ?_))) _ hy9.2.1 _ _ z9.2.2.2 (IntsAt.arr hs.new (by repeat (first | exact List.Mem.head _ | refine List.Mem.tail _ ?_ | refine List.mem_append_right _ ?_))) _ hz9.2.1 rfl (by omega) (-1) (by omega) (mb9 hm1 hy9.2.1) (mb9 hm2 hz9.2.1)) rfl (by decide) (fun b5 _ => ?_)
          refine TL.pure (PV.assign rfl) rfl (by decide) ?_
          refine TL.pure (PV.assign rfl) rfl (by decide) ?_
          refine TL.pure (PV.assign rfl) rfl (by decide) ?_
          refine TL.nil ?_
          refine TQ.thenC ?_
          refine TC.ret ?_
          refine TQ.retE3 rfl rfl rfl rfl ?_
          exact ⟨(some (b5, gs.length, []), adN y9.2.2.2 z9.2.2.2 (-1), true), by rw [Decidable.of_not_not hbad, ad_len, hy9.2.1]; rfl, ⟨⟨fun h2 => absurd h2 hbad, fun _ _ => ⟨(ad_len _ _ _).trans hy9.2.1, scr_yes hxl hyl hy9 hz9 (by simpa using hne)⟩, fun _ h2 => absurd h2 Bool.noConfusion⟩, goI_arr ((ad_len _ _ _).trans hy9.2.1)⟩, by rw [gbI_blk]; exact List.Sublist.cons_cons _ (List.nil_sublist _)⟩

set_option maxRecDepth 100000 in
set_option maxHeartbeats 1000000 in
theorem Alike_ok (w0 : World) (p : Option Addr) (cp : Nat) (ls : List (List Int)) (hr : LsAt w0 p ls) (q : Option Addr) (cq : Nat) (gs : List Int) (hg : IntsAt w0 q gs) (hlo : ∀ k, (ls.getD k []).length ≤ 1000000) (pl : Option Addr) (cl : Nat) (xs : List Int) (hx : IntsAt w0 pl xs) (hxo : xs.length ≤ 1000000) (p2 : Option Addr) (c2 : Nat) (ys : List Int) (hy : IntsAt w0 p2 ys) (hyo : ys.length ≤ 1000000) :
    Calls Try.prog 55 #[hv p ls.length cp q gs.length cq, .slice pl xs.length cl, .slice p2 ys.length c2] w0 (Post (X := List Int × Bool) (fun y => .tuple #[.bool y.2, .int .i64 (givI ls gs [xs, ys])]) (fun y => ScrP ls gs xs ys y.1 y.2) (fun _ => []) w0) := by
  refine calls Try.func55 rfl (n := 21) rfl (by simp) ?_
  refine TC.seq ?_
  refine TC.region ?_
  refine TL.box rfl rfl (by decide) (fun b0 hb0 => ?_)
  refine TL.pure (PV.assign rfl) rfl (by decide) ?_
  refine TL.pure (PV.assign rfl) rfl (by decide) ?_
  refine TL.nil ?_
  refine TQ.thenC ?_
  refine TC.seq ?_
  refine TC.region ?_
  refine TL.pure (PV.loadBox rfl Tb.agg_25 (by repeat (first | exact List.Mem.head _ | refine List.Mem.tail _ ?_ | refine List.mem_append_right _ ?_)) rfl) rfl (by decide) ?_
  refine TL.pure (PV.move rfl) rfl (by decide) ?_
  refine TL.pure (PV.move rfl) rfl (by decide) ?_
  refine TL.call rfl Tb.gofn_56 (fun a w hs => Script_ok w _ _ _ (hr.new hs.new) _ _ _ (hg.new hs.new) hlo _ _ _ (hx.new hs.new) hxo _ _ _ (hy.new hs.new) hyo) rfl (by decide) (fun y9 hy9 => ?_)
  refine TL.pure (PV.move rfl) rfl (by decide) ?_
  refine TL.pure (PV.extract rfl rfl) rfl (by decide) ?_
  refine TL.pure (PV.extract rfl rfl) rfl (by decide) ?_
  refine TL.pure (PV.extract rfl rfl) rfl (by decide) ?_
  refine TL.pure (PV.assign rfl) rfl (by decide) ?_
  refine TL.pure (PV.assign rfl) rfl (by decide) ?_
  refine TL.pure (PV.assign rfl) rfl (by decide) ?_
  refine TL.nil ?_
  refine TQ.thenC ?_
  refine TC.seq ?_
  refine TC.region ?_
  refine TL.pure (PV.move rfl) rfl (by decide) ?_
  refine TL.pure (PV.move rfl) rfl (by decide) ?_
  refine TL.pure (PV.assign rfl) rfl (by decide) ?_
  refine TL.pure (PV.assign rfl) rfl (by decide) ?_
  refine TL.nil ?_
  refine TQ.thenC ?_
  refine TC.ret ?_
  refine TQ.retE2 rfl rfl rfl ?_
  exact ⟨y9.2, rfl, hy9.1, List.nil_sublist _⟩

end Go.Proofs.Ytgafpkcnhpoobaa
