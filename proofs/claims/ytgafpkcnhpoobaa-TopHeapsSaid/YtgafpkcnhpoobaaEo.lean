/- Fire, and what lasts: contracts. -/
import Derived.Test.YtgafpkcnhpoobaaEn
set_option linter.unusedVariables false
set_option linter.unusedSimpArgs false
namespace Go.Proofs.Ytgafpkcnhpoobaa
open Go.Sx Go.RowKit Go.Sand

def inB (bs : List Int) (j : Nat) : Bool := decide ((j : Int) ∈ bs)
/-- The links of a heap to heaps that do not burn. -/
def lbF (ls : List (List Int)) (bs : List Int) (i j : Nat) : Int := if inB bs j = true then 0 else getM ls i j
abbrev lbI (ls : List (List Int)) (gs bs : List Int) (i : Nat) : Int := sm gs.length (lbF ls bs i)
def rdB (ls : List (List Int)) (gs xs bs : List Int) (i : Nat) : Bool := !inB bs i && decide (lbI ls gs bs i ≤ xs.getD i 0)
/-- A round: of the first heaps those that burn. -/
def rdK (ls : List (List Int)) (gs xs bs : List Int) : Nat → List Int
  | 0 => []
  | k + 1 => if rdB ls gs xs bs k = true then rdK ls gs xs bs k ++ [(k : Int)] else rdK ls gs xs bs k
abbrev rdL (ls : List (List Int)) (gs xs bs : List Int) : List Int := rdK ls gs xs bs gs.length
def brn (ls : List (List Int)) (gs xs : List Int) : Nat → List Int
  | 0 => []
  | k + 1 => brn ls gs xs k ++ rdL ls gs xs (brn ls gs xs k)
theorem mem_rd {ls : List (List Int)} {gs xs bs : List Int} {v : Int} : ∀ {k : Nat}, v ∈ rdK ls gs xs bs k ↔ ∃ i, i < k ∧ v = (i : Int) ∧ rdB ls gs xs bs i = true
  | 0 => by simp [rdK]
  | k + 1 => by
    have ih := mem_rd (ls := ls) (gs := gs) (xs := xs) (bs := bs) (v := v) (k := k)
    unfold rdK
    split
    · next h =>
      rw [List.mem_append, ih, List.mem_singleton]
      constructor
      · rintro (⟨i, h1, h2, h3⟩ | rfl)
        · exact ⟨i, by omega, h2, h3⟩
        · exact ⟨k, by omega, rfl, h⟩
      · rintro ⟨i, h1, h2, h3⟩
        by_cases e : i = k
        · subst e; exact .inr h2
        · exact .inl ⟨i, by omega, h2, h3⟩
    · next h =>
      rw [ih]
      constructor
      · rintro ⟨i, h1, h2, h3⟩
        exact ⟨i, by omega, h2, h3⟩
      · rintro ⟨i, h1, h2, h3⟩
        by_cases e : i = k
        · subst e; exact absurd h3 h
        · exact ⟨i, by omega, h2, h3⟩
theorem rd_nodup (ls : List (List Int)) (gs xs bs : List Int) : ∀ k, (rdK ls gs xs bs k).Nodup
  | 0 => List.nodup_nil
  | k + 1 => by
    have ih := rd_nodup ls gs xs bs k
    unfold rdK
    split
    · refine List.nodup_append.2 ⟨ih, by simp, fun a ha b hb e => ?_⟩
      subst e
      obtain ⟨i, h1, h2, _⟩ := mem_rd.1 ha
      rw [List.mem_singleton.1 hb] at h2
      omega
    · exact ih
theorem rd_len (ls : List (List Int)) (gs xs bs : List Int) : ∀ k, (rdK ls gs xs bs k).length ≤ k
  | 0 => Nat.le_refl _
  | k + 1 => by
    have ih := rd_len ls gs xs bs k
    unfold rdK
    split
    · rw [List.length_append]; show _ + 1 ≤ _; omega
    · omega
theorem rd_new {ls : List (List Int)} {gs xs bs : List Int} {i : Nat} (h : rdB ls gs xs bs i = true) : ¬ (i : Int) ∈ bs ∧ lbI ls gs bs i ≤ xs.getD i 0 := by
  unfold rdB inB at h
  simp only [Bool.and_eq_true, Bool.not_eq_true', decide_eq_true_eq, decide_eq_false_iff_not] at h
  exact h
theorem rd_yes {ls : List (List Int)} {gs xs bs : List Int} {i : Nat} (h : ¬ (i : Int) ∈ bs) (h2 : lbI ls gs bs i ≤ xs.getD i 0) : rdB ls gs xs bs i = true := by
  unfold rdB inB
  rw [decide_eq_false h, decide_eq_true h2]; rfl
theorem rd_in {ls : List (List Int)} {gs xs bs : List Int} {i : Nat} (h : (i : Int) ∈ bs) : rdB ls gs xs bs i = false := by
  unfold rdB inB
  rw [decide_eq_true h]; rfl
theorem rd_low {ls : List (List Int)} {gs xs bs : List Int} {i : Nat} (h : ¬ lbI ls gs bs i ≤ xs.getD i 0) : rdB ls gs xs bs i = false := by
  unfold rdB
  rw [decide_eq_false h, Bool.and_false]
structure Goo (gs bs : List Int) : Prop where
  nd : bs.Nodup
  rg : ∀ v ∈ bs, ∃ i, i < gs.length ∧ v = ((i : Nat) : Int)
theorem brn_goo (ls : List (List Int)) (gs xs : List Int) : ∀ k, Goo gs (brn ls gs xs k)
  | 0 => ⟨List.nodup_nil, fun v hv => by cases hv⟩
  | k + 1 => by
    have ih := brn_goo ls gs xs k
    refine ⟨List.nodup_append.2 ⟨ih.nd, rd_nodup _ _ _ _ _, fun a ha b hb e => ?_⟩, fun v hv => ?_⟩
    · subst e
      obtain ⟨i, _, rfl, h3⟩ := mem_rd.1 hb
      exact (rd_new h3).1 ha
    · rcases List.mem_append.1 hv with hv | hv
      · exact ih.rg v hv
      · obtain ⟨i, h1, h2, _⟩ := mem_rd.1 hv
        exact ⟨i, h1, h2⟩
def natL (n : Nat) : List Int := (List.range n).map fun i : Nat => (i : Int)
theorem natL_len (n : Nat) : (natL n).length = n := by simp [natL]
theorem natL_mem {n : Nat} {v : Int} : v ∈ natL n ↔ ∃ i, i < n ∧ v = ((i : Nat) : Int) := by
  unfold natL
  rw [List.mem_map]
  constructor
  · rintro ⟨i, h1, rfl⟩; exact ⟨i, List.mem_range.1 h1, rfl⟩
  · rintro ⟨i, h1, rfl⟩; exact ⟨i, List.mem_range.2 h1, rfl⟩
theorem natL_nodup : ∀ n, (natL n).Nodup
  | 0 => by simp [natL]
  | n + 1 => by
    have ih := natL_nodup n
    unfold natL at ih ⊢
    rw [List.range_succ, List.map_append]
    refine List.nodup_append.2 ⟨ih, by simp, fun a ha b hb e => ?_⟩
    subst e
    obtain ⟨i, hi, rfl⟩ := List.mem_map.1 ha
    have h1 : (i : Int) = (n : Int) := List.mem_singleton.1 hb
    have h2 := List.mem_range.1 hi
    omega
theorem Goo.le {gs bs : List Int} (h : Goo gs bs) : bs.length ≤ gs.length := by
  have := h.nd.length_le_of_subset (l₂ := natL gs.length) fun v hv => natL_mem.2 (h.rg v hv)
  rwa [natL_len] at this
theorem Goo.full {gs bs : List Int} (h : Goo gs bs) : bs.length = gs.length ↔ ∀ i, i < gs.length → (i : Int) ∈ bs := by
  constructor
  · intro hl i hi
    refine Classical.byContradiction fun hno => ?_
    have := (List.nodup_cons.2 ⟨hno, h.nd⟩).length_le_of_subset (l₂ := natL gs.length) fun v hv => by
      rcases List.mem_cons.1 hv with rfl | hv
      · exact natL_mem.2 ⟨i, hi, rfl⟩
      · exact natL_mem.2 (h.rg v hv)
    rw [natL_len, List.length_cons] at this
    omega
  · intro ha
    have h1 := h.le
    have := (natL_nodup gs.length).length_le_of_subset (l₂ := bs) fun v hv => by
      obtain ⟨i, hi, rfl⟩ := natL_mem.1 hv
      exact ha i hi
    rw [natL_len] at this
    omega
def BrI (ls : List (List Int)) (gs xs y : List Int) : Prop := ∃ k, y = brn ls gs xs k
structure BrP (ls : List (List Int)) (gs xs y : List Int) : Prop where
  i : BrI ls gs xs y
  e : rdL ls gs xs y = []
theorem BrI.goo {ls : List (List Int)} {gs xs y : List Int} (h : BrI ls gs xs y) : Goo gs y := by
  obtain ⟨k, rfl⟩ := h
  exact brn_goo _ _ _ _
theorem BrI.zero (ls : List (List Int)) (gs xs : List Int) : BrI ls gs xs [] := ⟨0, rfl⟩
theorem BrI.step {ls : List (List Int)} {gs xs y : List Int} (h : BrI ls gs xs y) : BrI ls gs xs (y ++ rdL ls gs xs y) := by
  obtain ⟨k, rfl⟩ := h
  exact ⟨k + 1, rfl⟩
theorem brn_stop {ls : List (List Int)} {gs xs : List Int} {k : Nat} (h : rdL ls gs xs (brn ls gs xs k) = []) : ∀ d, brn ls gs xs (k + d) = brn ls gs xs k
  | 0 => rfl
  | d + 1 => by
    have ih := brn_stop h d
    show brn ls gs xs (k + d) ++ rdL ls gs xs (brn ls gs xs (k + d)) = _
    rw [ih, h, List.append_nil]
theorem BrP.unique {ls : List (List Int)} {gs xs y z : List Int} (h : BrP ls gs xs y) (k : BrP ls gs xs z) : y = z := by
  obtain ⟨⟨a, rfl⟩, ha⟩ := h
  obtain ⟨⟨b, rfl⟩, hb⟩ := k
  rcases Nat.le_total a b with h | h
  · have := brn_stop ha (b - a)
    rw [show a + (b - a) = b by omega] at this
    exact this.symm
  · have := brn_stop hb (a - b)
    rw [show b + (a - b) = a by omega] at this
    exact this
/-- A heaping burns whole exactly if no set of heaps has less than its own links say. -/
theorem BrP.nf {ls : List (List Int)} {gs xs y : List Int} (hB : HB ls gs) (h : BrP ls gs xs y) : y.length = gs.length ↔ NF gs.length (lk ls) (gd xs) := by
  rw [h.i.goo.full]
  constructor
  · rintro hall A ⟨a, ha, hAa⟩
    obtain ⟨⟨K, rfl⟩, _⟩ := h
    have key : ∀ K, (∃ i, i < gs.length ∧ A i = true ∧ (i : Int) ∈ brn ls gs xs K) → ∃ i, i < gs.length ∧ A i = true ∧ sm gs.length (fun j => if A j then lk ls i j else 0) ≤ gd xs i := by
      intro K
      induction K with
      | zero => rintro ⟨i, _, _, hm⟩; cases hm
      | succ K ih =>
        rintro ⟨i, hi, hAi, hm⟩
        by_cases hex : ∃ i, i < gs.length ∧ A i = true ∧ (i : Int) ∈ brn ls gs xs K
        · exact ih hex
        · rcases List.mem_append.1 hm with hm | hm
          · exact absurd ⟨i, hi, hAi, hm⟩ hex
          · obtain ⟨i2, _, e, h3⟩ := mem_rd.1 hm
            obtain rfl : i = i2 := by omega
            refine ⟨i, hi, hAi, Int.le_trans (sm_le fun j hj => ?_) (rd_new h3).2⟩
            unfold lbF inB
            by_cases hAj : A j = true
            · rw [if_pos hAj, decide_eq_false (fun hm2 => hex ⟨j, hj, hAj, hm2⟩)]
              exact Int.le_refl _
            · rw [if_neg hAj]
              split
              · exact Int.le_refl _
              · exact (hB.ent i j).1
    exact key K ⟨a, ha, hAa, hall a ha⟩
  · intro hnf i hi
    refine Classical.byContradiction fun hno => ?_
    obtain ⟨q, hq, hAq, hle⟩ := hnf (fun j => !inB y j) ⟨i, hi, by unfold inB; rw [decide_eq_false hno]; rfl⟩
    have h1 : rdB ls gs xs y q = true := rd_yes (by unfold inB at hAq; simpa using hAq) (by
      refine Int.le_trans (Int.le_of_eq (sm_congr fun j _ => ?_)) hle
      unfold lbF
      cases inB y j <;> rfl)
    have h2 : (q : Int) ∈ rdL ls gs xs y := mem_rd.2 ⟨q, hq, rfl, h1⟩
    rw [h.e] at h2
    cases h2
theorem lb_bd {ls : List (List Int)} {gs : List Int} (hB : HB ls gs) (bs : List Int) (i : Nat) : ∀ k : Nat, 0 ≤ sm k (lbF ls bs i) ∧ sm k (lbF ls bs i) ≤ 2 * k
  | 0 => by simp [sm]
  | k + 1 => by
    have h1 := lb_bd hB bs i k
    have h2 := hB.ent i k
    have e : sm (k + 1) (lbF ls bs i) = sm k (lbF ls bs i) + lbF ls bs i k := rfl
    have h3 : 0 ≤ lbF ls bs i k ∧ lbF ls bs i k ≤ 2 := by unfold lbF; split <;> omega
    omega
theorem lb_t {ls : List (List Int)} {bs : List Int} {i k : Nat} (h : (k : Int) ∈ bs) : sm (k + 1) (lbF ls bs i) = sm k (lbF ls bs i) := by
  have e : sm (k + 1) (lbF ls bs i) = sm k (lbF ls bs i) + lbF ls bs i k := rfl
  rw [e]; unfold lbF inB; rw [if_pos (decide_eq_true h)]; omega
theorem lb_f {ls : List (List Int)} {bs : List Int} {i k : Nat} (h : ¬ (k : Int) ∈ bs) : sm (k + 1) (lbF ls bs i) = sm k (lbF ls bs i) + (ls.getD i []).getD k 0 := by
  have e : sm (k + 1) (lbF ls bs i) = sm k (lbF ls bs i) + lbF ls bs i k := rfl
  rw [e]; unfold lbF inB; rw [if_neg (by rw [decide_eq_false h]; decide)]; rfl
theorem mem_getD {xs : List Int} {v : Int} : v ∈ xs ↔ ∃ k, k < xs.length ∧ xs.getD k 0 = v := by
  constructor
  · intro h
    obtain ⟨j, hj, rfl⟩ := List.getElem_of_mem h
    exact ⟨j, hj, by simp [List.getD, hj]⟩
  · rintro ⟨k, hk, rfl⟩
    simp [List.getD, hk]
structure RdI (ls : List (List Int)) (gs xs bs : List Int) (k : Nat) (x : HD × List Int) : Prop where
  le : k ≤ gs.length
  eq : x.2 = rdK ls gs xs bs k
  ok : goI x
theorem RdI.zero (ls : List (List Int)) (gs xs bs : List Int) : RdI ls gs xs bs 0 (none, []) := ⟨Nat.zero_le _, rfl, goI_nil⟩
theorem RdI.skip {ls : List (List Int)} {gs xs bs : List Int} {k : Nat} {x : HD × List Int} (h : RdI ls gs xs bs k x) (hk : k < gs.length) (hb : rdB ls gs xs bs k = false) : RdI ls gs xs bs (k + 1) x :=
  ⟨hk, by rw [h.eq]; show _ = if rdB ls gs xs bs k = true then _ else _; rw [if_neg (by rw [hb]; decide)], h.ok⟩
theorem RdI.step {ls : List (List Int)} {gs xs bs : List Int} {k : Nat} {x : HD × List Int} {h' : HD} (h : RdI ls gs xs bs k x) (hk : k < gs.length) (hb : rdB ls gs xs bs k = true) (ho : goI (h', x.2 ++ [(k : Int)])) : RdI ls gs xs bs (k + 1) (h', x.2 ++ [(k : Int)]) :=
  ⟨hk, by show x.2 ++ _ = _; rw [h.eq]; show _ = if rdB ls gs xs bs k = true then _ else _; rw [if_pos hb], ho⟩
theorem RdI.len {ls : List (List Int)} {gs xs bs : List Int} {k : Nat} {x : HD × List Int} (h : RdI ls gs xs bs k x) : x.2.length ≤ k := by rw [h.eq]; exact rd_len _ _ _ _ _
section
variable {n : Nat} {w0 : World} {E : Env} {G : Heap} {d : Nat} {ty : TypeId} {pos : String} {aft : Array Edge} {g : Option (Nat × Bool)} {ops : Array Oper} {Q : Exit → Act → World → Prop} {l : List Oper}
/-- s = append(s, xs...), both of the call's own. -/
theorem TL.appendII {s x : Operand} {x0 x1 : HD × List Int} {R : Heap} (hsv : evo E s = some (gvI x0)) (hx : evo E x = some (gvI x1)) (hm : ∀ y ∈ gbI x1, y ∈ G) (hok1 : goI x1)
    (hok : goI x0) (hT : TakeH x0.1 3 (ival x0.2) G R) (hb : x0.2.length ≤ 1000000) (hb2 : x1.2.length ≤ 1000000) (hg : wants ops E g = some true) (hd : d < n)
    (h : ∀ h', goI (h', x0.2 ++ x1.2) → TL Try.prog n w0 ops Q l ((d, gvI (h', x0.2 ++ x1.2)) :: E) (gbI (h', x0.2 ++ x1.2) ++ R)) :
    TL Try.prog n w0 ops Q (⟨some d, .call { callee := .builtin .append, args := #[s, x], argTypes := #[23, 23] }, ty, pos, aft, g⟩ :: l) E G := by
  refine TL.append (news := ival x1.2) (m := x1.2.length) hsv hx Tb.sl_23 Tb.zi_3 rfl (by decide) hok hT (fun a w hs => src_g Tb.sl_23 hok1 hm (ival_one _) hs.new) (fun w' hN => src_g Tb.sl_23 hok1 hm (ival_one _) hN) (by omega) (by omega) hg hd (fun h' hok' _ => ?_)
  have hh := h h'
  unfold goI gvI gbI ival at hh
  simp only [List.map_append, List.length_append] at hh
  exact hh hok'
end
/-- What Lasts says. -/
structure LtP (ls : List (List Int)) (gs xs : List Int) (b : Bool) : Prop where
  bad : givI ls gs [xs] ≠ 0 → b = false
  ok : ¬ givI ls gs [xs] ≠ 0 → (b = true ↔ Lst gs.length (lk ls) (gd gs) (gd xs))
theorem LtP.unique {ls : List (List Int)} {gs xs : List Int} {a b : Bool} (h : LtP ls gs xs a) (k : LtP ls gs xs b) : a = b := by
  by_cases h0 : givI ls gs [xs] ≠ 0
  · rw [h.bad h0, k.bad h0]
  · rw [Bool.eq_iff_iff, h.ok h0, k.ok h0]
structure BuP (ls : List (List Int)) (gs xs y : List Int) : Prop where
  bad : givI ls gs [xs] ≠ 0 → y = []
  ok : ¬ givI ls gs [xs] ≠ 0 → BrP ls gs xs y
theorem BuP.unique {ls : List (List Int)} {gs xs y z : List Int} (h : BuP ls gs xs y) (k : BuP ls gs xs z) : y = z := by
  by_cases h0 : givI ls gs [xs] ≠ 0
  · rw [h.bad h0, k.bad h0]
  · exact (h.ok h0).unique (k.ok h0)
theorem BuP.len {ls : List (List Int)} {gs xs y : List Int} (h : BuP ls gs xs y) : y.length ≤ 1000000 := by
  by_cases h0 : givI ls gs [xs] ≠ 0
  · rw [h.bad h0]; exact Nat.zero_le _
  · have := (h.ok h0).i.goo.le
    have := (giv_hb h0).1.n
    omega
theorem lst_iff {ls : List (List Int)} {gs xs y : List Int} (hB : HB ls gs) (hl : xs.length = gs.length) (h0 : ∀ k, 0 ≤ xs.getD k 0) (h : BrP ls gs xs y) (hc : calmB ls gs xs = true) : y.length = xs.length ↔ Lst gs.length (lk ls) (gd gs) (gd xs) := by
  rw [hl, h.nf hB]
  exact ⟨fun h1 => ⟨fun i _ => h0 i, fun i hi => calm_at hc (by omega), h1⟩, fun h1 => h1.nf⟩
theorem lst_calm {ls : List (List Int)} {gs xs : List Int} (hl : xs.length = gs.length) (h : Lst gs.length (lk ls) (gd gs) (gd xs)) : calmB ls gs xs = true := calm_yes fun k hk => h.calm k (by omega)


set_option maxRecDepth 100000 in
theorem indexI_ok (w0 : World) (pl : Option Addr) (cl : Nat) (xs : List Int) (hx : IntsAt w0 pl xs) (hl : xs.length ≤ 1000000) (v : Int) :
    Calls Try.prog 107 #[.slice pl xs.length cl, .int .i64 v] w0 (Post (X := Int) (fun i => .int .i64 i) (fun i => (i = -1 ∧ ∀ j, j < xs.length → ¬ v = xs.getD j 0) ∨ (0 ≤ i ∧ ∃ k, k < xs.length ∧ v = xs.getD k 0)) (fun _ => []) w0) := by
  refine calls Try.func107 rfl (n := 19) rfl (by simp) ?_
  refine TC.seq ?_
  refine TC.region ?_
  refine TL.pure (PV.assign rfl) rfl (by decide) ?_
  refine TL.nil ?_
  refine TQ.thenC ?_
  refine TC.seq ?_
  refine TC.seq ?_
  refine TC.region ?_
  refine TL.pure (PV.move rfl) rfl (by decide) ?_
  refine TL.pure (PV.len rfl Tb.sl_23) rfl (by decide) ?_
  refine TL.pure (PV.move rfl) rfl (by decide) ?_
  refine TL.nil ?_
  refine TQ.thenC ?_
  refine TC.block ?_
  -- live and written in the loop, not told: [4]
  refine TC.loopG [0, 1, 7] (X := Nat) (fun k => k ≤ xs.length ∧ ∀ j, j < k → ¬ v = xs.getD j 0) (fun k => [(8, .int .i64 k)]) (fun k => xs.length - k) 0 ⟨Nat.zero_le _, fun j hj => absurd hj (Nat.not_lt_zero _)⟩ (by repeat (first | exact True.intro | refine And.intro rfl ?_)) ?_
  intro k hk
  refine TC.seq ?_
  refine TC.region ?_
  refine TL.pure (PV.lss rfl rfl) rfl (by decide) ?_
  refine TL.nil ?_
  refine TQ.thenC ?_
  refine TC.seq ?_
  first | refine TC.condD rfl (fun hlt => ?_) (fun hlt => ?_) | refine TC.cond rfl (fun hlt => ?_) (fun hlt => ?_)
  · skip
    refine TC.skip ?_
    refine TQ.thenC ?_
    refine TC.seq ?_
    refine TC.block ?_
    refine TC.seq ?_
    refine TC.region ?_
    refine TL.pure (PV.move rfl) rfl (by decide) ?_
    refine TL.pure (PV.assign rfl) rfl (by decide) ?_
    refine TL.nil ?_
    refine TQ.thenC ?_
    refine TC.seq ?_
    obtain ⟨q2, hq2p, hq2⟩ := hx k (by omega)
    refine TC.region ?_
    refine TL.pure (PV.move rfl) rfl (by decide) ?_
    refine TL.pure (PV.move rfl) rfl (by decide) ?_
    refine TL.pure (PV.move rfl) rfl (by decide) ?_
    refine TL.pure (PV.indexA rfl hq2p rfl Tb.elm_23 rfl (by omega)) rfl (by decide) ?_
    refine TL.pure (PV.loadOld rfl Tb.one_3 hq2) rfl (by decide) ?_
    refine TL.pure (PV.eql rfl rfl) rfl (by decide) ?_
    refine TL.nil ?_
    refine TQ.thenC ?_
    first | refine TC.condD rfl (fun hno => ?_) (fun hno => ?_) | refine TC.cond rfl (fun hno => ?_) (fun hno => ?_)
    · skip
      refine TC.seq ?_
      refine TC.region ?_
      refine TL.pure (PV.move rfl) rfl (by decide) ?_
      refine TL.pure (PV.assign rfl) rfl (by decide) ?_
      refine TL.nil ?_
      refine TQ.thenC ?_
      refine TC.ret ?_
      refine TQ.blkR ?_
      refine TQ.thenR ?_
      refine TQ.thenR ?_
      refine TQ.blkR ?_
      refine TQ.thenR ?_
      refine TQ.retE1 rfl rfl ?_
      first | exact ⟨k, rfl, .inr ⟨by omega, k, by omega, hno⟩, List.nil_sublist _⟩ | exact ⟨-1, rfl, .inl ⟨rfl, fun j hj => hk.2 j (by omega)⟩, List.nil_sublist _⟩
    · skip
      refine TC.skip ?_
      refine TQ.blkN ?_
      refine TQ.thenC ?_
      refine TC.region ?_
      refine TL.pure (PV.add rfl rfl (by omega)) rfl (by decide) ?_
      refine TL.pure (PV.move rfl) rfl (by decide) ?_
      refine TL.nil ?_
      refine TQ.thenN ?_
      refine TQ.backK (k + 1) (by repeat (first | exact True.intro | refine And.intro rfl ?_)) (by repeat (first | exact True.intro | refine And.intro rfl ?_)) (by repeat (first | exact List.Sublist.slnil | exact List.nil_sublist _ | exact List.Sublist.refl _ | refine List.Sublist.cons_cons _ ?_ | refine List.Sublist.cons _ ?_ | refine List.Sublist.trans ?_ (List.sublist_append_right _ _))) ⟨by omega, fun j hj => if e : j < k then hk.2 j e else (show k = j by omega) ▸ hno⟩ (by omega)
  · skip
    refine TC.exit ?_
    refine TQ.thenE ?_
    refine TQ.thenE ?_
    refine TQ.blkS ?_
    refine TQ.thenC ?_
    refine TC.seq ?_
    refine TC.region ?_
    refine TL.pure (PV.assign rfl) rfl (by decide) ?_
    refine TL.nil ?_
    refine TQ.thenC ?_
    refine TC.ret ?_
    refine TQ.retE1 rfl rfl ?_
    first | exact ⟨k, rfl, .inr ⟨by omega, k, by omega, hno⟩, List.nil_sublist _⟩ | exact ⟨-1, rfl, .inl ⟨rfl, fun j hj => hk.2 j (by omega)⟩, List.nil_sublist _⟩

set_option maxRecDepth 100000 in
theorem containsI_ok (w0 : World) (pl : Option Addr) (cl : Nat) (xs : List Int) (hx : IntsAt w0 pl xs) (hl : xs.length ≤ 1000000) (v : Int) :
    Calls Try.prog 104 #[.slice pl xs.length cl, .int .i64 v] w0 (Post (X := Unit) (fun _ => .bool (decide (v ∈ xs))) (fun _ => True) (fun _ => []) w0) := by
  refine calls Try.func104 rfl (n := 9) rfl (by simp) ?_
  refine TC.seq ?_
  refine TC.region ?_
  refine TL.pure (PV.assign rfl) rfl (by decide) ?_
  refine TL.nil ?_
  refine TQ.thenC ?_
  refine TC.seq ?_
  refine TC.region ?_
  refine TL.pure (PV.move rfl) rfl (by decide) ?_
  refine TL.pure (PV.move rfl) rfl (by decide) ?_
  refine TL.call rfl Tb.gofn_107 (fun a w hs => indexI_ok w _ _ xs (hx.new hs.new) hl v) rfl (by decide) (fun i9 hi9 => ?_)
  refine TL.pure (PV.geq rfl rfl) rfl (by decide) ?_
  refine TL.pure (PV.assign rfl) rfl (by decide) ?_
  refine TL.nil ?_
  refine TQ.thenC ?_
  refine TC.ret ?_
  refine TQ.retE1 rfl rfl ?_
  refine ⟨(), ?_, trivial, List.nil_sublist _⟩
  congr 1
  rw [decide_eq_decide, mem_getD]
  rcases hi9 with ⟨rfl, h9⟩ | ⟨h9, k, hk, hk2⟩
  · exact ⟨fun h => absurd h (by decide), fun ⟨k, hk, h⟩ => absurd h.symm (h9 k hk)⟩
  · exact ⟨fun _ => ⟨k, hk, hk2.symm⟩, fun _ => h9⟩

set_option maxRecDepth 100000 in
theorem linksBeside_ok (w0 : World) (p : Option Addr) (cp : Nat) (ls : List (List Int)) (hr : LsAt w0 p ls) (q : Option Addr) (cq : Nat) (gs : List Int) (hg : IntsAt w0 q gs) (hB : HB ls gs) (pl : Option Addr) (cl : Nat) (xs : List Int) (hx : IntsAt w0 pl xs) (hl : xs.length ≤ 1000000) (i : Nat) (hi : i < gs.length) :
    Calls Try.prog 105 #[hv p ls.length cp q gs.length cq, .int .i64 i, .slice pl xs.length cl] w0 (Post (X := Unit) (fun _ => .int .i64 (lbI ls gs xs i)) (fun _ => True) (fun _ => []) w0) := by
  have hn9 := hB.n
  have hl9 := hB.len
  have hrk := hB.rowl (k := i) (by omega)
  refine calls Try.func105 rfl (n := 30) rfl (by simp) ?_
  refine TC.seq ?_
  refine TC.region ?_
  refine TL.box rfl rfl (by decide) (fun b0 hb0 => ?_)
  refine TL.pure (PV.assign rfl) rfl (by decide) ?_
  refine TL.nil ?_
  refine TQ.thenC ?_
  refine TC.seq ?_
  refine TC.region ?_
  refine TL.pure (PV.assign rfl) rfl (by decide) ?_
  refine TL.nil ?_
  refine TQ.thenC ?_
  refine TC.seq ?_
  refine TC.seq ?_
  obtain ⟨q1, hq1p, p1, c1, hq1, hi1⟩ := hr i (by omega)
  refine TC.region ?_
  refine TL.pure (PV.fieldAddr rfl Tb.fo_25_0) rfl (by decide) ?_
  refine TL.pure (PV.load rfl Tb.one_22 (by repeat (first | exact List.Mem.head _ | refine List.Mem.tail _ ?_ | refine List.mem_append_right _ ?_)) rfl) rfl (by decide) ?_
  refine TL.pure (PV.move rfl) rfl (by decide) ?_
  refine TL.pure (PV.indexA rfl hq1p rfl Tb.elm_22 rfl (by omega)) rfl (by decide) ?_
  refine TL.pure (PV.loadOld rfl Tb.one_23 hq1) rfl (by decide) ?_
  refine TL.pure (PV.len rfl Tb.sl_23) rfl (by decide) ?_
  refine TL.pure (PV.move rfl) rfl (by decide) ?_
  refine TL.nil ?_
  refine TQ.thenC ?_
  refine TC.block ?_
  refine TC.loopG [2, 6, 14, 15] (X := Nat) (fun k => k ≤ gs.length) (fun k => [(16, .int .i64 k), (7, .int .i64 (sm k (lbF ls xs i)))]) (fun k => gs.length - k) 0 (Nat.zero_le _) (by repeat (first | exact True.intro | refine And.intro rfl ?_)) ?_
  intro k hk
  refine TC.seq ?_
  refine TC.region ?_
  refine TL.pure (PV.lss rfl rfl) rfl (by decide) ?_
  refine TL.nil ?_
  refine TQ.thenC ?_
  refine TC.seq ?_
  first | refine TC.condD rfl (fun hlt => ?_) (fun hlt => ?_) | refine TC.cond rfl (fun hlt => ?_) (fun hlt => ?_)
  · skip
    refine TC.skip ?_
    refine TQ.thenC ?_
    refine TC.seq ?_
    refine TC.block ?_
    refine TC.seq ?_
    obtain ⟨q2, hq2p, hq2⟩ := hi1 k (by omega)
    have hen : 0 ≤ (ls.getD i []).getD k 0 ∧ (ls.getD i []).getD k 0 ≤ 2 := hB.ent i k
    have hlb := lb_bd hB xs i k
    refine TC.region ?_
    refine TL.pure (PV.move rfl) rfl (by decide) ?_
    refine TL.pure (PV.indexA rfl hq2p rfl Tb.elm_23 rfl (by omega)) rfl (by decide) ?_
    refine TL.pure (PV.loadOld rfl Tb.one_3 hq2) rfl (by decide) ?_
    refine TL.pure (PV.assign rfl) rfl (by decide) ?_
    refine TL.pure (PV.assign rfl) rfl (by decide) ?_
    refine TL.nil ?_
    refine TQ.thenC ?_
    refine TC.seq ?_
    refine TC.region ?_
    refine TL.pure (PV.move rfl) rfl (by decide) ?_
    refine TL.pure (PV.move rfl) rfl (by decide) ?_
    refine TL.call rfl Tb.gofn_104 (fun a w hs => containsI_ok w _ _ _ (hx.new hs.new) hl _) rfl (by decide) (fun _ _ => ?_)
    refine TL.pure ((by first | exact PV.notD rfl | exact PV.not rfl)) rfl (by decide) ?_
    refine TL.nil ?_
    refine TQ.thenC ?_
    first | refine TC.condD rfl (fun hin => ?_) (fun hin => ?_) | refine TC.cond rfl (fun hin => ?_) (fun hin => ?_)
    · skip
      refine TC.region ?_
      refine TL.pure (PV.move rfl) rfl (by decide) ?_
      refine TL.pure (PV.move rfl) rfl (by decide) ?_
      refine TL.pure (PV.add rfl rfl (by omega)) rfl (by decide) ?_
      refine TL.pure (PV.assign rfl) rfl (by decide) ?_
      refine TL.nil ?_
      refine TQ.blkN ?_
      refine TQ.thenC ?_
      refine TC.region ?_
      refine TL.pure (PV.add rfl rfl (by omega)) rfl (by decide) ?_
      refine TL.pure (PV.move rfl) rfl (by decide) ?_
      refine TL.nil ?_
      refine TQ.thenN ?_
      refine TQ.backK (k + 1) (by refine And.intro rfl (And.intro ?_ True.intro); show some (Value.int .i64 _) = some (Value.int .i64 _); first | rw [lb_f (by simpa using hin)] | rw [lb_t (by simpa using hin)]) (by repeat (first | exact True.intro | refine And.intro rfl ?_)) (by repeat (first | exact List.Sublist.slnil | exact List.nil_sublist _ | exact List.Sublist.refl _ | refine List.Sublist.cons_cons _ ?_ | refine List.Sublist.cons _ ?_ | refine List.Sublist.trans ?_ (List.sublist_append_right _ _))) (by omega) (by omega)
    · skip
      refine TC.skip ?_
      refine TQ.blkN ?_
      refine TQ.thenC ?_
      refine TC.region ?_
      refine TL.pure (PV.add rfl rfl (by omega)) rfl (by decide) ?_
      refine TL.pure (PV.move rfl) rfl (by decide) ?_
      refine TL.nil ?_
      refine TQ.thenN ?_
      refine TQ.backK (k + 1) (by refine And.intro rfl (And.intro ?_ True.intro); show some (Value.int .i64 _) = some (Value.int .i64 _); first | rw [lb_f (by simpa using hin)] | rw [lb_t (by simpa using hin)]) (by repeat (first | exact True.intro | refine And.intro rfl ?_)) (by repeat (first | exact List.Sublist.slnil | exact List.nil_sublist _ | exact List.Sublist.refl _ | refine List.Sublist.cons_cons _ ?_ | refine List.Sublist.cons _ ?_ | refine List.Sublist.trans ?_ (List.sublist_append_right _ _))) (by omega) (by omega)
  · skip
    refine TC.exit ?_
    refine TQ.thenE ?_
    refine TQ.thenE ?_
    refine TQ.blkS ?_
    refine TQ.thenC ?_
    refine TC.seq ?_
    refine TC.region ?_
    refine TL.pure (PV.move rfl) rfl (by decide) ?_
    refine TL.pure (PV.assign rfl) rfl (by decide) ?_
    refine TL.nil ?_
    refine TQ.thenC ?_
    refine TC.ret ?_
    refine TQ.retE1 rfl rfl ?_
    exact ⟨(), by rw [show k = gs.length by omega], trivial, List.nil_sublist _⟩

set_option maxRecDepth 100000 in
set_option maxHeartbeats 4000000 in
theorem burn_ok (w0 : World) (p : Option Addr) (cp : Nat) (ls : List (List Int)) (hr : LsAt w0 p ls) (q : Option Addr) (cq : Nat) (gs : List Int) (hg : IntsAt w0 q gs) (hB : HB ls gs) (pl : Option Addr) (cl : Nat) (xs : List Int) (hx : IntsAt w0 pl xs) (N : Nat) (hN : xs.length = N) (hn : xs.length = gs.length) (hx0 : ∀ k, 0 ≤ xs.getD k 0 ∧ xs.getD k 0 ≤ 30) :
    Calls Try.prog 86 #[hv p ls.length cp q gs.length cq, .slice pl N cl] w0 (Post (X := HD × List Int) (fun y => gvI y) (fun y => BrP ls gs xs y.2 ∧ goI y) (fun y => gbI y) w0) := by
  have hn9 := hB.n
  refine calls Try.func86 rfl (n := 40) rfl (by simp) ?_
  refine TC.seq ?_
  refine TC.region ?_
  refine TL.box rfl rfl (by decide) (fun b0 hb0 => ?_)
  refine TL.pure (PV.assign rfl) rfl (by decide) ?_
  refine TL.nil ?_
  refine TQ.thenC ?_
  refine TC.seq ?_
  refine TC.region ?_
  refine TL.pure (PV.assign rfl) rfl (by decide) ?_
  refine TL.nil ?_
  refine TQ.thenC ?_
  refine TC.block ?_
  -- live and written in the loop, not told: [4]
  refine TC.lit [(1, _), (2, _), (5, _)] (by repeat (first | exact True.intro | refine And.intro rfl ?_)) ?_
  refine TC.loopK [1, 2] (X := HD × List Int) (fun x => BrI ls gs xs x.2 ∧ goI x) (fun x => [(5, gvI x)]) (fun x => gbI x ++ [(b0, Obj.cells #[.slice p ls.length cp, .slice q gs.length cq] 25 (0, 0))]) (fun x => gs.length - x.2.length) (none, []) ⟨BrI.zero _ _ _, goI_nil⟩ (by repeat (first | exact True.intro | refine And.intro rfl ?_)) (by repeat (first | exact List.Sublist.slnil | exact List.nil_sublist _ | exact List.Sublist.refl _ | refine List.Sublist.cons_cons _ ?_ | refine List.Sublist.cons _ ?_ | refine List.Sublist.trans ?_ (List.sublist_append_right _ _))) ?_
  intro x hx9
  have hgl := hx9.1.goo.le
  refine TC.lit [(1, _), (2, _), (5, _)] (by repeat (first | exact True.intro | refine And.intro rfl ?_)) ?_
  refine TC.block ?_
  refine TC.seq ?_
  refine TC.region ?_
  refine TL.pure (PV.assign rfl) rfl (by decide) ?_
  refine TL.nil ?_
  refine TQ.thenC ?_
  refine TC.seq ?_
  refine TC.seq ?_
  refine TC.region ?_
  refine TL.pure (PV.move rfl) rfl (by decide) ?_
  refine TL.pure (PV.len rfl Tb.sl_23) rfl (by decide) ?_
  refine TL.pure (PV.move rfl) rfl (by decide) ?_
  refine TL.nil ?_
  refine TQ.thenC ?_
  refine TC.block ?_
  refine TC.lit [(1, _), (2, _), (5, _), (6, _), (9, _), (10, _)] (by repeat (first | exact True.intro | refine And.intro rfl ?_)) ?_
  refine TC.loopK [1, 2, 4, 5, 9] (X := Nat × HD × List Int) (fun k => RdI ls gs xs x.2 k.1 k.2) (fun k => [(10, .int .i64 k.1), (6, gvI k.2)]) (fun k => gbI k.2 ++ (gbI x ++ [(b0, Obj.cells #[.slice p ls.length cp, .slice q gs.length cq] 25 (0, 0))])) (fun k => gs.length - k.1) (0, none, []) (RdI.zero _ _ _ _) (by repeat (first | exact True.intro | refine And.intro rfl ?_)) (List.Sublist.refl _) ?_
  intro k hk
  have hkl := hk.le
  have hkn := hk.len
  refine TC.lit [(1, _), (2, _), (5, _), (6, _), (9, _), (10, _)] (by repeat (first | exact True.intro | refine And.intro rfl ?_)) ?_
  refine TC.seq ?_
  refine TC.region ?_
  refine TL.pure (PV.lss rfl rfl) rfl (by decide) ?_
  refine TL.nil ?_
  refine TQ.thenC ?_
  refine TC.seq ?_
  first | refine TC.condD rfl (fun hlt => ?_) (fun hlt => ?_) | refine TC.cond rfl (fun hlt => ?_) (fun hlt => ?_)
  · skip
    refine TC.skip ?_
    refine TQ.thenC ?_
    refine TC.seq ?_
    refine TC.block ?_
    refine TC.seq ?_
    refine TC.region ?_
    refine TL.pure (PV.move rfl) rfl (by decide) ?_
    refine TL.pure (PV.assign rfl) rfl (by decide) ?_
    refine TL.nil ?_
    refine TQ.thenC ?_
    refine TC.seq ?_
    obtain ⟨q2, hq2p, hq2⟩ := hx k.1 (by omega)
    refine TC.any Tb.mixed rfl rfl ?_
    refine TA.op (OpOK.pure (PV.move rfl) rfl (by decide)) (by decide) ?_
    refine TA.op (OpOK.pure (PV.move rfl) rfl (by decide)) (by decide) ?_
    refine TA.op (OpOK.call rfl Tb.gofn_104 (fun a w hs => (by rw [show gvI x = .slice (gp x.1) x.2.length (gc x.1) from gval_eq hx9.2]; exact containsI_ok w _ _ x.2 (IntsAt.g (x := x) hs.new (fun yy hyy => by repeat (first | exact List.mem_append_left _ hyy | exact List.mem_append_left _ (List.mem_append_right _ hyy) | exact List.mem_append_left _ (List.mem_append_left _ hyy) | refine List.mem_append_right _ ?_ | refine List.Mem.tail _ ?_)) hx9.2) (by omega) _)) rfl (by decide)) (by decide) ?_
    refine TA.op (OpOK.pure ((by first | exact PV.notD rfl | exact PV.not rfl)) rfl (by decide)) (by decide) ?_
    refine TA.op (OpOK.pure (PV.move rfl) rfl (by decide)) (by decide) ?_
    first | refine TA.splitD 17 rfl (fun g1 => ?_) (fun g1 => ?_) | refine TA.split 17 rfl (fun g1 => ?_) (fun g1 => ?_)
    · skip
      refine TA.op (OpOK.pure (PV.move rfl) rfl (by decide)) (by decide) ?_
      refine TA.op (OpOK.pure (PV.move rfl) rfl (by decide)) (by decide) ?_
      refine TA.op (OpOK.pure (PV.indexA rfl hq2p rfl Tb.elm_23 rfl (by omega)) rfl (by decide)) (by decide) ?_
      refine TA.op (OpOK.pure (PV.loadOld rfl Tb.one_3 hq2) rfl (by decide)) (by decide) ?_
      refine TA.op (OpOK.pure (PV.loadBox rfl Tb.agg_25 (by repeat (first | exact List.Mem.head _ | refine List.Mem.tail _ ?_ | refine List.mem_append_right _ ?_)) rfl) rfl (by decide)) (by decide) ?_
      refine TA.op (OpOK.pure (PV.move rfl) rfl (by decide)) (by decide) ?_
      refine TA.op (OpOK.pure (PV.move rfl) rfl (by decide)) (by decide) ?_
      refine TA.op (OpOK.call rfl Tb.gofn_105 (fun a w hs => (by rw [show gvI x = .slice (gp x.1) x.2.length (gc x.1) from gval_eq hx9.2]; exact linksBeside_ok w _ _ _ (hr.new hs.new) _ _ _ (hg.new hs.new) hB _ _ x.2 (IntsAt.g (x := x) hs.new (fun yy hyy => by repeat (first | exact List.mem_append_left _ hyy | exact List.mem_append_left _ (List.mem_append_right _ hyy) | exact List.mem_append_left _ (List.mem_append_left _ hyy) | refine List.mem_append_right _ ?_ | refine List.Mem.tail _ ?_)) hx9.2) (by omega) k.1 (by omega))) rfl (by decide)) (by decide) ?_
      refine TA.op (OpOK.pure (PV.geq rfl rfl) rfl (by decide)) (by decide) ?_
      refine TA.op (OpOK.pure (PV.pickT rfl rfl) rfl (by decide)) (by decide) ?_
      show TQ _ _ _ _ _
      refine TQ.thenC ?_
      first | refine TC.condD rfl (fun hb => ?_) (fun hb => ?_) | refine TC.cond rfl (fun hb => ?_) (fun hb => ?_)
      · skip
        refine TC.region ?_
        refine TL.pure (PV.move rfl) rfl (by decide) ?_
        refine TL.pure (PV.move rfl) rfl (by decide) ?_
        refine TL.buildSlice (cs := #[.int .i64 k.1]) rfl Tb.sl_23 Tb.zi_3 (by decide) (fill_i _) (by decide) rfl (by decide) (fun bE hbE => ?_)
        refine TL.appendI (x0 := k.2) rfl rfl (by repeat (first | exact List.Mem.head _ | refine List.Mem.tail _ ?_ | refine List.mem_append_right _ ?_)) hk.ok (by repeat (first | exact TakeH.here _ _ _ _ | apply TakeH.tail | apply TakeH.app)) (by omega) rfl (by decide) (fun hh hho => ?_)
        let nx : Nat × HD × List Int := (k.1 + 1, hh, k.2.2 ++ [(k.1 : Int)])
        have hn1 : nx.1 = k.1 + 1 := rfl
        have hnx : RdI ls gs xs x.2 nx.1 nx.2 := hk.step (by omega) (rd_yes (by simpa using g1) hb) hho
        refine TL.pure (PV.assign rfl) rfl (by decide) ?_
        refine TL.nil ?_
        refine TQ.blkN ?_
        refine TQ.thenC ?_
        refine TC.region ?_
        refine TL.pure (PV.add rfl rfl (by omega)) rfl (by decide) ?_
        refine TL.pure (PV.move rfl) rfl (by decide) ?_
        refine TL.nil ?_
        refine TQ.thenN ?_
        refine TQ.backK nx (by repeat (first | exact True.intro | refine And.intro rfl ?_)) (by repeat (first | exact True.intro | refine And.intro rfl ?_)) (by first | exact List.Sublist.refl _ | exact List.Sublist.append_left (List.Sublist.cons _ (List.Sublist.refl _)) _) hnx (by omega)
      · skip
        let nx : Nat × HD × List Int := (k.1 + 1, k.2)
        have hn1 : nx.1 = k.1 + 1 := rfl
        have hnx : RdI ls gs xs x.2 nx.1 nx.2 := hk.skip (by omega) (rd_low hb)
        refine TC.skip ?_
        refine TQ.blkN ?_
        refine TQ.thenC ?_
        refine TC.region ?_
        refine TL.pure (PV.add rfl rfl (by omega)) rfl (by decide) ?_
        refine TL.pure (PV.move rfl) rfl (by decide) ?_
        refine TL.nil ?_
        refine TQ.thenN ?_
        refine TQ.backK nx (by repeat (first | exact True.intro | refine And.intro rfl ?_)) (by repeat (first | exact True.intro | refine And.intro rfl ?_)) (by first | exact List.Sublist.refl _ | exact List.Sublist.append_left (List.Sublist.cons _ (List.Sublist.refl _)) _) hnx (by omega)
    · skip
      refine TA.op (OpOK.skip rfl) (by decide) ?_
      refine TA.op (OpOK.skip rfl) (by decide) ?_
      refine TA.op (OpOK.skip rfl) (by decide) ?_
      refine TA.op (OpOK.skip rfl) (by decide) ?_
      refine TA.op (OpOK.skip rfl) (by decide) ?_
      refine TA.op (OpOK.skip rfl) (by decide) ?_
      refine TA.op (OpOK.skip rfl) (by decide) ?_
      refine TA.op (OpOK.skip rfl) (by decide) ?_
      refine TA.op (OpOK.skip rfl) (by decide) ?_
      refine TA.op (OpOK.pure (PV.pickF rfl rfl) rfl (by decide)) (by decide) ?_
      show TQ _ _ _ _ _
      refine TQ.thenC ?_
      refine TC.condF rfl ?_
      let nx : Nat × HD × List Int := (k.1 + 1, k.2)
      have hn1 : nx.1 = k.1 + 1 := rfl
      have hnx : RdI ls gs xs x.2 nx.1 nx.2 := hk.skip (by omega) (rd_in (by simpa using g1))
      refine TC.skip ?_
      refine TQ.blkN ?_
      refine TQ.thenC ?_
      refine TC.region ?_
      refine TL.pure (PV.add rfl rfl (by omega)) rfl (by decide) ?_
      refine TL.pure (PV.move rfl) rfl (by decide) ?_
      refine TL.nil ?_
      refine TQ.thenN ?_
      refine TQ.backK nx (by repeat (first | exact True.intro | refine And.intro rfl ?_)) (by repeat (first | exact True.intro | refine And.intro rfl ?_)) (by first | exact List.Sublist.refl _ | exact List.Sublist.append_left (List.Sublist.cons _ (List.Sublist.refl _)) _) hnx (by omega)
  · skip
    refine TC.exit ?_
    refine TQ.thenE ?_
    refine TQ.thenE ?_
    refine TQ.blkS ?_
    refine TQ.thenC ?_
    refine TC.seq ?_
    refine TC.seq ?_
    have hke : k.1 = gs.length := by omega
    have h8 : k.2.2 = rdL ls gs xs x.2 := by have h9 := hk.eq; rw [hke] at h9; exact h9
    refine TC.region ?_
    refine TL.pure (PV.move rfl) rfl (by decide) ?_
    refine TL.pure (PV.lenG rfl hk.ok Tb.sl_23) rfl (by decide) ?_
    refine TL.pure (PV.eql rfl rfl) rfl (by decide) ?_
    refine TL.nil ?_
    refine TQ.thenC ?_
    first | refine TC.condD rfl (fun hz => ?_) (fun hz => ?_) | refine TC.cond rfl (fun hz => ?_) (fun hz => ?_)
    · skip
      refine TC.seq ?_
      refine TC.region ?_
      refine TL.pure (PV.move rfl) rfl (by decide) ?_
      refine TL.pure (PV.assign rfl) rfl (by decide) ?_
      refine TL.nil ?_
      refine TQ.thenC ?_
      refine TC.ret ?_
      refine TQ.thenR ?_
      refine TQ.blkR ?_
      refine TQ.thenR ?_
      refine TQ.blkR ?_
      refine TQ.retE1 rfl rfl ?_
      refine ⟨x, rfl, ⟨⟨hx9.1, ?_⟩, hx9.2⟩, ?_⟩
      · rw [← h8]
        exact List.eq_nil_of_length_eq_zero (by omega)
      · exact List.Sublist.trans (List.sublist_append_left _ _) (List.sublist_append_right _ _)
    · skip
      refine TC.skip ?_
      refine TQ.thenC ?_
      refine TC.region ?_
      refine TL.pure (PV.move rfl) rfl (by decide) ?_
      refine TL.pure (PV.move rfl) rfl (by decide) ?_
      refine TL.appendII (x0 := x) (x1 := k.2) rfl rfl (fun yy hyy => by repeat (first | exact List.mem_append_left _ hyy | exact List.mem_append_left _ (List.mem_append_right _ hyy) | exact List.mem_append_left _ (List.mem_append_left _ hyy) | refine List.mem_append_right _ ?_ | refine List.Mem.tail _ ?_)) hk.ok hx9.2 (by repeat (first | exact TakeH.here _ _ _ _ | apply TakeH.tail | apply TakeH.app)) (by omega) (by omega) rfl (by decide) (fun h2 hh2 => ?_)
      refine TL.pure (PV.assign rfl) rfl (by decide) ?_
      refine TL.nil ?_
      refine TQ.blkN ?_
      refine TQ.thenN ?_
      refine TQ.backK (h2, x.2 ++ k.2.2) (by repeat (first | exact True.intro | refine And.intro rfl ?_)) (by repeat (first | exact True.intro | refine And.intro rfl ?_)) (List.Sublist.append_left (List.sublist_append_right _ _) _) ⟨by have h7 := hx9.1.step; rw [← h8] at h7; exact h7, hh2⟩ (by have h7 := hx9.1.step.goo.le; rw [← h8, List.length_append] at h7; simp only [List.length_append] at h7 ⊢; omega)

set_option maxRecDepth 100000 in
set_option maxHeartbeats 1000000 in
theorem lasts_ok (w0 : World) (p : Option Addr) (cp : Nat) (ls : List (List Int)) (hr : LsAt w0 p ls) (q : Option Addr) (cq : Nat) (gs : List Int) (hg : IntsAt w0 q gs) (hB : HB ls gs) (pl : Option Addr) (cl : Nat) (xs : List Int) (hx : IntsAt w0 pl xs) (N : Nat) (hN : xs.length = N) (hn : xs.length = gs.length) (hx0 : ∀ k, 0 ≤ xs.getD k 0 ∧ xs.getD k 0 ≤ 30) :
    Calls Try.prog 84 #[hv p ls.length cp q gs.length cq, .slice pl N cl] w0 (Post (X := Bool) (fun b => .bool b) (fun b => b = true ↔ Lst gs.length (lk ls) (gd gs) (gd xs)) (fun _ => []) w0) := by
  refine calls Try.func84 rfl (n := 17) rfl (by simp) ?_
  refine TC.seq ?_
  refine TC.region ?_
  refine TL.box rfl rfl (by decide) (fun b0 hb0 => ?_)
  refine TL.pure (PV.assign rfl) rfl (by decide) ?_
  refine TL.nil ?_
  refine TQ.thenC ?_
  refine TC.seq ?_
  refine TC.region ?_
  refine TL.pure (PV.loadBox rfl Tb.agg_25 (by repeat (first | exact List.Mem.head _ | refine List.Mem.tail _ ?_ | refine List.mem_append_right _ ?_)) rfl) rfl (by decide) ?_
  refine TL.pure (PV.move rfl) rfl (by decide) ?_
  refine TL.call rfl Tb.gofn_68 (fun a w hs => isCalm_ok w _ _ _ (hr.new hs.new) _ _ _ (hg.new hs.new) hB _ _ _ (hx.new hs.new) _ hN hn) rfl (by decide) (fun _ _ => ?_)
  refine TL.pure (PV.move rfl) rfl (by decide) ?_
  first | refine TL.splitD 8 rfl (fun g1 => ?_) (fun g1 => ?_) | refine TL.split 8 rfl (fun g1 => ?_) (fun g1 => ?_)
  · skip
    refine TL.pure (PV.loadBox rfl Tb.agg_25 (by repeat (first | exact List.Mem.head _ | refine List.Mem.tail _ ?_ | refine List.mem_append_right _ ?_)) rfl) rfl (by decide) ?_
    refine TL.pure (PV.move rfl) rfl (by decide) ?_
    refine TL.call rfl Tb.gofn_86 (fun a w hs => burn_ok w _ _ _ (hr.new hs.new) _ _ _ (hg.new hs.new) hB _ _ _ (hx.new hs.new) _ hN hn hx0) rfl (by decide) (fun y9 hy9 => ?_)
    refine TL.pure (PV.lenG rfl hy9.2 Tb.sl_23) rfl (by decide) ?_
    refine TL.pure (PV.move rfl) rfl (by decide) ?_
    refine TL.pure (PV.len rfl Tb.sl_23) rfl (by decide) ?_
    refine TL.pure (PV.eql rfl rfl) rfl (by decide) ?_
    refine TL.pure (PV.pickT rfl rfl) rfl (by decide) ?_
    refine TL.pure (PV.assign rfl) rfl (by decide) ?_
    refine TL.nil ?_
    refine TQ.thenC ?_
    refine TC.ret ?_
    refine TQ.retE1 rfl rfl ?_
    first | exact ⟨_, rfl, by rw [decide_eq_true_eq, ← lst_iff hB hn (fun k => (hx0 k).1) hy9.1 g1]; omega, List.nil_sublist _⟩ | exact ⟨false, rfl, ⟨fun h => (by cases h), fun h => by rw [lst_calm hn h] at g1; exact absurd g1 (by decide)⟩, List.nil_sublist _⟩
  · skip
    refine TL.skip rfl (fun k hk => by cases hk; decide) ?_
    refine TL.skip rfl (fun k hk => by cases hk; decide) ?_
    refine TL.skip rfl (fun k hk => by cases hk; decide) ?_
    refine TL.skip rfl (fun k hk => by cases hk; decide) ?_
    refine TL.skip rfl (fun k hk => by cases hk; decide) ?_
    refine TL.skip rfl (fun k hk => by cases hk; decide) ?_
    refine TL.skip rfl (fun k hk => by cases hk; decide) ?_
    refine TL.pure (PV.pickF rfl rfl) rfl (by decide) ?_
    refine TL.pure (PV.assign rfl) rfl (by decide) ?_
    refine TL.nil ?_
    refine TQ.thenC ?_
    refine TC.ret ?_
    refine TQ.retE1 rfl rfl ?_
    first | exact ⟨_, rfl, by rw [decide_eq_true_eq, ← lst_iff hB hn (fun k => (hx0 k).1) hy9.1 g1]; omega, List.nil_sublist _⟩ | exact ⟨false, rfl, ⟨fun h => (by cases h), fun h => by rw [lst_calm hn h] at g1; exact absurd g1 (by decide)⟩, List.nil_sublist _⟩

set_option maxRecDepth 100000 in
theorem Lasts_ok (w0 : World) (p : Option Addr) (cp : Nat) (ls : List (List Int)) (hr : LsAt w0 p ls) (q : Option Addr) (cq : Nat) (gs : List Int) (hg : IntsAt w0 q gs) (hlo : ∀ k, (ls.getD k []).length ≤ 1000000) (pl : Option Addr) (cl : Nat) (xs : List Int) (hx : IntsAt w0 pl xs) (hxo : xs.length ≤ 1000000) :
    Calls Try.prog 41 #[hv p ls.length cp q gs.length cq, .slice pl xs.length cl] w0 (Post (X := Bool) (fun b => .tuple #[.bool b, .int .i64 (givI ls gs [xs])]) (fun b => LtP ls gs xs b) (fun _ => []) w0) := by
  refine calls Try.func41 rfl (n := 17) rfl (by simp) ?_
  refine TC.seq ?_
  refine TC.region ?_
  refine TL.box rfl rfl (by decide) (fun b0 hb0 => ?_)
  refine TL.pure (PV.assign rfl) rfl (by decide) ?_
  refine TL.pure (PV.assign rfl) rfl (by decide) ?_
  refine TL.nil ?_
  refine TQ.thenC ?_
  refine TC.seq ?_
  refine TC.seq ?_
  refine TC.region ?_
  refine TL.pure (PV.loadBox rfl Tb.agg_25 (by repeat (first | exact List.Mem.head _ | refine List.Mem.tail _ ?_ | refine List.mem_append_right _ ?_)) rfl) rfl (by decide) ?_
  refine TL.pure (PV.move rfl) rfl (by decide) ?_
  refine TL.buildSlice (cs := #[.slice pl xs.length cl]) rfl Tb.sl_22 Tb.zi_23 (by decide) (fill_o _ _ _) (by decide) rfl (by decide) (fun bS hbS => ?_)
  refine TL.call rfl Tb.gofn_67 (fun a w hs => validateHeapings_ok w _ _ _ (hr.new hs.new) _ _ _ (hg.new hs.new) hlo _ 1 [xs] (LsAt.one hs.new (by repeat (first | exact List.Mem.head _ | refine List.Mem.tail _ ?_ | refine List.mem_append_right _ ?_)) (hx.new hs.new)) (by simp) (one_len hxo)) rfl (by decide) (fun _ _ => ?_)
  refine TL.pure (PV.assign rfl) rfl (by decide) ?_
  refine TL.nil ?_
  refine TQ.thenC ?_
  refine TC.seq ?_
  refine TC.region ?_
  refine TL.pure (PV.move rfl) rfl (by decide) ?_
  refine TL.pure (PV.neq rfl rfl) rfl (by decide) ?_
  refine TL.nil ?_
  refine TQ.thenC ?_
  first | refine TC.condD rfl (fun hbad => ?_) (fun hbad => ?_) | refine TC.cond rfl (fun hbad => ?_) (fun hbad => ?_)
  · skip
    refine TC.seq ?_
    refine TC.region ?_
    refine TL.pure (PV.move rfl) rfl (by decide) ?_
    refine TL.pure (PV.assign rfl) rfl (by decide) ?_
    refine TL.pure (PV.assign rfl) rfl (by decide) ?_
    refine TL.nil ?_
    refine TQ.thenC ?_
    refine TC.ret ?_
    refine TQ.thenR ?_
    refine TQ.retE2 rfl rfl rfl ?_
    exact ⟨false, rfl, ⟨fun _ => rfl, fun h2 => absurd hbad h2⟩, List.nil_sublist _⟩
  · skip
    refine TC.skip ?_
    refine TQ.thenC ?_
    refine TC.seq ?_
    refine TC.region ?_
    refine TL.pure (PV.loadBox rfl Tb.agg_25 (by repeat (first | exact List.Mem.head _ | refine List.Mem.tail _ ?_ | refine List.mem_append_right _ ?_)) rfl) rfl (by decide) ?_
    refine TL.pure (PV.move rfl) rfl (by decide) ?_
    refine TL.call rfl Tb.gofn_84 (fun a w hs => lasts_ok w _ _ _ (hr.new hs.new) _ _ _ (hg.new hs.new) (giv_hb hbad).1 _ _ _ (hx.new hs.new) _ rfl (giv_ne hbad).1 (giv_ne hbad).2) rfl (by decide) (fun b9 hb9 => ?_)
    refine TL.pure (PV.assign rfl) rfl (by decide) ?_
    refine TL.pure (PV.assign rfl) rfl (by decide) ?_
    refine TL.nil ?_
    refine TQ.thenC ?_
    refine TC.ret ?_
    refine TQ.retE2 rfl rfl rfl ?_
    exact ⟨b9, by rw [Decidable.of_not_not hbad], ⟨fun h2 => absurd h2 hbad, fun _ => hb9⟩, List.nil_sublist _⟩

set_option maxRecDepth 100000 in
theorem Burn_ok (w0 : World) (p : Option Addr) (cp : Nat) (ls : List (List Int)) (hr : LsAt w0 p ls) (q : Option Addr) (cq : Nat) (gs : List Int) (hg : IntsAt w0 q gs) (hlo : ∀ k, (ls.getD k []).length ≤ 1000000) (pl : Option Addr) (cl : Nat) (xs : List Int) (hx : IntsAt w0 pl xs) (hxo : xs.length ≤ 1000000) :
    Calls Try.prog 43 #[hv p ls.length cp q gs.length cq, .slice pl xs.length cl] w0 (Post (X := HD × List Int) (fun y => .tuple #[gvI y, .int .i64 (givI ls gs [xs])]) (fun y => BuP ls gs xs y.2 ∧ goI y) (fun y => gbI y) w0) := by
  refine calls Try.func43 rfl (n := 17) rfl (by simp) ?_
  refine TC.seq ?_
  refine TC.region ?_
  refine TL.box rfl rfl (by decide) (fun b0 hb0 => ?_)
  refine TL.pure (PV.assign rfl) rfl (by decide) ?_
  refine TL.pure (PV.assign rfl) rfl (by decide) ?_
  refine TL.nil ?_
  refine TQ.thenC ?_
  refine TC.seq ?_
  refine TC.seq ?_
  refine TC.region ?_
  refine TL.pure (PV.loadBox rfl Tb.agg_25 (by repeat (first | exact List.Mem.head _ | refine List.Mem.tail _ ?_ | refine List.mem_append_right _ ?_)) rfl) rfl (by decide) ?_
  refine TL.pure (PV.move rfl) rfl (by decide) ?_
  refine TL.buildSlice (cs := #[.slice pl xs.length cl]) rfl Tb.sl_22 Tb.zi_23 (by decide) (fill_o _ _ _) (by decide) rfl (by decide) (fun bS hbS => ?_)
  refine TL.call rfl Tb.gofn_67 (fun a w hs => validateHeapings_ok w _ _ _ (hr.new hs.new) _ _ _ (hg.new hs.new) hlo _ 1 [xs] (LsAt.one hs.new (by repeat (first | exact List.Mem.head _ | refine List.Mem.tail _ ?_ | refine List.mem_append_right _ ?_)) (hx.new hs.new)) (by simp) (one_len hxo)) rfl (by decide) (fun _ _ => ?_)
  refine TL.pure (PV.assign rfl) rfl (by decide) ?_
  refine TL.nil ?_
  refine TQ.thenC ?_
  refine TC.seq ?_
  refine TC.region ?_
  refine TL.pure (PV.move rfl) rfl (by decide) ?_
  refine TL.pure (PV.neq rfl rfl) rfl (by decide) ?_
  refine TL.nil ?_
  refine TQ.thenC ?_
  first | refine TC.condD rfl (fun hbad => ?_) (fun hbad => ?_) | refine TC.cond rfl (fun hbad => ?_) (fun hbad => ?_)
  · skip
    refine TC.seq ?_
    refine TC.region ?_
    refine TL.pure (PV.move rfl) rfl (by decide) ?_
    refine TL.pure (PV.assign rfl) rfl (by decide) ?_
    refine TL.pure (PV.assign rfl) rfl (by decide) ?_
    refine TL.nil ?_
    refine TQ.thenC ?_
    refine TC.ret ?_
    refine TQ.thenR ?_
    refine TQ.retE2 rfl rfl rfl ?_
    exact ⟨(none, []), rfl, ⟨⟨fun _ => rfl, fun h2 => absurd hbad h2⟩, goI_nil⟩, List.nil_sublist _⟩
  · skip
    refine TC.skip ?_
    refine TQ.thenC ?_
    refine TC.seq ?_
    refine TC.region ?_
    refine TL.pure (PV.loadBox rfl Tb.agg_25 (by repeat (first | exact List.Mem.head _ | refine List.Mem.tail _ ?_ | refine List.mem_append_right _ ?_)) rfl) rfl (by decide) ?_
    refine TL.pure (PV.move rfl) rfl (by decide) ?_
    refine TL.call rfl Tb.gofn_86 (fun a w hs => burn_ok w _ _ _ (hr.new hs.new) _ _ _ (hg.new hs.new) (giv_hb hbad).1 _ _ _ (hx.new hs.new) _ rfl (giv_ne hbad).1 (giv_ne hbad).2) rfl (by decide) (fun y9 hy9 => ?_)
    refine TL.pure (PV.assign rfl) rfl (by decide) ?_
    refine TL.pure (PV.assign rfl) rfl (by decide) ?_
    refine TL.nil ?_
    refine TQ.thenC ?_
    refine TC.ret ?_
    refine TQ.retE2 rfl rfl rfl ?_
    exact ⟨y9, by rw [Decidable.of_not_not hbad], ⟨⟨fun h2 => absurd h2 hbad, fun _ => hy9.1⟩, hy9.2⟩, List.sublist_append_left _ _⟩

end Go.Proofs.Ytgafpkcnhpoobaa
