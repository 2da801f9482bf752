/- Lists of nodes and drains, the reference of cuts, flows that are proved: contracts. -/
import Derived.Test.YtnlbngbbddhgeaaFq
set_option linter.unusedVariables false
set_option linter.unusedSimpArgs false
namespace Go.Proofs.Ytnlbngbbddhgeaa
open Go.Sx Go.RowKit


section
variable {P : Program} {n : Nat} {w0 : World} {E : Env}
theorem SOK.skipU {ops : Array Oper} {o : Oper} {GJ : Heap} (hg : undoneB ops E o.guard = true) : SOK P n w0 ops GJ E o undef := by
  intro F' hF a w hs
  have := S_undone (hs.env_le hF) (o := o) hg
  rw [if_neg (by simp [this])]
end
theorem ints_ext {xs ys : List Int} (hl : xs.length = ys.length) (h : ∀ j, j < xs.length → xs.getD j 0 = ys.getD j 0) : xs = ys := by
  apply List.ext_getElem hl
  intro j h1 h2
  have := h j h1
  simpa [List.getD, h1, h2] using this
/-- A value reads as a list. -/
def IsI (w : World) (v : Value) (xs : List Int) : Prop := ∃ p c, v = .slice p xs.length c ∧ IntsAt w p xs
theorem IsI.of {w : World} {p : Option Addr} {c : Nat} {xs : List Int} (h : IntsAt w p xs) : IsI w (.slice p xs.length c) xs := ⟨p, c, rfl, h⟩
theorem IsI.ofl {w : World} {p : Option Addr} {c m : Nat} {xs : List Int} (hm : xs.length = m) (h : IntsAt w p xs) : IsI w (.slice p m c) xs := by subst hm; exact ⟨p, c, rfl, h⟩
theorem IsI.new {w0 w : World} {G : Heap} {v : Value} {xs : List Int} (h : IsI w0 v xs) (hn : New w0 w G) : IsI w v xs := by
  obtain ⟨p, c, rfl, hx⟩ := h
  exact ⟨p, c, rfl, hx.new hn⟩
theorem IsI.g {w0 w : World} {G : Heap} {h : HD} {xs : List Int} (hn : New w0 w G) (hm : ∀ y ∈ gbI (h, xs), y ∈ G) (ho : goI (h, xs)) : IsI w (gval h xs.length) xs :=
  ⟨_, _, gval_eq ho, IntsAt.g (x := (h, xs)) hn hm ho⟩
theorem IsI.nil {w : World} : IsI w (.slice none 0 0) [] := ⟨none, 0, rfl, fun j hj => absurd hj (Nat.not_lt_zero _)⟩
theorem goI_nil : goI (none, []) := ⟨rfl, rfl⟩
/-- The numbers below k of a set. -/
def lst (f : Nat → Bool) (k : Nat) : List Int := ((List.range k).filter f).map fun v : Nat => (v : Int)
theorem lst_yes {f : Nat → Bool} {k : Nat} (h : f k = true) : lst f (k + 1) = lst f k ++ [(k : Int)] := by simp [lst, List.range_succ, h]
theorem lst_no {f : Nat → Bool} {k : Nat} (h : f k = false) : lst f (k + 1) = lst f k := by simp [lst, List.range_succ, h]
theorem lst_len (f : Nat → Bool) (k : Nat) : (lst f k).length ≤ k := by
  simp only [lst, List.length_map]; exact Nat.le_trans (List.length_filter_le _ _) (by simp)
theorem mem_lst {f : Nat → Bool} {k : Nat} {v : Int} : v ∈ lst f k ↔ 0 ≤ v ∧ v < k ∧ f v.toNat = true := by
  simp only [lst, List.mem_map, List.mem_filter, List.mem_range]
  constructor
  · rintro ⟨u, ⟨h1, h2⟩, rfl⟩; exact ⟨by omega, by omega, by simpa using h2⟩
  · rintro ⟨h1, h2, h3⟩; exact ⟨v.toNat, ⟨by omega, h3⟩, by omega⟩
theorem lst_congr {f g : Nat → Bool} {k : Nat} (h : ∀ v, v < k → f v = g v) : lst f k = lst g k := by
  unfold lst; congr 1
  exact List.filter_congr fun v hv => h v (List.mem_range.1 hv)
open Classical in
/-- What all narrowest cuts have, and what one of them has. -/
noncomputable def lcS (s t : Nat) (rs : List Bd) (v : Nat) : Bool := decide (∀ C, Fl.MinC s t (dr0 rs) C → C v = true)
open Classical in
noncomputable def gcS (s t : Nat) (rs : List Bd) (v : Nat) : Bool := decide (∃ C, Fl.MinC s t (dr0 rs) C ∧ C v = true)
theorem lcS_ok (n s t : Nat) (rs : List Bd) : Fl.LcP n s t (dr0 rs) (lcS s t rs) := fun v _ => by simp [lcS]
theorem gcS_ok (n s t : Nat) (rs : List Bd) : Fl.GcP n s t (dr0 rs) (gcS s t rs) := fun v _ => by simp [gcS]
theorem tb_and (a b v : Nat) : (a &&& b).testBit v = (a.testBit v && b.testBit v) := Nat.testBit_and _ _ _
/-- The sets that the narrowest among the first numbers have in common, and all that they have. -/
def LInv (n s t : Nat) (L : List Fl.E) (k : Nat) (A : Nat) : Prop := A < 256 ∧ ∀ v, v < n → (A.testBit v = true ↔ ∀ S, S < k → Fl.MinC s t L S.testBit → S.testBit v = true)
def GInv (n s t : Nat) (L : List Fl.E) (k : Nat) (A : Nat) : Prop := A < 256 ∧ ∀ v, v < n → (A.testBit v = true ↔ ∃ S, S < k ∧ Fl.MinC s t L S.testBit ∧ S.testBit v = true)
theorem LInv.zero {n s t : Nat} {L : List Fl.E} (hn : n ≤ 8) : LInv n s t L 0 (2 ^ n - 1) :=
  ⟨by have := p2_256 hn; have := Nat.two_pow_pos n; omega, fun v hv => by rw [Nat.testBit_two_pow_sub_one]; exact ⟨fun _ S h => absurd h (Nat.not_lt_zero _), fun _ => decide_eq_true hv⟩⟩
theorem GInv.zero {n s t : Nat} {L : List Fl.E} : GInv n s t L 0 0 :=
  ⟨by decide, fun v hv => by rw [Nat.zero_testBit]; exact ⟨fun h => (by cases h), fun ⟨S, h, _⟩ => absurd h (Nat.not_lt_zero _)⟩⟩
theorem LInv.skip {n s t k A : Nat} {L : List Fl.E} (h : LInv n s t L k A) (hk : ¬ Fl.MinC s t L k.testBit) : LInv n s t L (k + 1) A :=
  ⟨h.1, fun v hv => (h.2 v hv).trans ⟨fun h1 S hS hm => by
    by_cases e : S = k
    · subst e; exact absurd hm hk
    · exact h1 S (by omega) hm, fun h1 S hS hm => h1 S (by omega) hm⟩⟩
theorem GInv.skip {n s t k A : Nat} {L : List Fl.E} (h : GInv n s t L k A) (hk : ¬ Fl.MinC s t L k.testBit) : GInv n s t L (k + 1) A :=
  ⟨h.1, fun v hv => (h.2 v hv).trans ⟨fun ⟨S, h1, h2⟩ => ⟨S, by omega, h2⟩, fun ⟨S, h1, h2, h3⟩ => by
    by_cases e : S = k
    · subst e; exact absurd h2 hk
    · exact ⟨S, by omega, h2, h3⟩⟩⟩
theorem LInv.put {n s t k A : Nat} {L : List Fl.E} (h : LInv n s t L k A) (hk8 : k < 256) (hk : Fl.MinC s t L k.testBit) : LInv n s t L (k + 1) (A &&& k) :=
  ⟨Nat.lt_of_le_of_lt Nat.and_le_left h.1, fun v hv => by
    rw [Nat.testBit_and, Bool.and_eq_true, h.2 v hv]
    constructor
    · rintro ⟨h1, h2⟩ S hS hm
      by_cases e : S = k
      · subst e; exact h2
      · exact h1 S (by omega) hm
    · intro h1
      exact ⟨fun S hS hm => h1 S (by omega) hm, h1 k (by omega) hk⟩⟩
theorem GInv.put {n s t k A : Nat} {L : List Fl.E} (h : GInv n s t L k A) (hk8 : k < 256) (hk : Fl.MinC s t L k.testBit) : GInv n s t L (k + 1) (A ||| k) :=
  ⟨Nat.or_lt_two_pow (n := 8) h.1 hk8, fun v hv => by
    rw [Nat.testBit_or, Bool.or_eq_true, h.2 v hv]
    constructor
    · rintro (⟨S, h1, h2, h3⟩ | h1)
      · exact ⟨S, by omega, h2, h3⟩
      · exact ⟨k, by omega, hk, h1⟩
    · rintro ⟨S, h1, h2, h3⟩
      by_cases e : S = k
      · subst e; exact .inr h3
      · exact .inl ⟨S, by omega, h2, h3⟩⟩
theorem W1.mskC {n s t : Nat} {rs : List Bd} (hw : W1 n s t rs) {C : Nat → Bool} (hC : Fl.MinC s t (dr0 rs) C) : Fl.MinC s t (dr0 rs) (Fl.msk n C).testBit := hC.nodes hw.sn hw.tn hw.nodes fun v hv => (Fl.msk_in hv).symm
theorem LInv.done {n s t A : Nat} {rs : List Bd} (hw : W1 n s t rs) (h : LInv n s t (dr0 rs) (2 ^ n) A) : lst A.testBit n = lst (lcS s t rs) n := lst_congr fun v hv =>
  Fl.LcP.uniq (n := n) (fun v hv => (h.2 v hv).trans ⟨fun h1 C hC => by have := h1 _ (Fl.msk_lt n C) (hw.mskC hC); rwa [Fl.msk_in hv] at this, fun h1 S _ hS => h1 _ hS⟩) (lcS_ok n s t rs) hv
theorem GInv.done {n s t A : Nat} {rs : List Bd} (hw : W1 n s t rs) (h : GInv n s t (dr0 rs) (2 ^ n) A) : lst A.testBit n = lst (gcS s t rs) n := lst_congr fun v hv =>
  Fl.GcP.uniq (n := n) (fun v hv => (h.2 v hv).trans ⟨fun ⟨S, _, h2, h3⟩ => ⟨_, h2, h3⟩, fun ⟨C, hC, hv3⟩ => ⟨_, Fl.msk_lt n C, hw.mskC hC, by rw [Fl.msk_in hv]; exact hv3⟩⟩) (gcS_ok n s t rs) hv
theorem W1.minI {n s t : Nat} {rs : List Bd} (hw : W1 n s t rs) {S : Nat} (h : S.testBit s = true ∧ S.testBit t = false) : Fl.MinC s t (dr0 rs) S.testBit ↔ Fl.cutW S.testBit (dr0 rs) = Fl.mw s t (dr0 rs) := Fl.minC_iff hw.st hw.nn h.1 h.2
/-- The number of a list so far. -/
def MInv (xs : List Int) (k A : Nat) : Prop := A < 256 ∧ ∀ v : Nat, A.testBit v = decide ((v : Int) ∈ xs.take k)
theorem MInv.zero (xs : List Int) : MInv xs 0 0 := ⟨by decide, fun v => by simp⟩
theorem MInv.put {xs : List Int} {k A : Nat} (h : MInv xs k A) (hk : k < xs.length) {u : Nat} (hu : xs.getD k 0 = (u : Int)) (hu8 : u < 8) : MInv xs (k + 1) (A ||| 2 ^ u) :=
  ⟨Nat.or_lt_two_pow (n := 8) h.1 (Nat.pow_lt_pow_right (by decide) hu8), fun v => by
    rw [Nat.testBit_or, h.2 v, Nat.testBit_two_pow, List.take_succ_eq_append_getElem hk]
    have e : xs[k] = (u : Int) := by rw [← hu]; simp [List.getD, hk]
    rw [e, ← Bool.decide_or]
    refine decide_eq_decide.2 ?_
    rw [List.mem_append, List.mem_singleton, show ((v : Int) = (u : Int)) ↔ u = v from by omega]⟩
theorem p2_lt {u : Nat} (h : u < 8) : 2 ^ u < 256 := Nat.pow_lt_pow_right (n := 8) (by decide) h
theorem Mx.mw {n s t : Nat} {rs : List Bd} {L : List Fl.E} (h : Mx n s t rs L) (hs : Shut L n s t) : Fl.out s L = Fl.mw s t (dr0 rs) := by
  obtain ⟨⟨S, h1, h2, h3⟩, h4⟩ := h.most hs
  refine (Fl.MW.eq ⟨⟨S, h1, h2, by rw [h3, cut_dr h]⟩, fun C c1 c2 => ?_⟩).symm
  rw [← cut_dr h]; exact h4 C c1 c2
theorem cm_1 {a b : Prop} [Decidable a] [Decidable b] {x y z : Int} (h : a) : (if a then x else if b then y else z) = x := if_pos h
def cmI (n s t : Nat) (rs : List Bd) (fs xs : List Int) : Int :=
  if (cfV n s t rs fs).2 ≠ 0 then (cfV n s t rs fs).2 else if cutB n s t xs = true then (if (cfV n s t rs fs).1 = Fl.cutW (inS xs) (dr0 rs) then 0 else 7) else 1


set_option maxRecDepth 100000 in
theorem sameInts_ok (w0 : World) (vx : Value) (xs : List Int) (hv : IsI w0 vx xs) (vy : Value) (ys : List Int) (hu : IsI w0 vy ys) (hl : xs.length ≤ 1000000) (hl2 : ys.length ≤ 1000000) :
    Calls Try.prog 31 #[vx, vy] w0 (Post (X := Unit) (fun _ => .bool (decide (xs = ys))) (fun _ => True) (fun _ => []) w0) := by
  obtain ⟨p1, c1, rfl, hx⟩ := hv
  obtain ⟨p2, c2, rfl, hy⟩ := hu
  refine calls Try.func31 rfl (n := 26) rfl (by simp) ?_
  refine TC.seq ?_
  refine TC.region ?_
  refine TL.pure (PV.assign rfl) rfl (by decide) ?_
  refine TL.nil ?_
  refine TQ.thenC ?_
  refine TC.seq ?_
  refine TC.seq ?_
  refine TC.region ?_
  refine TL.pure (PV.move rfl) rfl (by decide) ?_
  refine TL.pure (PV.len rfl Tb.sl_25) rfl (by decide) ?_
  refine TL.pure (PV.move rfl) rfl (by decide) ?_
  refine TL.pure (PV.len rfl Tb.sl_25) rfl (by decide) ?_
  refine TL.pure (PV.neq rfl rfl) rfl (by decide) ?_
  refine TL.nil ?_
  refine TQ.thenC ?_
  first | refine TC.condD rfl (fun hne => ?_) (fun hne => ?_) | refine TC.cond rfl (fun hne => ?_) (fun hne => ?_)
  · skip
    refine TC.seq ?_
    refine TC.region ?_
    refine TL.pure (PV.assign rfl) rfl (by decide) ?_
    refine TL.nil ?_
    refine TQ.thenC ?_
    refine TC.ret ?_
    refine TQ.thenR ?_
    refine TQ.retE1 rfl rfl ?_
    exact ⟨(), by rw [decide_eq_false (fun e => by subst e; omega)], trivial, List.nil_sublist _⟩
  · skip
    refine TC.skip ?_
    refine TQ.thenC ?_
    refine TC.seq ?_
    refine TC.seq ?_
    refine TC.region ?_
    refine TL.pure (PV.assign rfl) rfl (by decide) ?_
    refine TL.nil ?_
    refine TQ.thenC ?_
    refine TC.block ?_
    -- live and written in the loop, not told: [4]
    refine TC.loopK [0, 1] (X := Nat) (fun k => k ≤ xs.length ∧ ∀ j, j < k → xs.getD j 0 = ys.getD j 0) (fun k => [(5, .int .i64 k)]) (fun k => []) (fun k => xs.length - k) 0 ⟨Nat.zero_le _, fun j hj => absurd hj (Nat.not_lt_zero _)⟩ (by repeat (first | exact True.intro | refine And.intro rfl ?_)) (by repeat (first | exact List.Sublist.slnil | exact List.nil_sublist _ | exact List.Sublist.refl _ | refine List.Sublist.cons_cons _ ?_ | refine List.Sublist.cons _ ?_ | refine List.Sublist.trans ?_ (List.sublist_append_right _ _))) ?_
    intro k hk
    refine TC.seq ?_
    refine TC.seq ?_
    refine TC.region ?_
    refine TL.pure (PV.move rfl) rfl (by decide) ?_
    refine TL.pure (PV.move rfl) rfl (by decide) ?_
    refine TL.pure (PV.len rfl Tb.sl_25) rfl (by decide) ?_
    refine TL.pure (PV.lss rfl rfl) rfl (by decide) ?_
    refine TL.nil ?_
    refine TQ.thenC ?_
    first | refine TC.condD rfl (fun hlt => ?_) (fun hlt => ?_) | refine TC.cond rfl (fun hlt => ?_) (fun hlt => ?_)
    · skip
      refine TC.skip ?_
      refine TQ.thenC ?_
      refine TC.seq ?_
      refine TC.block ?_
      refine TC.seq ?_
      obtain ⟨q1, q1p, q1v⟩ := hx (k) (by omega)
      obtain ⟨q2, q2p, q2v⟩ := hy (k) (by omega)
      refine TC.any Tb.mixed rfl rfl ?_
      refine TA.op (OpOK.pure (PV.move rfl) rfl (by decide)) (by decide) ?_
      refine TA.op (OpOK.pure (PV.move rfl) rfl (by decide)) (by decide) ?_
      refine TA.op (OpOK.pure (PV.indexA rfl q1p rfl Tb.elm_25 rfl (by omega)) rfl (by decide)) (by decide) ?_
      refine TA.op (OpOK.pure (PV.loadOld rfl Tb.one_3 q1v) rfl (by decide)) (by decide) ?_
      refine TA.op (OpOK.pure (PV.move rfl) rfl (by decide)) (by decide) ?_
      refine TA.op (OpOK.pure (PV.move rfl) rfl (by decide)) (by decide) ?_
      refine TA.op (OpOK.pure (PV.indexA rfl q2p rfl Tb.elm_25 rfl (by omega)) rfl (by decide)) (by decide) ?_
      refine TA.op (OpOK.pure (PV.loadOld rfl Tb.one_3 q2v) rfl (by decide)) (by decide) ?_
      refine TA.op (OpOK.pure (PV.neq rfl rfl) rfl (by decide)) (by decide) ?_
      show TQ _ _ _ _ _
      refine TQ.thenC ?_
      first | refine TC.condD rfl (fun hno => ?_) (fun hno => ?_) | refine TC.cond rfl (fun hno => ?_) (fun hno => ?_)
      · skip
        refine TC.seq ?_
        refine TC.region ?_
        refine TL.pure (PV.assign rfl) rfl (by decide) ?_
        refine TL.nil ?_
        refine TQ.thenC ?_
        refine TC.ret ?_
        refine TQ.blkR ?_
        refine TQ.thenR ?_
        refine TQ.thenR ?_
        refine TQ.blkR ?_
        refine TQ.thenR ?_
        refine TQ.retE1 rfl rfl ?_
        exact ⟨(), by rw [decide_eq_false (fun e => by subst e; omega)], trivial, List.nil_sublist _⟩
      · skip
        refine TC.skip ?_
        refine TQ.blkN ?_
        refine TQ.thenC ?_
        refine TC.region ?_
        refine TL.pure (PV.move rfl) rfl (by decide) ?_
        refine TL.pure (PV.add rfl rfl (by omega)) rfl (by decide) ?_
        refine TL.pure (PV.assign rfl) rfl (by decide) ?_
        refine TL.nil ?_
        refine TQ.thenN ?_
        refine TQ.backK (k + 1) (by repeat (first | exact True.intro | refine And.intro rfl ?_)) (by repeat (first | exact True.intro | refine And.intro rfl ?_)) (by repeat (first | exact List.Sublist.slnil | exact List.nil_sublist _ | exact List.Sublist.refl _ | refine List.Sublist.cons_cons _ ?_ | refine List.Sublist.cons _ ?_ | refine List.Sublist.trans ?_ (List.sublist_append_right _ _))) ⟨by omega, fun j hj => by
          by_cases e9 : j = k
          · subst e9; exact (by omega)
          · exact hk.2 j (by omega)⟩ (by omega)
    · skip
      refine TC.exit ?_
      refine TQ.thenE ?_
      refine TQ.thenE ?_
      refine TQ.blkS ?_
      refine TQ.thenC ?_
      refine TC.seq ?_
      refine TC.region ?_
      refine TL.pure (PV.assign rfl) rfl (by decide) ?_
      refine TL.nil ?_
      refine TQ.thenC ?_
      refine TC.ret ?_
      refine TQ.retE1 rfl rfl ?_
      exact ⟨(), by rw [decide_eq_true (ints_ext (by omega) (fun j hj => hk.2 j (by omega)))], trivial, List.nil_sublist _⟩

set_option maxRecDepth 100000 in
set_option maxHeartbeats 1000000 in
theorem list_ok (w0 : World) (S n : Nat) (hS : S < 256) (hn8 : n ≤ 8) :
    Calls Try.prog 73 #[.int .i64 (S : Nat), .int .i64 (n : Nat)] w0 (Post (X := HD) (fun h => gval h (lst S.testBit n).length) (fun h => goI (h, lst S.testBit n)) (fun h => gbI (h, lst S.testBit n)) w0) := by
  refine calls Try.func73 rfl (n := 20) rfl (by simp) ?_
  refine TC.seq ?_
  refine TC.region ?_
  refine TL.pure (PV.assign rfl) rfl (by decide) ?_
  refine TL.nil ?_
  refine TQ.thenC ?_
  refine TC.seq ?_
  refine TC.region ?_
  refine TL.pure (PV.assign rfl) rfl (by decide) ?_
  refine TL.nil ?_
  refine TQ.thenC ?_
  refine TC.seq ?_
  refine TC.seq ?_
  refine TC.region ?_
  refine TL.pure (PV.assign rfl) rfl (by decide) ?_
  refine TL.nil ?_
  refine TQ.thenC ?_
  refine TC.block ?_
  refine TC.loopK [0, 1, 4] (X := Nat × HD) (fun u => u.1 ≤ n ∧ goI (u.2, lst S.testBit u.1)) (fun u => [(6, .int .i64 (u.1 : Nat)), (5, gval u.2 (lst S.testBit u.1).length)]) (fun u => gbI (u.2, lst S.testBit u.1) ++ []) (fun u => n - u.1) (0, none) ⟨Nat.zero_le _, goI_nil⟩ (by repeat (first | exact True.intro | refine And.intro rfl ?_)) (by repeat (first | exact List.Sublist.slnil | exact List.nil_sublist _ | exact List.Sublist.refl _ | refine List.Sublist.cons_cons _ ?_ | refine List.Sublist.cons _ ?_ | refine List.Sublist.trans ?_ (List.sublist_append_right _ _))) ?_
  intro u hu9
  refine TC.seq ?_
  refine TC.seq ?_
  refine TC.region ?_
  refine TL.pure (PV.move rfl) rfl (by decide) ?_
  refine TL.pure (PV.move rfl) rfl (by decide) ?_
  refine TL.pure (PV.lss rfl rfl) rfl (by decide) ?_
  refine TL.nil ?_
  refine TQ.thenC ?_
  first | refine TC.condD rfl (fun hlt => ?_) (fun hlt => ?_) | refine TC.cond rfl (fun hlt => ?_) (fun hlt => ?_)
  · skip
    refine TC.skip ?_
    refine TQ.thenC ?_
    refine TC.seq ?_
    refine TC.block ?_
    refine TC.seq ?_
    refine TC.region ?_
    refine TL.pure (PV.move rfl) rfl (by decide) ?_
    refine TL.pure (PV.move rfl) rfl (by decide) ?_
    refine TL.call rfl Tb.gofn_91 (fun a w hs => in_ok _ S u.1 hS (by omega)) rfl (by decide) (fun _ _ => ?_)
    refine TL.nil ?_
    refine TQ.thenC ?_
    first | refine TC.condD rfl (fun hin => ?_) (fun hin => ?_) | refine TC.cond rfl (fun hin => ?_) (fun hin => ?_)
    · skip
      have hfu : S.testBit u.1 = true := hin
      have hob : lst S.testBit (u.1 + 1) = lst S.testBit u.1 ++ [(u.1 : Int)] := lst_yes hfu
      refine TC.region ?_
      refine TL.pure (PV.move rfl) rfl (by decide) ?_
      refine TL.pure (PV.move rfl) rfl (by decide) ?_
      refine TL.buildSlice (cs := #[.int .i64 (u.1 : Nat)]) rfl Tb.sl_25 Tb.zi_3 (by decide) (fill_i _) (by decide) rfl (by decide) (fun bE hbE => ?_)
      refine TL.appendI (x0 := (u.2, lst S.testBit u.1)) rfl rfl (by repeat (first | exact List.Mem.head _ | refine List.Mem.tail _ ?_ | refine List.mem_append_right _ ?_)) hu9.2 (by repeat (first | exact TakeH.here _ _ _ _ | apply TakeH.tail | apply TakeH.app)) (by have := lst_len S.testBit u.1; show (lst S.testBit u.1).length ≤ 1000000; omega) rfl (by decide) (fun hh hho => ?_)
      let nu : Nat × HD := (u.1 + 1, hh)
      have hnu : nu.1 ≤ n ∧ goI (nu.2, lst S.testBit nu.1) := ⟨by simp only [nu]; omega, by simp only [nu]; rw [hob]; exact hho⟩
      refine TL.pure (PV.assign rfl) rfl (by decide) ?_
      refine TL.nil ?_
      refine TQ.blkN ?_
      refine TQ.thenC ?_
      refine TC.region ?_
      refine TL.pure (PV.move rfl) rfl (by decide) ?_
      refine TL.pure (PV.add rfl rfl (by omega)) rfl (by decide) ?_
      refine TL.pure (PV.assign rfl) rfl (by decide) ?_
      refine TL.nil ?_
      refine TQ.thenN ?_
      refine TQ.backK nu (by first | exact And.intro rfl (And.intro rfl True.intro) | (refine And.intro rfl (And.intro ?_ True.intro); show some (gval _ _) = some (gval _ _); rw [hob])) (by repeat (first | exact True.intro | refine And.intro rfl ?_)) (by first | (rw [hob]; first | exact List.Sublist.append_left (by repeat (first | exact List.Sublist.slnil | exact List.nil_sublist _ | exact List.Sublist.refl _ | refine List.Sublist.cons_cons _ ?_ | refine List.Sublist.cons _ ?_ | refine List.Sublist.trans ?_ (List.sublist_append_right _ _))) _ | exact (by repeat (first | exact List.Sublist.slnil | exact List.nil_sublist _ | exact List.Sublist.refl _ | refine List.Sublist.cons_cons _ ?_ | refine List.Sublist.cons _ ?_ | refine List.Sublist.trans ?_ (List.sublist_append_right _ _)))) | (simp only [nu, hob]; first | exact List.Sublist.refl _ | exact List.Sublist.append_left (by repeat (first | exact List.Sublist.slnil | exact List.nil_sublist _ | exact List.Sublist.refl _ | refine List.Sublist.cons_cons _ ?_ | refine List.Sublist.cons _ ?_ | refine List.Sublist.trans ?_ (List.sublist_append_right _ _))) _ | exact (by repeat (first | exact List.Sublist.slnil | exact List.nil_sublist _ | exact List.Sublist.refl _ | refine List.Sublist.cons_cons _ ?_ | refine List.Sublist.cons _ ?_ | refine List.Sublist.trans ?_ (List.sublist_append_right _ _))))) hnu (by simp only [nu]; omega)
    · skip
      have hfu : S.testBit u.1 = false := by simpa using hin
      have hob : lst S.testBit (u.1 + 1) = lst S.testBit u.1 := lst_no hfu
      let nu : Nat × HD := (u.1 + 1, u.2)
      have hnu : nu.1 ≤ n ∧ goI (nu.2, lst S.testBit nu.1) := ⟨by simp only [nu]; omega, by simp only [nu]; rw [hob]; exact hu9.2⟩
      refine TC.skip ?_
      refine TQ.blkN ?_
      refine TQ.thenC ?_
      refine TC.region ?_
      refine TL.pure (PV.move rfl) rfl (by decide) ?_
      refine TL.pure (PV.add rfl rfl (by omega)) rfl (by decide) ?_
      refine TL.pure (PV.assign rfl) rfl (by decide) ?_
      refine TL.nil ?_
      refine TQ.thenN ?_
      refine TQ.backK nu (by first | exact And.intro rfl (And.intro rfl True.intro) | (refine And.intro rfl (And.intro ?_ True.intro); show some (gval _ _) = some (gval _ _); rw [hob])) (by repeat (first | exact True.intro | refine And.intro rfl ?_)) (by first | (rw [hob]; first | exact List.Sublist.append_left (by repeat (first | exact List.Sublist.slnil | exact List.nil_sublist _ | exact List.Sublist.refl _ | refine List.Sublist.cons_cons _ ?_ | refine List.Sublist.cons _ ?_ | refine List.Sublist.trans ?_ (List.sublist_append_right _ _))) _ | exact (by repeat (first | exact List.Sublist.slnil | exact List.nil_sublist _ | exact List.Sublist.refl _ | refine List.Sublist.cons_cons _ ?_ | refine List.Sublist.cons _ ?_ | refine List.Sublist.trans ?_ (List.sublist_append_right _ _)))) | (simp only [nu, hob]; first | exact List.Sublist.refl _ | exact List.Sublist.append_left (by repeat (first | exact List.Sublist.slnil | exact List.nil_sublist _ | exact List.Sublist.refl _ | refine List.Sublist.cons_cons _ ?_ | refine List.Sublist.cons _ ?_ | refine List.Sublist.trans ?_ (List.sublist_append_right _ _))) _ | exact (by repeat (first | exact List.Sublist.slnil | exact List.nil_sublist _ | exact List.Sublist.refl _ | refine List.Sublist.cons_cons _ ?_ | refine List.Sublist.cons _ ?_ | refine List.Sublist.trans ?_ (List.sublist_append_right _ _))))) hnu (by simp only [nu]; omega)
  · skip
    refine TC.exit ?_
    refine TQ.thenE ?_
    refine TQ.thenE ?_
    refine TQ.blkS ?_
    refine TQ.thenC ?_
    refine TC.seq ?_
    have hun : u.1 = n := by omega
    refine TC.region ?_
    refine TL.pure (PV.move rfl) rfl (by decide) ?_
    refine TL.pure (PV.assign rfl) rfl (by decide) ?_
    refine TL.nil ?_
    refine TQ.thenC ?_
    refine TC.ret ?_
    refine TQ.retE1 rfl rfl ?_
    exact ⟨u.2, by rw [hun], by rw [← hun]; exact hu9.2, by rw [← hun]; exact List.sublist_append_left _ _⟩

set_option maxRecDepth 100000 in
set_option maxHeartbeats 1000000 in
theorem rCheckFlow_v (w0 : World) (n s t : Nat) (p : Option Addr) (cap : Nat) (rs : List Bd) (hr : BdsAt w0 p rs) (hv : Vd n s t rs) (hd0 : dI n s t rs = 0) (pf : Option Addr) (cf : Nat) (fs : List Int) (hf : IntsAt w0 pf fs) (hl9 : fs.length ≤ 1000000) :
    Calls Try.prog 19 #[dnV n s t p rs.length cap, .slice pf fs.length cf] w0 (Post (X := Unit) (fun _ => .tuple #[.int .i64 (cfV n s t rs fs).1, .int .i64 (cfV n s t rs fs).2]) (fun _ => True) (fun _ => []) w0) := by
  have hlen := hv.len
  have hn8 := hv.n8
  have hs0 := hv.s0
  refine calls Try.func19 rfl (n := 66) rfl (by simp) ?_
  refine TC.seq ?_
  refine TC.region ?_
  refine TL.box rfl rfl (by decide) (fun b0 hb0 => ?_)
  refine TL.pure (PV.assign rfl) rfl (by decide) ?_
  refine TL.pure (PV.assign rfl) rfl (by decide) ?_
  refine TL.nil ?_
  refine TQ.thenC ?_
  refine TC.seq ?_
  refine TC.seq ?_
  refine TC.region ?_
  refine TL.pure (PV.loadBox rfl Tb.agg_24 (by repeat (first | exact List.Mem.head _ | refine List.Mem.tail _ ?_ | refine List.mem_append_right _ ?_)) rfl) rfl (by decide) ?_
  refine TL.call rfl Tb.gofn_21 (fun a w hs => rvalidate_ok w n s t p cap rs (hr.new hs.new)) rfl (by decide) (fun _ _ => ?_)
  refine TL.pure (PV.assign rfl) rfl (by decide) ?_
  refine TL.nil ?_
  refine TQ.thenC ?_
  refine TC.seq ?_
  refine TC.region ?_
  refine TL.pure (PV.move rfl) rfl (by decide) ?_
  refine TL.pure (PV.neq rfl rfl) rfl (by decide) ?_
  refine TL.nil ?_
  refine TQ.thenC ?_
  first | refine TC.condD rfl (fun hv9 => ?_) (fun hv9 => ?_) | refine TC.cond rfl (fun hv9 => ?_) (fun hv9 => ?_)
  · skip
    refine TC.seq ?_
    refine TC.region ?_
    refine TL.pure (PV.move rfl) rfl (by decide) ?_
    refine TL.pure (PV.assign rfl) rfl (by decide) ?_
    refine TL.pure (PV.assign rfl) rfl (by decide) ?_
    refine TL.nil ?_
    refine TQ.thenC ?_
    refine TC.ret ?_
    refine TQ.thenR ?_
    refine TQ.retE2 rfl rfl rfl ?_
    first | exact absurd hd0 hv9 | exact ⟨(), by rw [cf_len (by omega)], trivial, List.nil_sublist _⟩ | exact ⟨(), by rw [cf_fit (k := k) hll (by omega) (by simpa using hbad)], trivial, List.nil_sublist _⟩ | exact ⟨(), by rw [cf_kp (u := k) hll hfa (by omega) (by omega)], trivial, List.nil_sublist _⟩ | exact ⟨(), by rw [cf_ok hll hfa hka], trivial, List.nil_sublist _⟩
  · skip
    refine TC.skip ?_
    refine TQ.thenC ?_
    refine TC.seq ?_
    refine TC.seq ?_
    refine TC.region ?_
    refine TL.pure (PV.move rfl) rfl (by decide) ?_
    refine TL.pure (PV.len rfl Tb.sl_25) rfl (by decide) ?_
    refine TL.pure (PV.fieldAddr rfl Tb.fo_24_3) rfl (by decide) ?_
    refine TL.pure (PV.load rfl Tb.one_22 (by repeat (first | exact List.Mem.head _ | refine List.Mem.tail _ ?_ | refine List.mem_append_right _ ?_)) rfl) rfl (by decide) ?_
    refine TL.pure (PV.len rfl Tb.sl_22) rfl (by decide) ?_
    refine TL.pure (PV.neq rfl rfl) rfl (by decide) ?_
    refine TL.nil ?_
    refine TQ.thenC ?_
    first | refine TC.condD rfl (fun hne => ?_) (fun hne => ?_) | refine TC.cond rfl (fun hne => ?_) (fun hne => ?_)
    · skip
      refine TC.seq ?_
      refine TC.region ?_
      refine TL.pure (PV.assign rfl) rfl (by decide) ?_
      refine TL.pure (PV.assign rfl) rfl (by decide) ?_
      refine TL.nil ?_
      refine TQ.thenC ?_
      refine TC.ret ?_
      refine TQ.thenR ?_
      refine TQ.retE2 rfl rfl rfl ?_
      first | exact absurd hd0 hv9 | exact ⟨(), by rw [cf_len (by omega)], trivial, List.nil_sublist _⟩ | exact ⟨(), by rw [cf_fit (k := k) hll (by omega) (by simpa using hbad)], trivial, List.nil_sublist _⟩ | exact ⟨(), by rw [cf_kp (u := k) hll hfa (by omega) (by omega)], trivial, List.nil_sublist _⟩ | exact ⟨(), by rw [cf_ok hll hfa hka], trivial, List.nil_sublist _⟩
    · skip
      have hll : fs.length = rs.length := by omega
      refine TC.skip ?_
      refine TQ.thenC ?_
      refine TC.seq ?_
      refine TC.seq ?_
      refine TC.region ?_
      refine TL.pure (PV.assign rfl) rfl (by decide) ?_
      refine TL.nil ?_
      refine TQ.thenC ?_
      refine TC.block ?_
      -- live and written in the loop, not told: [4, 5]
      refine TC.loopK [1, 2] (X := Nat) (fun k => k ≤ rs.length ∧ (List.range k).all (fit1 rs fs) = true) (fun k => [(7, .int .i64 k)]) (fun k => [(b0, Obj.cells #[.int .i64 (n : Nat), .int .i64 (s : Nat), .int .i64 (t : Nat), .slice p rs.length cap] 24 (0, 0))]) (fun k => rs.length - k) 0 ⟨Nat.zero_le _, rfl⟩ (by repeat (first | exact True.intro | refine And.intro rfl ?_)) (by repeat (first | exact List.Sublist.slnil | exact List.nil_sublist _ | exact List.Sublist.refl _ | refine List.Sublist.cons_cons _ ?_ | refine List.Sublist.cons _ ?_ | refine List.Sublist.trans ?_ (List.sublist_append_right _ _))) ?_
      intro k hk
      refine TC.seq ?_
      refine TC.seq ?_
      refine TC.region ?_
      refine TL.pure (PV.move rfl) rfl (by decide) ?_
      refine TL.pure (PV.move rfl) rfl (by decide) ?_
      refine TL.pure (PV.len rfl Tb.sl_25) rfl (by decide) ?_
      refine TL.pure (PV.lss rfl rfl) rfl (by decide) ?_
      refine TL.nil ?_
      refine TQ.thenC ?_
      first | refine TC.condD rfl (fun hlt => ?_) (fun hlt => ?_) | refine TC.cond rfl (fun hlt => ?_) (fun hlt => ?_)
      · skip
        refine TC.skip ?_
        refine TQ.thenC ?_
        refine TC.seq ?_
        refine TC.block ?_
        refine TC.seq ?_
        obtain ⟨q, hqp, hq⟩ := hr k (by omega)
        obtain ⟨qf, hfp, hfq⟩ := hf k (by omega)
        refine TC.mixV [true, true, true, true, true, true, true, true, true, true, false, true] [(b0, Obj.cells #[.int .i64 (n : Nat), .int .i64 (s : Nat), .int .i64 (t : Nat), .slice p rs.length cap] 24 (0, 0))] 12 Tb.mixed rfl (by kernel_rfl) (by kernel_rfl) (by kernel_rfl) (by kernel_rfl) (by repeat (first | exact List.Sublist.slnil | exact List.nil_sublist _ | exact List.Sublist.refl _ | refine List.Sublist.cons_cons _ ?_ | refine List.Sublist.cons _ ?_ | refine List.Sublist.trans ?_ (List.sublist_append_right _ _))) ?_
        refine TV.virt 0 rfl rfl (by decide) rfl (by kernel_rfl) (SOK.pure (PV.move rfl) rfl) ?_
        refine TV.virt 1 rfl rfl (by decide) rfl (by kernel_rfl) (SOK.pure (PV.move rfl) rfl) ?_
        refine TV.virt 2 rfl rfl (by decide) rfl (by kernel_rfl) (SOK.pure (PV.indexA rfl hfp rfl Tb.elm_25 rfl (by omega)) rfl) ?_
        refine TV.virt 3 rfl rfl (by decide) rfl (by kernel_rfl) (SOK.pure (PV.loadOld rfl Tb.one_3 hfq) rfl) ?_
        refine TV.virt 4 rfl rfl (by decide) rfl (by kernel_rfl) (SOK.pure (PV.fieldAddr rfl Tb.fo_24_3) rfl) ?_
        refine TV.virt 5 rfl rfl (by decide) rfl (by kernel_rfl) (SOK.pure (PV.load rfl Tb.one_22 (by repeat (first | exact List.Mem.head _ | refine List.Mem.tail _ ?_ | refine List.mem_append_right _ ?_)) rfl) rfl) ?_
        refine TV.virt 6 rfl rfl (by decide) rfl (by kernel_rfl) (SOK.pure (PV.move rfl) rfl) ?_
        refine TV.virt 7 rfl rfl (by decide) rfl (by kernel_rfl) (SOK.pure (PV.indexA rfl hqp rfl Tb.elm_22 rfl (by omega)) rfl) ?_
        refine TV.virt 8 rfl rfl (by decide) rfl (by kernel_rfl) (SOK.pure (PV.fieldAddrA rfl Tb.fo_40_2) rfl) ?_
        refine TV.virt 9 rfl rfl (by decide) rfl (by kernel_rfl) (SOK.pure (PV.loadOld rfl Tb.one_3 (hq 2 _ rfl)) rfl) ?_
        refine TV.step [10] (by kernel_rfl) (by decide) rfl ⟨⟨_, rfl, ?_⟩, trivial⟩
        refine TL.call rfl Tb.gofn_57 (fun a w hs => within_ok _ _ _ _) rfl (by decide) (fun _ _ => ?_)
        refine TL.nil ?_
        refine TV.next (.inl (by repeat (first | exact List.Sublist.slnil | exact List.nil_sublist _ | exact List.Sublist.refl _ | refine List.Sublist.cons_cons _ ?_ | refine List.Sublist.cons _ ?_ | refine List.Sublist.trans ?_ (List.sublist_append_right _ _)))) ?_
        refine TV.virt 11 rfl rfl (by decide) rfl (by kernel_rfl) (SOK.pure ((by first | exact PV.notD rfl | exact PV.not rfl)) rfl) ?_
        refine TV.done (by kernel_rfl) ?_
        refine TQ.thenC ?_
        first | refine TC.condD rfl (fun hbad => ?_) (fun hbad => ?_) | refine TC.cond rfl (fun hbad => ?_) (fun hbad => ?_)
        · skip
          refine TC.seq ?_
          refine TC.region ?_
          refine TL.pure (PV.assign rfl) rfl (by decide) ?_
          refine TL.pure (PV.assign rfl) rfl (by decide) ?_
          refine TL.nil ?_
          refine TQ.thenC ?_
          refine TC.ret ?_
          refine TQ.blkR ?_
          refine TQ.thenR ?_
          refine TQ.thenR ?_
          refine TQ.blkR ?_
          refine TQ.thenR ?_
          refine TQ.retE2 rfl rfl rfl ?_
          first | exact absurd hd0 hv9 | exact ⟨(), by rw [cf_len (by omega)], trivial, List.nil_sublist _⟩ | exact ⟨(), by rw [cf_fit (k := k) hll (by omega) (by simpa using hbad)], trivial, List.nil_sublist _⟩ | exact ⟨(), by rw [cf_kp (u := k) hll hfa (by omega) (by omega)], trivial, List.nil_sublist _⟩ | exact ⟨(), by rw [cf_ok hll hfa hka], trivial, List.nil_sublist _⟩
        · skip
          have hfit : fit1 rs fs k = true := decide_eq_true (by simpa using hbad)
          refine TC.skip ?_
          refine TQ.blkN ?_
          refine TQ.thenC ?_
          refine TC.region ?_
          refine TL.pure (PV.move rfl) rfl (by decide) ?_
          refine TL.pure (PV.add rfl rfl (by omega)) rfl (by decide) ?_
          refine TL.pure (PV.assign rfl) rfl (by decide) ?_
          refine TL.nil ?_
          refine TQ.thenN ?_
          refine TQ.backK (k + 1) (by repeat (first | exact True.intro | refine And.intro rfl ?_)) (by repeat (first | exact True.intro | refine And.intro rfl ?_)) (by repeat (first | exact List.Sublist.slnil | exact List.nil_sublist _ | exact List.Sublist.refl _ | refine List.Sublist.cons_cons _ ?_ | refine List.Sublist.cons _ ?_ | refine List.Sublist.trans ?_ (List.sublist_append_right _ _))) ⟨by omega, all_next hk.2 hfit⟩ (by omega)
      · skip
        refine TC.exit ?_
        refine TQ.thenE ?_
        refine TQ.thenE ?_
        refine TQ.blkS ?_
        refine TQ.thenC ?_
        refine TC.seq ?_
        refine TC.seq ?_
        have hfa : (List.range rs.length).all (fit1 rs fs) = true := (show k = rs.length by omega) ▸ hk.2
        have hb20 : ∀ j, j < rs.length → 0 ≤ fs.getD j 0 ∧ fs.getD j 0 ≤ 20 := fun j hj => by have h1 := hv.at hj; have h2 : 0 ≤ fs.getD j 0 ∧ fs.getD j 0 ≤ (rs.getD j default).m := of_decide_eq_true (all_get hfa hj); omega
        refine TC.region ?_
        refine TL.pure (PV.assign rfl) rfl (by decide) ?_
        refine TL.nil ?_
        refine TQ.thenC ?_
        refine TC.block ?_
        -- live and written in the loop, not told: [4, 5]
        refine TC.loopK [1, 2] (X := Nat) (fun k => k ≤ n ∧ (List.range k).all (kp1 s t (cfL rs fs)) = true) (fun k => [(8, .int .i64 k)]) (fun k => [(b0, Obj.cells #[.int .i64 (n : Nat), .int .i64 (s : Nat), .int .i64 (t : Nat), .slice p rs.length cap] 24 (0, 0))]) (fun k => n - k) 0 ⟨Nat.zero_le _, rfl⟩ (by repeat (first | exact True.intro | refine And.intro rfl ?_)) (by repeat (first | exact List.Sublist.slnil | exact List.nil_sublist _ | exact List.Sublist.refl _ | refine List.Sublist.cons_cons _ ?_ | refine List.Sublist.cons _ ?_ | refine List.Sublist.trans ?_ (List.sublist_append_right _ _))) ?_
        intro k hk
        refine TC.seq ?_
        refine TC.seq ?_
        refine TC.region ?_
        refine TL.pure (PV.move rfl) rfl (by decide) ?_
        refine TL.pure (PV.fieldAddr rfl Tb.fo_24_0) rfl (by decide) ?_
        refine TL.pure (PV.load rfl Tb.one_3 (by repeat (first | exact List.Mem.head _ | refine List.Mem.tail _ ?_ | refine List.mem_append_right _ ?_)) rfl) rfl (by decide) ?_
        refine TL.pure (PV.lss rfl rfl) rfl (by decide) ?_
        refine TL.nil ?_
        refine TQ.thenC ?_
        first | refine TC.condD rfl (fun hlt2 => ?_) (fun hlt2 => ?_) | refine TC.cond rfl (fun hlt2 => ?_) (fun hlt2 => ?_)
        · skip
          refine TC.skip ?_
          refine TQ.thenC ?_
          refine TC.seq ?_
          refine TC.block ?_
          refine TC.seq ?_
          refine TC.region ?_
          refine TL.pure (PV.move rfl) rfl (by decide) ?_
          refine TL.pure (PV.fieldAddr rfl Tb.fo_24_1) rfl (by decide) ?_
          refine TL.pure (PV.load rfl Tb.one_3 (by repeat (first | exact List.Mem.head _ | refine List.Mem.tail _ ?_ | refine List.mem_append_right _ ?_)) rfl) rfl (by decide) ?_
          refine TL.pure (PV.neq rfl rfl) rfl (by decide) ?_
          refine TL.pure (PV.move rfl) rfl (by decide) ?_
          first | refine TL.splitD 48 rfl (fun e1 => ?_) (fun e1 => ?_) | refine TL.split 48 rfl (fun e1 => ?_) (fun e1 => ?_)
          · skip
            refine TL.pure (PV.move rfl) rfl (by decide) ?_
            refine TL.pure (PV.fieldAddr rfl Tb.fo_24_2) rfl (by decide) ?_
            refine TL.pure (PV.load rfl Tb.one_3 (by repeat (first | exact List.Mem.head _ | refine List.Mem.tail _ ?_ | refine List.mem_append_right _ ?_)) rfl) rfl (by decide) ?_
            refine TL.pure (PV.neq rfl rfl) rfl (by decide) ?_
            refine TL.pure (PV.pickT rfl rfl) rfl (by decide) ?_
            refine TL.pure (PV.move rfl) rfl (by decide) ?_
            first | refine TL.splitD 54 rfl (fun e2 => ?_) (fun e2 => ?_) | refine TL.split 54 rfl (fun e2 => ?_) (fun e2 => ?_)
            · skip
              refine TL.pure (PV.loadBox rfl Tb.agg_24 (by repeat (first | exact List.Mem.head _ | refine List.Mem.tail _ ?_ | refine List.mem_append_right _ ?_)) rfl) rfl (by decide) ?_
              refine TL.pure (PV.move rfl) rfl (by decide) ?_
              refine TL.pure (PV.move rfl) rfl (by decide) ?_
              refine TL.call rfl Tb.gofn_58 (fun a w hs => value_ok w n s t p cap rs (hr.new hs.new) hv pf cf fs.length fs (hf.new hs.new) rfl hll hb20 k) rfl (by decide) (fun _ _ => ?_)
              refine TL.pure (PV.neq rfl rfl) rfl (by decide) ?_
              refine TL.pure (PV.pickT rfl rfl) rfl (by decide) ?_
              refine TL.nil ?_
              refine TQ.thenC ?_
              first | refine TC.condD rfl (fun hbad2 => ?_) (fun hbad2 => ?_) | refine TC.cond rfl (fun hbad2 => ?_) (fun hbad2 => ?_)
              · skip
                refine TC.seq ?_
                refine TC.region ?_
                refine TL.pure (PV.assign rfl) rfl (by decide) ?_
                refine TL.pure (PV.assign rfl) rfl (by decide) ?_
                refine TL.nil ?_
                refine TQ.thenC ?_
                refine TC.ret ?_
                refine TQ.blkR ?_
                refine TQ.thenR ?_
                refine TQ.thenR ?_
                refine TQ.blkR ?_
                refine TQ.thenR ?_
                refine TQ.retE2 rfl rfl rfl ?_
                first | exact absurd hd0 hv9 | exact ⟨(), by rw [cf_len (by omega)], trivial, List.nil_sublist _⟩ | exact ⟨(), by rw [cf_fit (k := k) hll (by omega) (by simpa using hbad)], trivial, List.nil_sublist _⟩ | exact ⟨(), by rw [cf_kp (u := k) hll hfa (by omega) (by omega)], trivial, List.nil_sublist _⟩ | exact ⟨(), by rw [cf_ok hll hfa hka], trivial, List.nil_sublist _⟩
              · skip
                have hkp : kp1 s t (cfL rs fs) k = true := decide_eq_true (by omega)
                refine TC.skip ?_
                refine TQ.blkN ?_
                refine TQ.thenC ?_
                refine TC.region ?_
                refine TL.pure (PV.move rfl) rfl (by decide) ?_
                refine TL.pure (PV.add rfl rfl (by omega)) rfl (by decide) ?_
                refine TL.pure (PV.assign rfl) rfl (by decide) ?_
                refine TL.nil ?_
                refine TQ.thenN ?_
                refine TQ.backK (k + 1) (by repeat (first | exact True.intro | refine And.intro rfl ?_)) (by repeat (first | exact True.intro | refine And.intro rfl ?_)) (by repeat (first | exact List.Sublist.slnil | exact List.nil_sublist _ | exact List.Sublist.refl _ | refine List.Sublist.cons_cons _ ?_ | refine List.Sublist.cons _ ?_ | refine List.Sublist.trans ?_ (List.sublist_append_right _ _))) ⟨by omega, all_next hk.2 hkp⟩ (by omega)
            · skip
              refine TL.skip rfl (fun k hk => by cases hk; decide) ?_
              refine TL.skip rfl (fun k hk => by cases hk; decide) ?_
              refine TL.skip rfl (fun k hk => by cases hk; decide) ?_
              refine TL.skip rfl (fun k hk => by cases hk; decide) ?_
              refine TL.skip rfl (fun k hk => by cases hk; decide) ?_
              refine TL.pure (PV.pickF rfl rfl) rfl (by decide) ?_
              refine TL.nil ?_
              refine TQ.thenC ?_
              refine TC.condF rfl ?_
              have hkp : kp1 s t (cfL rs fs) k = true := decide_eq_true (by omega)
              refine TC.skip ?_
              refine TQ.blkN ?_
              refine TQ.thenC ?_
              refine TC.region ?_
              refine TL.pure (PV.move rfl) rfl (by decide) ?_
              refine TL.pure (PV.add rfl rfl (by omega)) rfl (by decide) ?_
              refine TL.pure (PV.assign rfl) rfl (by decide) ?_
              refine TL.nil ?_
              refine TQ.thenN ?_
              refine TQ.backK (k + 1) (by repeat (first | exact True.intro | refine And.intro rfl ?_)) (by repeat (first | exact True.intro | refine And.intro rfl ?_)) (by repeat (first | exact List.Sublist.slnil | exact List.nil_sublist _ | exact List.Sublist.refl _ | refine List.Sublist.cons_cons _ ?_ | refine List.Sublist.cons _ ?_ | refine List.Sublist.trans ?_ (List.sublist_append_right _ _))) ⟨by omega, all_next hk.2 hkp⟩ (by omega)
          · skip
            refine TL.skip rfl (fun k hk => by cases hk; decide) ?_
            refine TL.skip rfl (fun k hk => by cases hk; decide) ?_
            refine TL.skip rfl (fun k hk => by cases hk; decide) ?_
            refine TL.skip rfl (fun k hk => by cases hk; decide) ?_
            refine TL.pure (PV.pickF rfl rfl) rfl (by decide) ?_
            refine TL.pure (PV.move rfl) rfl (by decide) ?_
            refine TL.skip rfl (fun k hk => by cases hk; decide) ?_
            refine TL.skip rfl (fun k hk => by cases hk; decide) ?_
            refine TL.skip rfl (fun k hk => by cases hk; decide) ?_
            refine TL.skip rfl (fun k hk => by cases hk; decide) ?_
            refine TL.skip rfl (fun k hk => by cases hk; decide) ?_
            refine TL.pure (PV.pickF rfl rfl) rfl (by decide) ?_
            refine TL.nil ?_
            refine TQ.thenC ?_
            refine TC.condF rfl ?_
            have hkp : kp1 s t (cfL rs fs) k = true := decide_eq_true (by omega)
            refine TC.skip ?_
            refine TQ.blkN ?_
            refine TQ.thenC ?_
            refine TC.region ?_
            refine TL.pure (PV.move rfl) rfl (by decide) ?_
            refine TL.pure (PV.add rfl rfl (by omega)) rfl (by decide) ?_
            refine TL.pure (PV.assign rfl) rfl (by decide) ?_
            refine TL.nil ?_
            refine TQ.thenN ?_
            refine TQ.backK (k + 1) (by repeat (first | exact True.intro | refine And.intro rfl ?_)) (by repeat (first | exact True.intro | refine And.intro rfl ?_)) (by repeat (first | exact List.Sublist.slnil | exact List.nil_sublist _ | exact List.Sublist.refl _ | refine List.Sublist.cons_cons _ ?_ | refine List.Sublist.cons _ ?_ | refine List.Sublist.trans ?_ (List.sublist_append_right _ _))) ⟨by omega, all_next hk.2 hkp⟩ (by omega)
        · skip
          refine TC.exit ?_
          refine TQ.thenE ?_
          refine TQ.thenE ?_
          refine TQ.blkS ?_
          refine TQ.thenC ?_
          refine TC.seq ?_
          have hka : (List.range n).all (kp1 s t (cfL rs fs)) = true := (show k = n by omega) ▸ hk.2
          refine TC.region ?_
          refine TL.pure (PV.loadBox rfl Tb.agg_24 (by repeat (first | exact List.Mem.head _ | refine List.Mem.tail _ ?_ | refine List.mem_append_right _ ?_)) rfl) rfl (by decide) ?_
          refine TL.pure (PV.move rfl) rfl (by decide) ?_
          refine TL.pure (PV.fieldAddr rfl Tb.fo_24_1) rfl (by decide) ?_
          refine TL.pure (PV.load rfl Tb.one_3 (by repeat (first | exact List.Mem.head _ | refine List.Mem.tail _ ?_ | refine List.mem_append_right _ ?_)) rfl) rfl (by decide) ?_
          refine TL.call rfl Tb.gofn_58 (fun a w hs => value_ok w n s t p cap rs (hr.new hs.new) hv pf cf fs.length fs (hf.new hs.new) rfl hll hb20 s) rfl (by decide) (fun _ _ => ?_)
          refine TL.pure (PV.assign rfl) rfl (by decide) ?_
          refine TL.pure (PV.assign rfl) rfl (by decide) ?_
          refine TL.nil ?_
          refine TQ.thenC ?_
          refine TC.ret ?_
          refine TQ.retE2 rfl rfl rfl ?_
          first | exact absurd hd0 hv9 | exact ⟨(), by rw [cf_len (by omega)], trivial, List.nil_sublist _⟩ | exact ⟨(), by rw [cf_fit (k := k) hll (by omega) (by simpa using hbad)], trivial, List.nil_sublist _⟩ | exact ⟨(), by rw [cf_kp (u := k) hll hfa (by omega) (by omega)], trivial, List.nil_sublist _⟩ | exact ⟨(), by rw [cf_ok hll hfa hka], trivial, List.nil_sublist _⟩

set_option maxRecDepth 100000 in
theorem rMost_v (w0 : World) (n s t : Nat) (p : Option Addr) (cap : Nat) (rs : List Bd) (hr : BdsAt w0 p rs) (hv : Vd n s t rs) (hd0 : dI n s t rs = 0) :
    Calls Try.prog 23 #[dnV n s t p rs.length cap] w0 (Post (X := Unit) (fun _ => .tuple #[.int .i64 (Fl.mw s t (dr0 rs)), .int .i64 0]) (fun _ => True) (fun _ => []) w0) := by
  refine calls Try.func23 rfl (n := 12) rfl (by simp) ?_
  refine TC.seq ?_
  refine TC.region ?_
  refine TL.box rfl rfl (by decide) (fun b0 hb0 => ?_)
  refine TL.pure (PV.assign rfl) rfl (by decide) ?_
  refine TL.pure (PV.assign rfl) rfl (by decide) ?_
  refine TL.nil ?_
  refine TQ.thenC ?_
  refine TC.seq ?_
  refine TC.seq ?_
  refine TC.region ?_
  refine TL.pure (PV.loadBox rfl Tb.agg_24 (by repeat (first | exact List.Mem.head _ | refine List.Mem.tail _ ?_ | refine List.mem_append_right _ ?_)) rfl) rfl (by decide) ?_
  refine TL.call rfl Tb.gofn_21 (fun a w hs => rvalidate_ok w n s t p cap rs (hr.new hs.new)) rfl (by decide) (fun _ _ => ?_)
  refine TL.pure (PV.assign rfl) rfl (by decide) ?_
  refine TL.nil ?_
  refine TQ.thenC ?_
  refine TC.seq ?_
  refine TC.region ?_
  refine TL.pure (PV.move rfl) rfl (by decide) ?_
  refine TL.pure (PV.neq rfl rfl) rfl (by decide) ?_
  refine TL.nil ?_
  refine TQ.thenC ?_
  first | refine TC.condD rfl (fun hv9 => ?_) (fun hv9 => ?_) | refine TC.cond rfl (fun hv9 => ?_) (fun hv9 => ?_)
  · skip
    refine TC.seq ?_
    refine TC.region ?_
    refine TL.pure (PV.move rfl) rfl (by decide) ?_
    refine TL.pure (PV.assign rfl) rfl (by decide) ?_
    refine TL.pure (PV.assign rfl) rfl (by decide) ?_
    refine TL.nil ?_
    refine TQ.thenC ?_
    refine TC.ret ?_
    refine TQ.thenR ?_
    refine TQ.retE2 rfl rfl rfl ?_
    exact absurd hd0 hv9
  · skip
    refine TC.skip ?_
    refine TQ.thenC ?_
    refine TC.seq ?_
    refine TC.region ?_
    refine TL.pure (PV.loadBox rfl Tb.agg_24 (by repeat (first | exact List.Mem.head _ | refine List.Mem.tail _ ?_ | refine List.mem_append_right _ ?_)) rfl) rfl (by decide) ?_
    refine TL.call rfl Tb.gofn_60 (fun a w hs => rmost_ok w n s t p cap rs (hr.new hs.new) hv.w1) rfl (by decide) (fun _ _ => ?_)
    refine TL.pure (PV.assign rfl) rfl (by decide) ?_
    refine TL.pure (PV.assign rfl) rfl (by decide) ?_
    refine TL.nil ?_
    refine TQ.thenC ?_
    refine TC.ret ?_
    refine TQ.retE2 rfl rfl rfl ?_
    exact ⟨(), rfl, trivial, List.nil_sublist _⟩

set_option maxRecDepth 100000 in
set_option maxHeartbeats 1000000 in
theorem mask_ok (w0 : World) (n s t : Nat) (x3 : Value) (hn8 : n ≤ 8) (hsn : s < n) (htn : t < n) (px : Option Addr) (cx : Nat) (xs : List Int) (hx : IntsAt w0 px xs) (hl : xs.length ≤ 1000000) :
    Calls Try.prog 70 #[.agg #[.int .i64 (n : Nat), .int .i64 (s : Nat), .int .i64 (t : Nat), x3], .slice px xs.length cx] w0 (Post (X := Nat) (fun S => .tuple #[.int .i64 (S : Nat), .bool (cutB n s t xs)]) (fun S => S < 256 ∧ (cutB n s t xs = true → ∀ v, v < n → S.testBit v = inS xs v)) (fun _ => []) w0) := by
  refine calls Try.func70 rfl (n := 51) rfl (by simp) ?_
  refine TC.seq ?_
  refine TC.region ?_
  refine TL.box rfl rfl (by decide) (fun b0 hb0 => ?_)
  refine TL.pure (PV.assign rfl) rfl (by decide) ?_
  refine TL.pure (PV.assign rfl) rfl (by decide) ?_
  refine TL.nil ?_
  refine TQ.thenC ?_
  refine TC.seq ?_
  refine TC.region ?_
  refine TL.pure (PV.assign rfl) rfl (by decide) ?_
  refine TL.nil ?_
  refine TQ.thenC ?_
  refine TC.seq ?_
  refine TC.seq ?_
  refine TC.region ?_
  refine TL.pure (PV.assign rfl) rfl (by decide) ?_
  refine TL.nil ?_
  refine TQ.thenC ?_
  refine TC.block ?_
  -- live and written in the loop, not told: [4, 5]
  refine TC.loopK [1, 2] (X := Nat × Nat) (fun y => y.1 ≤ xs.length ∧ (List.range y.1).all (asc1 n xs) = true ∧ MInv xs y.1 y.2) (fun y => [(6, .int .i64 (y.2 : Nat)), (7, .int .i64 (y.1 : Nat))]) (fun y => [(b0, Obj.cells #[.int .i64 (n : Nat), .int .i64 (s : Nat), .int .i64 (t : Nat), x3] 24 (0, 0))]) (fun y => xs.length - y.1) (0, 0) ⟨Nat.zero_le _, rfl, MInv.zero xs⟩ (by exact ⟨rfl, rfl, trivial⟩) (by repeat (first | exact List.Sublist.slnil | exact List.nil_sublist _ | exact List.Sublist.refl _ | refine List.Sublist.cons_cons _ ?_ | refine List.Sublist.cons _ ?_ | refine List.Sublist.trans ?_ (List.sublist_append_right _ _))) ?_
  intro y hy
  refine TC.seq ?_
  refine TC.seq ?_
  refine TC.region ?_
  refine TL.pure (PV.move rfl) rfl (by decide) ?_
  refine TL.pure (PV.move rfl) rfl (by decide) ?_
  refine TL.pure (PV.len rfl Tb.sl_25) rfl (by decide) ?_
  refine TL.pure (PV.lss rfl rfl) rfl (by decide) ?_
  refine TL.nil ?_
  refine TQ.thenC ?_
  first | refine TC.condD rfl (fun hlt => ?_) (fun hlt => ?_) | refine TC.cond rfl (fun hlt => ?_) (fun hlt => ?_)
  · skip
    refine TC.skip ?_
    refine TQ.thenC ?_
    refine TC.seq ?_
    refine TC.block ?_
    refine TC.seq ?_
    refine TC.seq ?_
    have hy1 := hy.1
    obtain ⟨q, hqp, hq⟩ := hx y.1 (by omega)
    obtain ⟨q2, hqp2, hq2⟩ := hx (y.1 - 1) (by omega)
    refine TC.mixV [true, true, true, true, true, true, true, false, true, true, true, true, true, true, true, true, true, true, true, true, true, true, true, true, true] [(b0, Obj.cells #[.int .i64 (n : Nat), .int .i64 (s : Nat), .int .i64 (t : Nat), x3] 24 (0, 0))] 25 Tb.mixed rfl (by kernel_rfl) (by kernel_rfl) (by kernel_rfl) (by kernel_rfl) (by repeat (first | exact List.Sublist.slnil | exact List.nil_sublist _ | exact List.Sublist.refl _ | refine List.Sublist.cons_cons _ ?_ | refine List.Sublist.cons _ ?_ | refine List.Sublist.trans ?_ (List.sublist_append_right _ _))) ?_
    refine TV.virt 0 rfl rfl (by decide) rfl (by kernel_rfl) (SOK.pure (PV.move rfl) rfl) ?_
    refine TV.virt 1 rfl rfl (by decide) rfl (by kernel_rfl) (SOK.pure (PV.move rfl) rfl) ?_
    refine TV.virt 2 rfl rfl (by decide) rfl (by kernel_rfl) (SOK.pure (PV.indexA rfl hqp rfl Tb.elm_25 rfl (by omega)) rfl) ?_
    refine TV.virt 3 rfl rfl (by decide) rfl (by kernel_rfl) (SOK.pure (PV.loadOld rfl Tb.one_3 hq) rfl) ?_
    refine TV.virt 4 rfl rfl (by decide) rfl (by kernel_rfl) (SOK.pure (PV.fieldAddr rfl Tb.fo_24_0) rfl) ?_
    refine TV.virt 5 rfl rfl (by decide) rfl (by kernel_rfl) (SOK.pure (PV.load rfl Tb.one_3 (by repeat (first | exact List.Mem.head _ | refine List.Mem.tail _ ?_ | refine List.mem_append_right _ ?_)) rfl) rfl) ?_
    refine TV.virt 6 rfl rfl (by decide) rfl (by kernel_rfl) (SOK.pure (PV.sub rfl rfl (by omega)) rfl) ?_
    refine TV.step [7] (by kernel_rfl) (by decide) rfl ⟨⟨_, rfl, ?_⟩, trivial⟩
    refine TL.call rfl Tb.gofn_57 (fun a w hs => within_ok _ _ _ _) rfl (by decide) (fun _ _ => ?_)
    refine TL.nil ?_
    refine TV.next (.inl (by repeat (first | exact List.Sublist.slnil | exact List.nil_sublist _ | exact List.Sublist.refl _ | refine List.Sublist.cons_cons _ ?_ | refine List.Sublist.cons _ ?_ | refine List.Sublist.trans ?_ (List.sublist_append_right _ _)))) ?_
    refine TV.virt 8 rfl rfl (by decide) rfl (by kernel_rfl) (SOK.pure ((by first | exact PV.notD rfl | exact PV.not rfl)) rfl) ?_
    refine TV.virt 9 rfl rfl (by decide) rfl (by kernel_rfl) (SOK.pure (PV.move rfl) rfl) ?_
    first | refine TV.splitD 23 rfl (fun e1 => ?_) (fun e1 => ?_) | refine TV.split 23 rfl (fun e1 => ?_) (fun e1 => ?_)
    · skip
      refine TV.virt 10 rfl rfl (by decide) rfl (by kernel_rfl) (SOK.skip rfl) ?_
      refine TV.virt 11 rfl rfl (by decide) rfl (by kernel_rfl) (SOK.skip rfl) ?_
      refine TV.virt 12 rfl rfl (by decide) rfl (by kernel_rfl) (SOK.skip rfl) ?_
      refine TV.virt 13 rfl rfl (by decide) rfl (by kernel_rfl) (SOK.skipU rfl) ?_
      refine TV.virt 14 rfl rfl (by decide) rfl (by kernel_rfl) (SOK.skipU rfl) ?_
      refine TV.virt 15 rfl rfl (by decide) rfl (by kernel_rfl) (SOK.skipU rfl) ?_
      refine TV.virt 16 rfl rfl (by decide) rfl (by kernel_rfl) (SOK.skipU rfl) ?_
      refine TV.virt 17 rfl rfl (by decide) rfl (by kernel_rfl) (SOK.skipU rfl) ?_
      refine TV.virt 18 rfl rfl (by decide) rfl (by kernel_rfl) (SOK.skipU rfl) ?_
      refine TV.virt 19 rfl rfl (by decide) rfl (by kernel_rfl) (SOK.skipU rfl) ?_
      refine TV.virt 20 rfl rfl (by decide) rfl (by kernel_rfl) (SOK.skipU rfl) ?_
      refine TV.virt 21 rfl rfl (by decide) rfl (by kernel_rfl) (SOK.skipU rfl) ?_
      refine TV.virt 22 rfl rfl (by decide) rfl (by kernel_rfl) (SOK.skipU rfl) ?_
      refine TV.virt 23 rfl rfl (by decide) rfl (by kernel_rfl) (SOK.skip rfl) ?_
      refine TV.virt 24 rfl rfl (by decide) rfl (by kernel_rfl) (SOK.pure (PV.pickT rfl rfl) rfl) ?_
      refine TV.done (by kernel_rfl) ?_
      refine TQ.thenC ?_
      refine TC.condT rfl ?_
      refine TC.seq ?_
      refine TC.region ?_
      refine TL.pure (PV.assign rfl) rfl (by decide) ?_
      refine TL.pure (PV.assign rfl) rfl (by decide) ?_
      refine TL.nil ?_
      refine TQ.thenC ?_
      refine TC.ret ?_
      refine TQ.thenR ?_
      refine TQ.blkR ?_
      refine TQ.thenR ?_
      refine TQ.thenR ?_
      refine TQ.blkR ?_
      refine TQ.thenR ?_
      refine TQ.retE2 rfl rfl rfl ?_
      first | exact ⟨y.2, by rw [htb, htb]; unfold cutB; rw [hka]; unfold inS; simp, ⟨hy.2.2.1, fun _ v _ => htb v⟩, List.nil_sublist _⟩ | exact ⟨0, by rw [show cutB n s t xs = false from by unfold cutB; rw [show (List.range xs.length).all (asc1 n xs) = false from by cases h9 : (List.range xs.length).all (asc1 n xs) with | false => rfl | true => exact absurd (of_decide_eq_true (all_get h9 (show y.1 < xs.length by omega))) (by omega)]; rfl]; rfl, ⟨by decide, fun h9 => by rw [show cutB n s t xs = false from by unfold cutB; rw [show (List.range xs.length).all (asc1 n xs) = false from by cases h8 : (List.range xs.length).all (asc1 n xs) with | false => rfl | true => exact absurd (of_decide_eq_true (all_get h8 (show y.1 < xs.length by omega))) (by omega)]; rfl] at h9; cases h9⟩, List.nil_sublist _⟩
    · skip
      refine TV.virt 10 rfl rfl (by decide) rfl (by kernel_rfl) (SOK.pure (PV.move rfl) rfl) ?_
      refine TV.virt 11 rfl rfl (by decide) rfl (by kernel_rfl) (SOK.pure (PV.gtr rfl rfl) rfl) ?_
      refine TV.virt 12 rfl rfl (by decide) rfl (by kernel_rfl) (SOK.pure (PV.move rfl) rfl) ?_
      first | refine TV.splitD 26 rfl (fun e2 => ?_) (fun e2 => ?_) | refine TV.split 26 rfl (fun e2 => ?_) (fun e2 => ?_)
      · skip
        refine TV.virt 13 rfl rfl (by decide) rfl (by kernel_rfl) (SOK.pure (PV.move rfl) rfl) ?_
        refine TV.virt 14 rfl rfl (by decide) rfl (by kernel_rfl) (SOK.pure (PV.move rfl) rfl) ?_
        refine TV.virt 15 rfl rfl (by decide) rfl (by kernel_rfl) (SOK.pure (PV.indexA rfl hqp rfl Tb.elm_25 rfl (by omega)) rfl) ?_
        refine TV.virt 16 rfl rfl (by decide) rfl (by kernel_rfl) (SOK.pure (PV.loadOld rfl Tb.one_3 hq) rfl) ?_
        refine TV.virt 17 rfl rfl (by decide) rfl (by kernel_rfl) (SOK.pure (PV.move rfl) rfl) ?_
        refine TV.virt 18 rfl rfl (by decide) rfl (by kernel_rfl) (SOK.pure (PV.move rfl) rfl) ?_
        refine TV.virt 19 rfl rfl (by decide) rfl (by kernel_rfl) (SOK.pure (PV.sub rfl rfl (by omega)) rfl) ?_
        refine TV.virt 20 rfl rfl (by decide) rfl (by kernel_rfl) (SOK.pure (PV.indexA (j := y.1 - 1) rfl hqp2 rfl Tb.elm_25 (by omega) (by omega)) rfl) ?_
        refine TV.virt 21 rfl rfl (by decide) rfl (by kernel_rfl) (SOK.pure (PV.loadOld rfl Tb.one_3 hq2) rfl) ?_
        refine TV.virt 22 rfl rfl (by decide) rfl (by kernel_rfl) (SOK.pure (PV.leq rfl rfl) rfl) ?_
        refine TV.virt 23 rfl rfl (by decide) rfl (by kernel_rfl) (SOK.pure (PV.pickT rfl rfl) rfl) ?_
        refine TV.virt 24 rfl rfl (by decide) rfl (by kernel_rfl) (SOK.pure (PV.pickF rfl rfl) rfl) ?_
        refine TV.done (by kernel_rfl) ?_
        refine TQ.thenC ?_
        first | refine TC.condD rfl (fun hbad => ?_) (fun hbad => ?_) | refine TC.cond rfl (fun hbad => ?_) (fun hbad => ?_)
        · skip
          refine TC.seq ?_
          refine TC.region ?_
          refine TL.pure (PV.assign rfl) rfl (by decide) ?_
          refine TL.pure (PV.assign rfl) rfl (by decide) ?_
          refine TL.nil ?_
          refine TQ.thenC ?_
          refine TC.ret ?_
          refine TQ.thenR ?_
          refine TQ.blkR ?_
          refine TQ.thenR ?_
          refine TQ.thenR ?_
          refine TQ.blkR ?_
          refine TQ.thenR ?_
          refine TQ.retE2 rfl rfl rfl ?_
          first | exact ⟨y.2, by rw [htb, htb]; unfold cutB; rw [hka]; unfold inS; simp, ⟨hy.2.2.1, fun _ v _ => htb v⟩, List.nil_sublist _⟩ | exact ⟨0, by rw [show cutB n s t xs = false from by unfold cutB; rw [show (List.range xs.length).all (asc1 n xs) = false from by cases h9 : (List.range xs.length).all (asc1 n xs) with | false => rfl | true => exact absurd (of_decide_eq_true (all_get h9 (show y.1 < xs.length by omega))) (by omega)]; rfl]; rfl, ⟨by decide, fun h9 => by rw [show cutB n s t xs = false from by unfold cutB; rw [show (List.range xs.length).all (asc1 n xs) = false from by cases h8 : (List.range xs.length).all (asc1 n xs) with | false => rfl | true => exact absurd (of_decide_eq_true (all_get h8 (show y.1 < xs.length by omega))) (by omega)]; rfl] at h9; cases h9⟩, List.nil_sublist _⟩
        · skip
          have has : asc1 n xs y.1 = true := decide_eq_true (by omega)
          refine TC.skip ?_
          refine TQ.thenC ?_
          obtain ⟨u, hue⟩ : ∃ u : Nat, xs.getD y.1 0 = (u : Int) := ⟨(xs.getD y.1 0).toNat, by have h9 := of_decide_eq_true has; omega⟩
          have hu8 : u < 8 := by have h9 := of_decide_eq_true has; omega
          refine TC.region ?_
          refine TL.pure (PV.move rfl) rfl (by decide) ?_
          refine TL.pure (PV.move rfl) rfl (by decide) ?_
          refine TL.pure (PV.move rfl) rfl (by decide) ?_
          refine TL.pure (PV.indexA rfl hqp rfl Tb.elm_25 rfl (by omega)) rfl (by decide) ?_
          refine TL.pure (PV.loadOld rfl Tb.one_3 (hue ▸ hq)) rfl (by decide) ?_
          refine TL.pure (PV.conv int_3 int_81 rfl (wrap_u u (by omega))) rfl (by decide) ?_
          refine TL.pure (PV.shl rfl rfl (by omega) (by omega) (shl_one u (by omega))) rfl (by decide) ?_
          refine TL.pure (PV.orI rfl rfl (or_nat hy.2.2.1 (p2_lt (by omega)))) rfl (by decide) ?_
          refine TL.pure (PV.assign rfl) rfl (by decide) ?_
          refine TL.nil ?_
          refine TQ.blkN ?_
          refine TQ.thenC ?_
          refine TC.region ?_
          refine TL.pure (PV.move rfl) rfl (by decide) ?_
          refine TL.pure (PV.add rfl rfl (by omega)) rfl (by decide) ?_
          refine TL.pure (PV.assign rfl) rfl (by decide) ?_
          refine TL.nil ?_
          refine TQ.thenN ?_
          refine TQ.backK (y.1 + 1, y.2 ||| 2 ^ u) (by exact ⟨rfl, rfl, trivial⟩) (by repeat (first | exact True.intro | refine And.intro rfl ?_)) (by repeat (first | exact List.Sublist.slnil | exact List.nil_sublist _ | exact List.Sublist.refl _ | refine List.Sublist.cons_cons _ ?_ | refine List.Sublist.cons _ ?_ | refine List.Sublist.trans ?_ (List.sublist_append_right _ _))) ⟨by simp only; omega, all_next hy.2.1 has, hy.2.2.put (by omega) hue hu8⟩ (by simp only; omega)
      · skip
        refine TV.virt 13 rfl rfl (by decide) rfl (by kernel_rfl) (SOK.skip rfl) ?_
        refine TV.virt 14 rfl rfl (by decide) rfl (by kernel_rfl) (SOK.skip rfl) ?_
        refine TV.virt 15 rfl rfl (by decide) rfl (by kernel_rfl) (SOK.skip rfl) ?_
        refine TV.virt 16 rfl rfl (by decide) rfl (by kernel_rfl) (SOK.skip rfl) ?_
        refine TV.virt 17 rfl rfl (by decide) rfl (by kernel_rfl) (SOK.skip rfl) ?_
        refine TV.virt 18 rfl rfl (by decide) rfl (by kernel_rfl) (SOK.skip rfl) ?_
        refine TV.virt 19 rfl rfl (by decide) rfl (by kernel_rfl) (SOK.skip rfl) ?_
        refine TV.virt 20 rfl rfl (by decide) rfl (by kernel_rfl) (SOK.skip rfl) ?_
        refine TV.virt 21 rfl rfl (by decide) rfl (by kernel_rfl) (SOK.skip rfl) ?_
        refine TV.virt 22 rfl rfl (by decide) rfl (by kernel_rfl) (SOK.skip rfl) ?_
        refine TV.virt 23 rfl rfl (by decide) rfl (by kernel_rfl) (SOK.pure (PV.pickF rfl rfl) rfl) ?_
        refine TV.virt 24 rfl rfl (by decide) rfl (by kernel_rfl) (SOK.pure (PV.pickF rfl rfl) rfl) ?_
        refine TV.done (by kernel_rfl) ?_
        refine TQ.thenC ?_
        refine TC.condF rfl ?_
        have has : asc1 n xs y.1 = true := decide_eq_true (by omega)
        refine TC.skip ?_
        refine TQ.thenC ?_
        obtain ⟨u, hue⟩ : ∃ u : Nat, xs.getD y.1 0 = (u : Int) := ⟨(xs.getD y.1 0).toNat, by have h9 := of_decide_eq_true has; omega⟩
        have hu8 : u < 8 := by have h9 := of_decide_eq_true has; omega
        refine TC.region ?_
        refine TL.pure (PV.move rfl) rfl (by decide) ?_
        refine TL.pure (PV.move rfl) rfl (by decide) ?_
        refine TL.pure (PV.move rfl) rfl (by decide) ?_
        refine TL.pure (PV.indexA rfl hqp rfl Tb.elm_25 rfl (by omega)) rfl (by decide) ?_
        refine TL.pure (PV.loadOld rfl Tb.one_3 (hue ▸ hq)) rfl (by decide) ?_
        refine TL.pure (PV.conv int_3 int_81 rfl (wrap_u u (by omega))) rfl (by decide) ?_
        refine TL.pure (PV.shl rfl rfl (by omega) (by omega) (shl_one u (by omega))) rfl (by decide) ?_
        refine TL.pure (PV.orI rfl rfl (or_nat hy.2.2.1 (p2_lt (by omega)))) rfl (by decide) ?_
        refine TL.pure (PV.assign rfl) rfl (by decide) ?_
        refine TL.nil ?_
        refine TQ.blkN ?_
        refine TQ.thenC ?_
        refine TC.region ?_
        refine TL.pure (PV.move rfl) rfl (by decide) ?_
        refine TL.pure (PV.add rfl rfl (by omega)) rfl (by decide) ?_
        refine TL.pure (PV.assign rfl) rfl (by decide) ?_
        refine TL.nil ?_
        refine TQ.thenN ?_
        refine TQ.backK (y.1 + 1, y.2 ||| 2 ^ u) (by exact ⟨rfl, rfl, trivial⟩) (by repeat (first | exact True.intro | refine And.intro rfl ?_)) (by repeat (first | exact List.Sublist.slnil | exact List.nil_sublist _ | exact List.Sublist.refl _ | refine List.Sublist.cons_cons _ ?_ | refine List.Sublist.cons _ ?_ | refine List.Sublist.trans ?_ (List.sublist_append_right _ _))) ⟨by simp only; omega, all_next hy.2.1 has, hy.2.2.put (by omega) hue hu8⟩ (by simp only; omega)
  · skip
    refine TC.exit ?_
    refine TQ.thenE ?_
    refine TQ.thenE ?_
    refine TQ.blkS ?_
    refine TQ.thenC ?_
    refine TC.seq ?_
    have hye : y.1 = xs.length := by have := hy.1; omega
    have hka : (List.range xs.length).all (asc1 n xs) = true := hye ▸ hy.2.1
    have htb : ∀ v : Nat, y.2.testBit v = inS xs v := fun v => by rw [hy.2.2.2 v, hye, List.take_of_length_le (Nat.le_refl _)]; rfl
    refine TC.region ?_
    refine TL.pure (PV.move rfl) rfl (by decide) ?_
    refine TL.pure (PV.loadBox rfl Tb.agg_24 (by repeat (first | exact List.Mem.head _ | refine List.Mem.tail _ ?_ | refine List.mem_append_right _ ?_)) rfl) rfl (by decide) ?_
    refine TL.pure (PV.move rfl) rfl (by decide) ?_
    refine TL.call rfl Tb.gofn_72 (fun a w hs => risCut_ok w n s t x3 y.2 hy.2.2.1 (by omega) (by omega)) rfl (by decide) (fun _ _ => ?_)
    refine TL.pure (PV.assign rfl) rfl (by decide) ?_
    refine TL.pure (PV.assign rfl) rfl (by decide) ?_
    refine TL.nil ?_
    refine TQ.thenC ?_
    refine TC.ret ?_
    refine TQ.retE2 rfl rfl rfl ?_
    first | exact ⟨y.2, by rw [htb, htb]; unfold cutB; rw [hka]; unfold inS; simp, ⟨hy.2.2.1, fun _ v _ => htb v⟩, List.nil_sublist _⟩ | exact ⟨0, by rw [show cutB n s t xs = false from by unfold cutB; rw [show (List.range xs.length).all (asc1 n xs) = false from by cases h9 : (List.range xs.length).all (asc1 n xs) with | false => rfl | true => exact absurd (of_decide_eq_true (all_get h9 (show y.1 < xs.length by omega))) (by omega)]; rfl]; rfl, ⟨by decide, fun h9 => by rw [show cutB n s t xs = false from by unfold cutB; rw [show (List.range xs.length).all (asc1 n xs) = false from by cases h8 : (List.range xs.length).all (asc1 n xs) with | false => rfl | true => exact absurd (of_decide_eq_true (all_get h8 (show y.1 < xs.length by omega))) (by omega)]; rfl] at h9; cases h9⟩, List.nil_sublist _⟩

set_option maxRecDepth 100000 in
theorem rAcross_v (w0 : World) (n s t : Nat) (p : Option Addr) (cap : Nat) (rs : List Bd) (hr : BdsAt w0 p rs) (hv : Vd n s t rs) (hd0 : dI n s t rs = 0) (px : Option Addr) (cx : Nat) (xs : List Int) (hx : IntsAt w0 px xs) (hl : xs.length ≤ 1000000) :
    Calls Try.prog 26 #[dnV n s t p rs.length cap, .slice px xs.length cx] w0 (Post (X := Unit) (fun _ => .tuple #[.int .i64 (if cutB n s t xs = true then Fl.cutW (inS xs) (dr0 rs) else 0), .int .i64 (if cutB n s t xs = true then 0 else 1)]) (fun _ => True) (fun _ => []) w0) := by
  have hw := hv.w1
  have hlen := hv.len
  have hn8 := hw.n8
  have hsn := hw.sn
  have htn := hw.tn
  have h256 := p2_256 hn8
  have hpos := Nat.two_pow_pos n
  refine calls Try.func26 rfl (n := 25) rfl (by simp) ?_
  refine TC.seq ?_
  refine TC.region ?_
  refine TL.box rfl rfl (by decide) (fun b0 hb0 => ?_)
  refine TL.pure (PV.assign rfl) rfl (by decide) ?_
  refine TL.pure (PV.assign rfl) rfl (by decide) ?_
  refine TL.nil ?_
  refine TQ.thenC ?_
  refine TC.seq ?_
  refine TC.seq ?_
  refine TC.region ?_
  refine TL.pure (PV.loadBox rfl Tb.agg_24 (by repeat (first | exact List.Mem.head _ | refine List.Mem.tail _ ?_ | refine List.mem_append_right _ ?_)) rfl) rfl (by decide) ?_
  refine TL.call rfl Tb.gofn_21 (fun a w hs => rvalidate_ok w n s t p cap rs (hr.new hs.new)) rfl (by decide) (fun _ _ => ?_)
  refine TL.pure (PV.assign rfl) rfl (by decide) ?_
  refine TL.nil ?_
  refine TQ.thenC ?_
  refine TC.seq ?_
  refine TC.region ?_
  refine TL.pure (PV.move rfl) rfl (by decide) ?_
  refine TL.pure (PV.neq rfl rfl) rfl (by decide) ?_
  refine TL.nil ?_
  refine TQ.thenC ?_
  first | refine TC.condD rfl (fun hv9 => ?_) (fun hv9 => ?_) | refine TC.cond rfl (fun hv9 => ?_) (fun hv9 => ?_)
  · skip
    refine TC.seq ?_
    refine TC.region ?_
    refine TL.pure (PV.move rfl) rfl (by decide) ?_
    refine TL.pure (PV.assign rfl) rfl (by decide) ?_
    refine TL.pure (PV.assign rfl) rfl (by decide) ?_
    refine TL.nil ?_
    refine TQ.thenC ?_
    refine TC.ret ?_
    refine TQ.thenR ?_
    refine TQ.retE2 rfl rfl rfl ?_
    exact absurd hd0 hv9
  · skip
    refine TC.skip ?_
    refine TQ.thenC ?_
    refine TC.seq ?_
    refine TC.region ?_
    refine TL.pure (PV.loadBox rfl Tb.agg_24 (by repeat (first | exact List.Mem.head _ | refine List.Mem.tail _ ?_ | refine List.mem_append_right _ ?_)) rfl) rfl (by decide) ?_
    refine TL.pure (PV.move rfl) rfl (by decide) ?_
    refine TL.call rfl Tb.gofn_70 (fun a w hs => mask_ok w n s t _ hn8 hsn htn px cx xs (hx.new hs.new) hl) rfl (by decide) (fun S hS => ?_)
    refine TL.pure (PV.move rfl) rfl (by decide) ?_
    refine TL.pure (PV.extract rfl rfl) rfl (by decide) ?_
    refine TL.pure (PV.extract rfl rfl) rfl (by decide) ?_
    refine TL.pure (PV.assign rfl) rfl (by decide) ?_
    refine TL.pure (PV.assign rfl) rfl (by decide) ?_
    refine TL.nil ?_
    refine TQ.thenC ?_
    refine TC.seq ?_
    refine TC.seq ?_
    refine TC.region ?_
    refine TL.pure (PV.move rfl) rfl (by decide) ?_
    refine TL.pure ((by first | exact PV.notD rfl | exact PV.not rfl)) rfl (by decide) ?_
    refine TL.nil ?_
    refine TQ.thenC ?_
    first | refine TC.condD rfl (fun hcut => ?_) (fun hcut => ?_) | refine TC.cond rfl (fun hcut => ?_) (fun hcut => ?_)
    · skip
      refine TC.seq ?_
      refine TC.region ?_
      refine TL.pure (PV.assign rfl) rfl (by decide) ?_
      refine TL.pure (PV.assign rfl) rfl (by decide) ?_
      refine TL.nil ?_
      refine TQ.thenC ?_
      refine TC.ret ?_
      refine TQ.thenR ?_
      refine TQ.retE2 rfl rfl rfl ?_
      exact ⟨(), by rw [if_neg (by simpa using hcut), if_neg (by simpa using hcut)], trivial, List.nil_sublist _⟩
    · skip
      refine TC.skip ?_
      refine TQ.thenC ?_
      refine TC.seq ?_
      refine TC.region ?_
      refine TL.pure (PV.loadBox rfl Tb.agg_24 (by repeat (first | exact List.Mem.head _ | refine List.Mem.tail _ ?_ | refine List.mem_append_right _ ?_)) rfl) rfl (by decide) ?_
      refine TL.pure (PV.move rfl) rfl (by decide) ?_
      refine TL.call rfl Tb.gofn_71 (fun a w hs => width_ok w n s t p cap rs (hr.new hs.new) hw S hS.1) rfl (by decide) (fun _ _ => ?_)
      refine TL.pure (PV.assign rfl) rfl (by decide) ?_
      refine TL.pure (PV.assign rfl) rfl (by decide) ?_
      refine TL.nil ?_
      refine TQ.thenC ?_
      refine TC.ret ?_
      refine TQ.retE2 rfl rfl rfl ?_
      exact ⟨(), by rw [if_pos (by simpa using hcut), if_pos (by simpa using hcut), Fl.cutW_nodes hw.nodes (hS.2 (by simpa using hcut))], trivial, List.nil_sublist _⟩

set_option maxRecDepth 100000 in
theorem CheckMost_v (w0 : World) (n s t : Nat) (p : Option Addr) (cap : Nat) (rs : List Bd) (hr : BdsAt w0 p rs) (hv : Vd n s t rs) (hd0 : dI n s t rs = 0) (pf : Option Addr) (cf : Nat) (fs : List Int) (hf : IntsAt w0 pf fs) (hl9 : fs.length ≤ 1000000) (px : Option Addr) (cx : Nat) (xs : List Int) (hx : IntsAt w0 px xs) (hl : xs.length ≤ 1000000) :
    Calls Try.prog 32 #[dnV n s t p rs.length cap, .slice pf fs.length cf, .slice px xs.length cx] w0 (Post (X := Unit) (fun _ => .int .i64 (cmI n s t rs fs xs)) (fun _ => True) (fun _ => []) w0) := by
  refine calls Try.func32 rfl (n := 31) rfl (by simp) ?_
  refine TC.seq ?_
  refine TC.region ?_
  refine TL.box rfl rfl (by decide) (fun b0 hb0 => ?_)
  refine TL.pure (PV.assign rfl) rfl (by decide) ?_
  refine TL.nil ?_
  refine TQ.thenC ?_
  refine TC.seq ?_
  refine TC.region ?_
  refine TL.pure (PV.loadBox rfl Tb.agg_24 (by repeat (first | exact List.Mem.head _ | refine List.Mem.tail _ ?_ | refine List.mem_append_right _ ?_)) rfl) rfl (by decide) ?_
  refine TL.pure (PV.move rfl) rfl (by decide) ?_
  refine TL.call rfl Tb.gofn_18 (fun a w hs => CheckFlow_v w n s t p cap rs (hr.new hs.new) hv hd0 pf cf fs (hf.new hs.new) hl9) rfl (by decide) (fun _ _ => ?_)
  refine TL.pure (PV.move rfl) rfl (by decide) ?_
  refine TL.pure (PV.extract rfl rfl) rfl (by decide) ?_
  refine TL.pure (PV.extract rfl rfl) rfl (by decide) ?_
  refine TL.pure (PV.assign rfl) rfl (by decide) ?_
  refine TL.pure (PV.assign rfl) rfl (by decide) ?_
  refine TL.nil ?_
  refine TQ.thenC ?_
  refine TC.seq ?_
  refine TC.seq ?_
  refine TC.region ?_
  refine TL.pure (PV.move rfl) rfl (by decide) ?_
  refine TL.pure (PV.neq rfl rfl) rfl (by decide) ?_
  refine TL.nil ?_
  refine TQ.thenC ?_
  first | refine TC.condD rfl (fun h1 => ?_) (fun h1 => ?_) | refine TC.cond rfl (fun h1 => ?_) (fun h1 => ?_)
  · skip
    refine TC.seq ?_
    refine TC.region ?_
    refine TL.pure (PV.move rfl) rfl (by decide) ?_
    refine TL.pure (PV.assign rfl) rfl (by decide) ?_
    refine TL.nil ?_
    refine TQ.thenC ?_
    refine TC.ret ?_
    refine TQ.thenR ?_
    refine TQ.retE1 rfl rfl ?_
    first | exact ⟨(), by rw [cmI, if_pos h1], trivial, List.nil_sublist _⟩ | exact ⟨(), by have hcu : ¬ cutB n s t xs = true := fun h9 => h2 (if_pos h9); rw [cmI, if_neg h1, if_neg hcu, if_neg hcu], trivial, List.nil_sublist _⟩ | exact ⟨(), by have hcu : cutB n s t xs = true := Decidable.byContradiction fun h9 => h2 (by rw [if_neg h9]; decide); rw [if_pos hcu] at h3; rw [cmI, if_neg h1, if_pos hcu]; first | rw [if_pos (by omega)] | rw [if_neg (by omega)], trivial, List.nil_sublist _⟩
  · skip
    refine TC.skip ?_
    refine TQ.thenC ?_
    refine TC.seq ?_
    refine TC.region ?_
    refine TL.pure (PV.loadBox rfl Tb.agg_24 (by repeat (first | exact List.Mem.head _ | refine List.Mem.tail _ ?_ | refine List.mem_append_right _ ?_)) rfl) rfl (by decide) ?_
    refine TL.pure (PV.move rfl) rfl (by decide) ?_
    refine TL.call rfl Tb.gofn_25 (fun a w hs => Across_v w n s t p cap rs (hr.new hs.new) hv hd0 px cx xs (hx.new hs.new) hl) rfl (by decide) (fun _ _ => ?_)
    refine TL.pure (PV.move rfl) rfl (by decide) ?_
    refine TL.pure (PV.extract rfl rfl) rfl (by decide) ?_
    refine TL.pure (PV.extract rfl rfl) rfl (by decide) ?_
    refine TL.pure (PV.assign rfl) rfl (by decide) ?_
    refine TL.pure (PV.assign rfl) rfl (by decide) ?_
    refine TL.nil ?_
    refine TQ.thenC ?_
    refine TC.seq ?_
    refine TC.seq ?_
    refine TC.region ?_
    refine TL.pure (PV.move rfl) rfl (by decide) ?_
    refine TL.pure (PV.neq rfl rfl) rfl (by decide) ?_
    refine TL.nil ?_
    refine TQ.thenC ?_
    first | refine TC.condD rfl (fun h2 => ?_) (fun h2 => ?_) | refine TC.cond rfl (fun h2 => ?_) (fun h2 => ?_)
    · skip
      refine TC.seq ?_
      refine TC.region ?_
      refine TL.pure (PV.move rfl) rfl (by decide) ?_
      refine TL.pure (PV.assign rfl) rfl (by decide) ?_
      refine TL.nil ?_
      refine TQ.thenC ?_
      refine TC.ret ?_
      refine TQ.thenR ?_
      refine TQ.retE1 rfl rfl ?_
      first | exact ⟨(), by rw [cmI, if_pos h1], trivial, List.nil_sublist _⟩ | exact ⟨(), by have hcu : ¬ cutB n s t xs = true := fun h9 => h2 (if_pos h9); rw [cmI, if_neg h1, if_neg hcu, if_neg hcu], trivial, List.nil_sublist _⟩ | exact ⟨(), by have hcu : cutB n s t xs = true := Decidable.byContradiction fun h9 => h2 (by rw [if_neg h9]; decide); rw [if_pos hcu] at h3; rw [cmI, if_neg h1, if_pos hcu]; first | rw [if_pos (by omega)] | rw [if_neg (by omega)], trivial, List.nil_sublist _⟩
    · skip
      refine TC.skip ?_
      refine TQ.thenC ?_
      refine TC.seq ?_
      refine TC.seq ?_
      refine TC.region ?_
      refine TL.pure (PV.move rfl) rfl (by decide) ?_
      refine TL.pure (PV.move rfl) rfl (by decide) ?_
      refine TL.pure (PV.neq rfl rfl) rfl (by decide) ?_
      refine TL.nil ?_
      refine TQ.thenC ?_
      first | refine TC.condD rfl (fun h3 => ?_) (fun h3 => ?_) | refine TC.cond rfl (fun h3 => ?_) (fun h3 => ?_)
      · skip
        refine TC.seq ?_
        refine TC.region ?_
        refine TL.pure (PV.assign rfl) rfl (by decide) ?_
        refine TL.nil ?_
        refine TQ.thenC ?_
        refine TC.ret ?_
        refine TQ.thenR ?_
        refine TQ.retE1 rfl rfl ?_
        first | exact ⟨(), by rw [cmI, if_pos h1], trivial, List.nil_sublist _⟩ | exact ⟨(), by have hcu : ¬ cutB n s t xs = true := fun h9 => h2 (if_pos h9); rw [cmI, if_neg h1, if_neg hcu, if_neg hcu], trivial, List.nil_sublist _⟩ | exact ⟨(), by have hcu : cutB n s t xs = true := Decidable.byContradiction fun h9 => h2 (by rw [if_neg h9]; decide); rw [if_pos hcu] at h3; rw [cmI, if_neg h1, if_pos hcu]; first | rw [if_pos (by omega)] | rw [if_neg (by omega)], trivial, List.nil_sublist _⟩
      · skip
        refine TC.skip ?_
        refine TQ.thenC ?_
        refine TC.seq ?_
        refine TC.region ?_
        refine TL.pure (PV.assign rfl) rfl (by decide) ?_
        refine TL.nil ?_
        refine TQ.thenC ?_
        refine TC.ret ?_
        refine TQ.retE1 rfl rfl ?_
        first | exact ⟨(), by rw [cmI, if_pos h1], trivial, List.nil_sublist _⟩ | exact ⟨(), by have hcu : ¬ cutB n s t xs = true := fun h9 => h2 (if_pos h9); rw [cmI, if_neg h1, if_neg hcu, if_neg hcu], trivial, List.nil_sublist _⟩ | exact ⟨(), by have hcu : cutB n s t xs = true := Decidable.byContradiction fun h9 => h2 (by rw [if_neg h9]; decide); rw [if_pos hcu] at h3; rw [cmI, if_neg h1, if_pos hcu]; first | rw [if_pos (by omega)] | rw [if_neg (by omega)], trivial, List.nil_sublist _⟩

set_option maxRecDepth 100000 in
theorem rCheckMost_v (w0 : World) (n s t : Nat) (p : Option Addr) (cap : Nat) (rs : List Bd) (hr : BdsAt w0 p rs) (hv : Vd n s t rs) (hd0 : dI n s t rs = 0) (pf : Option Addr) (cf : Nat) (fs : List Int) (hf : IntsAt w0 pf fs) (hl9 : fs.length ≤ 1000000) (px : Option Addr) (cx : Nat) (xs : List Int) (hx : IntsAt w0 px xs) (hl : xs.length ≤ 1000000) :
    Calls Try.prog 33 #[dnV n s t p rs.length cap, .slice pf fs.length cf, .slice px xs.length cx] w0 (Post (X := Unit) (fun _ => .int .i64 (cmI n s t rs fs xs)) (fun _ => True) (fun _ => []) w0) := by
  refine calls Try.func33 rfl (n := 31) rfl (by simp) ?_
  refine TC.seq ?_
  refine TC.region ?_
  refine TL.box rfl rfl (by decide) (fun b0 hb0 => ?_)
  refine TL.pure (PV.assign rfl) rfl (by decide) ?_
  refine TL.nil ?_
  refine TQ.thenC ?_
  refine TC.seq ?_
  refine TC.region ?_
  refine TL.pure (PV.loadBox rfl Tb.agg_24 (by repeat (first | exact List.Mem.head _ | refine List.Mem.tail _ ?_ | refine List.mem_append_right _ ?_)) rfl) rfl (by decide) ?_
  refine TL.pure (PV.move rfl) rfl (by decide) ?_
  refine TL.call rfl Tb.gofn_19 (fun a w hs => rCheckFlow_v w n s t p cap rs (hr.new hs.new) hv hd0 pf cf fs (hf.new hs.new) hl9) rfl (by decide) (fun _ _ => ?_)
  refine TL.pure (PV.move rfl) rfl (by decide) ?_
  refine TL.pure (PV.extract rfl rfl) rfl (by decide) ?_
  refine TL.pure (PV.extract rfl rfl) rfl (by decide) ?_
  refine TL.pure (PV.assign rfl) rfl (by decide) ?_
  refine TL.pure (PV.assign rfl) rfl (by decide) ?_
  refine TL.nil ?_
  refine TQ.thenC ?_
  refine TC.seq ?_
  refine TC.seq ?_
  refine TC.region ?_
  refine TL.pure (PV.move rfl) rfl (by decide) ?_
  refine TL.pure (PV.neq rfl rfl) rfl (by decide) ?_
  refine TL.nil ?_
  refine TQ.thenC ?_
  first | refine TC.condD rfl (fun h1 => ?_) (fun h1 => ?_) | refine TC.cond rfl (fun h1 => ?_) (fun h1 => ?_)
  · skip
    refine TC.seq ?_
    refine TC.region ?_
    refine TL.pure (PV.move rfl) rfl (by decide) ?_
    refine TL.pure (PV.assign rfl) rfl (by decide) ?_
    refine TL.nil ?_
    refine TQ.thenC ?_
    refine TC.ret ?_
    refine TQ.thenR ?_
    refine TQ.retE1 rfl rfl ?_
    first | exact ⟨(), by rw [cmI, if_pos h1], trivial, List.nil_sublist _⟩ | exact ⟨(), by have hcu : ¬ cutB n s t xs = true := fun h9 => h2 (if_pos h9); rw [cmI, if_neg h1, if_neg hcu, if_neg hcu], trivial, List.nil_sublist _⟩ | exact ⟨(), by have hcu : cutB n s t xs = true := Decidable.byContradiction fun h9 => h2 (by rw [if_neg h9]; decide); rw [if_pos hcu] at h3; rw [cmI, if_neg h1, if_pos hcu]; first | rw [if_pos (by omega)] | rw [if_neg (by omega)], trivial, List.nil_sublist _⟩
  · skip
    refine TC.skip ?_
    refine TQ.thenC ?_
    refine TC.seq ?_
    refine TC.region ?_
    refine TL.pure (PV.loadBox rfl Tb.agg_24 (by repeat (first | exact List.Mem.head _ | refine List.Mem.tail _ ?_ | refine List.mem_append_right _ ?_)) rfl) rfl (by decide) ?_
    refine TL.pure (PV.move rfl) rfl (by decide) ?_
    refine TL.call rfl Tb.gofn_26 (fun a w hs => rAcross_v w n s t p cap rs (hr.new hs.new) hv hd0 px cx xs (hx.new hs.new) hl) rfl (by decide) (fun _ _ => ?_)
    refine TL.pure (PV.move rfl) rfl (by decide) ?_
    refine TL.pure (PV.extract rfl rfl) rfl (by decide) ?_
    refine TL.pure (PV.extract rfl rfl) rfl (by decide) ?_
    refine TL.pure (PV.assign rfl) rfl (by decide) ?_
    refine TL.pure (PV.assign rfl) rfl (by decide) ?_
    refine TL.nil ?_
    refine TQ.thenC ?_
    refine TC.seq ?_
    refine TC.seq ?_
    refine TC.region ?_
    refine TL.pure (PV.move rfl) rfl (by decide) ?_
    refine TL.pure (PV.neq rfl rfl) rfl (by decide) ?_
    refine TL.nil ?_
    refine TQ.thenC ?_
    first | refine TC.condD rfl (fun h2 => ?_) (fun h2 => ?_) | refine TC.cond rfl (fun h2 => ?_) (fun h2 => ?_)
    · skip
      refine TC.seq ?_
      refine TC.region ?_
      refine TL.pure (PV.move rfl) rfl (by decide) ?_
      refine TL.pure (PV.assign rfl) rfl (by decide) ?_
      refine TL.nil ?_
      refine TQ.thenC ?_
      refine TC.ret ?_
      refine TQ.thenR ?_
      refine TQ.retE1 rfl rfl ?_
      first | exact ⟨(), by rw [cmI, if_pos h1], trivial, List.nil_sublist _⟩ | exact ⟨(), by have hcu : ¬ cutB n s t xs = true := fun h9 => h2 (if_pos h9); rw [cmI, if_neg h1, if_neg hcu, if_neg hcu], trivial, List.nil_sublist _⟩ | exact ⟨(), by have hcu : cutB n s t xs = true := Decidable.byContradiction fun h9 => h2 (by rw [if_neg h9]; decide); rw [if_pos hcu] at h3; rw [cmI, if_neg h1, if_pos hcu]; first | rw [if_pos (by omega)] | rw [if_neg (by omega)], trivial, List.nil_sublist _⟩
    · skip
      refine TC.skip ?_
      refine TQ.thenC ?_
      refine TC.seq ?_
      refine TC.seq ?_
      refine TC.region ?_
      refine TL.pure (PV.move rfl) rfl (by decide) ?_
      refine TL.pure (PV.move rfl) rfl (by decide) ?_
      refine TL.pure (PV.neq rfl rfl) rfl (by decide) ?_
      refine TL.nil ?_
      refine TQ.thenC ?_
      first | refine TC.condD rfl (fun h3 => ?_) (fun h3 => ?_) | refine TC.cond rfl (fun h3 => ?_) (fun h3 => ?_)
      · skip
        refine TC.seq ?_
        refine TC.region ?_
        refine TL.pure (PV.assign rfl) rfl (by decide) ?_
        refine TL.nil ?_
        refine TQ.thenC ?_
        refine TC.ret ?_
        refine TQ.thenR ?_
        refine TQ.retE1 rfl rfl ?_
        first | exact ⟨(), by rw [cmI, if_pos h1], trivial, List.nil_sublist _⟩ | exact ⟨(), by have hcu : ¬ cutB n s t xs = true := fun h9 => h2 (if_pos h9); rw [cmI, if_neg h1, if_neg hcu, if_neg hcu], trivial, List.nil_sublist _⟩ | exact ⟨(), by have hcu : cutB n s t xs = true := Decidable.byContradiction fun h9 => h2 (by rw [if_neg h9]; decide); rw [if_pos hcu] at h3; rw [cmI, if_neg h1, if_pos hcu]; first | rw [if_pos (by omega)] | rw [if_neg (by omega)], trivial, List.nil_sublist _⟩
      · skip
        refine TC.skip ?_
        refine TQ.thenC ?_
        refine TC.seq ?_
        refine TC.region ?_
        refine TL.pure (PV.assign rfl) rfl (by decide) ?_
        refine TL.nil ?_
        refine TQ.thenC ?_
        refine TC.ret ?_
        refine TQ.retE1 rfl rfl ?_
        first | exact ⟨(), by rw [cmI, if_pos h1], trivial, List.nil_sublist _⟩ | exact ⟨(), by have hcu : ¬ cutB n s t xs = true := fun h9 => h2 (if_pos h9); rw [cmI, if_neg h1, if_neg hcu, if_neg hcu], trivial, List.nil_sublist _⟩ | exact ⟨(), by have hcu : cutB n s t xs = true := Decidable.byContradiction fun h9 => h2 (by rw [if_neg h9]; decide); rw [if_pos hcu] at h3; rw [cmI, if_neg h1, if_pos hcu]; first | rw [if_pos (by omega)] | rw [if_neg (by omega)], trivial, List.nil_sublist _⟩

set_option maxRecDepth 100000 in
set_option maxHeartbeats 1000000 in
theorem rLeast_v (w0 : World) (n s t : Nat) (p : Option Addr) (cap : Nat) (rs : List Bd) (hr : BdsAt w0 p rs) (hv : Vd n s t rs) (hd0 : dI n s t rs = 0) :
    Calls Try.prog 28 #[dnV n s t p rs.length cap] w0 (Post (X := HD) (fun h => .tuple #[gval h (lst (lcS s t rs) n).length, .int .i64 0]) (fun h => goI (h, lst (lcS s t rs) n)) (fun h => gbI (h, lst (lcS s t rs) n)) w0) := by
  have hw := hv.w1
  have hlen := hv.len
  have hn8 := hw.n8
  have hsn := hw.sn
  have htn := hw.tn
  have h256 := p2_256 hn8
  have hpos := Nat.two_pow_pos n
  refine calls Try.func28 rfl (n := 45) rfl (by simp) ?_
  refine TC.seq ?_
  refine TC.region ?_
  refine TL.box rfl rfl (by decide) (fun b0 hb0 => ?_)
  refine TL.pure (PV.assign rfl) rfl (by decide) ?_
  refine TL.pure (PV.assign rfl) rfl (by decide) ?_
  refine TL.nil ?_
  refine TQ.thenC ?_
  refine TC.seq ?_
  refine TC.seq ?_
  refine TC.region ?_
  refine TL.pure (PV.loadBox rfl Tb.agg_24 (by repeat (first | exact List.Mem.head _ | refine List.Mem.tail _ ?_ | refine List.mem_append_right _ ?_)) rfl) rfl (by decide) ?_
  refine TL.call rfl Tb.gofn_21 (fun a w hs => rvalidate_ok w n s t p cap rs (hr.new hs.new)) rfl (by decide) (fun _ _ => ?_)
  refine TL.pure (PV.assign rfl) rfl (by decide) ?_
  refine TL.nil ?_
  refine TQ.thenC ?_
  refine TC.seq ?_
  refine TC.region ?_
  refine TL.pure (PV.move rfl) rfl (by decide) ?_
  refine TL.pure (PV.neq rfl rfl) rfl (by decide) ?_
  refine TL.nil ?_
  refine TQ.thenC ?_
  first | refine TC.condD rfl (fun hv9 => ?_) (fun hv9 => ?_) | refine TC.cond rfl (fun hv9 => ?_) (fun hv9 => ?_)
  · skip
    refine TC.seq ?_
    refine TC.region ?_
    refine TL.pure (PV.move rfl) rfl (by decide) ?_
    refine TL.pure (PV.assign rfl) rfl (by decide) ?_
    refine TL.pure (PV.assign rfl) rfl (by decide) ?_
    refine TL.nil ?_
    refine TQ.thenC ?_
    refine TC.ret ?_
    refine TQ.thenR ?_
    refine TQ.retE2 rfl rfl rfl ?_
    exact absurd hd0 hv9
  · skip
    refine TC.skip ?_
    refine TQ.thenC ?_
    refine TC.seq ?_
    refine TC.mixV [true, true, false, true, true, true, false, true, true] [(b0, Obj.cells #[.int .i64 (n : Nat), .int .i64 (s : Nat), .int .i64 (t : Nat), .slice p rs.length cap] 24 (0, 0))] 9 Tb.mixed rfl (by kernel_rfl) (by kernel_rfl) (by kernel_rfl) (by kernel_rfl) (by repeat (first | exact List.Sublist.slnil | exact List.nil_sublist _ | exact List.Sublist.refl _ | refine List.Sublist.cons_cons _ ?_ | refine List.Sublist.cons _ ?_ | refine List.Sublist.trans ?_ (List.sublist_append_right _ _))) ?_
    refine TV.virt 0 rfl rfl (by decide) rfl (by kernel_rfl) (SOK.pure (PV.fieldAddr rfl Tb.fo_24_0) rfl) ?_
    refine TV.virt 1 rfl rfl (by decide) rfl (by kernel_rfl) (SOK.pure (PV.load rfl Tb.one_3 (by repeat (first | exact List.Mem.head _ | refine List.Mem.tail _ ?_ | refine List.mem_append_right _ ?_)) rfl) rfl) ?_
    refine TV.virt 5 rfl rfl (by decide) rfl (by kernel_rfl) (SOK.pure (PV.loadBox rfl Tb.agg_24 (by repeat (first | exact List.Mem.head _ | refine List.Mem.tail _ ?_ | refine List.mem_append_right _ ?_)) rfl) rfl) ?_
    refine TV.step [2, 6] (by kernel_rfl) (by decide) rfl ⟨⟨_, rfl, ?_⟩, ⟨_, rfl, ?_⟩, trivial⟩
    · skip
      refine TL.pure (PV.conv int_3 int_81 rfl (wrap_u n (by omega))) rfl (by decide) ?_
      refine TL.nil ?_
      refine TV.next (.inl (by repeat (first | exact List.Sublist.slnil | exact List.nil_sublist _ | exact List.Sublist.refl _ | refine List.Sublist.cons_cons _ ?_ | refine List.Sublist.cons _ ?_ | refine List.Sublist.trans ?_ (List.sublist_append_right _ _)))) ?_
      refine TV.virt 3 rfl rfl (by decide) rfl (by kernel_rfl) (SOK.pure (PV.shl rfl rfl (by omega) (by omega) (shl_one n (by omega))) rfl) ?_
      refine TV.virt 4 rfl rfl (by decide) rfl (by kernel_rfl) (SOK.pure (PV.sub rfl rfl (by omega)) rfl) ?_
      refine TV.step [6] (by kernel_rfl) (by decide) rfl ⟨⟨_, rfl, ?_⟩, trivial⟩
      refine TL.call rfl Tb.gofn_60 (fun a w hs => rmost_ok w n s t p cap rs (hr.new hs.new) hw) rfl (by decide) (fun _ _ => ?_)
      refine TL.nil ?_
      refine TV.next (.inl (by repeat (first | exact List.Sublist.slnil | exact List.nil_sublist _ | exact List.Sublist.refl _ | refine List.Sublist.cons_cons _ ?_ | refine List.Sublist.cons _ ?_ | refine List.Sublist.trans ?_ (List.sublist_append_right _ _)))) ?_
      refine TV.virt 7 rfl rfl (by decide) rfl (by kernel_rfl) (SOK.pure (PV.assign rfl) rfl) ?_
      refine TV.virt 8 rfl rfl (by decide) rfl (by kernel_rfl) (SOK.pure (PV.assign rfl) rfl) ?_
      refine TV.done (by kernel_rfl) ?_
      refine TQ.thenC ?_
      refine TC.seq ?_
      refine TC.seq ?_
      refine TC.region ?_
      refine TL.pure (PV.assign rfl) rfl (by decide) ?_
      refine TL.nil ?_
      refine TQ.thenC ?_
      refine TC.block ?_
      refine TC.loopK [1, 2, 3, 6] (X := Nat × Nat) (fun y => y.1 ≤ 2 ^ n ∧ LInv n s t (dr0 rs) y.1 y.2) (fun y => [(5, .int .i64 (y.2 : Nat)), (7, .int .i64 (y.1 : Nat))]) (fun y => [(b0, Obj.cells #[.int .i64 (n : Nat), .int .i64 (s : Nat), .int .i64 (t : Nat), .slice p rs.length cap] 24 (0, 0))]) (fun y => 2 ^ n - y.1) (0, 2 ^ n - 1) ⟨Nat.zero_le _, LInv.zero hn8⟩ (by first | exact ⟨rfl, rfl, trivial⟩ | (refine And.intro ?_ (And.intro rfl True.intro); show some (Value.int .i64 (((2 ^ n : Nat) : Int) - 1)) = some (Value.int .i64 ((2 ^ n - 1 : Nat) : Int)); congr 2; omega)) (by repeat (first | exact List.Sublist.slnil | exact List.nil_sublist _ | exact List.Sublist.refl _ | refine List.Sublist.cons_cons _ ?_ | refine List.Sublist.cons _ ?_ | refine List.Sublist.trans ?_ (List.sublist_append_right _ _))) ?_
      intro y hy
      refine TC.seq ?_
      refine TC.seq ?_
      refine TC.region ?_
      refine TL.pure (PV.move rfl) rfl (by decide) ?_
      refine TL.pure (PV.fieldAddr rfl Tb.fo_24_0) rfl (by decide) ?_
      refine TL.pure (PV.load rfl Tb.one_3 (by repeat (first | exact List.Mem.head _ | refine List.Mem.tail _ ?_ | refine List.mem_append_right _ ?_)) rfl) rfl (by decide) ?_
      refine TL.pure (PV.conv int_3 int_81 rfl (wrap_u n (by omega))) rfl (by decide) ?_
      refine TL.pure (PV.shl rfl rfl (by omega) (by omega) (shl_one n (by omega))) rfl (by decide) ?_
      refine TL.pure (PV.lss rfl rfl) rfl (by decide) ?_
      refine TL.nil ?_
      refine TQ.thenC ?_
      first | refine TC.condD rfl (fun hlt => ?_) (fun hlt => ?_) | refine TC.cond rfl (fun hlt => ?_) (fun hlt => ?_)
      · skip
        refine TC.skip ?_
        refine TQ.thenC ?_
        refine TC.seq ?_
        refine TC.block ?_
        refine TC.seq ?_
        have hy1 := hy.1
        refine TC.region ?_
        refine TL.pure (PV.loadBox rfl Tb.agg_24 (by repeat (first | exact List.Mem.head _ | refine List.Mem.tail _ ?_ | refine List.mem_append_right _ ?_)) rfl) rfl (by decide) ?_
        refine TL.pure (PV.move rfl) rfl (by decide) ?_
        refine TL.call rfl Tb.gofn_72 (fun a w hs => risCut_ok w n s t _ y.1 (by omega) (by omega) (by omega)) rfl (by decide) (fun _ _ => ?_)
        refine TL.pure (PV.move rfl) rfl (by decide) ?_
        first | refine TL.splitD 31 rfl (fun e1 => ?_) (fun e1 => ?_) | refine TL.split 31 rfl (fun e1 => ?_) (fun e1 => ?_)
        · skip
          refine TL.pure (PV.loadBox rfl Tb.agg_24 (by repeat (first | exact List.Mem.head _ | refine List.Mem.tail _ ?_ | refine List.mem_append_right _ ?_)) rfl) rfl (by decide) ?_
          refine TL.pure (PV.move rfl) rfl (by decide) ?_
          refine TL.call rfl Tb.gofn_71 (fun a w hs => width_ok w n s t p cap rs (hr.new hs.new) hw y.1 (by omega)) rfl (by decide) (fun _ _ => ?_)
          refine TL.pure (PV.move rfl) rfl (by decide) ?_
          refine TL.pure (PV.eql rfl rfl) rfl (by decide) ?_
          refine TL.pure (PV.pickT rfl rfl) rfl (by decide) ?_
          refine TL.nil ?_
          refine TQ.thenC ?_
          first | refine TC.condD rfl (fun hc => ?_) (fun hc => ?_) | refine TC.cond rfl (fun hc => ?_) (fun hc => ?_)
          · skip
            have hmin := (hw.minI e1).2 hc
            refine TC.region ?_
            refine TL.pure (PV.move rfl) rfl (by decide) ?_
            refine TL.pure (PV.move rfl) rfl (by decide) ?_
            refine TL.pure (PV.andI rfl rfl (and_nat hy.2.1 (by omega))) rfl (by decide) ?_
            refine TL.pure (PV.assign rfl) rfl (by decide) ?_
            refine TL.nil ?_
            refine TQ.blkN ?_
            refine TQ.thenC ?_
            refine TC.region ?_
            refine TL.pure (PV.move rfl) rfl (by decide) ?_
            refine TL.pure (PV.add rfl rfl (by omega)) rfl (by decide) ?_
            refine TL.pure (PV.assign rfl) rfl (by decide) ?_
            refine TL.nil ?_
            refine TQ.thenN ?_
            refine TQ.backK (y.1 + 1, y.2 &&& y.1) (by first | exact ⟨rfl, rfl, trivial⟩ | (refine And.intro ?_ (And.intro rfl True.intro); show some (Value.int .i64 (((2 ^ n : Nat) : Int) - 1)) = some (Value.int .i64 ((2 ^ n - 1 : Nat) : Int)); congr 2; omega)) (by repeat (first | exact True.intro | refine And.intro rfl ?_)) (by repeat (first | exact List.Sublist.slnil | exact List.nil_sublist _ | exact List.Sublist.refl _ | refine List.Sublist.cons_cons _ ?_ | refine List.Sublist.cons _ ?_ | refine List.Sublist.trans ?_ (List.sublist_append_right _ _))) ⟨by simp only; omega, hy.2.put (by omega) hmin⟩ (by simp only; omega)
          · skip
            have hmin : ¬ Fl.MinC s t (dr0 rs) y.1.testBit := fun h9 => hc ((hw.minI e1).1 h9)
            refine TC.skip ?_
            refine TQ.blkN ?_
            refine TQ.thenC ?_
            refine TC.region ?_
            refine TL.pure (PV.move rfl) rfl (by decide) ?_
            refine TL.pure (PV.add rfl rfl (by omega)) rfl (by decide) ?_
            refine TL.pure (PV.assign rfl) rfl (by decide) ?_
            refine TL.nil ?_
            refine TQ.thenN ?_
            refine TQ.backK (y.1 + 1, y.2) (by first | exact ⟨rfl, rfl, trivial⟩ | (refine And.intro ?_ (And.intro rfl True.intro); show some (Value.int .i64 (((2 ^ n : Nat) : Int) - 1)) = some (Value.int .i64 ((2 ^ n - 1 : Nat) : Int)); congr 2; omega)) (by repeat (first | exact True.intro | refine And.intro rfl ?_)) (by repeat (first | exact List.Sublist.slnil | exact List.nil_sublist _ | exact List.Sublist.refl _ | refine List.Sublist.cons_cons _ ?_ | refine List.Sublist.cons _ ?_ | refine List.Sublist.trans ?_ (List.sublist_append_right _ _))) ⟨by simp only; omega, hy.2.skip hmin⟩ (by simp only; omega)
        · skip
          refine TL.skip rfl (fun k hk => by cases hk; decide) ?_
          refine TL.skip rfl (fun k hk => by cases hk; decide) ?_
          refine TL.skip rfl (fun k hk => by cases hk; decide) ?_
          refine TL.skip rfl (fun k hk => by cases hk; decide) ?_
          refine TL.skip rfl (fun k hk => by cases hk; decide) ?_
          refine TL.pure (PV.pickF rfl rfl) rfl (by decide) ?_
          refine TL.nil ?_
          refine TQ.thenC ?_
          refine TC.condF rfl ?_
          have hmin : ¬ Fl.MinC s t (dr0 rs) y.1.testBit := fun h9 => e1 ⟨h9.1, h9.2.1⟩
          refine TC.skip ?_
          refine TQ.blkN ?_
          refine TQ.thenC ?_
          refine TC.region ?_
          refine TL.pure (PV.move rfl) rfl (by decide) ?_
          refine TL.pure (PV.add rfl rfl (by omega)) rfl (by decide) ?_
          refine TL.pure (PV.assign rfl) rfl (by decide) ?_
          refine TL.nil ?_
          refine TQ.thenN ?_
          refine TQ.backK (y.1 + 1, y.2) (by first | exact ⟨rfl, rfl, trivial⟩ | (refine And.intro ?_ (And.intro rfl True.intro); show some (Value.int .i64 (((2 ^ n : Nat) : Int) - 1)) = some (Value.int .i64 ((2 ^ n - 1 : Nat) : Int)); congr 2; omega)) (by repeat (first | exact True.intro | refine And.intro rfl ?_)) (by repeat (first | exact List.Sublist.slnil | exact List.nil_sublist _ | exact List.Sublist.refl _ | refine List.Sublist.cons_cons _ ?_ | refine List.Sublist.cons _ ?_ | refine List.Sublist.trans ?_ (List.sublist_append_right _ _))) ⟨by simp only; omega, hy.2.skip hmin⟩ (by simp only; omega)
      · skip
        refine TC.exit ?_
        refine TQ.thenE ?_
        refine TQ.thenE ?_
        refine TQ.blkS ?_
        refine TQ.thenC ?_
        refine TC.seq ?_
        have hye : y.1 = 2 ^ n := by have := hy.1; omega
        have hdn := (show LInv n s t (dr0 rs) (2 ^ n) y.2 from hye ▸ hy.2).done hw
        refine TC.region ?_
        refine TL.pure (PV.move rfl) rfl (by decide) ?_
        refine TL.pure (PV.fieldAddr rfl Tb.fo_24_0) rfl (by decide) ?_
        refine TL.pure (PV.load rfl Tb.one_3 (by repeat (first | exact List.Mem.head _ | refine List.Mem.tail _ ?_ | refine List.mem_append_right _ ?_)) rfl) rfl (by decide) ?_
        refine TL.call rfl Tb.gofn_73 (fun a w hs => list_ok w y.2 n hy.2.1 hn8) rfl (by decide) (fun hh hho => ?_)
        refine TL.pure (PV.assign rfl) rfl (by decide) ?_
        refine TL.pure (PV.assign rfl) rfl (by decide) ?_
        refine TL.nil ?_
        refine TQ.thenC ?_
        refine TC.ret ?_
        refine TQ.retE2 rfl rfl rfl ?_
        exact ⟨hh, by rw [← hdn], by rw [← hdn]; exact hho, by rw [← hdn]; exact List.sublist_append_left _ _⟩
    · skip
      refine TL.call rfl Tb.gofn_60 (fun a w hs => rmost_ok w n s t p cap rs (hr.new hs.new) hw) rfl (by decide) (fun _ _ => ?_)
      refine TL.nil ?_
      refine TV.next (.inl (by repeat (first | exact List.Sublist.slnil | exact List.nil_sublist _ | exact List.Sublist.refl _ | refine List.Sublist.cons_cons _ ?_ | refine List.Sublist.cons _ ?_ | refine List.Sublist.trans ?_ (List.sublist_append_right _ _)))) ?_
      refine TV.step [2] (by kernel_rfl) (by decide) rfl ⟨⟨_, rfl, ?_⟩, trivial⟩
      refine TL.pure (PV.conv int_3 int_81 rfl (wrap_u n (by omega))) rfl (by decide) ?_
      refine TL.nil ?_
      refine TV.next (.inl (by repeat (first | exact List.Sublist.slnil | exact List.nil_sublist _ | exact List.Sublist.refl _ | refine List.Sublist.cons_cons _ ?_ | refine List.Sublist.cons _ ?_ | refine List.Sublist.trans ?_ (List.sublist_append_right _ _)))) ?_
      refine TV.virt 3 rfl rfl (by decide) rfl (by kernel_rfl) (SOK.pure (PV.shl rfl rfl (by omega) (by omega) (shl_one n (by omega))) rfl) ?_
      refine TV.virt 4 rfl rfl (by decide) rfl (by kernel_rfl) (SOK.pure (PV.sub rfl rfl (by omega)) rfl) ?_
      refine TV.virt 7 rfl rfl (by decide) rfl (by kernel_rfl) (SOK.pure (PV.assign rfl) rfl) ?_
      refine TV.virt 8 rfl rfl (by decide) rfl (by kernel_rfl) (SOK.pure (PV.assign rfl) rfl) ?_
      refine TV.done (by kernel_rfl) ?_
      refine TQ.thenC ?_
      refine TC.seq ?_
      refine TC.seq ?_
      refine TC.region ?_
      refine TL.pure (PV.assign rfl) rfl (by decide) ?_
      refine TL.nil ?_
      refine TQ.thenC ?_
      refine TC.block ?_
      refine TC.loopK [1, 2, 3, 6] (X := Nat × Nat) (fun y => y.1 ≤ 2 ^ n ∧ LInv n s t (dr0 rs) y.1 y.2) (fun y => [(5, .int .i64 (y.2 : Nat)), (7, .int .i64 (y.1 : Nat))]) (fun y => [(b0, Obj.cells #[.int .i64 (n : Nat), .int .i64 (s : Nat), .int .i64 (t : Nat), .slice p rs.length cap] 24 (0, 0))]) (fun y => 2 ^ n - y.1) (0, 2 ^ n - 1) ⟨Nat.zero_le _, LInv.zero hn8⟩ (by first | exact ⟨rfl, rfl, trivial⟩ | (refine And.intro ?_ (And.intro rfl True.intro); show some (Value.int .i64 (((2 ^ n : Nat) : Int) - 1)) = some (Value.int .i64 ((2 ^ n - 1 : Nat) : Int)); congr 2; omega)) (by repeat (first | exact List.Sublist.slnil | exact List.nil_sublist _ | exact List.Sublist.refl _ | refine List.Sublist.cons_cons _ ?_ | refine List.Sublist.cons _ ?_ | refine List.Sublist.trans ?_ (List.sublist_append_right _ _))) ?_
      intro y hy
      refine TC.seq ?_
      refine TC.seq ?_
      refine TC.region ?_
      refine TL.pure (PV.move rfl) rfl (by decide) ?_
      refine TL.pure (PV.fieldAddr rfl Tb.fo_24_0) rfl (by decide) ?_
      refine TL.pure (PV.load rfl Tb.one_3 (by repeat (first | exact List.Mem.head _ | refine List.Mem.tail _ ?_ | refine List.mem_append_right _ ?_)) rfl) rfl (by decide) ?_
      refine TL.pure (PV.conv int_3 int_81 rfl (wrap_u n (by omega))) rfl (by decide) ?_
      refine TL.pure (PV.shl rfl rfl (by omega) (by omega) (shl_one n (by omega))) rfl (by decide) ?_
      refine TL.pure (PV.lss rfl rfl) rfl (by decide) ?_
      refine TL.nil ?_
      refine TQ.thenC ?_
      first | refine TC.condD rfl (fun hlt => ?_) (fun hlt => ?_) | refine TC.cond rfl (fun hlt => ?_) (fun hlt => ?_)
      · skip
        refine TC.skip ?_
        refine TQ.thenC ?_
        refine TC.seq ?_
        refine TC.block ?_
        refine TC.seq ?_
        have hy1 := hy.1
        refine TC.region ?_
        refine TL.pure (PV.loadBox rfl Tb.agg_24 (by repeat (first | exact List.Mem.head _ | refine List.Mem.tail _ ?_ | refine List.mem_append_right _ ?_)) rfl) rfl (by decide) ?_
        refine TL.pure (PV.move rfl) rfl (by decide) ?_
        refine TL.call rfl Tb.gofn_72 (fun a w hs => risCut_ok w n s t _ y.1 (by omega) (by omega) (by omega)) rfl (by decide) (fun _ _ => ?_)
        refine TL.pure (PV.move rfl) rfl (by decide) ?_
        first | refine TL.splitD 31 rfl (fun e1 => ?_) (fun e1 => ?_) | refine TL.split 31 rfl (fun e1 => ?_) (fun e1 => ?_)
        · skip
          refine TL.pure (PV.loadBox rfl Tb.agg_24 (by repeat (first | exact List.Mem.head _ | refine List.Mem.tail _ ?_ | refine List.mem_append_right _ ?_)) rfl) rfl (by decide) ?_
          refine TL.pure (PV.move rfl) rfl (by decide) ?_
          refine TL.call rfl Tb.gofn_71 (fun a w hs => width_ok w n s t p cap rs (hr.new hs.new) hw y.1 (by omega)) rfl (by decide) (fun _ _ => ?_)
          refine TL.pure (PV.move rfl) rfl (by decide) ?_
          refine TL.pure (PV.eql rfl rfl) rfl (by decide) ?_
          refine TL.pure (PV.pickT rfl rfl) rfl (by decide) ?_
          refine TL.nil ?_
          refine TQ.thenC ?_
          first | refine TC.condD rfl (fun hc => ?_) (fun hc => ?_) | refine TC.cond rfl (fun hc => ?_) (fun hc => ?_)
          · skip
            have hmin := (hw.minI e1).2 hc
            refine TC.region ?_
            refine TL.pure (PV.move rfl) rfl (by decide) ?_
            refine TL.pure (PV.move rfl) rfl (by decide) ?_
            refine TL.pure (PV.andI rfl rfl (and_nat hy.2.1 (by omega))) rfl (by decide) ?_
            refine TL.pure (PV.assign rfl) rfl (by decide) ?_
            refine TL.nil ?_
            refine TQ.blkN ?_
            refine TQ.thenC ?_
            refine TC.region ?_
            refine TL.pure (PV.move rfl) rfl (by decide) ?_
            refine TL.pure (PV.add rfl rfl (by omega)) rfl (by decide) ?_
            refine TL.pure (PV.assign rfl) rfl (by decide) ?_
            refine TL.nil ?_
            refine TQ.thenN ?_
            refine TQ.backK (y.1 + 1, y.2 &&& y.1) (by first | exact ⟨rfl, rfl, trivial⟩ | (refine And.intro ?_ (And.intro rfl True.intro); show some (Value.int .i64 (((2 ^ n : Nat) : Int) - 1)) = some (Value.int .i64 ((2 ^ n - 1 : Nat) : Int)); congr 2; omega)) (by repeat (first | exact True.intro | refine And.intro rfl ?_)) (by repeat (first | exact List.Sublist.slnil | exact List.nil_sublist _ | exact List.Sublist.refl _ | refine List.Sublist.cons_cons _ ?_ | refine List.Sublist.cons _ ?_ | refine List.Sublist.trans ?_ (List.sublist_append_right _ _))) ⟨by simp only; omega, hy.2.put (by omega) hmin⟩ (by simp only; omega)
          · skip
            have hmin : ¬ Fl.MinC s t (dr0 rs) y.1.testBit := fun h9 => hc ((hw.minI e1).1 h9)
            refine TC.skip ?_
            refine TQ.blkN ?_
            refine TQ.thenC ?_
            refine TC.region ?_
            refine TL.pure (PV.move rfl) rfl (by decide) ?_
            refine TL.pure (PV.add rfl rfl (by omega)) rfl (by decide) ?_
            refine TL.pure (PV.assign rfl) rfl (by decide) ?_
            refine TL.nil ?_
            refine TQ.thenN ?_
            refine TQ.backK (y.1 + 1, y.2) (by first | exact ⟨rfl, rfl, trivial⟩ | (refine And.intro ?_ (And.intro rfl True.intro); show some (Value.int .i64 (((2 ^ n : Nat) : Int) - 1)) = some (Value.int .i64 ((2 ^ n - 1 : Nat) : Int)); congr 2; omega)) (by repeat (first | exact True.intro | refine And.intro rfl ?_)) (by repeat (first | exact List.Sublist.slnil | exact List.nil_sublist _ | exact List.Sublist.refl _ | refine List.Sublist.cons_cons _ ?_ | refine List.Sublist.cons _ ?_ | refine List.Sublist.trans ?_ (List.sublist_append_right _ _))) ⟨by simp only; omega, hy.2.skip hmin⟩ (by simp only; omega)
        · skip
          refine TL.skip rfl (fun k hk => by cases hk; decide) ?_
          refine TL.skip rfl (fun k hk => by cases hk; decide) ?_
          refine TL.skip rfl (fun k hk => by cases hk; decide) ?_
          refine TL.skip rfl (fun k hk => by cases hk; decide) ?_
          refine TL.skip rfl (fun k hk => by cases hk; decide) ?_
          refine TL.pure (PV.pickF rfl rfl) rfl (by decide) ?_
          refine TL.nil ?_
          refine TQ.thenC ?_
          refine TC.condF rfl ?_
          have hmin : ¬ Fl.MinC s t (dr0 rs) y.1.testBit := fun h9 => e1 ⟨h9.1, h9.2.1⟩
          refine TC.skip ?_
          refine TQ.blkN ?_
          refine TQ.thenC ?_
          refine TC.region ?_
          refine TL.pure (PV.move rfl) rfl (by decide) ?_
          refine TL.pure (PV.add rfl rfl (by omega)) rfl (by decide) ?_
          refine TL.pure (PV.assign rfl) rfl (by decide) ?_
          refine TL.nil ?_
          refine TQ.thenN ?_
          refine TQ.backK (y.1 + 1, y.2) (by first | exact ⟨rfl, rfl, trivial⟩ | (refine And.intro ?_ (And.intro rfl True.intro); show some (Value.int .i64 (((2 ^ n : Nat) : Int) - 1)) = some (Value.int .i64 ((2 ^ n - 1 : Nat) : Int)); congr 2; omega)) (by repeat (first | exact True.intro | refine And.intro rfl ?_)) (by repeat (first | exact List.Sublist.slnil | exact List.nil_sublist _ | exact List.Sublist.refl _ | refine List.Sublist.cons_cons _ ?_ | refine List.Sublist.cons _ ?_ | refine List.Sublist.trans ?_ (List.sublist_append_right _ _))) ⟨by simp only; omega, hy.2.skip hmin⟩ (by simp only; omega)
      · skip
        refine TC.exit ?_
        refine TQ.thenE ?_
        refine TQ.thenE ?_
        refine TQ.blkS ?_
        refine TQ.thenC ?_
        refine TC.seq ?_
        have hye : y.1 = 2 ^ n := by have := hy.1; omega
        have hdn := (show LInv n s t (dr0 rs) (2 ^ n) y.2 from hye ▸ hy.2).done hw
        refine TC.region ?_
        refine TL.pure (PV.move rfl) rfl (by decide) ?_
        refine TL.pure (PV.fieldAddr rfl Tb.fo_24_0) rfl (by decide) ?_
        refine TL.pure (PV.load rfl Tb.one_3 (by repeat (first | exact List.Mem.head _ | refine List.Mem.tail _ ?_ | refine List.mem_append_right _ ?_)) rfl) rfl (by decide) ?_
        refine TL.call rfl Tb.gofn_73 (fun a w hs => list_ok w y.2 n hy.2.1 hn8) rfl (by decide) (fun hh hho => ?_)
        refine TL.pure (PV.assign rfl) rfl (by decide) ?_
        refine TL.pure (PV.assign rfl) rfl (by decide) ?_
        refine TL.nil ?_
        refine TQ.thenC ?_
        refine TC.ret ?_
        refine TQ.retE2 rfl rfl rfl ?_
        exact ⟨hh, by rw [← hdn], by rw [← hdn]; exact hho, by rw [← hdn]; exact List.sublist_append_left _ _⟩

set_option maxRecDepth 100000 in
set_option maxHeartbeats 1000000 in
theorem rGreatest_v (w0 : World) (n s t : Nat) (p : Option Addr) (cap : Nat) (rs : List Bd) (hr : BdsAt w0 p rs) (hv : Vd n s t rs) (hd0 : dI n s t rs = 0) :
    Calls Try.prog 30 #[dnV n s t p rs.length cap] w0 (Post (X := HD) (fun h => .tuple #[gval h (lst (gcS s t rs) n).length, .int .i64 0]) (fun h => goI (h, lst (gcS s t rs) n)) (fun h => gbI (h, lst (gcS s t rs) n)) w0) := by
  have hw := hv.w1
  have hlen := hv.len
  have hn8 := hw.n8
  have hsn := hw.sn
  have htn := hw.tn
  have h256 := p2_256 hn8
  have hpos := Nat.two_pow_pos n
  refine calls Try.func30 rfl (n := 40) rfl (by simp) ?_
  refine TC.seq ?_
  refine TC.region ?_
  refine TL.box rfl rfl (by decide) (fun b0 hb0 => ?_)
  refine TL.pure (PV.assign rfl) rfl (by decide) ?_
  refine TL.pure (PV.assign rfl) rfl (by decide) ?_
  refine TL.nil ?_
  refine TQ.thenC ?_
  refine TC.seq ?_
  refine TC.seq ?_
  refine TC.region ?_
  refine TL.pure (PV.loadBox rfl Tb.agg_24 (by repeat (first | exact List.Mem.head _ | refine List.Mem.tail _ ?_ | refine List.mem_append_right _ ?_)) rfl) rfl (by decide) ?_
  refine TL.call rfl Tb.gofn_21 (fun a w hs => rvalidate_ok w n s t p cap rs (hr.new hs.new)) rfl (by decide) (fun _ _ => ?_)
  refine TL.pure (PV.assign rfl) rfl (by decide) ?_
  refine TL.nil ?_
  refine TQ.thenC ?_
  refine TC.seq ?_
  refine TC.region ?_
  refine TL.pure (PV.move rfl) rfl (by decide) ?_
  refine TL.pure (PV.neq rfl rfl) rfl (by decide) ?_
  refine TL.nil ?_
  refine TQ.thenC ?_
  first | refine TC.condD rfl (fun hv9 => ?_) (fun hv9 => ?_) | refine TC.cond rfl (fun hv9 => ?_) (fun hv9 => ?_)
  · skip
    refine TC.seq ?_
    refine TC.region ?_
    refine TL.pure (PV.move rfl) rfl (by decide) ?_
    refine TL.pure (PV.assign rfl) rfl (by decide) ?_
    refine TL.pure (PV.assign rfl) rfl (by decide) ?_
    refine TL.nil ?_
    refine TQ.thenC ?_
    refine TC.ret ?_
    refine TQ.thenR ?_
    refine TQ.retE2 rfl rfl rfl ?_
    exact absurd hd0 hv9
  · skip
    refine TC.skip ?_
    refine TQ.thenC ?_
    refine TC.seq ?_
    refine TC.region ?_
    refine TL.pure (PV.loadBox rfl Tb.agg_24 (by repeat (first | exact List.Mem.head _ | refine List.Mem.tail _ ?_ | refine List.mem_append_right _ ?_)) rfl) rfl (by decide) ?_
    refine TL.call rfl Tb.gofn_60 (fun a w hs => rmost_ok w n s t p cap rs (hr.new hs.new) hw) rfl (by decide) (fun _ _ => ?_)
    refine TL.pure (PV.assign rfl) rfl (by decide) ?_
    refine TL.pure (PV.assign rfl) rfl (by decide) ?_
    refine TL.nil ?_
    refine TQ.thenC ?_
    refine TC.seq ?_
    refine TC.seq ?_
    refine TC.region ?_
    refine TL.pure (PV.assign rfl) rfl (by decide) ?_
    refine TL.nil ?_
    refine TQ.thenC ?_
    refine TC.block ?_
    refine TC.loopK [1, 2, 3, 6] (X := Nat × Nat) (fun y => y.1 ≤ 2 ^ n ∧ GInv n s t (dr0 rs) y.1 y.2) (fun y => [(5, .int .i64 (y.2 : Nat)), (7, .int .i64 (y.1 : Nat))]) (fun y => [(b0, Obj.cells #[.int .i64 (n : Nat), .int .i64 (s : Nat), .int .i64 (t : Nat), .slice p rs.length cap] 24 (0, 0))]) (fun y => 2 ^ n - y.1) (0, 0) ⟨Nat.zero_le _, GInv.zero⟩ (by exact ⟨rfl, rfl, trivial⟩) (by repeat (first | exact List.Sublist.slnil | exact List.nil_sublist _ | exact List.Sublist.refl _ | refine List.Sublist.cons_cons _ ?_ | refine List.Sublist.cons _ ?_ | refine List.Sublist.trans ?_ (List.sublist_append_right _ _))) ?_
    intro y hy
    refine TC.seq ?_
    refine TC.seq ?_
    refine TC.region ?_
    refine TL.pure (PV.move rfl) rfl (by decide) ?_
    refine TL.pure (PV.fieldAddr rfl Tb.fo_24_0) rfl (by decide) ?_
    refine TL.pure (PV.load rfl Tb.one_3 (by repeat (first | exact List.Mem.head _ | refine List.Mem.tail _ ?_ | refine List.mem_append_right _ ?_)) rfl) rfl (by decide) ?_
    refine TL.pure (PV.conv int_3 int_81 rfl (wrap_u n (by omega))) rfl (by decide) ?_
    refine TL.pure (PV.shl rfl rfl (by omega) (by omega) (shl_one n (by omega))) rfl (by decide) ?_
    refine TL.pure (PV.lss rfl rfl) rfl (by decide) ?_
    refine TL.nil ?_
    refine TQ.thenC ?_
    first | refine TC.condD rfl (fun hlt => ?_) (fun hlt => ?_) | refine TC.cond rfl (fun hlt => ?_) (fun hlt => ?_)
    · skip
      refine TC.skip ?_
      refine TQ.thenC ?_
      refine TC.seq ?_
      refine TC.block ?_
      refine TC.seq ?_
      have hy1 := hy.1
      refine TC.region ?_
      refine TL.pure (PV.loadBox rfl Tb.agg_24 (by repeat (first | exact List.Mem.head _ | refine List.Mem.tail _ ?_ | refine List.mem_append_right _ ?_)) rfl) rfl (by decide) ?_
      refine TL.pure (PV.move rfl) rfl (by decide) ?_
      refine TL.call rfl Tb.gofn_72 (fun a w hs => risCut_ok w n s t _ y.1 (by omega) (by omega) (by omega)) rfl (by decide) (fun _ _ => ?_)
      refine TL.pure (PV.move rfl) rfl (by decide) ?_
      first | refine TL.splitD 26 rfl (fun e1 => ?_) (fun e1 => ?_) | refine TL.split 26 rfl (fun e1 => ?_) (fun e1 => ?_)
      · skip
        refine TL.pure (PV.loadBox rfl Tb.agg_24 (by repeat (first | exact List.Mem.head _ | refine List.Mem.tail _ ?_ | refine List.mem_append_right _ ?_)) rfl) rfl (by decide) ?_
        refine TL.pure (PV.move rfl) rfl (by decide) ?_
        refine TL.call rfl Tb.gofn_71 (fun a w hs => width_ok w n s t p cap rs (hr.new hs.new) hw y.1 (by omega)) rfl (by decide) (fun _ _ => ?_)
        refine TL.pure (PV.move rfl) rfl (by decide) ?_
        refine TL.pure (PV.eql rfl rfl) rfl (by decide) ?_
        refine TL.pure (PV.pickT rfl rfl) rfl (by decide) ?_
        refine TL.nil ?_
        refine TQ.thenC ?_
        first | refine TC.condD rfl (fun hc => ?_) (fun hc => ?_) | refine TC.cond rfl (fun hc => ?_) (fun hc => ?_)
        · skip
          have hmin := (hw.minI e1).2 hc
          refine TC.region ?_
          refine TL.pure (PV.move rfl) rfl (by decide) ?_
          refine TL.pure (PV.move rfl) rfl (by decide) ?_
          refine TL.pure (PV.orI rfl rfl (or_nat hy.2.1 (by omega))) rfl (by decide) ?_
          refine TL.pure (PV.assign rfl) rfl (by decide) ?_
          refine TL.nil ?_
          refine TQ.blkN ?_
          refine TQ.thenC ?_
          refine TC.region ?_
          refine TL.pure (PV.move rfl) rfl (by decide) ?_
          refine TL.pure (PV.add rfl rfl (by omega)) rfl (by decide) ?_
          refine TL.pure (PV.assign rfl) rfl (by decide) ?_
          refine TL.nil ?_
          refine TQ.thenN ?_
          refine TQ.backK (y.1 + 1, y.2 ||| y.1) (by exact ⟨rfl, rfl, trivial⟩) (by repeat (first | exact True.intro | refine And.intro rfl ?_)) (by repeat (first | exact List.Sublist.slnil | exact List.nil_sublist _ | exact List.Sublist.refl _ | refine List.Sublist.cons_cons _ ?_ | refine List.Sublist.cons _ ?_ | refine List.Sublist.trans ?_ (List.sublist_append_right _ _))) ⟨by simp only; omega, hy.2.put (by omega) hmin⟩ (by simp only; omega)
        · skip
          have hmin : ¬ Fl.MinC s t (dr0 rs) y.1.testBit := fun h9 => hc ((hw.minI e1).1 h9)
          refine TC.skip ?_
          refine TQ.blkN ?_
          refine TQ.thenC ?_
          refine TC.region ?_
          refine TL.pure (PV.move rfl) rfl (by decide) ?_
          refine TL.pure (PV.add rfl rfl (by omega)) rfl (by decide) ?_
          refine TL.pure (PV.assign rfl) rfl (by decide) ?_
          refine TL.nil ?_
          refine TQ.thenN ?_
          refine TQ.backK (y.1 + 1, y.2) (by exact ⟨rfl, rfl, trivial⟩) (by repeat (first | exact True.intro | refine And.intro rfl ?_)) (by repeat (first | exact List.Sublist.slnil | exact List.nil_sublist _ | exact List.Sublist.refl _ | refine List.Sublist.cons_cons _ ?_ | refine List.Sublist.cons _ ?_ | refine List.Sublist.trans ?_ (List.sublist_append_right _ _))) ⟨by simp only; omega, hy.2.skip hmin⟩ (by simp only; omega)
      · skip
        refine TL.skip rfl (fun k hk => by cases hk; decide) ?_
        refine TL.skip rfl (fun k hk => by cases hk; decide) ?_
        refine TL.skip rfl (fun k hk => by cases hk; decide) ?_
        refine TL.skip rfl (fun k hk => by cases hk; decide) ?_
        refine TL.skip rfl (fun k hk => by cases hk; decide) ?_
        refine TL.pure (PV.pickF rfl rfl) rfl (by decide) ?_
        refine TL.nil ?_
        refine TQ.thenC ?_
        refine TC.condF rfl ?_
        have hmin : ¬ Fl.MinC s t (dr0 rs) y.1.testBit := fun h9 => e1 ⟨h9.1, h9.2.1⟩
        refine TC.skip ?_
        refine TQ.blkN ?_
        refine TQ.thenC ?_
        refine TC.region ?_
        refine TL.pure (PV.move rfl) rfl (by decide) ?_
        refine TL.pure (PV.add rfl rfl (by omega)) rfl (by decide) ?_
        refine TL.pure (PV.assign rfl) rfl (by decide) ?_
        refine TL.nil ?_
        refine TQ.thenN ?_
        refine TQ.backK (y.1 + 1, y.2) (by exact ⟨rfl, rfl, trivial⟩) (by repeat (first | exact True.intro | refine And.intro rfl ?_)) (by repeat (first | exact List.Sublist.slnil | exact List.nil_sublist _ | exact List.Sublist.refl _ | refine List.Sublist.cons_cons _ ?_ | refine List.Sublist.cons _ ?_ | refine List.Sublist.trans ?_ (List.sublist_append_right _ _))) ⟨by simp only; omega, hy.2.skip hmin⟩ (by simp only; omega)
    · skip
      refine TC.exit ?_
      refine TQ.thenE ?_
      refine TQ.thenE ?_
      refine TQ.blkS ?_
      refine TQ.thenC ?_
      refine TC.seq ?_
      have hye : y.1 = 2 ^ n := by have := hy.1; omega
      have hdn := (show GInv n s t (dr0 rs) (2 ^ n) y.2 from hye ▸ hy.2).done hw
      refine TC.region ?_
      refine TL.pure (PV.move rfl) rfl (by decide) ?_
      refine TL.pure (PV.fieldAddr rfl Tb.fo_24_0) rfl (by decide) ?_
      refine TL.pure (PV.load rfl Tb.one_3 (by repeat (first | exact List.Mem.head _ | refine List.Mem.tail _ ?_ | refine List.mem_append_right _ ?_)) rfl) rfl (by decide) ?_
      refine TL.call rfl Tb.gofn_73 (fun a w hs => list_ok w y.2 n hy.2.1 hn8) rfl (by decide) (fun hh hho => ?_)
      refine TL.pure (PV.assign rfl) rfl (by decide) ?_
      refine TL.pure (PV.assign rfl) rfl (by decide) ?_
      refine TL.nil ?_
      refine TQ.thenC ?_
      refine TC.ret ?_
      refine TQ.retE2 rfl rfl rfl ?_
      exact ⟨hh, by rw [← hdn], by rw [← hdn]; exact hho, by rw [← hdn]; exact List.sublist_append_left _ _⟩

end Go.Proofs.Ytnlbngbbddhgeaa
