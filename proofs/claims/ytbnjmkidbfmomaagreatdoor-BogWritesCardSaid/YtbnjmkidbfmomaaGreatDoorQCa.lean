/- Which bogs are valid: contracts. -/
import Derived.Test.YtbnjmkidbfmomaaGreatDoorQMA
set_option linter.unusedVariables false
set_option linter.unusedSimpArgs false
namespace Go.Proofs.YtbnjmkidbfmomaaGreatDoor.C
open Go.Sx Go.RowKit

abbrev bv (p : Option Addr) (len cap : Nat) : Value := .agg #[.slice p len cap]
def wiB (a lo hi : Int) : Bool := decide (lo ≤ a ∧ a ≤ hi)
def dep (ls : List (List Int)) : Nat := (ls.getD 0 []).length
def colB (ls : List (List Int)) (c : List Int) : Bool := decide (c.length = dep ls) && c.all fun x => wiB x (-50) 50
def validI (ls : List (List Int)) : Int := if ls.length < 1 ∨ 6 < ls.length then 1 else if dep ls < 1 ∨ 4 < dep ls then 1 else if ls.all (colB ls) = true then 0 else 1
theorem valid_1 {ls : List (List Int)} (h : ls.length < 1 ∨ 6 < ls.length) : validI ls = 1 := if_pos h
theorem valid_2 {ls : List (List Int)} (h2 : dep ls < 1 ∨ 4 < dep ls) : validI ls = 1 := by
  unfold validI
  by_cases h1 : ls.length < 1 ∨ 6 < ls.length
  · rw [if_pos h1]
  · rw [if_neg h1, if_pos h2]
theorem all_no {α : Type} [Inhabited α] {l : List α} {f : α → Bool} {k : Nat} {d : α} (hk : k < l.length) (h : f (l.getD k d) = false) : l.all f = false := by
  rw [Bool.eq_false_iff]
  intro h1
  have := List.all_eq_true.1 h1 (l.getD k d) (by simp [List.getD, hk])
  rw [this] at h
  cases h
theorem all_yes {α : Type} {l : List α} {f : α → Bool} {d : α} (h : ∀ k, k < l.length → f (l.getD k d) = true) : l.all f = true := by
  refine List.all_eq_true.2 fun x hx => ?_
  obtain ⟨j, hj, rfl⟩ := List.getElem_of_mem hx
  have := h j hj
  simpa [List.getD, hj] using this
theorem valid_3 {ls : List (List Int)} {k : Nat} (hk : k < ls.length) (h : colB ls (ls.getD k []) = false) : validI ls = 1 := by
  unfold validI
  rw [if_neg (c := ls.all (colB ls) = true) (by rw [all_no hk h]; decide)]
  split
  · rfl
  · split <;> rfl
theorem valid_0 {ls : List (List Int)} (h1 : ¬ (ls.length < 1 ∨ 6 < ls.length)) (h2 : ¬ (dep ls < 1 ∨ 4 < dep ls)) (h3 : ∀ k, k < ls.length → colB ls (ls.getD k []) = true) : validI ls = 0 := by
  unfold validI
  rw [if_neg h1, if_neg h2, if_pos (all_yes h3)]
structure VB (ls : List (List Int)) : Prop where
  n : 1 ≤ ls.length ∧ ls.length ≤ 6
  d : 1 ≤ dep ls ∧ dep ls ≤ 4
  c : ∀ k, k < ls.length → (ls.getD k []).length = dep ls
  w : ∀ k j, -50 ≤ (ls.getD k []).getD j 0 ∧ (ls.getD k []).getD j 0 ≤ 50
theorem vb_of {ls : List (List Int)} (h : ¬ validI ls ≠ 0) : VB ls := by
  have h0 := Decidable.of_not_not h
  unfold validI at h0
  by_cases h1 : ls.length < 1 ∨ 6 < ls.length
  · rw [if_pos h1] at h0; cases h0
  · rw [if_neg h1] at h0
    by_cases h2 : dep ls < 1 ∨ 4 < dep ls
    · rw [if_pos h2] at h0; cases h0
    · rw [if_neg h2] at h0
      by_cases h3 : ls.all (colB ls) = true
      · have hc : ∀ k, k < ls.length → colB ls (ls.getD k []) = true := fun k hk => List.all_eq_true.1 h3 _ (by simp [List.getD, hk])
        refine ⟨by omega, by omega, fun k hk => ?_, fun k j => ?_⟩
        · have := hc k hk
          unfold colB at this
          simp only [Bool.and_eq_true, decide_eq_true_eq] at this
          exact this.1
        · by_cases hk : k < ls.length
          · have := hc k hk
            unfold colB at this
            simp only [Bool.and_eq_true, decide_eq_true_eq] at this
            by_cases hj : j < (ls.getD k []).length
            · have h5 := List.all_eq_true.1 this.2 ((ls.getD k []).getD j 0) (by
                have e : (ls.getD k []).getD j 0 = (ls.getD k [])[j] := by simp only [List.getD_eq_getElem?_getD]; rw [List.getElem?_eq_getElem (by simpa using hj)]; rfl
                rw [e]; exact List.getElem_mem _)
              exact of_decide_eq_true h5
            · have e : (ls.getD k []).getD j 0 = 0 := by rw [List.getD_eq_getElem?_getD (l := ls.getD k []), List.getElem?_eq_none (by omega)]; rfl
              rw [e]; omega
          · have e : ls.getD k [] = [] := by simp [List.getD, hk]
            rw [e]
            simp
      · rw [if_neg h3] at h0; cases h0
theorem col_len {ls : List (List Int)} {k : Nat} (h : ¬ (ls.getD k []).length = dep ls) : colB ls (ls.getD k []) = false := by
  unfold colB
  rw [decide_eq_false h, Bool.false_and]

set_option maxRecDepth 100000 in
theorem isWithin_ok (w0 : World) (a lo hi : Int) :
    Calls Tryz.prog 93 #[.int .i64 a, .int .i64 lo, .int .i64 hi] w0 (Post (X := Unit) (fun _ => .bool (wiB a lo hi)) (fun _ => True) (fun _ => []) w0) := by
  refine calls Tryz.func93 rfl (n := 15) rfl (by simp) ?_
  refine TC.seq ?_
  refine TC.region ?_
  refine TL.pure (PV.assign rfl) rfl (by decide) ?_
  refine TL.nil ?_
  refine TQ.thenC ?_
  refine TC.seq ?_
  refine TC.region ?_
  refine TL.pure (PV.move rfl) rfl (by decide) ?_
  refine TL.pure (PV.move rfl) rfl (by decide) ?_
  refine TL.pure (PV.geq rfl rfl) rfl (by decide) ?_
  refine TL.pure (PV.move rfl) rfl (by decide) ?_
  first | refine TL.splitD 10 rfl (fun e1 => ?_) (fun e1 => ?_) | refine TL.split 10 rfl (fun e1 => ?_) (fun e1 => ?_)
  · refine TL.pure (PV.move rfl) rfl (by decide) ?_
    refine TL.pure (PV.move rfl) rfl (by decide) ?_
    refine TL.pure (PV.leq rfl rfl) rfl (by decide) ?_
    refine TL.pure (PV.pickT rfl rfl) rfl (by decide) ?_
    refine TL.pure (PV.assign rfl) rfl (by decide) ?_
    refine TL.nil ?_
    refine TQ.thenC ?_
    refine TC.ret ?_
    refine TQ.retE1 rfl rfl ?_
    exact ⟨(), by unfold wiB; congr 1; rw [decide_eq_decide]; simp_all, trivial, List.nil_sublist _⟩
  · refine TL.skip rfl (fun k hk => by cases hk; decide) ?_
    refine TL.skip rfl (fun k hk => by cases hk; decide) ?_
    refine TL.skip rfl (fun k hk => by cases hk; decide) ?_
    refine TL.pure (PV.pickF rfl rfl) rfl (by decide) ?_
    refine TL.pure (PV.assign rfl) rfl (by decide) ?_
    refine TL.nil ?_
    refine TQ.thenC ?_
    refine TC.ret ?_
    refine TQ.retE1 rfl rfl ?_
    exact ⟨(), by unfold wiB; rw [decide_eq_false (by omega)], trivial, List.nil_sublist _⟩

set_option maxRecDepth 100000 in
theorem areWithin_ok (w0 : World) (pl : Option Addr) (cl : Nat) (xs : List Int) (hx : IntsAt w0 pl xs) (hl : xs.length ≤ 1000000) (lo hi : Int) :
    Calls Tryz.prog 131 #[.slice pl xs.length cl, .int .i64 lo, .int .i64 hi] w0 (Post (X := Unit) (fun _ => .bool (xs.all fun x => wiB x lo hi)) (fun _ => True) (fun _ => []) w0) := by
  refine calls Tryz.func131 rfl (n := 21) rfl (by simp) ?_
  refine TC.seq ?_
  refine TC.region ?_
  refine TL.pure (PV.assign rfl) rfl (by decide) ?_
  refine TL.nil ?_
  refine TQ.thenC ?_
  refine TC.seq ?_
  refine TC.seq ?_
  refine TC.region ?_
  refine TL.pure (PV.move rfl) rfl (by decide) ?_
  refine TL.pure (PV.len rfl Tb.sl_25) rfl (by decide) ?_
  refine TL.pure (PV.move rfl) rfl (by decide) ?_
  refine TL.nil ?_
  refine TQ.thenC ?_
  refine TC.block ?_
  -- live and written in the loop, not told: [6]
  refine TC.loopG [1, 2, 9, 10] (X := Nat) (fun k => k ≤ xs.length ∧ ∀ j, j < k → wiB (xs.getD j 0) lo hi = true) (fun k => [(11, .int .i64 k)]) (fun k => xs.length - k) 0 ⟨Nat.zero_le _, fun j hj => absurd hj (Nat.not_lt_zero _)⟩ (by repeat (first | exact True.intro | refine And.intro rfl ?_)) ?_
  intro k hk
  refine TC.seq ?_
  refine TC.region ?_
  refine TL.pure (PV.lss rfl rfl) rfl (by decide) ?_
  refine TL.nil ?_
  refine TQ.thenC ?_
  refine TC.seq ?_
  first | refine TC.condD rfl (fun hlt => ?_) (fun hlt => ?_) | refine TC.cond rfl (fun hlt => ?_) (fun hlt => ?_)
  · refine TC.skip ?_
    refine TQ.thenC ?_
    refine TC.seq ?_
    refine TC.block ?_
    refine TC.seq ?_
    obtain ⟨q, hqp, hq⟩ := hx k (by omega)
    refine TC.region ?_
    refine TL.pure (PV.indexA rfl hqp rfl Tb.elm_25 rfl (by omega)) rfl (by decide) ?_
    refine TL.pure (PV.loadOld rfl Tb.one_3 hq) rfl (by decide) ?_
    refine TL.pure (PV.assign rfl) rfl (by decide) ?_
    refine TL.nil ?_
    refine TQ.thenC ?_
    refine TC.seq ?_
    refine TC.region ?_
    refine TL.pure (PV.move rfl) rfl (by decide) ?_
    refine TL.pure (PV.move rfl) rfl (by decide) ?_
    refine TL.pure (PV.move rfl) rfl (by decide) ?_
    refine TL.call rfl Tb.gofn_93 (fun a w hs => isWithin_ok w _ _ _) rfl (by decide) (fun _ _ => ?_)
    refine TL.pure ((by first | exact PV.notD rfl | exact PV.not rfl)) rfl (by decide) ?_
    refine TL.nil ?_
    refine TQ.thenC ?_
    first | refine TC.condD rfl (fun hno => ?_) (fun hno => ?_) | refine TC.cond rfl (fun hno => ?_) (fun hno => ?_)
    · refine TC.seq ?_
      refine TC.region ?_
      refine TL.pure (PV.assign rfl) rfl (by decide) ?_
      refine TL.nil ?_
      refine TQ.thenC ?_
      refine TC.ret ?_
      refine TQ.blkR ?_
      refine TQ.thenR ?_
      refine TQ.thenR ?_
      refine TQ.blkR ?_
      refine TQ.thenR ?_
      refine TQ.retE1 rfl rfl ?_
      exact ⟨(), by rw [all_no (k := k) (d := 0) (by omega) (by unfold wiB; exact decide_eq_false (by omega))], trivial, List.nil_sublist _⟩
    · refine TC.skip ?_
      refine TQ.blkN ?_
      refine TQ.thenC ?_
      refine TC.region ?_
      refine TL.pure (PV.add rfl rfl (by omega)) rfl (by decide) ?_
      refine TL.pure (PV.move rfl) rfl (by decide) ?_
      refine TL.nil ?_
      refine TQ.thenN ?_
      refine TQ.backK (k + 1) (by repeat (first | exact True.intro | refine And.intro rfl ?_)) (by repeat (first | exact True.intro | refine And.intro rfl ?_)) (by repeat (first | exact .slnil | exact List.nil_sublist _ | exact .refl _ | refine .cons_cons _ ?_ | refine .cons _ ?_ | refine .trans ?_ (List.sublist_append_right _ _))) ⟨by omega, fun j hj => if e : j < k then hk.2 j e else (show k = j by omega) ▸ (by unfold wiB; exact decide_eq_true (by omega))⟩ (by omega)
  · refine TC.exit ?_
    refine TQ.thenE ?_
    refine TQ.thenE ?_
    refine TQ.blkS ?_
    refine TQ.thenC ?_
    refine TC.seq ?_
    refine TC.region ?_
    refine TL.pure (PV.assign rfl) rfl (by decide) ?_
    refine TL.nil ?_
    refine TQ.thenC ?_
    refine TC.ret ?_
    refine TQ.retE1 rfl rfl ?_
    exact ⟨(), by rw [all_yes (d := 0) (fun j hj => hk.2 j (by omega))], trivial, List.nil_sublist _⟩

set_option maxRecDepth 100000 in
theorem depth_ok (w0 : World) (p : Option Addr) (cap : Nat) (ls : List (List Int)) (hr : LsAt w0 p ls) (hl : 0 < ls.length) :
    Calls Tryz.prog 132 #[bv p ls.length cap] w0 (Post (X := Unit) (fun _ => .int .i64 (dep ls)) (fun _ => True) (fun _ => []) w0) := by
  refine calls Tryz.func132 rfl (n := 8) rfl (by simp) ?_
  refine TC.seq ?_
  refine TC.region ?_
  refine TL.box rfl rfl (by decide) (fun b0 hb0 => ?_)
  refine TL.pure (PV.assign rfl) rfl (by decide) ?_
  refine TL.nil ?_
  refine TQ.thenC ?_
  refine TC.seq ?_
  obtain ⟨q0, hq0p, p0, c0, hq0, hi0⟩ := hr 0 (by omega)
  refine TC.region ?_
  refine TL.pure (PV.fieldAddr rfl Tb.fo_24_0) rfl (by decide) ?_
  refine TL.pure (PV.load rfl Tb.one_22 (by repeat (first | exact List.Mem.head _ | refine List.Mem.tail _ ?_ | refine List.mem_append_right _ ?_)) rfl) rfl (by decide) ?_
  refine TL.pure (PV.indexA rfl hq0p rfl Tb.elm_22 rfl (by omega)) rfl (by decide) ?_
  refine TL.pure (PV.loadOld rfl Tb.one_25 hq0) rfl (by decide) ?_
  refine TL.pure (PV.len rfl Tb.sl_25) rfl (by decide) ?_
  refine TL.pure (PV.assign rfl) rfl (by decide) ?_
  refine TL.nil ?_
  refine TQ.thenC ?_
  refine TC.ret ?_
  refine TQ.retE1 rfl rfl ?_
  exact ⟨(), rfl, trivial, List.nil_sublist _⟩

set_option maxRecDepth 100000 in
set_option maxHeartbeats 1000000 in
theorem validate_ok (w0 : World) (p : Option Addr) (cap : Nat) (ls : List (List Int)) (hr : LsAt w0 p ls) :
    Calls Tryz.prog 96 #[bv p ls.length cap] w0 (Post (X := Unit) (fun _ => .int .i64 (validI ls)) (fun _ => True) (fun _ => []) w0) := by
  refine calls Tryz.func96 rfl (n := 41) rfl (by simp) ?_
  refine TC.seq ?_
  refine TC.region ?_
  refine TL.box rfl rfl (by decide) (fun b0 hb0 => ?_)
  refine TL.pure (PV.assign rfl) rfl (by decide) ?_
  refine TL.nil ?_
  refine TQ.thenC ?_
  refine TC.seq ?_
  refine TC.seq ?_
  refine TC.region ?_
  refine TL.pure (PV.fieldAddr rfl Tb.fo_24_0) rfl (by decide) ?_
  refine TL.pure (PV.load rfl Tb.one_22 (by repeat (first | exact List.Mem.head _ | refine List.Mem.tail _ ?_ | refine List.mem_append_right _ ?_)) rfl) rfl (by decide) ?_
  refine TL.pure (PV.len rfl Tb.sl_22) rfl (by decide) ?_
  refine TL.pure (PV.lss rfl rfl) rfl (by decide) ?_
  refine TL.pure (PV.move rfl) rfl (by decide) ?_
  first | refine TL.splitD 9 rfl (fun a1 => ?_) (fun a1 => ?_) | refine TL.split 9 rfl (fun a1 => ?_) (fun a1 => ?_)
  · refine TL.skip rfl (fun k hk => by cases hk; decide) ?_
    refine TL.skip rfl (fun k hk => by cases hk; decide) ?_
    refine TL.skip rfl (fun k hk => by cases hk; decide) ?_
    refine TL.skip rfl (fun k hk => by cases hk; decide) ?_
    refine TL.pure (PV.pickT rfl rfl) rfl (by decide) ?_
    refine TL.nil ?_
    refine TQ.thenC ?_
    refine TC.condT rfl ?_
    refine TC.seq ?_
    refine TC.region ?_
    refine TL.pure (PV.assign rfl) rfl (by decide) ?_
    refine TL.nil ?_
    refine TQ.thenC ?_
    refine TC.ret ?_
    refine TQ.thenR ?_
    refine TQ.retE1 rfl rfl ?_
    exact ⟨(), by rw [valid_1 (by omega)], trivial, List.nil_sublist _⟩
  · refine TL.pure (PV.fieldAddr rfl Tb.fo_24_0) rfl (by decide) ?_
    refine TL.pure (PV.load rfl Tb.one_22 (by repeat (first | exact List.Mem.head _ | refine List.Mem.tail _ ?_ | refine List.mem_append_right _ ?_)) rfl) rfl (by decide) ?_
    refine TL.pure (PV.len rfl Tb.sl_22) rfl (by decide) ?_
    refine TL.pure (PV.gtr rfl rfl) rfl (by decide) ?_
    refine TL.pure (PV.pickF rfl rfl) rfl (by decide) ?_
    refine TL.nil ?_
    refine TQ.thenC ?_
    first | refine TC.condD rfl (fun a2 => ?_) (fun a2 => ?_) | refine TC.cond rfl (fun a2 => ?_) (fun a2 => ?_)
    · refine TC.seq ?_
      refine TC.region ?_
      refine TL.pure (PV.assign rfl) rfl (by decide) ?_
      refine TL.nil ?_
      refine TQ.thenC ?_
      refine TC.ret ?_
      refine TQ.thenR ?_
      refine TQ.retE1 rfl rfl ?_
      exact ⟨(), by rw [valid_1 (by omega)], trivial, List.nil_sublist _⟩
    · refine TC.skip ?_
      refine TQ.thenC ?_
      refine TC.seq ?_
      refine TC.seq ?_
      refine TC.region ?_
      refine TL.pure (PV.loadBox rfl Tb.agg_24 (by repeat (first | exact List.Mem.head _ | refine List.Mem.tail _ ?_ | refine List.mem_append_right _ ?_)) rfl) rfl (by decide) ?_
      refine TL.call rfl Tb.gofn_132 (fun a w hs => depth_ok w _ _ _ (hr.new hs.new) (by omega)) rfl (by decide) (fun _ _ => ?_)
      refine TL.pure (PV.lss rfl rfl) rfl (by decide) ?_
      refine TL.pure (PV.move rfl) rfl (by decide) ?_
      first | refine TL.splitD 18 rfl (fun b1 => ?_) (fun b1 => ?_) | refine TL.split 18 rfl (fun b1 => ?_) (fun b1 => ?_)
      · refine TL.skip rfl (fun k hk => by cases hk; decide) ?_
        refine TL.skip rfl (fun k hk => by cases hk; decide) ?_
        refine TL.skip rfl (fun k hk => by cases hk; decide) ?_
        refine TL.pure (PV.pickT rfl rfl) rfl (by decide) ?_
        refine TL.nil ?_
        refine TQ.thenC ?_
        refine TC.condT rfl ?_
        refine TC.seq ?_
        refine TC.region ?_
        refine TL.pure (PV.assign rfl) rfl (by decide) ?_
        refine TL.nil ?_
        refine TQ.thenC ?_
        refine TC.ret ?_
        refine TQ.thenR ?_
        refine TQ.retE1 rfl rfl ?_
        exact ⟨(), by rw [valid_2 (by omega)], trivial, List.nil_sublist _⟩
      · refine TL.pure (PV.loadBox rfl Tb.agg_24 (by repeat (first | exact List.Mem.head _ | refine List.Mem.tail _ ?_ | refine List.mem_append_right _ ?_)) rfl) rfl (by decide) ?_
        refine TL.call rfl Tb.gofn_132 (fun a w hs => depth_ok w _ _ _ (hr.new hs.new) (by omega)) rfl (by decide) (fun _ _ => ?_)
        refine TL.pure (PV.gtr rfl rfl) rfl (by decide) ?_
        refine TL.pure (PV.pickF rfl rfl) rfl (by decide) ?_
        refine TL.nil ?_
        refine TQ.thenC ?_
        first | refine TC.condD rfl (fun b2 => ?_) (fun b2 => ?_) | refine TC.cond rfl (fun b2 => ?_) (fun b2 => ?_)
        · refine TC.seq ?_
          refine TC.region ?_
          refine TL.pure (PV.assign rfl) rfl (by decide) ?_
          refine TL.nil ?_
          refine TQ.thenC ?_
          refine TC.ret ?_
          refine TQ.thenR ?_
          refine TQ.retE1 rfl rfl ?_
          exact ⟨(), by rw [valid_2 (by omega)], trivial, List.nil_sublist _⟩
        · refine TC.skip ?_
          refine TQ.thenC ?_
          refine TC.seq ?_
          refine TC.seq ?_
          refine TC.region ?_
          refine TL.pure (PV.fieldAddr rfl Tb.fo_24_0) rfl (by decide) ?_
          refine TL.pure (PV.load rfl Tb.one_22 (by repeat (first | exact List.Mem.head _ | refine List.Mem.tail _ ?_ | refine List.mem_append_right _ ?_)) rfl) rfl (by decide) ?_
          refine TL.pure (PV.len rfl Tb.sl_22) rfl (by decide) ?_
          refine TL.pure (PV.move rfl) rfl (by decide) ?_
          refine TL.nil ?_
          refine TQ.thenC ?_
          refine TC.block ?_
          -- live and written in the loop, not told: [2]
          refine TC.loopG [1, 24, 25] (X := Nat) (fun k => k ≤ ls.length ∧ ∀ j, j < k → colB ls (ls.getD j []) = true) (fun k => [(26, .int .i64 k)]) (fun k => ls.length - k) 0 ⟨Nat.zero_le _, fun j hj => absurd hj (Nat.not_lt_zero _)⟩ (by repeat (first | exact True.intro | refine And.intro rfl ?_)) ?_
          intro k hk
          refine TC.seq ?_
          refine TC.region ?_
          refine TL.pure (PV.lss rfl rfl) rfl (by decide) ?_
          refine TL.nil ?_
          refine TQ.thenC ?_
          refine TC.seq ?_
          first | refine TC.condD rfl (fun hlt => ?_) (fun hlt => ?_) | refine TC.cond rfl (fun hlt => ?_) (fun hlt => ?_)
          · refine TC.skip ?_
            refine TQ.thenC ?_
            refine TC.seq ?_
            refine TC.block ?_
            refine TC.seq ?_
            obtain ⟨q, hqp, pj, cj, hq, hi⟩ := hr k (by omega)
            refine TC.region ?_
            refine TL.pure (PV.indexA rfl hqp rfl Tb.elm_22 rfl (by omega)) rfl (by decide) ?_
            refine TL.pure (PV.loadOld rfl Tb.one_25 hq) rfl (by decide) ?_
            refine TL.pure (PV.assign rfl) rfl (by decide) ?_
            refine TL.nil ?_
            refine TQ.thenC ?_
            refine TC.seq ?_
            refine TC.region ?_
            refine TL.pure (PV.move rfl) rfl (by decide) ?_
            refine TL.pure (PV.len rfl Tb.sl_25) rfl (by decide) ?_
            refine TL.pure (PV.loadBox rfl Tb.agg_24 (by repeat (first | exact List.Mem.head _ | refine List.Mem.tail _ ?_ | refine List.mem_append_right _ ?_)) rfl) rfl (by decide) ?_
            refine TL.call rfl Tb.gofn_132 (fun a w hs => depth_ok w _ _ _ (hr.new hs.new) (by omega)) rfl (by decide) (fun _ _ => ?_)
            refine TL.pure (PV.neq rfl rfl) rfl (by decide) ?_
            refine TL.pure (PV.move rfl) rfl (by decide) ?_
            first | refine TL.splitD 35 rfl (fun c1 => ?_) (fun c1 => ?_) | refine TL.split 35 rfl (fun c1 => ?_) (fun c1 => ?_)
            · refine TL.skip rfl (fun k hk => by cases hk; decide) ?_
              refine TL.skip rfl (fun k hk => by cases hk; decide) ?_
              refine TL.skip rfl (fun k hk => by cases hk; decide) ?_
              refine TL.pure (PV.pickT rfl rfl) rfl (by decide) ?_
              refine TL.nil ?_
              refine TQ.thenC ?_
              refine TC.condT rfl ?_
              refine TC.seq ?_
              refine TC.region ?_
              refine TL.pure (PV.assign rfl) rfl (by decide) ?_
              refine TL.nil ?_
              refine TQ.thenC ?_
              refine TC.ret ?_
              refine TQ.blkR ?_
              refine TQ.thenR ?_
              refine TQ.thenR ?_
              refine TQ.blkR ?_
              refine TQ.thenR ?_
              refine TQ.retE1 rfl rfl ?_
              exact ⟨(), by rw [valid_3 (k := k) (by omega) (col_len (by omega))], trivial, List.nil_sublist _⟩
            · refine TL.pure (PV.move rfl) rfl (by decide) ?_
              refine TL.call rfl Tb.gofn_131 (fun a w hs => areWithin_ok w _ _ _ (hi.new hs.new) (by omega) _ _) rfl (by decide) (fun _ _ => ?_)
              refine TL.pure ((by first | exact PV.notD rfl | exact PV.not rfl)) rfl (by decide) ?_
              refine TL.pure (PV.pickF rfl rfl) rfl (by decide) ?_
              refine TL.nil ?_
              refine TQ.thenC ?_
              first | refine TC.condD rfl (fun c2 => ?_) (fun c2 => ?_) | refine TC.cond rfl (fun c2 => ?_) (fun c2 => ?_)
              · refine TC.seq ?_
                refine TC.region ?_
                refine TL.pure (PV.assign rfl) rfl (by decide) ?_
                refine TL.nil ?_
                refine TQ.thenC ?_
                refine TC.ret ?_
                refine TQ.blkR ?_
                refine TQ.thenR ?_
                refine TQ.thenR ?_
                refine TQ.blkR ?_
                refine TQ.thenR ?_
                refine TQ.retE1 rfl rfl ?_
                exact ⟨(), by rw [valid_3 (k := k) (by omega) (by unfold colB; rw [show ((ls.getD k []).all fun x => wiB x (-50) 50) = false by simpa using c2, Bool.and_false])], trivial, List.nil_sublist _⟩
              · refine TC.skip ?_
                refine TQ.blkN ?_
                refine TQ.thenC ?_
                refine TC.region ?_
                refine TL.pure (PV.add rfl rfl (by omega)) rfl (by decide) ?_
                refine TL.pure (PV.move rfl) rfl (by decide) ?_
                refine TL.nil ?_
                refine TQ.thenN ?_
                refine TQ.backK (k + 1) (by repeat (first | exact True.intro | refine And.intro rfl ?_)) (by repeat (first | exact True.intro | refine And.intro rfl ?_)) (by repeat (first | exact .slnil | exact List.nil_sublist _ | exact .refl _ | refine .cons_cons _ ?_ | refine .cons _ ?_ | refine .trans ?_ (List.sublist_append_right _ _))) ⟨by omega, fun j hj => if e : j < k then hk.2 j e else (show k = j by omega) ▸ (by unfold colB; rw [decide_eq_true (by omega)]; simpa using c2)⟩ (by omega)
          · refine TC.exit ?_
            refine TQ.thenE ?_
            refine TQ.thenE ?_
            refine TQ.blkS ?_
            refine TQ.thenC ?_
            refine TC.seq ?_
            refine TC.region ?_
            refine TL.pure (PV.assign rfl) rfl (by decide) ?_
            refine TL.nil ?_
            refine TQ.thenC ?_
            refine TC.ret ?_
            refine TQ.retE1 rfl rfl ?_
            exact ⟨(), by rw [valid_0 (by omega) (by omega) (fun j hj => hk.2 j (by omega))], trivial, List.nil_sublist _⟩

end Go.Proofs.YtbnjmkidbfmomaaGreatDoor.C
