/- All right hollows, by the reference: contract. -/
import Derived.Test.YtfgjojoipbbacaaQDD
set_option linter.unusedVariables false
set_option linter.unusedSimpArgs false
namespace Go.Proofs.Ytfgjojoipbbacaa
open Go.Sx Go.RowKit

abbrev gvP (x : HD × List (HD × List Int)) : Value := gval x.1 x.2.length
abbrev gbP (x : HD × List (HD × List Int)) : Heap := gblk x.1 25 (x.2.map gvI)
abbrev goP (x : HD × List (HD × List Int)) : Prop := gok x.1 x.2.length 1 (x.2.map gvI)
def bl (ps : List (HD × List Int)) : Heap := ps.reverse.flatMap gbI
theorem bl_snoc (ps : List (HD × List Int)) (x : HD × List Int) : bl (ps ++ [x]) = gbI x ++ bl ps := by simp [bl]
theorem gvI_one (x : HD × List Int) : (gvI x).oneCell' = true := by
  obtain ⟨h, l⟩ := x
  cases h <;> rfl
section
variable {n : Nat} {w0 : World} {E : Env} {G : Heap} {d : Nat} {ty : TypeId} {pos : String} {aft : Array Edge} {g : Option (Nat × Bool)} {ops : Array Oper} {Q : Exit → Act → World → Prop} {l : List Oper}
end
theorem LsAt.gP {w0 w : World} {G : Heap} {x : HD × List (HD × List Int)} (hn : New w0 w G) (hm : ∀ y ∈ gbP x, y ∈ G) (hb : ∀ z ∈ x.2, ∀ y ∈ gbI z, y ∈ G) (ho : goP x) (ha : ∀ y ∈ x.2, goI y) : LsAt w (gp x.1) (x.2.map (·.2)) := by
  obtain ⟨_ | ⟨b, cap, sp⟩, l⟩ := x
  · intro j hj
    have : l.length = 0 := ho.2
    simp only [List.length_map] at hj
    omega
  · intro j hj
    have hj' : j < l.length := by simpa using hj
    have hmem : l.getD j (none, []) ∈ l := by simp [List.getD, hj']
    have hgo := ha _ hmem
    have hjl : (l.map (·.2)).getD j [] = (l.getD j (none, [])).2 := by simp [List.getD, hj']
    refine ⟨⟨b, 0, none⟩, rfl, gp (l.getD j (none, [])).1, gc (l.getD j (none, [])).1, ?_, ?_⟩
    · rw [add_off, hjl, ← gval_eq hgo]
      refine hn.cell (hm _ (.head _)) ?_
      rw [List.getElem?_toArray, Nat.zero_add, Nat.mul_one, List.getElem?_append_left (by simpa using hj')]
      simp [List.getD, hj']
    · rw [hjl]
      exact IntsAt.g hn (fun y hy => hb _ hmem y hy) hgo
section
variable {P : Program} {n : Nat} {w0 : World} {E : Env} {G : Heap} {d : Option Nat} {ty : TypeId} {pos : String} {aft : Array Edge} {g : Option (Nat × Bool)}
theorem PV.loadGP {x : Operand} {j t : Nat} {y : HD × List (HD × List Int)} {v : Value} (hx : evo E x = some (.pointer (some ⟨(y.1.map (·.1)).getD 0, j * 1, none⟩))) (ht : oneB P t = true)
    (hm : ∀ q ∈ gbP y, q ∈ G) (hok : goP y) (hj : j < y.2.length) (hv : gvI (y.2.getD j (none, [])) = v) : PV P n w0 E G ⟨d, .load t x, ty, pos, aft, g⟩ v := by
  subst hv
  obtain ⟨h, l⟩ := y
  cases h with
  | none => exact absurd hok.2 (by simp only at hj ⊢; omega)
  | some hh =>
    obtain ⟨b, cap, sp⟩ := hh
    simp only [Option.map_some, Option.getD_some, Nat.mul_one] at hx
    refine PV.loadG' hx ht (hm _ (.head _)) ?_
    simp only at hj
    rw [List.getElem?_toArray, List.getElem?_append_left (by simpa using hj)]
    simp [List.getD, hj]
end
theorem bl_mem {ps : List (HD × List Int)} {x : HD × List Int} (h : x ∈ ps) : ∀ y ∈ gbI x, y ∈ bl ps := fun y hy => by
  unfold bl
  rw [List.mem_flatMap]
  exact ⟨_, List.mem_reverse.2 h, hy⟩
/-! All right hollows. -/
abbrev exB (t : List Int) (m : Nat) : Bool := rightB (t ++ [(m : Int)])
def extK (t : List Int) (m : Nat) : List (List Int) := ((List.range m).filter (exB t)).map fun i : Nat => t ++ [(i : Int)]
def exts (d : Nat) (t : List Int) : List (List Int) := extK t (d + 1)
def allL (d : Nat) : Nat → List (List Int)
  | 0 => [[]]
  | k + 1 => (allL d k).flatMap (exts d)
def parK (d : Nat) (l : List (List Int)) (i m : Nat) : List (List Int) := (l.take i).flatMap (exts d) ++ extK (l.getD i []) m
/-- A part of a right hollow. -/
structure PH (d k : Nat) (t : List Int) : Prop where
  len : t.length = k
  rng : ∀ c, 0 ≤ t.getD c 0 ∧ t.getD c 0 ≤ d
  right : rightB t = true
theorem app_at {t : List Int} {x : Int} (c : Nat) : (t ++ [x]).getD c 0 = if c < t.length then t.getD c 0 else if c = t.length then x else 0 := by
  simp only [List.getD_eq_getElem?_getD]
  split
  · rw [List.getElem?_append_left (by assumption)]
  · rw [List.getElem?_append_right (by omega)]
    split
    · rename_i h; rw [h, Nat.sub_self]; rfl
    · rw [List.getElem?_eq_none (by simp only [List.length_singleton]; omega)]; rfl
theorem right_at {t : List Int} (h : rightB t = true) {k : Nat} (hk : k + 1 < t.length) : stepB t k = true := List.all_eq_true.1 h k (List.mem_range.2 (by omega))
theorem all_ph (d : Nat) : ∀ (k : Nat) (t : List Int), t ∈ allL d k ↔ PH d k t
  | 0, t => by
    constructor
    · intro h
      obtain rfl : t = [] := by simpa [allL] using h
      exact ⟨rfl, fun c => by simp, rfl⟩
    · intro h
      obtain rfl : t = [] := List.eq_nil_of_length_eq_zero h.len
      simp [allL]
  | k + 1, t => by
    have ih := all_ph d k
    constructor
    · intro h
      obtain ⟨s, hs, ht⟩ := List.mem_flatMap.1 (show t ∈ (allL d k).flatMap (exts d) from h)
      have hp := (ih s).1 hs
      obtain ⟨i, hi, rfl⟩ := List.mem_map.1 (show t ∈ extK s (d + 1) from ht)
      obtain ⟨hi1, hi2⟩ := List.mem_filter.1 hi
      have hi3 := List.mem_range.1 hi1
      refine ⟨by rw [List.length_append, hp.len]; rfl, fun c => ?_, hi2⟩
      rw [app_at]
      have := hp.rng c
      split
      · exact this
      · split <;> omega
    · intro h
      have hl := h.len
      have e : t = t.take k ++ [t.getD k 0] := by
        conv => lhs; rw [← List.take_append_drop k t]
        congr 1
        rw [List.drop_eq_getElem_cons (by omega), List.drop_eq_nil_of_le (by omega)]
        simp [List.getD, show k < t.length by omega]
      have htl : (t.take k).length = k := by rw [List.length_take]; omega
      have hx := h.rng k
      have hta : ∀ c, (t.take k).getD c 0 = if c < k then t.getD c 0 else 0 := fun c => by
        simp only [List.getD_eq_getElem?_getD, List.getElem?_take]
        split <;> rfl
      have hp : PH d k (t.take k) := ⟨htl, fun c => by rw [hta]; have := h.rng c; split <;> omega, right_yes fun c hc => by
        have := right_at h.right (k := c) (by omega)
        unfold stepB at this ⊢
        rw [hta, hta, if_pos (by omega), if_pos (by omega)]
        exact this⟩
      refine List.mem_flatMap.2 ⟨t.take k, (ih _).2 hp, ?_⟩
      show t ∈ extK (t.take k) (d + 1)
      refine List.mem_map.2 ⟨(t.getD k 0).toNat, List.mem_filter.2 ⟨List.mem_range.2 (by omega), ?_⟩, ?_⟩
      · show rightB (t.take k ++ [(((t.getD k 0).toNat : Nat) : Int)]) = true
        rw [show (((t.getD k 0).toNat : Nat) : Int) = t.getD k 0 by omega, ← e]
        exact h.right
      · rw [show (((t.getD k 0).toNat : Nat) : Int) = t.getD k 0 by omega]
        exact e.symm
theorem ph_ho {ls : List (List Int)} (hb : VB ls) {t : List Int} : PH (dep ls) ls.length t ↔ HO ls t := by
  constructor
  · intro h
    exact ⟨⟨hb, h.len, h.rng⟩, fun k hk => of_decide_eq_true (right_at h.right (k := k) (by have := h.len; omega))⟩
  · intro h
    exact ⟨h.len, h.at_, right_yes fun k hk => decide_eq_true (h.stp k (by have := h.len; omega))⟩
abbrev allH (ls : List (List Int)) : List (List Int) := allL (dep ls) ls.length
theorem all_ho {ls : List (List Int)} (hb : VB ls) (t : List Int) : t ∈ allH ls ↔ HO ls t := (all_ph _ _ _).trans (ph_ho hb)
/-- Lists of lists that were put in one after another. -/
structure GrP (l : List (List Int)) (y : HD × List (HD × List Int)) : Prop where
  eq : y.2.map (·.2) = l
  ok : goP y
  all : ∀ z ∈ y.2, goI z
theorem GrP.nil : GrP [] (none, []) := ⟨rfl, ⟨rfl, rfl⟩, by simp⟩
theorem GrP.len {l : List (List Int)} {y : HD × List (HD × List Int)} (h : GrP l y) : y.2.length = l.length := by
  have := congrArg List.length h.eq
  simpa using this
theorem GrP.row {l : List (List Int)} {y : HD × List (HD × List Int)} (h : GrP l y) {i : Nat} (hi : i < l.length) : goI (y.2.getD i (none, [])) ∧ (y.2.getD i (none, [])).2 = l.getD i [] ∧ (y.2.getD i (none, [])) ∈ y.2 := by
  have hl := h.len
  have hmem : y.2.getD i (none, []) ∈ y.2 := by simp [List.getD, show i < y.2.length by omega]
  refine ⟨h.all _ hmem, ?_, hmem⟩
  rw [← h.eq]
  simp [List.getD, show i < y.2.length by omega]
theorem GrP.one (b : Nat) : GrP [[]] (some (b, 1, []), [(none, [])]) := ⟨rfl, ⟨rfl, rfl, Nat.le_refl _⟩, fun z hz => by
  obtain rfl : z = (none, []) := by simpa using hz
  exact goI_nil⟩
theorem getD_mem {l : List (List Int)} {i : Nat} (h : i < l.length) : l.getD i [] ∈ l := by simp [List.getD, h]


end Go.Proofs.Ytfgjojoipbbacaa
