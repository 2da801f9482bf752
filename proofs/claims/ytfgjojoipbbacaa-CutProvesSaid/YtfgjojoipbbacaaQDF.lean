/- All right hollows, by the reference: contract. -/
import Derived.Test.YtfgjojoipbbacaaQDD
set_option linter.unusedVariables false
set_option linter.unusedSimpArgs false
namespace Go.Proofs.Ytfgjojoipbbacaa
open Go.Sx Go.RowKit

abbrev gvP (x : HD × List (HD × List Int)) : Value := gval x.1 x.2.length
abbrev gbP (x : HD × List (HD × List Int)) : Heap := gblk x.1 25 (x.2.map gvI)
abbrev goP (x : HD × List (HD × List Int)) : Prop := gok x.1 x.2.length 1 (x.2.map gvI)
def bl (ps : List (HD × List Int)) : Heap := ps.reverse.flatMap gbI
theorem bl_snoc (ps : List (HD × List Int)) (x : HD × List Int) : bl (ps ++ [x]) = gbI x ++ bl ps := by simp [bl]
theorem gvI_one (x : HD × List Int) : (gvI x).oneCell' = true := by
  obtain ⟨h, l⟩ := x
  cases h <;> rfl
theorem fill_g (h : HD) (len : Nat) : Instr.fill (fun i => some (i * 1, 1)) ((Array.range (1 * 1)).map ((Value.slice none 0 0).cells[· % (Value.slice none 0 0).cells.size]!)) [(0, gval h len)] = some #[gval h len] := by
  cases h <;> kernel_rfl
section
variable {n : Nat} {w0 : World} {E : Env} {G : Heap} {d : Nat} {ty : TypeId} {pos : String} {aft : Array Edge} {g : Option (Nat × Bool)} {ops : Array Oper} {Q : Exit → Act → World → Prop} {l : List Oper}
theorem TL.appendP {s x : Operand} {x0 : HD × List (HD × List Int)} {b : Nat} {y : HD × List Int} {R : Heap} (hsv : evo E s = some (gvP x0)) (hx : evo E x = some (.slice (some ⟨b, 0, none⟩) 1 1)) (hm : (b, Obj.cells #[gvI y] 25 (0, 0)) ∈ G)
    (hok : goP x0) (hT : TakeH x0.1 25 (x0.2.map gvI) G R) (hb : x0.2.length ≤ 1000000) (hg : wants ops E g = some true) (hd : d < n)
    (h : ∀ h', goP (h', x0.2 ++ [y]) → TL Try.prog n w0 ops Q l ((d, gvP (h', x0.2 ++ [y])) :: E) (gbP (h', x0.2 ++ [y]) ++ R)) :
    TL Try.prog n w0 ops Q (⟨some d, .call { callee := .builtin .append, args := #[s, x], argTypes := #[22, 22] }, ty, pos, aft, g⟩ :: l) E G := by
  refine TL.append (news := [gvI y]) (m := 1) hsv hx Tb.sl_22 Tb.zi_25 rfl (by decide) hok hT (fun a w hs => src_blk Tb.sl_22 hm rfl (fun j v h => by simpa using h) (by simp [gvI_one]) hs.new) (fun w' hN => src_blk Tb.sl_22 hm rfl (fun j v h => by simpa using h) (by simp [gvI_one]) hN) (by omega) (by omega) hg hd (fun h' hok' _ => ?_)
  have hh := h h'
  unfold goP gvP gbP at hh
  simp only [List.map_append, List.length_append, List.map_cons, List.map_nil, List.length_cons, List.length_nil, Nat.zero_add] at hh
  exact hh hok'
end
theorem LsAt.gP {w0 w : World} {G : Heap} {x : HD × List (HD × List Int)} (hn : New w0 w G) (hm : ∀ y ∈ gbP x, y ∈ G) (hb : ∀ z ∈ x.2, ∀ y ∈ gbI z, y ∈ G) (ho : goP x) (ha : ∀ y ∈ x.2, goI y) : LsAt w (gp x.1) (x.2.map (·.2)) := by
  obtain ⟨_ | ⟨b, cap, sp⟩, l⟩ := x
  · intro j hj
    have : l.length = 0 := ho.2
    simp only [List.length_map] at hj
    omega
  · intro j hj
    have hj' : j < l.length := by simpa using hj
    have hmem : l.getD j (none, []) ∈ l := by simp [List.getD, hj']
    have hgo := ha _ hmem
    have hjl : (l.map (·.2)).getD j [] = (l.getD j (none, [])).2 := by simp [List.getD, hj']
    refine ⟨⟨b, 0, none⟩, rfl, gp (l.getD j (none, [])).1, gc (l.getD j (none, [])).1, ?_, ?_⟩
    · rw [add_off, hjl, ← gval_eq hgo]
      refine hn.cell (hm _ (.head _)) ?_
      rw [List.getElem?_toArray, Nat.zero_add, Nat.mul_one, List.getElem?_append_left (by simpa using hj')]
      simp [List.getD, hj']
    · rw [hjl]
      exact IntsAt.g hn (fun y hy => hb _ hmem y hy) hgo
section
variable {P : Program} {n : Nat} {w0 : World} {E : Env} {G : Heap} {d : Option Nat} {ty : TypeId} {pos : String} {aft : Array Edge} {g : Option (Nat × Bool)}
theorem PV.loadGP {x : Operand} {j t : Nat} {y : HD × List (HD × List Int)} {v : Value} (hx : evo E x = some (.pointer (some ⟨(y.1.map (·.1)).getD 0, j * 1, none⟩))) (ht : oneB P t = true)
    (hm : ∀ q ∈ gbP y, q ∈ G) (hok : goP y) (hj : j < y.2.length) (hv : gvI (y.2.getD j (none, [])) = v) : PV P n w0 E G ⟨d, .load t x, ty, pos, aft, g⟩ v := by
  subst hv
  obtain ⟨h, l⟩ := y
  cases h with
  | none => exact absurd hok.2 (by simp only at hj ⊢; omega)
  | some hh =>
    obtain ⟨b, cap, sp⟩ := hh
    simp only [Option.map_some, Option.getD_some, Nat.mul_one] at hx
    refine PV.loadG' hx ht (hm _ (.head _)) ?_
    simp only at hj
    rw [List.getElem?_toArray, List.getElem?_append_left (by simpa using hj)]
    simp [List.getD, hj]
end
theorem bl_mem {ps : List (HD × List Int)} {x : HD × List Int} (h : x ∈ ps) : ∀ y ∈ gbI x, y ∈ bl ps := fun y hy => by
  unfold bl
  rw [List.mem_flatMap]
  exact ⟨_, List.mem_reverse.2 h, hy⟩
/-! All right hollows. -/
abbrev exB (t : List Int) (m : Nat) : Bool := rightB (t ++ [(m : Int)])
def extK (t : List Int) (m : Nat) : List (List Int) := ((List.range m).filter (exB t)).map fun i : Nat => t ++ [(i : Int)]
def exts (d : Nat) (t : List Int) : List (List Int) := extK t (d + 1)
def allL (d : Nat) : Nat → List (List Int)
  | 0 => [[]]
  | k + 1 => (allL d k).flatMap (exts d)
def parK (d : Nat) (l : List (List Int)) (i m : Nat) : List (List Int) := (l.take i).flatMap (exts d) ++ extK (l.getD i []) m
theorem ext_yes {t : List Int} {m : Nat} (h : exB t m = true) : extK t (m + 1) = extK t m ++ [t ++ [(m : Int)]] := by simp [extK, List.range_succ, h]
theorem ext_no {t : List Int} {m : Nat} (h : exB t m = false) : extK t (m + 1) = extK t m := by simp [extK, List.range_succ, h]
theorem ext_len (t : List Int) (m : Nat) : (extK t m).length ≤ m := by
  unfold extK
  rw [List.length_map]
  exact Nat.le_trans (List.length_filter_le _ _) (by simp)
theorem par_yes {d : Nat} {l : List (List Int)} {i m : Nat} (h : exB (l.getD i []) m = true) : parK d l i (m + 1) = parK d l i m ++ [l.getD i [] ++ [(m : Int)]] := by unfold parK; rw [ext_yes h, List.append_assoc]
theorem par_no {d : Nat} {l : List (List Int)} {i m : Nat} (h : exB (l.getD i []) m = false) : parK d l i (m + 1) = parK d l i m := by unfold parK; rw [ext_no h]
theorem par_next {d : Nat} {l : List (List Int)} {i : Nat} (hi : i < l.length) : parK d l i (d + 1) = parK d l (i + 1) 0 := by
  unfold parK
  rw [List.take_add_one, List.getElem?_eq_getElem hi, Option.toList_some, List.flatMap_append, show l.getD i [] = l[i] by simp [List.getD, hi]]
  simp [extK, exts]
theorem par_end {d : Nat} {l : List (List Int)} {i : Nat} (hi : i = l.length) : parK d l i 0 = l.flatMap (exts d) := by
  subst hi
  unfold parK
  rw [List.take_length]
  simp [extK]
theorem par_zero (d : Nat) (l : List (List Int)) : parK d l 0 0 = [] := by simp [parK, extK]
theorem flat_len (d : Nat) : ∀ l : List (List Int), (l.flatMap (exts d)).length ≤ (d + 1) * l.length
  | [] => by simp
  | t :: r => by
    have h1 := flat_len d r
    have h2 := ext_len t (d + 1)
    rw [List.flatMap_cons, List.length_append, List.length_cons, Nat.mul_succ]
    show (extK t (d + 1)).length + _ ≤ _
    omega
theorem all_len {d : Nat} (hd : d ≤ 4) : ∀ k, (allL d k).length ≤ 5 ^ k
  | 0 => by simp [allL]
  | k + 1 => by
    have h1 := all_len hd k
    have h2 := flat_len d (allL d k)
    have h3 : (d + 1) * (allL d k).length ≤ 5 * 5 ^ k := Nat.mul_le_mul (by omega) h1
    show ((allL d k).flatMap (exts d)).length ≤ _
    rw [Nat.pow_succ]
    omega
theorem pow_6 {k : Nat} (h : k ≤ 6) : 5 ^ k ≤ 15625 := by
  have := Nat.pow_le_pow_right (n := 5) (by decide) h
  simpa using this
theorem par_len {d : Nat} {l : List (List Int)} {i m : Nat} (hd : d ≤ 4) (hm : m ≤ 5) (hl : l.length ≤ 15625) : (parK d l i m).length ≤ 100000 := by
  have h1 := flat_len d (l.take i)
  have h2 := ext_len (l.getD i []) m
  have h3 : (l.take i).length ≤ l.length := by rw [List.length_take]; omega
  have h4 : (d + 1) * (l.take i).length ≤ 5 * l.length := Nat.mul_le_mul (by omega) h3
  unfold parK
  rw [List.length_append]
  omega
/-- A part of a right hollow. -/
structure PH (d k : Nat) (t : List Int) : Prop where
  len : t.length = k
  rng : ∀ c, 0 ≤ t.getD c 0 ∧ t.getD c 0 ≤ d
  right : rightB t = true
theorem app_at {t : List Int} {x : Int} (c : Nat) : (t ++ [x]).getD c 0 = if c < t.length then t.getD c 0 else if c = t.length then x else 0 := by
  simp only [List.getD_eq_getElem?_getD]
  split
  · rw [List.getElem?_append_left (by assumption)]
  · rw [List.getElem?_append_right (by omega)]
    split
    · rename_i h; rw [h, Nat.sub_self]; rfl
    · rw [List.getElem?_eq_none (by simp only [List.length_singleton]; omega)]; rfl
theorem right_at {t : List Int} (h : rightB t = true) {k : Nat} (hk : k + 1 < t.length) : stepB t k = true := List.all_eq_true.1 h k (List.mem_range.2 (by omega))
theorem all_ph (d : Nat) : ∀ (k : Nat) (t : List Int), t ∈ allL d k ↔ PH d k t
  | 0, t => by
    constructor
    · intro h
      obtain rfl : t = [] := by simpa [allL] using h
      exact ⟨rfl, fun c => by simp, rfl⟩
    · intro h
      obtain rfl : t = [] := List.eq_nil_of_length_eq_zero h.len
      simp [allL]
  | k + 1, t => by
    have ih := all_ph d k
    constructor
    · intro h
      obtain ⟨s, hs, ht⟩ := List.mem_flatMap.1 (show t ∈ (allL d k).flatMap (exts d) from h)
      have hp := (ih s).1 hs
      obtain ⟨i, hi, rfl⟩ := List.mem_map.1 (show t ∈ extK s (d + 1) from ht)
      obtain ⟨hi1, hi2⟩ := List.mem_filter.1 hi
      have hi3 := List.mem_range.1 hi1
      refine ⟨by rw [List.length_append, hp.len]; rfl, fun c => ?_, hi2⟩
      rw [app_at]
      have := hp.rng c
      split
      · exact this
      · split <;> omega
    · intro h
      have hl := h.len
      have e : t = t.take k ++ [t.getD k 0] := by
        conv => lhs; rw [← List.take_append_drop k t]
        congr 1
        rw [List.drop_eq_getElem_cons (by omega), List.drop_eq_nil_of_le (by omega)]
        simp [List.getD, show k < t.length by omega]
      have htl : (t.take k).length = k := by rw [List.length_take]; omega
      have hx := h.rng k
      have hta : ∀ c, (t.take k).getD c 0 = if c < k then t.getD c 0 else 0 := fun c => by
        simp only [List.getD_eq_getElem?_getD, List.getElem?_take]
        split <;> rfl
      have hp : PH d k (t.take k) := ⟨htl, fun c => by rw [hta]; have := h.rng c; split <;> omega, right_yes fun c hc => by
        have := right_at h.right (k := c) (by omega)
        unfold stepB at this ⊢
        rw [hta, hta, if_pos (by omega), if_pos (by omega)]
        exact this⟩
      refine List.mem_flatMap.2 ⟨t.take k, (ih _).2 hp, ?_⟩
      show t ∈ extK (t.take k) (d + 1)
      refine List.mem_map.2 ⟨(t.getD k 0).toNat, List.mem_filter.2 ⟨List.mem_range.2 (by omega), ?_⟩, ?_⟩
      · show rightB (t.take k ++ [(((t.getD k 0).toNat : Nat) : Int)]) = true
        rw [show (((t.getD k 0).toNat : Nat) : Int) = t.getD k 0 by omega, ← e]
        exact h.right
      · rw [show (((t.getD k 0).toNat : Nat) : Int) = t.getD k 0 by omega]
        exact e.symm
theorem ph_ho {ls : List (List Int)} (hb : VB ls) {t : List Int} : PH (dep ls) ls.length t ↔ HO ls t := by
  constructor
  · intro h
    exact ⟨⟨hb, h.len, h.rng⟩, fun k hk => of_decide_eq_true (right_at h.right (k := k) (by have := h.len; omega))⟩
  · intro h
    exact ⟨h.len, h.at_, right_yes fun k hk => decide_eq_true (h.stp k (by have := h.len; omega))⟩
abbrev allH (ls : List (List Int)) : List (List Int) := allL (dep ls) ls.length
theorem all_ho {ls : List (List Int)} (hb : VB ls) (t : List Int) : t ∈ allH ls ↔ HO ls t := (all_ph _ _ _).trans (ph_ho hb)
/-- Lists of lists that were put in one after another. -/
structure GrP (l : List (List Int)) (y : HD × List (HD × List Int)) : Prop where
  eq : y.2.map (·.2) = l
  ok : goP y
  all : ∀ z ∈ y.2, goI z
theorem GrP.nil : GrP [] (none, []) := ⟨rfl, ⟨rfl, rfl⟩, by simp⟩
theorem GrP.len {l : List (List Int)} {y : HD × List (HD × List Int)} (h : GrP l y) : y.2.length = l.length := by
  have := congrArg List.length h.eq
  simpa using this
theorem GrP.snoc {l : List (List Int)} {y : HD × List (HD × List Int)} {h' h2 : HD} {r : List Int} (h : GrP l y) (hro : goI (h2, r)) (ho : goP (h', y.2 ++ [(h2, r)])) : GrP (l ++ [r]) (h', y.2 ++ [(h2, r)]) :=
  ⟨by simp only [List.map_append, List.map_cons, List.map_nil]; rw [h.eq], ho, fun z hz => by
    rcases List.mem_append.1 hz with hz | hz
    · exact h.all z hz
    · rw [List.mem_singleton.1 hz]; exact hro⟩
theorem GrP.row {l : List (List Int)} {y : HD × List (HD × List Int)} (h : GrP l y) {i : Nat} (hi : i < l.length) : goI (y.2.getD i (none, [])) ∧ (y.2.getD i (none, [])).2 = l.getD i [] ∧ (y.2.getD i (none, [])) ∈ y.2 := by
  have hl := h.len
  have hmem : y.2.getD i (none, []) ∈ y.2 := by simp [List.getD, show i < y.2.length by omega]
  refine ⟨h.all _ hmem, ?_, hmem⟩
  rw [← h.eq]
  simp [List.getD, show i < y.2.length by omega]
theorem GrP.one (b : Nat) : GrP [[]] (some (b, 1, []), [(none, [])]) := ⟨rfl, ⟨rfl, rfl, Nat.le_refl _⟩, fun z hz => by
  obtain rfl : z = (none, []) := by simpa using hz
  exact goI_nil⟩
theorem getD_mem {l : List (List Int)} {i : Nat} (h : i < l.length) : l.getD i [] ∈ l := by simp [List.getD, h]


set_option maxRecDepth 100000 in
set_option maxHeartbeats 4000000 in
theorem all_ok (w0 : World) (p : Option Addr) (cap : Nat) (ls : List (List Int)) (hr : LsAt w0 p ls) (hb : VB ls) :
    Calls Try.prog 77 #[bv p ls.length cap] w0 (Post (X := HD × List (HD × List Int)) (fun y => gvP y) (fun y => GrP (allH ls) y) (fun y => gbP y ++ bl y.2) w0) := by
  have hn9 := hb.n
  have hd9 := hb.d
  refine calls Try.func77 rfl (n := 46) rfl (by simp) ?_
  refine TC.seq ?_
  refine TC.region ?_
  refine TL.box rfl rfl (by decide) (fun b0 hb0 => ?_)
  refine TL.pure (PV.assign rfl) rfl (by decide) ?_
  refine TL.nil ?_
  refine TQ.thenC ?_
  refine TC.seq ?_
  refine TC.region ?_
  refine TL.buildSlice (cs := #[.slice none 0 0]) rfl Tb.sl_22 Tb.zi_25 (by decide) (by kernel_rfl) (by decide) rfl (by decide) (fun b9 hb9 => ?_)
  refine TL.pure (PV.assign rfl) rfl (by decide) ?_
  refine TL.nil ?_
  refine TQ.thenC ?_
  refine TC.seq ?_
  refine TC.seq ?_
  refine TC.region ?_
  refine TL.pure (PV.assign rfl) rfl (by decide) ?_
  refine TL.nil ?_
  refine TQ.thenC ?_
  refine TC.block ?_
  refine TC.lit [(1, _), (2, _), (3, _), (4, _)] (by repeat (first | exact True.intro | refine And.intro rfl ?_)) ?_
  refine TC.loopK [1, 2] (X := Nat × HD × List (HD × List Int)) (fun y => y.1 ≤ ls.length ∧ GrP (allL (dep ls) y.1) y.2) (fun y => [(4, .int .i64 y.1), (3, gvP y.2)]) (fun y => gbP y.2 ++ (bl y.2.2 ++ [(b0, Obj.cells #[.slice p ls.length cap] 24 (0, 0))])) (fun y => ls.length - y.1) (0, some (b9, 1, []), [(none, [])]) ⟨Nat.zero_le _, GrP.one b9⟩ (by repeat (first | exact True.intro | refine And.intro rfl ?_)) (List.Sublist.refl _) ?_
  intro y hy
  refine TC.lit [(1, _), (2, _), (3, _), (4, _)] (by repeat (first | exact True.intro | refine And.intro rfl ?_)) ?_
  refine TC.seq ?_
  refine TC.seq ?_
  refine TC.region ?_
  refine TL.pure (PV.move rfl) rfl (by decide) ?_
  refine TL.pure (PV.fieldAddr rfl Tb.fo_24_0) rfl (by decide) ?_
  refine TL.pure (PV.load rfl Tb.one_22 (by repeat (first | exact List.Mem.head _ | refine List.Mem.tail _ ?_ | refine List.mem_append_right _ ?_)) rfl) rfl (by decide) ?_
  refine TL.pure (PV.len rfl Tb.sl_22) rfl (by decide) ?_
  refine TL.pure (PV.lss rfl rfl) rfl (by decide) ?_
  refine TL.nil ?_
  refine TQ.thenC ?_
  first | refine TC.condD rfl (fun hlt => ?_) (fun hlt => ?_) | refine TC.cond rfl (fun hlt => ?_) (fun hlt => ?_)
  · skip
    refine TC.skip ?_
    refine TQ.thenC ?_
    refine TC.seq ?_
    refine TC.block ?_
    refine TC.seq ?_
    refine TC.region ?_
    refine TL.pure (PV.assign rfl) rfl (by decide) ?_
    refine TL.nil ?_
    refine TQ.thenC ?_
    refine TC.seq ?_
    refine TC.seq ?_
    refine TC.region ?_
    refine TL.pure (PV.assign rfl) rfl (by decide) ?_
    refine TL.nil ?_
    refine TQ.thenC ?_
    refine TC.block ?_
    refine TC.lit [(1, _), (2, _), (3, _), (4, _), (5, _), (6, _)] (by repeat (first | exact True.intro | refine And.intro rfl ?_)) ?_
    refine TC.loopK [1, 2, 3, 4] (X := Nat × HD × List (HD × List Int)) (fun z => z.1 ≤ y.2.2.length ∧ GrP (parK (dep ls) (allL (dep ls) y.1) z.1 0) z.2) (fun z => [(6, .int .i64 z.1), (5, gvP z.2)]) (fun z => gbP z.2 ++ (bl z.2.2 ++ (gbP y.2 ++ (bl y.2.2 ++ [(b0, Obj.cells #[.slice p ls.length cap] 24 (0, 0))])))) (fun z => y.2.2.length - z.1) (0, none, []) ⟨Nat.zero_le _, by rw [par_zero]; exact GrP.nil⟩ (by repeat (first | exact True.intro | refine And.intro rfl ?_)) (List.Sublist.refl _) ?_
    intro z hz
    have hall0 := Nat.le_trans (all_len hd9.2 y.1) (pow_6 (show y.1 ≤ 6 by omega))
    have hyl0 := hy.2.len
    refine TC.lit [(1, _), (2, _), (3, _), (4, _), (5, _), (6, _)] (by repeat (first | exact True.intro | refine And.intro rfl ?_)) ?_
    refine TC.seq ?_
    refine TC.seq ?_
    refine TC.region ?_
    refine TL.pure (PV.move rfl) rfl (by decide) ?_
    refine TL.pure (PV.move rfl) rfl (by decide) ?_
    refine TL.pure (PV.lenG rfl hy.2.ok Tb.sl_22) rfl (by decide) ?_
    refine TL.pure (PV.lss rfl rfl) rfl (by decide) ?_
    refine TL.nil ?_
    refine TQ.thenC ?_
    first | refine TC.condD rfl (fun hlt2 => ?_) (fun hlt2 => ?_) | refine TC.cond rfl (fun hlt2 => ?_) (fun hlt2 => ?_)
    · skip
      refine TC.skip ?_
      refine TQ.thenC ?_
      refine TC.seq ?_
      refine TC.block ?_
      refine TC.seq ?_
      refine TC.region ?_
      refine TL.pure (PV.assign rfl) rfl (by decide) ?_
      refine TL.nil ?_
      refine TQ.thenC ?_
      refine TC.block ?_
      refine TC.lit [(1, _), (2, _), (3, _), (4, _), (5, _), (6, _), (7, _)] (by repeat (first | exact True.intro | refine And.intro rfl ?_)) ?_
      refine TC.loopK [1, 2, 3, 4, 6] (X := Nat × HD × List (HD × List Int)) (fun v => v.1 ≤ dep ls + 1 ∧ GrP (parK (dep ls) (allL (dep ls) y.1) z.1 v.1) v.2) (fun v => [(7, .int .i64 v.1), (5, gvP v.2)]) (fun v => gbP v.2 ++ (bl v.2.2 ++ (gbP y.2 ++ (bl y.2.2 ++ [(b0, Obj.cells #[.slice p ls.length cap] 24 (0, 0))])))) (fun v => dep ls + 1 - v.1) (0, z.2) ⟨Nat.zero_le _, hz.2⟩ (by repeat (first | exact True.intro | refine And.intro rfl ?_)) (List.Sublist.refl _) ?_
      intro v hv
      refine TC.lit [(1, _), (2, _), (3, _), (4, _), (5, _), (6, _), (7, _)] (by repeat (first | exact True.intro | refine And.intro rfl ?_)) ?_
      refine TC.seq ?_
      refine TC.seq ?_
      refine TC.region ?_
      refine TL.pure (PV.move rfl) rfl (by decide) ?_
      refine TL.pure (PV.loadBox rfl Tb.agg_24 (by repeat (first | exact List.Mem.head _ | refine List.Mem.tail _ ?_ | refine List.mem_append_right _ ?_)) rfl) rfl (by decide) ?_
      refine TL.call rfl Tb.gofn_96 (fun a w hs => rdepth_ok w _ _ _ (hr.new hs.new) (by omega)) rfl (by decide) (fun _ _ => ?_)
      refine TL.pure (PV.leq rfl rfl) rfl (by decide) ?_
      refine TL.nil ?_
      refine TQ.thenC ?_
      first | refine TC.condD rfl (fun hlt3 => ?_) (fun hlt3 => ?_) | refine TC.cond rfl (fun hlt3 => ?_) (fun hlt3 => ?_)
      · skip
        refine TC.skip ?_
        refine TQ.thenC ?_
        refine TC.seq ?_
        refine TC.block ?_
        refine TC.seq ?_
        have hzl : z.1 < (allL (dep ls) y.1).length := by rw [← hy.2.len]; omega
        obtain ⟨hro, hre, hrm⟩ := hy.2.row hzl
        have hph := (all_ph (dep ls) y.1 _).1 (getD_mem hzl)
        have hall := Nat.le_trans (all_len hd9.2 y.1) (pow_6 (show y.1 ≤ 6 by omega))
        have hpl := par_len (d := dep ls) (l := allL (dep ls) y.1) (i := z.1) (m := v.1) hd9.2 (by omega) hall
        refine TC.region ?_
        refine TL.buildSlice0 Tb.sl_25 Tb.zi_3 rfl (by decide) (fun bA hbA => ?_)
        refine TL.pure (PV.move rfl) rfl (by decide) ?_
        refine TL.pure (PV.move rfl) rfl (by decide) ?_
        refine TL.pure (PV.indexG (j := z.1) rfl rfl hy.2.ok Tb.elm_22 rfl (by omega)) rfl (by decide) ?_
        refine TL.pure (PV.loadGP (y := y.2) (j := z.1) (v := gvI (y.2.2.getD z.1 (none, []))) rfl Tb.one_25 (fun yy hyy => by repeat (first | exact List.mem_append_left _ hyy | exact List.mem_append_left _ (List.mem_append_right _ hyy) | exact List.mem_append_left _ (List.mem_append_left _ hyy) | refine List.mem_append_right _ ?_ | refine List.Mem.tail _ ?_)) hy.2.ok (by omega) rfl) rfl (by decide) ?_
        refine TL.append0 (m := (y.2.2.getD z.1 (none, [])).2.length) (news := ival (y.2.2.getD z.1 (none, [])).2) (bA := bA) rfl rfl Tb.sl_25 Tb.zi_3 rfl (by repeat (first | exact Take.head _ | apply Take.tail | apply Take.appR)) (fun w' hN2 => src_g Tb.sl_25 hro (fun yy hyy => by have := bl_mem hrm yy hyy; simp only [List.mem_append, List.mem_cons]; simp [this]) (ival_one _) hN2) (by rw [hre, hph.len]; omega) (by rw [hre, hph.len]; omega) rfl (by decide) (fun h9 ho9 => ?_)
        refine TL.pure (PV.move rfl) rfl (by decide) ?_
        refine TL.buildSlice (cs := #[.int .i64 v.1]) rfl Tb.sl_25 Tb.zi_3 (by decide) (fill_i _) (by decide) rfl (by decide) (fun bE hbE => ?_)
        refine TL.appendI (x0 := (h9, (y.2.2.getD z.1 (none, [])).2)) rfl rfl (by repeat (first | exact List.Mem.head _ | refine List.Mem.tail _ ?_ | refine List.mem_append_right _ ?_)) ho9 (by repeat (first | exact TakeH.here _ _ _ _ | apply TakeH.tail | apply TakeH.app)) (by show (y.2.2.getD z.1 (none, [])).2.length ≤ _; rw [hre, hph.len]; omega) rfl (by decide) (fun hh hho => ?_)
        refine TL.pure (PV.assign rfl) rfl (by decide) ?_
        refine TL.nil ?_
        refine TQ.thenC ?_
        refine TC.seq ?_
        refine TC.region ?_
        refine TL.pure (PV.move rfl) rfl (by decide) ?_
        refine TL.call rfl Tb.gofn_67 (fun a w hs => (by rw [show gvI (hh, ((y.2.2.getD z.1 (none, [])).2 ++ [(v.1 : Int)])) = .slice (gp hh) _ (gc hh) from gval_eq hho]; exact right_ok w _ (gc hh) ((y.2.2.getD z.1 (none, [])).2 ++ [(v.1 : Int)]) (IntsAt.g (x := (hh, ((y.2.2.getD z.1 (none, [])).2 ++ [(v.1 : Int)]))) hs.new (fun yy hyy => by repeat (first | exact List.mem_append_left _ hyy | exact List.mem_append_left _ (List.mem_append_right _ hyy) | exact List.mem_append_left _ (List.mem_append_left _ hyy) | refine List.mem_append_right _ ?_ | refine List.Mem.tail _ ?_)) hho) (by rw [List.length_append, hre, hph.len]; simp only [List.length_singleton]; omega) (fun k => by rw [app_at, hre]; have := hph.rng k; split; omega; split <;> omega))) rfl (by decide) (fun _ _ => ?_)
        refine TL.nil ?_
        refine TQ.thenC ?_
        first | refine TC.condD rfl (fun hr => ?_) (fun hr => ?_) | refine TC.cond rfl (fun hr => ?_) (fun hr => ?_)
        · skip
          refine TC.region ?_
          refine TL.pure (PV.move rfl) rfl (by decide) ?_
          refine TL.pure (PV.move rfl) rfl (by decide) ?_
          refine TL.buildSlice (cs := #[gvI (hh, ((y.2.2.getD z.1 (none, [])).2 ++ [(v.1 : Int)]))]) rfl Tb.sl_22 Tb.zi_25 (by decide) (fill_g _ _) (by decide) rfl (by decide) (fun bO hbO => ?_)
          refine TL.appendP (x0 := v.2) (y := (hh, ((y.2.2.getD z.1 (none, [])).2 ++ [(v.1 : Int)]))) rfl rfl (by repeat (first | exact List.Mem.head _ | refine List.Mem.tail _ ?_ | refine List.mem_append_right _ ?_)) hv.2.ok (by repeat (first | exact TakeH.here _ _ _ _ | apply TakeH.tail | apply TakeH.app)) (by rw [hv.2.len]; omega) rfl (by decide) (fun hP_ hP => ?_)
          let nx : Nat × HD × List (HD × List Int) := (v.1 + 1, hP_, v.2.2 ++ [(hh, ((y.2.2.getD z.1 (none, [])).2 ++ [(v.1 : Int)]))])
          have hn1 : nx.1 = v.1 + 1 := rfl
          have hnx : GrP (parK (dep ls) (allL (dep ls) y.1) z.1 nx.1) nx.2 := by rw [hn1, par_yes (by rw [← hre]; exact hr), ← hre]; exact hv.2.snoc hho hP
          refine TL.pure (PV.assign rfl) rfl (by decide) ?_
          refine TL.nil ?_
          refine TQ.blkN ?_
          refine TQ.thenC ?_
          refine TC.region ?_
          refine TL.pure (PV.move rfl) rfl (by decide) ?_
          refine TL.pure (PV.add rfl rfl (by omega)) rfl (by decide) ?_
          refine TL.pure (PV.assign rfl) rfl (by decide) ?_
          refine TL.nil ?_
          refine TQ.thenN ?_
          refine TQ.backK nx (by repeat (first | exact True.intro | refine And.intro rfl ?_)) (by repeat (first | exact True.intro | refine And.intro rfl ?_)) (by first | (rw [bl_snoc]; simp only [List.append_assoc]; exact List.Sublist.append_left (List.Sublist.cons _ (List.Sublist.append_left (List.Sublist.cons _ (List.Sublist.refl _)) _)) _) | exact List.Sublist.trans (List.Sublist.cons _ (List.Sublist.refl _)) (List.sublist_append_right _ _)) ⟨by omega, hnx⟩ (by omega)
        · skip
          let nx : Nat × HD × List (HD × List Int) := (v.1 + 1, v.2)
          have hn1 : nx.1 = v.1 + 1 := rfl
          have hnx : GrP (parK (dep ls) (allL (dep ls) y.1) z.1 nx.1) nx.2 := by rw [hn1, par_no (by rw [← hre]; first | exact hr | simpa using hr)]; exact hv.2
          refine TC.skip ?_
          refine TQ.blkN ?_
          refine TQ.thenC ?_
          refine TC.region ?_
          refine TL.pure (PV.move rfl) rfl (by decide) ?_
          refine TL.pure (PV.add rfl rfl (by omega)) rfl (by decide) ?_
          refine TL.pure (PV.assign rfl) rfl (by decide) ?_
          refine TL.nil ?_
          refine TQ.thenN ?_
          refine TQ.backK nx (by repeat (first | exact True.intro | refine And.intro rfl ?_)) (by repeat (first | exact True.intro | refine And.intro rfl ?_)) (by first | (rw [bl_snoc]; simp only [List.append_assoc]; exact List.Sublist.append_left (List.Sublist.cons _ (List.Sublist.append_left (List.Sublist.cons _ (List.Sublist.refl _)) _)) _) | exact List.Sublist.trans (List.Sublist.cons _ (List.Sublist.refl _)) (List.sublist_append_right _ _)) ⟨by omega, hnx⟩ (by omega)
      · skip
        refine TC.exit ?_
        refine TQ.thenE ?_
        refine TQ.thenE ?_
        refine TQ.blkS ?_
        refine TQ.blkN ?_
        refine TQ.thenC ?_
        refine TC.region ?_
        refine TL.pure (PV.move rfl) rfl (by decide) ?_
        refine TL.pure (PV.add rfl rfl (by omega)) rfl (by decide) ?_
        refine TL.pure (PV.assign rfl) rfl (by decide) ?_
        refine TL.nil ?_
        refine TQ.thenN ?_
        refine TQ.backK (z.1 + 1, v.2) (by repeat (first | exact True.intro | refine And.intro rfl ?_)) (by repeat (first | exact True.intro | refine And.intro rfl ?_)) (List.Sublist.refl _) ⟨by simp only; omega, by have h7 := hv.2; rw [show v.1 = dep ls + 1 by omega, par_next (by rw [← hy.2.len]; omega)] at h7; exact h7⟩ (by simp only; omega)
    · skip
      refine TC.exit ?_
      refine TQ.thenE ?_
      refine TQ.thenE ?_
      refine TQ.blkS ?_
      refine TQ.thenC ?_
      refine TC.region ?_
      refine TL.pure (PV.move rfl) rfl (by decide) ?_
      refine TL.pure (PV.assign rfl) rfl (by decide) ?_
      refine TL.nil ?_
      refine TQ.blkN ?_
      refine TQ.thenC ?_
      refine TC.region ?_
      refine TL.pure (PV.move rfl) rfl (by decide) ?_
      refine TL.pure (PV.add rfl rfl (by omega)) rfl (by decide) ?_
      refine TL.pure (PV.assign rfl) rfl (by decide) ?_
      refine TL.nil ?_
      refine TQ.thenN ?_
      refine TQ.backK (y.1 + 1, z.2) (by repeat (first | exact True.intro | refine And.intro rfl ?_)) (by repeat (first | exact True.intro | refine And.intro rfl ?_)) (List.Sublist.append_left (List.Sublist.append_left (List.Sublist.trans (List.sublist_append_right _ _) (List.sublist_append_right _ _)) _) _) ⟨by simp only; omega, by have h7 := hz.2; rw [par_end (show z.1 = (allL (dep ls) y.1).length by rw [← hy.2.len]; omega)] at h7; exact h7⟩ (by simp only; omega)
  · skip
    refine TC.exit ?_
    refine TQ.thenE ?_
    refine TQ.thenE ?_
    refine TQ.blkS ?_
    refine TQ.thenC ?_
    refine TC.seq ?_
    refine TC.region ?_
    refine TL.pure (PV.move rfl) rfl (by decide) ?_
    refine TL.pure (PV.assign rfl) rfl (by decide) ?_
    refine TL.nil ?_
    refine TQ.thenC ?_
    refine TC.ret ?_
    refine TQ.retE1 rfl rfl ?_
    exact ⟨y.2, rfl, (by have h7 := hy.2; rw [show y.1 = ls.length by omega] at h7; exact h7), (by rw [← List.append_assoc]; exact List.sublist_append_left _ _)⟩

end Go.Proofs.Ytfgjojoipbbacaa
