/- Determinants along the first row, by the reference: rows of numbers in memory, minors. -/
import Derived.Test.YtgafpkcnhpoobaaEp
set_option linter.unusedVariables false
set_option linter.unusedSimpArgs false
namespace Go.Proofs.Ytgafpkcnhpoobaa
open Go.Sx Go.RowKit Go.Sand

abbrev gvP (x : HD × List (HD × List Int)) : Value := gval x.1 x.2.length
abbrev gbP (x : HD × List (HD × List Int)) : Heap := gblk x.1 23 (x.2.map gvI)
abbrev goP (x : HD × List (HD × List Int)) : Prop := gok x.1 x.2.length 1 (x.2.map gvI)
def bl (ps : List (HD × List Int)) : Heap := ps.reverse.flatMap gbI
theorem bl_snoc (ps : List (HD × List Int)) (x : HD × List Int) : bl (ps ++ [x]) = gbI x ++ bl ps := by simp [bl]
theorem gvI_one (x : HD × List Int) : (gvI x).oneCell' = true := by
  obtain ⟨h, l⟩ := x
  cases h <;> rfl
theorem fill_g (h : HD) (len : Nat) : Instr.fill (fun i => some (i * 1, 1)) ((Array.range (1 * 1)).map ((Value.slice none 0 0).cells[· % (Value.slice none 0 0).cells.size]!)) [(0, gval h len)] = some #[gval h len] := by
  cases h <;> kernel_rfl

section
variable {n : Nat} {w0 : World} {E : Env} {G : Heap} {d : Nat} {ty : TypeId} {pos : String} {aft : Array Edge} {g : Option (Nat × Bool)} {ops : Array Oper} {Q : Exit → Act → World → Prop} {l : List Oper}
/-- s = append(s, xs...) of numbers that lie in memory. -/
theorem TL.appendS {s x : Operand} {h0 : HD} {ys xs : List Int} {K0 K c : Nat} {p : Option Addr} {R : Heap} (hsv : evo E s = some (gval h0 K0)) (hx : evo E x = some (.slice p K c)) (hK0 : ys.length = K0) (hK : xs.length = K)
    (hat : ∀ w', New w0 w' G → IntsAt w' p xs)
    (hok : goI (h0, ys)) (hT : TakeH h0 3 (ival ys) G R) (hb : K0 + K ≤ 1000000) (hg : wants ops E g = some true) (hd : d < n)
    (h : ∀ h', goI (h', ys ++ xs) → TL Try.prog n w0 ops Q l ((d, gval h' (K0 + K)) :: E) (gbI (h', ys ++ xs) ++ R)) :
    TL Try.prog n w0 ops Q (⟨some d, .call { callee := .builtin .append, args := #[s, x], argTypes := #[23, 23] }, ty, pos, aft, g⟩ :: l) E G := by
  subst hK0
  refine TL.append (news := ival xs) (m := K) hsv hx Tb.sl_23 Tb.zi_3 rfl (by decide) hok hT (fun a w hs => ints_src Tb.sl_23 hK (hat w hs.new)) (fun w' hN => ints_src Tb.sl_23 hK (hat w' hN)) (by omega) (by omega) hg hd (fun h' hok' _ => ?_)
  have hh := h h'
  unfold goI gbI ival at hh
  simp only [List.map_append, List.length_append, hK] at hh
  exact hh hok'
end
section
variable {n : Nat} {w0 : World} {E : Env} {G : Heap} {d : Nat} {ty : TypeId} {pos : String} {aft : Array Edge} {g : Option (Nat × Bool)} {ops : Array Oper} {Q : Exit → Act → World → Prop} {l : List Oper}
theorem TL.appendP {s x : Operand} {x0 : HD × List (HD × List Int)} {b : Nat} {y : HD × List Int} {R : Heap} (hsv : evo E s = some (gvP x0)) (hx : evo E x = some (.slice (some ⟨b, 0, none⟩) 1 1)) (hm : (b, Obj.cells #[gvI y] 23 (0, 0)) ∈ G)
    (hok : goP x0) (hT : TakeH x0.1 23 (x0.2.map gvI) G R) (hb : x0.2.length ≤ 1000000) (hg : wants ops E g = some true) (hd : d < n)
    (h : ∀ h', goP (h', x0.2 ++ [y]) → TL Try.prog n w0 ops Q l ((d, gvP (h', x0.2 ++ [y])) :: E) (gbP (h', x0.2 ++ [y]) ++ R)) :
    TL Try.prog n w0 ops Q (⟨some d, .call { callee := .builtin .append, args := #[s, x], argTypes := #[22, 22] }, ty, pos, aft, g⟩ :: l) E G := by
  refine TL.append (news := [gvI y]) (m := 1) hsv hx Tb.sl_22 Tb.zi_23 rfl (by decide) hok hT (fun a w hs => src_blk Tb.sl_22 hm rfl (fun j v h => by simpa using h) (by simp [gvI_one]) hs.new) (fun w' hN => src_blk Tb.sl_22 hm rfl (fun j v h => by simpa using h) (by simp [gvI_one]) hN) (by omega) (by omega) hg hd (fun h' hok' _ => ?_)
  have hh := h h'
  unfold goP gvP gbP at hh
  simp only [List.map_append, List.length_append, List.map_cons, List.map_nil, List.length_cons, List.length_nil, Nat.zero_add] at hh
  exact hh hok'
end

/-- A part of a list in memory. -/
theorem IntsAt.cut {w : World} {p : Option Addr} {xs : List Int} {cap : Nat} (h : IntsAt w p xs) (hc : xs.length ≤ cap) (l m : Nat) : IntsAt w (cutA p cap l 1) ((xs.drop l).take m) := fun j hj => by
  have hj2 : j < m ∧ j < xs.length - l := by simp at hj; omega
  obtain ⟨q, rfl, hq⟩ := h (l + j) (by omega)
  refine ⟨q.add (l * 1), ?_, ?_⟩
  · unfold cutA
    rw [if_neg (by omega)]
    rfl
  · rw [addr_add_add, ← Nat.add_mul, hq]
    have h1 : l + j < xs.length := by omega
    simp [List.getD, hj2.1, h1]
/-- Rows of numbers in memory, each with room for itself. -/
def RowsAt (w : World) (p : Option Addr) (m : List (List Int)) : Prop := ∀ j, j < m.length → ∃ q, p = some q ∧ ∃ pj cj, w.cell? (q.add (j * 1)) = some (.slice pj (m.getD j []).length cj) ∧ (m.getD j []).length ≤ cj ∧ IntsAt w pj (m.getD j [])
theorem RowsAt.new {w0 w : World} {G : Heap} {p : Option Addr} {m : List (List Int)} (h : RowsAt w0 p m) (hn : New w0 w G) : RowsAt w p m := fun j hj =>
  let ⟨q, hq, pj, cj, h1, h2, h3⟩ := h j hj
  ⟨q, hq, pj, cj, hn.old h1, h2, h3.new hn⟩
theorem gc_le {h : HD} {len : Nat} {ys : List Value} (ho : gok h len 1 ys) : len ≤ gc h := by
  obtain _ | ⟨b, cap, sp⟩ := h
  · have : len = 0 := ho.2
    omega
  · exact ho.2.2
theorem RowsAt.g {w0 w : World} {G : Heap} {x : HD × List (HD × List Int)} (hn : New w0 w G) (hm : ∀ y ∈ gbP x, y ∈ G) (hb : ∀ y ∈ bl x.2, y ∈ G) (ho : goP x) (ha : ∀ y ∈ x.2, goI y) : RowsAt w (gp x.1) (x.2.map (·.2)) := by
  obtain ⟨_ | ⟨b, cap, sp⟩, l⟩ := x
  · intro j hj
    have : l.length = 0 := ho.2
    simp only [List.length_map] at hj
    omega
  · intro j hj
    have hj' : j < l.length := by simpa using hj
    have hmem : l.getD j (none, []) ∈ l := by simp [List.getD, hj']
    have hgo := ha _ hmem
    have hjl : (l.map (·.2)).getD j [] = (l.getD j (none, [])).2 := by simp [List.getD, hj']
    refine ⟨⟨b, 0, none⟩, rfl, gp (l.getD j (none, [])).1, gc (l.getD j (none, [])).1, ?_, ?_, ?_⟩
    · rw [add_off, hjl, ← gval_eq hgo]
      refine hn.cell (hm _ (.head _)) ?_
      rw [List.getElem?_toArray, Nat.zero_add, Nat.mul_one, List.getElem?_append_left (by simpa using hj')]
      simp [List.getD, hj']
    · rw [hjl]; exact gc_le hgo
    · rw [hjl]
      refine IntsAt.g hn (fun y hy => hb y ?_) hgo
      unfold bl
      rw [List.mem_flatMap]
      exact ⟨_, List.mem_reverse.2 hmem, hy⟩

def minorRow (r : List Int) (k : Nat) : List Int := r.take k ++ r.drop (k + 1)
theorem minorRow_get {r : List Int} {k : Nat} (hk : k < r.length) (b : Nat) : (minorRow r k).getD b 0 = r.getD (if b < k then b else b + 1) 0 := by
  unfold minorRow
  by_cases h : b < k
  · rw [if_pos h, List.getD_eq_getElem?_getD, List.getElem?_append_left (by simp; omega), List.getD_eq_getElem?_getD, List.getElem?_take_of_lt h]
  · rw [if_neg h, List.getD_eq_getElem?_getD, List.getElem?_append_right (by simp; omega), List.getD_eq_getElem?_getD, List.getElem?_drop]
    congr 2
    simp
    omega
theorem minorRow_len {r : List Int} {k : Nat} (hk : k < r.length) : (minorRow r k).length = r.length - 1 := by simp [minorRow]; omega
def minorM (m : List (List Int)) (K k i : Nat) : List (List Int) := (List.range (i - 1)).map fun a => minorRow (m.getD (a + 1) []) k
theorem minorM_sh {m : List (List Int)} {K k : Nat} (h : Sh m (K + 1)) (hk : k < K + 1) : Sh (minorM m K k (K + 1)) K := by
  refine ⟨by simp [minorM], fun i hi => ?_⟩
  have e : (minorM m K k (K + 1)).getD i [] = minorRow (m.getD (i + 1) []) k := by simp [minorM, List.getD, hi]
  have h1 := h.2 (i + 1) (by omega)
  rw [e, minorRow_len (by omega), h1]; omega
theorem minorM_get {m : List (List Int)} {K k : Nat} (h : Sh m (K + 1)) (hk : k < K + 1) {a b : Nat} (ha : a < K) : getM (minorM m K k (K + 1)) a b = minorF (getM m) k a b := by
  have e : (minorM m K k (K + 1)).getD a [] = minorRow (m.getD (a + 1) []) k := by simp [minorM, List.getD, ha]
  unfold getM minorF
  rw [e, minorRow_get (by have := h.2 (a + 1) (by omega); omega)]
structure RIm (m : List (List Int)) (K k i : Nat) (x : HD × List (HD × List Int)) : Prop where
  lo : 1 ≤ i
  le : i ≤ K + 1
  eq : x.2.map (·.2) = minorM m K k i
  ok : goP x
  all : ∀ y ∈ x.2, goI y
theorem RIm.zero (m : List (List Int)) (K k : Nat) : RIm m K k 1 (none, []) := ⟨by omega, by omega, rfl, ⟨rfl, rfl⟩, by simp⟩
theorem RIm.len {m : List (List Int)} {K k i : Nat} {x : HD × List (HD × List Int)} (h : RIm m K k i x) : x.2.length = i - 1 := by
  have := congrArg List.length h.eq
  simpa [minorM] using this
theorem RIm.step {m : List (List Int)} {K k i : Nat} {x : HD × List (HD × List Int)} {h' h2 : HD} {ys : List Int} (h : RIm m K k i x) (hi : i < K + 1) (hy : ys = minorRow (m.getD i []) k) (hyo : goI (h2, ys)) (ho : goP (h', x.2 ++ [(h2, ys)])) :
    RIm m K k (i + 1) (h', x.2 ++ [(h2, ys)]) := ⟨by omega, hi, by
      have h1 := h.lo
      obtain ⟨a, rfl⟩ : ∃ a, i = a + 1 := ⟨i - 1, by omega⟩
      simp only [List.map_append, List.map_cons, List.map_nil]
      rw [h.eq]
      unfold minorM
      rw [show a + 1 + 1 - 1 = a + 1 by omega, show a + 1 - 1 = a by omega, List.range_succ, List.map_append, hy]; rfl, ho, fun z hz => by
      rcases List.mem_append.1 hz with hz | hz
      · exact h.all z hz
      · rw [List.mem_singleton.1 hz]; exact hyo⟩

end Go.Proofs.Ytgafpkcnhpoobaa
