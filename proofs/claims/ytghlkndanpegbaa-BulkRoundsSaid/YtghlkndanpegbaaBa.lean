/- Which trades and plans are right, and what a plan costs: contracts. -/
import Derived.Test.YtghlkndanpegbaaJk
import Derived.Test.YtghlkndanpegbaaSv
import Derived.Test.YtghlkndanpegbaaSw
import Derived.Test.YtghlkndanpegbaaRe
import Derived.Test.YtghlkndanpegbaaSs
set_option linter.unusedVariables false
set_option linter.unusedSimpArgs false
namespace Go.Proofs.Ytghlkndanpegbaa
open Go.Sx Go.RowKit Go.Sand

theorem two_cells {w : World} {a : Addr} {u v : Value} (h0 : w.cell? (a.add 0) = some u) (h1 : w.cell? (a.add 1) = some v) : ∀ j x, [u, v][j]? = some x → w.cell? (a.add j) = some x := by
  intro j x h
  match j with
  | 0 => simp only [List.getElem?_cons_zero, Option.some.injEq] at h; subst h; exact h0
  | 1 => simp only [List.getElem?_cons_succ, List.getElem?_cons_zero, Option.some.injEq] at h; subst h; exact h1
  | j + 2 => simp at h
/-- A slice reads as the lists. -/
def LsAt (w : World) (p : Option Addr) (ls : List (List Int)) : Prop := ∀ j, j < ls.length → ∃ q, p = some q ∧ ∃ pj cj, w.cell? (q.add (j * 1)) = some (.slice pj (ls.getD j []).length cj) ∧ IntsAt w pj (ls.getD j [])
theorem LsAt.new {w0 w : World} {G : Heap} {p : Option Addr} {ls : List (List Int)} (h : LsAt w0 p ls) (hn : New w0 w G) : LsAt w p ls := fun j hj =>
  let ⟨q, hq, pj, cj, h1, h2⟩ := h j hj
  ⟨q, hq, pj, cj, hn.old h1, h2.new hn⟩
theorem fill_o (x : Option Addr) (n c : Nat) : Instr.fill (fun i => some (i * 1, 1)) ((Array.range (1 * 1)).map ((Value.slice none 0 0).cells[· % (Value.slice none 0 0).cells.size]!)) [(0, .slice x n c)] = some #[.slice x n c] := by kernel_rfl
theorem fill_oo (x y : Option Addr) (n c m d : Nat) : Instr.fill (fun i => some (i * 1, 1)) ((Array.range (2 * 1)).map ((Value.slice none 0 0).cells[· % (Value.slice none 0 0).cells.size]!)) [(0, .slice x n c), (1, .slice y m d)] = some #[.slice x n c, .slice y m d] := by kernel_rfl
theorem fill_i (v : Int) : Instr.fill (fun i => some (i * 1, 1)) ((Array.range (1 * 1)).map ((Value.int .i64 0).cells[· % (Value.int .i64 0).cells.size]!)) [(0, .int .i64 v)] = some #[.int .i64 v] := by kernel_rfl
theorem LsAt.one {w0 w : World} {G : Heap} {bO cl : Nat} {e : TypeId} {pl : Option Addr} {xs : List Int} (hn : New w0 w G) (hO : (bO, Obj.cells #[.slice pl xs.length cl] e (0, 0)) ∈ G) (hx : IntsAt w pl xs) : LsAt w (some ⟨bO, 0, none⟩) [xs] := by
  intro j hj
  have e : j = 0 := by simp only [List.length_cons, List.length_nil] at hj; omega
  subst e
  refine ⟨_, rfl, pl, cl, ?_, hx⟩
  rw [add_off]
  exact hn.cell hO rfl
theorem LsAt.two {w0 w : World} {G : Heap} {bO cl c2 : Nat} {e : TypeId} {pl p2 : Option Addr} {xs ys : List Int} (hn : New w0 w G) (hO : (bO, Obj.cells #[.slice pl xs.length cl, .slice p2 ys.length c2] e (0, 0)) ∈ G) (hx : IntsAt w pl xs) (hy : IntsAt w p2 ys) : LsAt w (some ⟨bO, 0, none⟩) [xs, ys] := by
  intro j hj
  have e : j = 0 ∨ j = 1 := by simp only [List.length_cons, List.length_nil] at hj; omega
  rcases e with rfl | rfl
  · refine ⟨_, rfl, pl, cl, ?_, hx⟩
    rw [add_off]
    exact hn.cell hO rfl
  · refine ⟨_, rfl, p2, c2, ?_, hy⟩
    rw [add_off]
    exact hn.cell hO rfl
theorem PV.fieldAddrA {P : Program} {n : Nat} {w0 : World} {E : Env} {G : Heap} {d : Option Nat} {ty : TypeId} {pos : String} {aft : Array Edge} {g : Option (Nat × Bool)} {x : Operand} {q : Addr} {k : Nat} {t f : Nat} (hx : evo E x = some (.pointer (some q))) (hf : fieldOff P t f = some k) :
    PV P n w0 E G ⟨d, .fieldAddr t x f, ty, pos, aft, g⟩ (.pointer (some (q.add k))) :=
  fun a w hs => by
    unfold fieldOff at hf
    cases hu : P.underlying t with
    | none => simp [hu] at hf
    | some u =>
      cases u <;> simp only [hu] at hf <;> try (simp at hf; done)
      rename_i fs
      cases hfd : fs[f]? with
      | none => simp [hfd] at hf
      | some fd =>
        simp only [hfd] at hf
        cases hi : P.info? fd.type with
        | none => simp [hi] at hf
        | some i =>
          simp only [hi] at hf
          split at hf
          · cases hf
          · rename_i hne
            cases hf
            simp only [execOp, hs.ev hx]
            simp [Instr.fieldAt, run_underlying hu, hfd, Instr.sureAddr, fieldPlace, sizeOf, typeInfo, hi, hne]
def wiB (a lo hi : Int) : Bool := decide (lo ≤ a ∧ a ≤ hi)
theorem all_no {α : Type} {l : List α} {f : α → Bool} {k : Nat} {d : α} (hk : k < l.length) (h : f (l.getD k d) = false) : l.all f = false := by
  rw [Bool.eq_false_iff]
  intro h1
  have := List.all_eq_true.1 h1 (l.getD k d) (by simp [List.getD, hk])
  rw [this] at h
  cases h
theorem all_yes {α : Type} {l : List α} {f : α → Bool} {d : α} (h : ∀ k, k < l.length → f (l.getD k d) = true) : l.all f = true := by
  refine List.all_eq_true.2 fun x hx => ?_
  obtain ⟨j, hj, rfl⟩ := List.getElem_of_mem hx
  have := h j hj
  simpa [List.getD, hj] using this
theorem all_at' {α : Type} {l : List α} {f : α → Bool} {k : Nat} {d : α} (h : l.all f = true) (hk : k < l.length) : f (l.getD k d) = true := by
  rw [List.all_eq_true] at h
  exact h _ (by simp [List.getD, hk])
def numB (n lo hi : Int) (xs : List Int) : Bool := decide ((xs.length : Int) = n) && xs.all fun x => wiB x lo hi
theorem num_len {n lo hi : Int} {xs : List Int} (h : numB n lo hi xs = true) : (xs.length : Int) = n := by
  unfold numB at h
  simp only [Bool.and_eq_true, decide_eq_true_eq] at h
  exact h.1
theorem num_in {n lo hi : Int} {xs : List Int} (h : numB n lo hi xs = true) {k : Nat} (hk : k < xs.length) : lo ≤ xs.getD k 0 ∧ xs.getD k 0 ≤ hi := by
  unfold numB at h
  simp only [Bool.and_eq_true, decide_eq_true_eq] at h
  exact of_decide_eq_true (all_at' (d := 0) (f := fun x => wiB x lo hi) h.2 hk)
theorem num_at {n lo hi : Int} {xs : List Int} (h : numB n lo hi xs = true) (h0 : lo ≤ 0 ∧ 0 ≤ hi) (k : Nat) : lo ≤ xs.getD k 0 ∧ xs.getD k 0 ≤ hi := by
  by_cases hk : k < xs.length
  · exact num_in h hk
  · have e : xs.getD k 0 = 0 := by simp [List.getD, hk]
    omega
theorem num_1 {n lo hi : Int} {xs : List Int} (h : ¬ (xs.length : Int) = n) : numB n lo hi xs = false := by unfold numB; rw [decide_eq_false h, Bool.false_and]
theorem num_2 {n lo hi : Int} {xs : List Int} {k : Nat} (hk : k < xs.length) (h : ¬ (lo ≤ xs.getD k 0 ∧ xs.getD k 0 ≤ hi)) : numB n lo hi xs = false := by
  unfold numB
  rw [all_no (k := k) (d := 0) hk (decide_eq_false h), Bool.and_false]
theorem num_3 {n lo hi : Int} {xs : List Int} (h : (xs.length : Int) = n) (h2 : ∀ k, k < xs.length → lo ≤ xs.getD k 0 ∧ xs.getD k 0 ≤ hi) : numB n lo hi xs = true := by
  unfold numB
  rw [decide_eq_true h, all_yes (f := fun x => wiB x lo hi) (d := 0) (fun k hk => decide_eq_true (h2 k hk))]
  rfl
/-- The first element that a test takes. -/
def Fst {α : Type} [Inhabited α] (φ : α → Bool) (xs : List α) (i : Int) : Prop := (i = -1 ∧ ∀ j, j < xs.length → φ (xs.getD j default) = false) ∨ ∃ k : Nat, i = k ∧ k < xs.length ∧ φ (xs.getD k default) = true ∧ ∀ j, j < k → φ (xs.getD j default) = false
theorem fst_any {α : Type} [Inhabited α] {φ : α → Bool} {xs : List α} {i : Int} (h : Fst φ xs i) : xs.any φ = decide (0 ≤ i) := by
  rcases h with ⟨rfl, h⟩ | ⟨k, rfl, hk, h, _⟩
  · rw [decide_eq_false (by decide), List.any_eq_false]
    intro x hx
    obtain ⟨j, hj, rfl⟩ := List.getElem_of_mem hx
    have := h j hj
    simpa [List.getD, hj] using this
  · rw [decide_eq_true (by omega), List.any_eq_true]
    exact ⟨xs.getD k default, by simp [List.getD, hk], h⟩
theorem getD_mem {xs : List Int} {k : Nat} (hk : k < xs.length) : xs.getD k 0 ∈ xs := by simp [List.getD, hk]
theorem any_all (lo hi : Int) : ∀ xs : List Int, (!xs.any fun x => decide (x < lo) || decide (hi < x)) = xs.all fun x => wiB x lo hi
  | [] => rfl
  | x :: xs => by
    rw [List.any_cons, List.all_cons, Bool.not_or, any_all lo hi xs]
    congr 1
    unfold wiB
    rw [Bool.eq_iff_iff]
    simp
theorem any_yes {α : Type} {l : List α} {f : α → Bool} {k : Nat} {d : α} (hk : k < l.length) (h : f (l.getD k d) = true) : l.any f = true := by
  rw [List.any_eq_true]
  exact ⟨l.getD k d, by simp [List.getD, hk], h⟩
theorem any_no {α : Type} {l : List α} {f : α → Bool} {d : α} (h : ∀ k, k < l.length → f (l.getD k d) = false) : l.any f = false := by
  rw [List.any_eq_false]
  intro x hx
  obtain ⟨j, hj, rfl⟩ := List.getElem_of_mem hx
  have := h j hj
  simpa [List.getD, hj] using this
theorem not_any_not {α : Type} (l : List α) (f : α → Bool) : (!l.any fun x => !f x) = l.all f := by
  induction l with
  | nil => rfl
  | cons x l ih => rw [List.any_cons, List.all_cons, Bool.not_or, Bool.not_not, ih]
/-- A trade. -/
structure Td where
  s : List Int
  d : List Int
  c : List (List Int)
  deriving Inhabited
def IsT (w : World) (v : Value) (t : Td) : Prop := ∃ p1 c1 p2 c2 p3 c3, v = .agg #[.slice p1 t.s.length c1, .slice p2 t.d.length c2, .slice p3 t.c.length c3] ∧ IntsAt w p1 t.s ∧ IntsAt w p2 t.d ∧ LsAt w p3 t.c
theorem IsT.mk {w : World} {t : Td} {p1 p2 p3 : Option Addr} {c1 c2 c3 : Nat} (h1 : IntsAt w p1 t.s) (h2 : IntsAt w p2 t.d) (h3 : LsAt w p3 t.c) : IsT w (.agg #[.slice p1 t.s.length c1, .slice p2 t.d.length c2, .slice p3 t.c.length c3]) t := ⟨p1, c1, p2, c2, p3, c3, rfl, h1, h2, h3⟩
theorem IsT.new {w0 w : World} {G : Heap} {v : Value} {t : Td} (h : IsT w0 v t) (hn : New w0 w G) : IsT w v t := by
  obtain ⟨p1, c1, p2, c2, p3, c3, rfl, h1, h2, h3⟩ := h
  exact ⟨p1, c1, p2, c2, p3, c3, rfl, h1.new hn, h2.new hn, h3.new hn⟩
def IsG (w : World) (v : Value) (m : List (List Int)) : Prop := ∃ p c, v = .slice p m.length c ∧ LsAt w p m
theorem IsG.of {w : World} {m : List (List Int)} {p : Option Addr} {c : Nat} (h : LsAt w p m) : IsG w (.slice p m.length c) m := ⟨p, c, rfl, h⟩
theorem IsG.new {w0 w : World} {G : Heap} {v : Value} {m : List (List Int)} (h : IsG w0 v m) (hn : New w0 w G) : IsG w v m := by
  obtain ⟨p, c, rfl, h1⟩ := h
  exact ⟨p, c, rfl, h1.new hn⟩
def IsI (w : World) (v : Value) (xs : List Int) : Prop := ∃ p c, v = .slice p xs.length c ∧ IntsAt w p xs
theorem IsI.of {w : World} {p : Option Addr} {c : Nat} {xs : List Int} (h : IntsAt w p xs) : IsI w (.slice p xs.length c) xs := ⟨p, c, rfl, h⟩
theorem IsI.new {w0 w : World} {G : Heap} {v : Value} {xs : List Int} (h : IsI w0 v xs) (hn : New w0 w G) : IsI w v xs := by
  obtain ⟨p, c, rfl, hx⟩ := h
  exact ⟨p, c, rfl, hx.new hn⟩
/-- Prices. -/
def IsP (w : World) (v : Value) (us vs : List Int) : Prop := ∃ p c q e, v = .agg #[.slice p us.length c, .slice q vs.length e] ∧ IntsAt w p us ∧ IntsAt w q vs
theorem IsP.mk {w : World} {us vs : List Int} {p q : Option Addr} {c e : Nat} (h1 : IntsAt w p us) (h2 : IntsAt w q vs) : IsP w (.agg #[.slice p us.length c, .slice q vs.length e]) us vs := ⟨p, c, q, e, rfl, h1, h2⟩
theorem IsP.new {w0 w : World} {G : Heap} {v : Value} {us vs : List Int} (h : IsP w0 v us vs) (hn : New w0 w G) : IsP w v us vs := by
  obtain ⟨p, c, q, e, rfl, h1, h2⟩ := h
  exact ⟨p, c, q, e, rfl, h1.new hn, h2.new hn⟩
def SmG (m : List (List Int)) : Prop := m.length ≤ 1000000 ∧ ∀ k, (m.getD k []).length ≤ 1000000
structure SmT (t : Td) : Prop where
  s : t.s.length ≤ 1000000
  d : t.d.length ≤ 1000000
  c : SmG t.c
def sumI (xs : List Int) : Int := sm xs.length fun j => xs.getD j 0
theorem sm_bd {f : Nat → Int} {B : Int} (hB : 0 ≤ B) : ∀ {k : Nat}, (∀ j, j < k → -B ≤ f j ∧ f j ≤ B) → -(B * k) ≤ sm k f ∧ sm k f ≤ B * k
  | 0, _ => by simp [sm]
  | k + 1, h => by
    have h1 := sm_bd hB (f := f) (k := k) fun j hj => h j (by omega)
    have h2 := h k (by omega)
    show -(B * ((k + 1 : Nat) : Int)) ≤ sm k f + f k ∧ sm k f + f k ≤ B * ((k + 1 : Nat) : Int)
    rw [Int.natCast_add, Int.mul_add]
    omega
theorem sm_bd6 {f : Nat → Int} {k : Nat} (hk : k ≤ 1000000) (h : ∀ j, j < k → -1000000 ≤ f j ∧ f j ≤ 1000000) : -1000000000000 ≤ sm k f ∧ sm k f ≤ 1000000000000 := by
  have := sm_bd (B := 1000000) (by decide) h
  omega
/-- The numbers are small. -/
def Sml (xs : List Int) : Prop := ∀ j, j < xs.length → -1000000 ≤ xs.getD j 0 ∧ xs.getD j 0 ≤ 1000000
def amB (xs : List Int) : Bool := decide (1 ≤ xs.length ∧ xs.length ≤ 4) && xs.all fun x => wiB x 0 30
def grB (n : Nat) (k most : Int) (m : List (List Int)) : Bool := decide (m.length = n) && m.all fun r => numB k 0 most r
def validB (t : Td) : Bool := amB t.s && amB t.d && decide (sumI t.s = sumI t.d) && grB t.s.length t.d.length 99 t.c
def validI (t : Td) : Int := if validB t = true then 0 else 1
theorem am_of {xs : List Int} (h : amB xs = true) : (1 ≤ xs.length ∧ xs.length ≤ 4) ∧ ∀ k, k < xs.length → 0 ≤ xs.getD k 0 ∧ xs.getD k 0 ≤ 30 := by
  unfold amB at h
  simp only [Bool.and_eq_true, decide_eq_true_eq] at h
  exact ⟨h.1, fun k hk => of_decide_eq_true (all_at' (d := 0) (f := fun x => wiB x 0 30) h.2 hk)⟩
theorem gr_of {n : Nat} {k most : Int} {m : List (List Int)} (h : grB n k most m = true) : m.length = n ∧ ∀ i, i < n → ((m.getD i []).length : Int) = k ∧ ∀ j, j < (m.getD i []).length → 0 ≤ getM m i j ∧ getM m i j ≤ most := by
  unfold grB at h
  simp only [Bool.and_eq_true, decide_eq_true_eq] at h
  refine ⟨h.1, fun i hi => ?_⟩
  have h2 := all_at' (d := []) (f := fun r => numB k 0 most r) h.2 (by omega : i < m.length)
  exact ⟨num_len h2, fun j hj => num_in h2 hj⟩
/-- A table of so many rows and columns, of numbers from 0 on. -/
structure Gr (n k : Nat) (most : Int) (m : List (List Int)) : Prop where
  len : m.length = n
  row : ∀ i, i < n → (m.getD i []).length = k
  bd : ∀ i j, i < n → j < k → 0 ≤ getM m i j ∧ getM m i j ≤ most
theorem gr_iff {n k : Nat} {most : Int} {m : List (List Int)} : grB n k most m = true ↔ Gr n k most m := by
  constructor
  · intro h
    obtain ⟨h1, h2⟩ := gr_of h
    exact ⟨h1, fun i hi => by have := (h2 i hi).1; omega, fun i j hi hj => (h2 i hi).2 j (by have := (h2 i hi).1; omega)⟩
  · intro h
    unfold grB
    rw [decide_eq_true h.len, Bool.true_and]
    refine all_yes (d := []) fun i hi => ?_
    have hi' : i < n := by have := h.len; omega
    exact num_3 (by rw [h.row i hi']) fun j hj => h.bd i j hi' (by have := h.row i hi'; omega)
/-- The trade is valid. -/
structure VT (t : Td) : Prop where
  ns : 1 ≤ t.s.length ∧ t.s.length ≤ 4
  nd : 1 ≤ t.d.length ∧ t.d.length ≤ 4
  s : ∀ k, k < t.s.length → 0 ≤ t.s.getD k 0 ∧ t.s.getD k 0 ≤ 30
  d : ∀ k, k < t.d.length → 0 ≤ t.d.getD k 0 ∧ t.d.getD k 0 ≤ 30
  sum : sumI t.s = sumI t.d
  c : Gr t.s.length t.d.length 99 t.c
theorem am_yes {xs : List Int} (h : 1 ≤ xs.length ∧ xs.length ≤ 4) (h2 : ∀ k, k < xs.length → 0 ≤ xs.getD k 0 ∧ xs.getD k 0 ≤ 30) : amB xs = true := by
  unfold amB
  rw [decide_eq_true h, Bool.true_and]
  exact all_yes (d := 0) fun k hk => decide_eq_true (h2 k hk)
theorem valid_iff {t : Td} : validB t = true ↔ VT t := by
  unfold validB
  constructor
  · intro h
    simp only [Bool.and_eq_true, decide_eq_true_eq] at h
    have h1 := am_of h.1.1.1
    have h2 := am_of h.1.1.2
    exact ⟨h1.1, h2.1, h1.2, h2.2, h.1.2, gr_iff.1 h.2⟩
  · intro h
    rw [am_yes h.ns h.s, am_yes h.nd h.d, decide_eq_true h.sum, gr_iff.2 h.c]
    rfl
theorem vt_of {t : Td} (h : ¬ validI t ≠ 0) : VT t := by
  have h0 := Decidable.of_not_not h
  unfold validI at h0
  split at h0
  · rename_i h1; exact valid_iff.1 h1
  · cases h0
theorem VT.v {t : Td} (h : VT t) : validI t = 0 := if_pos (valid_iff.2 h)
theorem valid_1 {t : Td} (h : ¬ VT t) : validI t = 1 := if_neg fun h2 => h (valid_iff.1 h2)
theorem valid_b {t : Td} (h : validB t = false) : validI t = 1 := if_neg (by rw [h]; decide)
theorem not_am {xs : List Int} (h : amB xs = false) {t : Td} (e : xs = t.s ∨ xs = t.d) : validB t = false := by
  unfold validB
  rcases e with rfl | rfl <;> rw [h] <;> simp
def rowsB (m : List (List Int)) (xs : List Int) : Bool := decide (∀ i, i < m.length → sumI (m.getD i []) = xs.getD i 0)
theorem rows_no {m : List (List Int)} {xs : List Int} {i : Nat} (hi : i < m.length) (h : sumI (m.getD i []) ≠ xs.getD i 0) : rowsB m xs = false := decide_eq_false fun h2 => h (h2 i hi)
def trnL (m : List (List Int)) : List (List Int) := (List.range (m.getD 0 []).length).map fun j => mk m.length fun i => getM m i j
theorem trn_len (m : List (List Int)) : (trnL m).length = (m.getD 0 []).length := by simp [trnL]
theorem trn_row {m : List (List Int)} {j : Nat} (h : j < (m.getD 0 []).length) : (trnL m).getD j [] = mk m.length fun i => getM m i j := by
  have : j < (List.range (m.getD 0 []).length).length := by simpa using h
  rw [List.getD_eq_getElem?_getD, trnL, List.getElem?_map, List.getElem?_eq_getElem this, List.getElem_range]
  rfl
theorem getM_trn {m : List (List Int)} {i j : Nat} (h : j < (m.getD 0 []).length) (hi : i < m.length) : getM (trnL m) j i = getM m i j := by
  unfold getM
  rw [trn_row h, mk_at _ hi]
  rfl
def planI (t : Td) (m : List (List Int)) : Int := if validI t ≠ 0 then validI t else if grB t.s.length t.d.length 120 m = true then (if (rowsB m t.s && rowsB (trnL m) t.d) = true then 0 else 6) else 1
theorem plan_v {t : Td} {m : List (List Int)} (h : validI t ≠ 0) : planI t m = validI t := if_pos h
theorem plan_1 {t : Td} {m : List (List Int)} (h : ¬ validI t ≠ 0) (h2 : grB t.s.length t.d.length 120 m = false) : planI t m = 1 := by unfold planI; rw [if_neg h, h2]; rfl
theorem plan_6 {t : Td} {m : List (List Int)} (h : ¬ validI t ≠ 0) (h2 : grB t.s.length t.d.length 120 m = true) (h3 : (rowsB m t.s && rowsB (trnL m) t.d) = false) : planI t m = 6 := by unfold planI; rw [if_neg h, if_pos h2, h3]; rfl
theorem plan_0 {t : Td} {m : List (List Int)} (h : ¬ validI t ≠ 0) (h2 : grB t.s.length t.d.length 120 m = true) (h3 : (rowsB m t.s && rowsB (trnL m) t.d) = true) : planI t m = 0 := by unfold planI; rw [if_neg h, if_pos h2, if_pos h3]
def costI (t : Td) (m : List (List Int)) : Int := sm m.length fun i => sm (m.getD i []).length fun j => getM m i j * getM t.c i j
theorem sumI_trn {m : List (List Int)} {j : Nat} (h : j < (m.getD 0 []).length) : sumI ((trnL m).getD j []) = sm m.length fun i => getM m i j := by
  unfold sumI
  rw [trn_row h, mk_len]
  exact sm_congr fun i hi => mk_at _ hi
/-- A plan of a valid trade. -/
structure VP (t : Td) (m : List (List Int)) : Prop extends VT t where
  g : Gr t.s.length t.d.length 120 m
  row : ∀ i, i < t.s.length → sumI (m.getD i []) = t.s.getD i 0
  col : ∀ j, j < t.d.length → (sm t.s.length fun i => getM m i j) = t.d.getD j 0
theorem cols_iff {n k : Nat} {m : List (List Int)} {most : Int} (hg : Gr n k most m) (hn : 0 < n) {xs : List Int} : rowsB (trnL m) xs = true ↔ ∀ j, j < k → (sm n fun i => getM m i j) = xs.getD j 0 := by
  have h0 := hg.row 0 hn
  unfold rowsB
  rw [decide_eq_true_eq, trn_len, h0]
  refine forall_congr' fun j => forall_congr' fun hj => ?_
  rw [sumI_trn (by omega), hg.len]
theorem vp_of {t : Td} {m : List (List Int)} (h : ¬ planI t m ≠ 0) : VP t m := by
  have h0 := Decidable.of_not_not h
  by_cases hv : validI t ≠ 0
  · rw [plan_v hv] at h0; exact absurd h0 hv
  cases hg : grB t.s.length t.d.length 120 m with
  | false => rw [plan_1 hv hg] at h0; cases h0
  | true =>
    cases hr : (rowsB m t.s && rowsB (trnL m) t.d) with
    | false => rw [plan_6 hv hg hr] at h0; cases h0
    | true =>
      have hV := vt_of hv
      have g := gr_iff.1 hg
      rw [Bool.and_eq_true] at hr
      have hn := hV.ns
      refine ⟨hV, g, fun i hi => of_decide_eq_true hr.1 i (by have := g.len; omega), ?_⟩
      exact (cols_iff g (by omega)).1 hr.2
theorem VP.p {t : Td} {m : List (List Int)} (h : VP t m) : planI t m = 0 := by
  have hn := h.ns
  refine plan_0 (by rw [h.toVT.v]; decide) (gr_iff.2 h.g) ?_
  rw [Bool.and_eq_true]
  exact ⟨decide_eq_true fun i hi => h.row i (by have := h.g.len; omega), (cols_iff h.g (by omega)).2 h.col⟩
theorem row_bd {n k : Nat} {most : Int} {m : List (List Int)} (h : Gr n k most m) (hm : most ≤ 1000000) {i : Nat} (hi : i < n) : Sml (m.getD i []) := fun j hj => by
  have h1 := h.row i hi
  have := h.bd i j hi (by omega)
  unfold getM at this
  omega
theorem Gr.sm {n k : Nat} {most : Int} {m : List (List Int)} (h : Gr n k most m) (hn : n ≤ 1000000) (hk : k ≤ 1000000) : SmG m := by
  refine ⟨by rw [h.len]; exact hn, fun i => ?_⟩
  by_cases hi : i < n
  · rw [h.row i hi]; exact hk
  · have := h.len
    rw [List.getD_eq_getElem?_getD, List.getElem?_eq_none (by omega)]
    exact Nat.zero_le _
theorem Sml.sub {xs : List Int} (h : ∀ k, k < xs.length → 0 ≤ xs.getD k 0 ∧ xs.getD k 0 ≤ 30) : Sml xs := fun j hj => by have := h j hj; omega


set_option maxRecDepth 100000 in
theorem within_ok (w0 : World) (a lo hi : Int) :
    Calls Try.prog 73 #[.int .i64 a, .int .i64 lo, .int .i64 hi] w0 (Post (X := Unit) (fun _ => .bool (wiB a lo hi)) (fun _ => True) (fun _ => []) w0) := by
  refine calls Try.func73 rfl (n := 15) rfl (by simp) ?_
  refine TC.seq ?_
  refine TC.region ?_
  refine TL.pure (PV.assign rfl) rfl (by decide) ?_
  refine TL.nil ?_
  refine TQ.thenC ?_
  refine TC.seq ?_
  refine TC.region ?_
  refine TL.pure (PV.move rfl) rfl (by decide) ?_
  refine TL.pure (PV.move rfl) rfl (by decide) ?_
  refine TL.pure (PV.geq rfl rfl) rfl (by decide) ?_
  refine TL.pure (PV.move rfl) rfl (by decide) ?_
  first | refine TL.splitD 10 rfl (fun e1 => ?_) (fun e1 => ?_) | refine TL.split 10 rfl (fun e1 => ?_) (fun e1 => ?_)
  · skip
    refine TL.pure (PV.move rfl) rfl (by decide) ?_
    refine TL.pure (PV.move rfl) rfl (by decide) ?_
    refine TL.pure (PV.leq rfl rfl) rfl (by decide) ?_
    refine TL.pure (PV.pickT rfl rfl) rfl (by decide) ?_
    refine TL.pure (PV.assign rfl) rfl (by decide) ?_
    refine TL.nil ?_
    refine TQ.thenC ?_
    refine TC.ret ?_
    refine TQ.retE1 rfl rfl ?_
    exact ⟨(), by unfold wiB; congr 1; rw [decide_eq_decide]; simp_all, trivial, List.nil_sublist _⟩
  · skip
    refine TL.skip rfl (fun k hk => by cases hk; decide) ?_
    refine TL.skip rfl (fun k hk => by cases hk; decide) ?_
    refine TL.skip rfl (fun k hk => by cases hk; decide) ?_
    refine TL.pure (PV.pickF rfl rfl) rfl (by decide) ?_
    refine TL.pure (PV.assign rfl) rfl (by decide) ?_
    refine TL.nil ?_
    refine TQ.thenC ?_
    refine TC.ret ?_
    refine TQ.retE1 rfl rfl ?_
    exact ⟨(), by unfold wiB; rw [decide_eq_false (by omega)], trivial, List.nil_sublist _⟩

set_option maxRecDepth 100000 in
theorem indexFunc_ok (w0 : World) (pl : Option Addr) (cl : Nat) (xs : List Int) (hx : IntsAt w0 pl xs) (hl : xs.length ≤ 1000000) (f : FuncId) (caps : List Value) (φ : Int → Bool) (hfn : goFn Try.prog f = true) (hcb : ∀ w G, New w0 w G → ∀ x : Int, x ∈ xs → Calls Try.prog f (Value.int .i64 x :: caps).toArray w (Post (X := Unit) (fun _ => .bool (φ x)) (fun _ => True) (fun _ => []) w)) :
    Calls Try.prog 110 #[.slice pl xs.length cl, .func (.func f) #[] caps.toArray] w0 (Post (X := Int) (fun i => .int .i64 i) (fun i => Fst φ xs i) (fun _ => []) w0) := by
  refine calls Try.func110 rfl (n := 19) rfl (by simp) ?_
  refine TC.seq ?_
  refine TC.region ?_
  refine TL.pure (PV.assign rfl) rfl (by decide) ?_
  refine TL.nil ?_
  refine TQ.thenC ?_
  refine TC.seq ?_
  refine TC.seq ?_
  refine TC.region ?_
  refine TL.pure (PV.move rfl) rfl (by decide) ?_
  refine TL.pure (PV.len rfl Tb.sl_22) rfl (by decide) ?_
  refine TL.pure (PV.move rfl) rfl (by decide) ?_
  refine TL.nil ?_
  refine TQ.thenC ?_
  refine TC.block ?_
  -- live and written in the loop, not told: [4]
  refine TC.loopG [0, 1, 7] (X := Nat) (fun k => k ≤ xs.length ∧ ∀ j, j < k → φ (xs.getD j 0) = false) (fun k => [(8, .int .i64 k)]) (fun k => xs.length - k) 0 ⟨Nat.zero_le _, fun j hj => absurd hj (Nat.not_lt_zero _)⟩ (by repeat (first | exact True.intro | refine And.intro rfl ?_)) ?_
  intro k hk
  refine TC.seq ?_
  refine TC.region ?_
  refine TL.pure (PV.lss rfl rfl) rfl (by decide) ?_
  refine TL.nil ?_
  refine TQ.thenC ?_
  refine TC.seq ?_
  first | refine TC.condD rfl (fun hlt => ?_) (fun hlt => ?_) | refine TC.cond rfl (fun hlt => ?_) (fun hlt => ?_)
  · skip
    refine TC.skip ?_
    refine TQ.thenC ?_
    refine TC.seq ?_
    refine TC.block ?_
    refine TC.seq ?_
    refine TC.region ?_
    refine TL.pure (PV.move rfl) rfl (by decide) ?_
    refine TL.pure (PV.assign rfl) rfl (by decide) ?_
    refine TL.nil ?_
    refine TQ.thenC ?_
    refine TC.seq ?_
    obtain ⟨q2, hq2p, hq2⟩ := hx k (by omega)
    refine TC.region ?_
    refine TL.pure (PV.move rfl) rfl (by decide) ?_
    refine TL.pure (PV.move rfl) rfl (by decide) ?_
    refine TL.pure (PV.move rfl) rfl (by decide) ?_
    refine TL.pure (PV.indexA rfl hq2p rfl Tb.elm_22 rfl (by omega)) rfl (by decide) ?_
    refine TL.pure (PV.loadOld rfl Tb.one_3 hq2) rfl (by decide) ?_
    refine TL.callF (f := f) (caps := caps) (X := Unit) (fun _ => .bool (φ (xs.getD k 0))) (fun _ => True) (fun _ => []) rfl rfl hfn (fun a w hs => (hcb w _ hs.new (xs.getD k 0) (getD_mem (by omega))).mono fun e w' ⟨x9, h1, h2, h3⟩ => ⟨x9, h1, h2, hs.new.trans h3⟩) rfl (by decide) (fun _ _ => ?_)
    refine TL.nil ?_
    refine TQ.thenC ?_
    first | refine TC.condD rfl (fun hno => ?_) (fun hno => ?_) | refine TC.cond rfl (fun hno => ?_) (fun hno => ?_)
    · skip
      refine TC.seq ?_
      refine TC.region ?_
      refine TL.pure (PV.move rfl) rfl (by decide) ?_
      refine TL.pure (PV.assign rfl) rfl (by decide) ?_
      refine TL.nil ?_
      refine TQ.thenC ?_
      refine TC.ret ?_
      refine TQ.blkR ?_
      refine TQ.thenR ?_
      refine TQ.thenR ?_
      refine TQ.blkR ?_
      refine TQ.thenR ?_
      refine TQ.retE1 rfl rfl ?_
      first | exact ⟨k, rfl, .inr ⟨k, rfl, by omega, by simpa using hno, hk.2⟩, List.nil_sublist _⟩ | exact ⟨-1, rfl, .inl ⟨rfl, fun j hj => hk.2 j (by omega)⟩, List.nil_sublist _⟩
    · skip
      refine TC.skip ?_
      refine TQ.blkN ?_
      refine TQ.thenC ?_
      refine TC.region ?_
      refine TL.pure (PV.add rfl rfl (by omega)) rfl (by decide) ?_
      refine TL.pure (PV.move rfl) rfl (by decide) ?_
      refine TL.nil ?_
      refine TQ.thenN ?_
      refine TQ.backK (k + 1) (by repeat (first | exact True.intro | refine And.intro rfl ?_)) (by repeat (first | exact True.intro | refine And.intro rfl ?_)) (by repeat (first | exact List.Sublist.slnil | exact List.nil_sublist _ | exact List.Sublist.refl _ | refine List.Sublist.cons_cons _ ?_ | refine List.Sublist.cons _ ?_ | refine List.Sublist.trans ?_ (List.sublist_append_right _ _))) ⟨by omega, fun j hj => if e : j < k then hk.2 j e else (show k = j by omega) ▸ (by simpa using hno)⟩ (by omega)
  · skip
    refine TC.exit ?_
    refine TQ.thenE ?_
    refine TQ.thenE ?_
    refine TQ.blkS ?_
    refine TQ.thenC ?_
    refine TC.seq ?_
    refine TC.region ?_
    refine TL.pure (PV.assign rfl) rfl (by decide) ?_
    refine TL.nil ?_
    refine TQ.thenC ?_
    refine TC.ret ?_
    refine TQ.retE1 rfl rfl ?_
    first | exact ⟨k, rfl, .inr ⟨k, rfl, by omega, by simpa using hno, hk.2⟩, List.nil_sublist _⟩ | exact ⟨-1, rfl, .inl ⟨rfl, fun j hj => hk.2 j (by omega)⟩, List.nil_sublist _⟩

set_option maxRecDepth 100000 in
theorem containsFunc_ok (w0 : World) (pl : Option Addr) (cl : Nat) (xs : List Int) (hx : IntsAt w0 pl xs) (hl : xs.length ≤ 1000000) (f : FuncId) (caps : List Value) (φ : Int → Bool) (hfn : goFn Try.prog f = true) (hcb : ∀ w G, New w0 w G → ∀ x : Int, x ∈ xs → Calls Try.prog f (Value.int .i64 x :: caps).toArray w (Post (X := Unit) (fun _ => .bool (φ x)) (fun _ => True) (fun _ => []) w)) :
    Calls Try.prog 102 #[.slice pl xs.length cl, .func (.func f) #[] caps.toArray] w0 (Post (X := Unit) (fun _ => .bool (xs.any φ)) (fun _ => True) (fun _ => []) w0) := by
  refine calls Try.func102 rfl (n := 9) rfl (by simp) ?_
  refine TC.seq ?_
  refine TC.region ?_
  refine TL.pure (PV.assign rfl) rfl (by decide) ?_
  refine TL.nil ?_
  refine TQ.thenC ?_
  refine TC.seq ?_
  refine TC.region ?_
  refine TL.pure (PV.move rfl) rfl (by decide) ?_
  refine TL.pure (PV.move rfl) rfl (by decide) ?_
  refine TL.call rfl Tb.gofn_110 (fun a w hs => indexFunc_ok w _ _ xs (hx.new hs.new) hl f caps φ hfn (fun w2 G2 hn2 x hm => hcb w2 _ (hs.new.trans hn2) x hm)) rfl (by decide) (fun i9 hi9 => ?_)
  refine TL.pure (PV.geq rfl rfl) rfl (by decide) ?_
  refine TL.pure (PV.assign rfl) rfl (by decide) ?_
  refine TL.nil ?_
  refine TQ.thenC ?_
  refine TC.ret ?_
  refine TQ.retE1 rfl rfl ?_
  exact ⟨(), by rw [fst_any hi9], trivial, List.nil_sublist _⟩

set_option maxRecDepth 100000 in
theorem areNumbersF_ok (w0 : World) (x lo hi : Int) (a b : Addr) (ha : w0.cell? a = some (.int .i64 lo)) (hb : w0.cell? b = some (.int .i64 hi)) :
    Calls Try.prog 101 #[.int .i64 x, .pointer (some a), .pointer (some b)] w0 (Post (X := Unit) (fun _ => .bool (decide (x < lo) || decide (hi < x))) (fun _ => True) (fun _ => []) w0) := by
  refine calls Try.func101 rfl (n := 13) rfl (by simp) ?_
  refine TC.seq ?_
  refine TC.region ?_
  refine TL.pure (PV.assign rfl) rfl (by decide) ?_
  refine TL.nil ?_
  refine TQ.thenC ?_
  refine TC.seq ?_
  refine TC.region ?_
  refine TL.pure (PV.move rfl) rfl (by decide) ?_
  refine TL.pure (PV.loadOld rfl Tb.one_3 (ha)) rfl (by decide) ?_
  refine TL.pure (PV.lss rfl rfl) rfl (by decide) ?_
  refine TL.pure (PV.move rfl) rfl (by decide) ?_
  first | refine TL.splitD 8 rfl (fun e1 => ?_) (fun e1 => ?_) | refine TL.split 8 rfl (fun e1 => ?_) (fun e1 => ?_)
  · skip
    refine TL.skip rfl (fun k hk => by cases hk; decide) ?_
    refine TL.skip rfl (fun k hk => by cases hk; decide) ?_
    refine TL.skip rfl (fun k hk => by cases hk; decide) ?_
    refine TL.pure (PV.pickT rfl rfl) rfl (by decide) ?_
    refine TL.pure (PV.assign rfl) rfl (by decide) ?_
    refine TL.nil ?_
    refine TQ.thenC ?_
    refine TC.ret ?_
    refine TQ.retE1 rfl rfl ?_
    first | exact ⟨(), by rw [decide_eq_true e1]; rfl, trivial, List.nil_sublist _⟩ | exact ⟨(), by rw [decide_eq_false e1]; rfl, trivial, List.nil_sublist _⟩
  · skip
    refine TL.pure (PV.move rfl) rfl (by decide) ?_
    refine TL.pure (PV.loadOld rfl Tb.one_3 (hb)) rfl (by decide) ?_
    refine TL.pure (PV.gtr rfl rfl) rfl (by decide) ?_
    refine TL.pure (PV.pickF rfl rfl) rfl (by decide) ?_
    refine TL.pure (PV.assign rfl) rfl (by decide) ?_
    refine TL.nil ?_
    refine TQ.thenC ?_
    refine TC.ret ?_
    refine TQ.retE1 rfl rfl ?_
    first | exact ⟨(), by rw [decide_eq_true e1]; rfl, trivial, List.nil_sublist _⟩ | exact ⟨(), by rw [decide_eq_false e1]; rfl, trivial, List.nil_sublist _⟩

set_option maxRecDepth 100000 in
theorem areNumbers_ok (w0 : World) (pl : Option Addr) (cl : Nat) (xs : List Int) (hx : IntsAt w0 pl xs) (hl : xs.length ≤ 1000000) (n lo hi : Int) :
    Calls Try.prog 87 #[.slice pl xs.length cl, .int .i64 n, .int .i64 lo, .int .i64 hi] w0 (Post (X := Unit) (fun _ => .bool (numB n lo hi xs)) (fun _ => True) (fun _ => []) w0) := by
  refine calls Try.func87 rfl (n := 21) rfl (by simp) ?_
  refine TC.seq ?_
  refine TC.region ?_
  refine TL.box rfl rfl (by decide) (fun b0 hb0 => ?_)
  refine TL.box rfl rfl (by decide) (fun b1 hb1 => ?_)
  refine TL.pure (PV.assign rfl) rfl (by decide) ?_
  refine TL.nil ?_
  refine TQ.thenC ?_
  refine TC.seq ?_
  refine TC.region ?_
  refine TL.pure (PV.makeFunc rfl) rfl (by decide) ?_
  refine TL.pure (PV.assign rfl) rfl (by decide) ?_
  refine TL.nil ?_
  refine TQ.thenC ?_
  refine TC.seq ?_
  refine TC.region ?_
  refine TL.pure (PV.move rfl) rfl (by decide) ?_
  refine TL.pure (PV.len rfl Tb.sl_22) rfl (by decide) ?_
  refine TL.pure (PV.move rfl) rfl (by decide) ?_
  refine TL.pure (PV.eql rfl rfl) rfl (by decide) ?_
  refine TL.pure (PV.move rfl) rfl (by decide) ?_
  first | refine TL.splitD 15 rfl (fun e1 => ?_) (fun e1 => ?_) | refine TL.split 15 rfl (fun e1 => ?_) (fun e1 => ?_)
  · skip
    refine TL.pure (PV.move rfl) rfl (by decide) ?_
    refine TL.pure (PV.move rfl) rfl (by decide) ?_
    refine TL.call rfl Tb.gofn_102 (fun a w hs => containsFunc_ok w _ _ xs (hx.new hs.new) hl 101 [.pointer (some ⟨b0, 0, none⟩), .pointer (some ⟨b1, 0, none⟩)] (fun x => decide (x < lo) || decide (hi < x)) Tb.gofn_101 (fun w2 G2 hn2 x _ => areNumbersF_ok w2 x lo hi ⟨b0, 0, none⟩ ⟨b1, 0, none⟩ ((hs.new.trans hn2).cell (by repeat (first | exact List.Mem.head _ | refine List.Mem.tail _ ?_ | refine List.mem_append_right _ ?_)) rfl) ((hs.new.trans hn2).cell (by repeat (first | exact List.Mem.head _ | refine List.Mem.tail _ ?_ | refine List.mem_append_right _ ?_)) rfl))) rfl (by decide) (fun _ _ => ?_)
    refine TL.pure ((by first | exact PV.notD rfl | exact PV.not rfl)) rfl (by decide) ?_
    refine TL.pure (PV.pickT rfl rfl) rfl (by decide) ?_
    refine TL.pure (PV.assign rfl) rfl (by decide) ?_
    refine TL.nil ?_
    refine TQ.thenC ?_
    refine TC.ret ?_
    refine TQ.retE1 rfl rfl ?_
    first | exact ⟨(), by unfold numB; rw [decide_eq_true e1, any_all]; rfl, trivial, List.nil_sublist _⟩ | exact ⟨(), by rw [num_1 e1], trivial, List.nil_sublist _⟩
  · skip
    refine TL.skip rfl (fun k hk => by cases hk; decide) ?_
    refine TL.skip rfl (fun k hk => by cases hk; decide) ?_
    refine TL.skip rfl (fun k hk => by cases hk; decide) ?_
    refine TL.skip rfl (fun k hk => by cases hk; decide) ?_
    refine TL.pure (PV.pickF rfl rfl) rfl (by decide) ?_
    refine TL.pure (PV.assign rfl) rfl (by decide) ?_
    refine TL.nil ?_
    refine TQ.thenC ?_
    refine TC.ret ?_
    refine TQ.retE1 rfl rfl ?_
    first | exact ⟨(), by unfold numB; rw [decide_eq_true e1, any_all]; rfl, trivial, List.nil_sublist _⟩ | exact ⟨(), by rw [num_1 e1], trivial, List.nil_sublist _⟩

set_option maxRecDepth 100000 in
theorem areAmounts_ok (w0 : World) (pl : Option Addr) (cl : Nat) (xs : List Int) (hx : IntsAt w0 pl xs) (hl : xs.length ≤ 1000000) :
    Calls Try.prog 57 #[.slice pl xs.length cl] w0 (Post (X := Unit) (fun _ => .bool (amB xs)) (fun _ => True) (fun _ => []) w0) := by
  refine calls Try.func57 rfl (n := 17) rfl (by simp) ?_
  refine TC.seq ?_
  refine TC.region ?_
  refine TL.pure (PV.assign rfl) rfl (by decide) ?_
  refine TL.nil ?_
  refine TQ.thenC ?_
  refine TC.seq ?_
  refine TC.region ?_
  refine TL.pure (PV.move rfl) rfl (by decide) ?_
  refine TL.pure (PV.len rfl Tb.sl_22) rfl (by decide) ?_
  refine TL.pure (PV.assign rfl) rfl (by decide) ?_
  refine TL.nil ?_
  refine TQ.thenC ?_
  refine TC.seq ?_
  refine TC.region ?_
  refine TL.pure (PV.move rfl) rfl (by decide) ?_
  refine TL.pure (PV.geq rfl rfl) rfl (by decide) ?_
  refine TL.pure (PV.move rfl) rfl (by decide) ?_
  first | refine TL.splitD 8 rfl (fun e1 => ?_) (fun e1 => ?_) | refine TL.split 8 rfl (fun e1 => ?_) (fun e1 => ?_)
  · skip
    refine TL.pure (PV.move rfl) rfl (by decide) ?_
    refine TL.pure (PV.leq rfl rfl) rfl (by decide) ?_
    refine TL.pure (PV.pickT rfl rfl) rfl (by decide) ?_
    refine TL.pure (PV.move rfl) rfl (by decide) ?_
    first | refine TL.splitD 12 rfl (fun e2 => ?_) (fun e2 => ?_) | refine TL.split 12 rfl (fun e2 => ?_) (fun e2 => ?_)
    · skip
      refine TL.pure (PV.move rfl) rfl (by decide) ?_
      refine TL.pure (PV.move rfl) rfl (by decide) ?_
      refine TL.call rfl Tb.gofn_87 (fun a w hs => areNumbers_ok w _ _ _ (hx.new hs.new) hl _ _ _) rfl (by decide) (fun _ _ => ?_)
      refine TL.pure (PV.pickT rfl rfl) rfl (by decide) ?_
      refine TL.pure (PV.assign rfl) rfl (by decide) ?_
      refine TL.nil ?_
      refine TQ.thenC ?_
      refine TC.ret ?_
      refine TQ.retE1 rfl rfl ?_
      exact ⟨(), by unfold amB; rw [decide_eq_true (show 1 ≤ xs.length ∧ xs.length ≤ 4 by omega)]; unfold numB; rw [decide_eq_true rfl], trivial, List.nil_sublist _⟩
    · skip
      refine TL.skip rfl (fun k hk => by cases hk; decide) ?_
      refine TL.skip rfl (fun k hk => by cases hk; decide) ?_
      refine TL.skip rfl (fun k hk => by cases hk; decide) ?_
      refine TL.pure (PV.pickF rfl rfl) rfl (by decide) ?_
      refine TL.pure (PV.assign rfl) rfl (by decide) ?_
      refine TL.nil ?_
      refine TQ.thenC ?_
      refine TC.ret ?_
      refine TQ.retE1 rfl rfl ?_
      exact ⟨(), by unfold amB; rw [decide_eq_false (show ¬ (1 ≤ xs.length ∧ xs.length ≤ 4) by omega)]; rfl, trivial, List.nil_sublist _⟩
  · skip
    refine TL.skip rfl (fun k hk => by cases hk; decide) ?_
    refine TL.skip rfl (fun k hk => by cases hk; decide) ?_
    refine TL.pure (PV.pickF rfl rfl) rfl (by decide) ?_
    refine TL.pure (PV.move rfl) rfl (by decide) ?_
    refine TL.skip rfl (fun k hk => by cases hk; decide) ?_
    refine TL.skip rfl (fun k hk => by cases hk; decide) ?_
    refine TL.skip rfl (fun k hk => by cases hk; decide) ?_
    refine TL.pure (PV.pickF rfl rfl) rfl (by decide) ?_
    refine TL.pure (PV.assign rfl) rfl (by decide) ?_
    refine TL.nil ?_
    refine TQ.thenC ?_
    refine TC.ret ?_
    refine TQ.retE1 rfl rfl ?_
    exact ⟨(), by unfold amB; rw [decide_eq_false (show ¬ (1 ≤ xs.length ∧ xs.length ≤ 4) by omega)]; rfl, trivial, List.nil_sublist _⟩

set_option maxRecDepth 100000 in
theorem sum_ok (w0 : World) (pl : Option Addr) (cl : Nat) (xs : List Int) (hx : IntsAt w0 pl xs) (hl : xs.length ≤ 1000000) (hs0 : Sml xs) :
    Calls Try.prog 58 #[.slice pl xs.length cl] w0 (Post (X := Unit) (fun _ => .int .i64 (sumI xs)) (fun _ => True) (fun _ => []) w0) := by
  refine calls Try.func58 rfl (n := 17) rfl (by simp) ?_
  refine TC.seq ?_
  refine TC.region ?_
  refine TL.pure (PV.assign rfl) rfl (by decide) ?_
  refine TL.nil ?_
  refine TQ.thenC ?_
  refine TC.seq ?_
  refine TC.region ?_
  refine TL.pure (PV.assign rfl) rfl (by decide) ?_
  refine TL.nil ?_
  refine TQ.thenC ?_
  refine TC.seq ?_
  refine TC.seq ?_
  refine TC.region ?_
  refine TL.pure (PV.move rfl) rfl (by decide) ?_
  refine TL.pure (PV.len rfl Tb.sl_22) rfl (by decide) ?_
  refine TL.pure (PV.move rfl) rfl (by decide) ?_
  refine TL.nil ?_
  refine TQ.thenC ?_
  refine TC.block ?_
  refine TC.loopG [2, 6, 7] (X := Nat) (fun k => k ≤ xs.length) (fun k => [(8, .int .i64 k), (3, .int .i64 (sm k fun j => xs.getD j 0))]) (fun k => xs.length - k) 0 (Nat.zero_le _) (by repeat (first | exact True.intro | refine And.intro rfl ?_)) ?_
  intro k hk
  refine TC.seq ?_
  refine TC.region ?_
  refine TL.pure (PV.lss rfl rfl) rfl (by decide) ?_
  refine TL.nil ?_
  refine TQ.thenC ?_
  refine TC.seq ?_
  first | refine TC.condD rfl (fun hlt => ?_) (fun hlt => ?_) | refine TC.cond rfl (fun hlt => ?_) (fun hlt => ?_)
  · skip
    refine TC.skip ?_
    refine TQ.thenC ?_
    refine TC.seq ?_
    refine TC.block ?_
    refine TC.seq ?_
    obtain ⟨q1, hq1p, hq1⟩ := hx k (by omega)
    have hb9 := sm_bd6 (k := k) (f := fun j => xs.getD j 0) (by omega) (fun j hj => hs0 j (by omega))
    have hb8 := hs0 k (by omega)
    refine TC.region ?_
    refine TL.pure (PV.indexA rfl hq1p rfl Tb.elm_22 rfl (by omega)) rfl (by decide) ?_
    refine TL.pure (PV.loadOld rfl Tb.one_3 hq1) rfl (by decide) ?_
    refine TL.pure (PV.assign rfl) rfl (by decide) ?_
    refine TL.nil ?_
    refine TQ.thenC ?_
    refine TC.region ?_
    refine TL.pure (PV.move rfl) rfl (by decide) ?_
    refine TL.pure (PV.move rfl) rfl (by decide) ?_
    refine TL.pure (PV.add rfl rfl (by omega)) rfl (by decide) ?_
    refine TL.pure (PV.assign rfl) rfl (by decide) ?_
    refine TL.nil ?_
    refine TQ.blkN ?_
    refine TQ.thenC ?_
    refine TC.region ?_
    refine TL.pure (PV.add rfl rfl (by omega)) rfl (by decide) ?_
    refine TL.pure (PV.move rfl) rfl (by decide) ?_
    refine TL.nil ?_
    refine TQ.thenN ?_
    refine TQ.backK (k + 1) (by repeat (first | exact True.intro | refine And.intro rfl ?_)) (by repeat (first | exact True.intro | refine And.intro rfl ?_)) (by repeat (first | exact List.Sublist.slnil | exact List.nil_sublist _ | exact List.Sublist.refl _ | refine List.Sublist.cons_cons _ ?_ | refine List.Sublist.cons _ ?_ | refine List.Sublist.trans ?_ (List.sublist_append_right _ _))) (by omega) (by omega)
  · skip
    refine TC.exit ?_
    refine TQ.thenE ?_
    refine TQ.thenE ?_
    refine TQ.blkS ?_
    refine TQ.thenC ?_
    refine TC.seq ?_
    refine TC.region ?_
    refine TL.pure (PV.move rfl) rfl (by decide) ?_
    refine TL.pure (PV.assign rfl) rfl (by decide) ?_
    refine TL.nil ?_
    refine TQ.thenC ?_
    refine TC.ret ?_
    refine TQ.retE1 rfl rfl ?_
    exact ⟨(), by rw [show k = xs.length by omega]; rfl, trivial, List.nil_sublist _⟩

set_option maxRecDepth 100000 in
theorem rsum_ok (w0 : World) (pl : Option Addr) (cl : Nat) (xs : List Int) (hx : IntsAt w0 pl xs) (hl : xs.length ≤ 1000000) (hs0 : Sml xs) :
    Calls Try.prog 61 #[.slice pl xs.length cl] w0 (Post (X := Unit) (fun _ => .int .i64 (sumI xs)) (fun _ => True) (fun _ => []) w0) := by
  refine calls Try.func61 rfl (n := 18) rfl (by simp) ?_
  refine TC.seq ?_
  refine TC.region ?_
  refine TL.pure (PV.assign rfl) rfl (by decide) ?_
  refine TL.nil ?_
  refine TQ.thenC ?_
  refine TC.seq ?_
  refine TC.region ?_
  refine TL.pure (PV.assign rfl) rfl (by decide) ?_
  refine TL.nil ?_
  refine TQ.thenC ?_
  refine TC.seq ?_
  refine TC.seq ?_
  refine TC.region ?_
  refine TL.pure (PV.assign rfl) rfl (by decide) ?_
  refine TL.nil ?_
  refine TQ.thenC ?_
  refine TC.block ?_
  refine TC.loopG [0, 2] (X := Nat) (fun k => k ≤ xs.length) (fun k => [(4, .int .i64 k), (3, .int .i64 (sm k fun j => xs.getD j 0))]) (fun k => xs.length - k) 0 (Nat.zero_le _) (by repeat (first | exact True.intro | refine And.intro rfl ?_)) ?_
  intro k hk
  refine TC.seq ?_
  refine TC.seq ?_
  refine TC.region ?_
  refine TL.pure (PV.move rfl) rfl (by decide) ?_
  refine TL.pure (PV.move rfl) rfl (by decide) ?_
  refine TL.pure (PV.len rfl Tb.sl_22) rfl (by decide) ?_
  refine TL.pure (PV.lss rfl rfl) rfl (by decide) ?_
  refine TL.nil ?_
  refine TQ.thenC ?_
  first | refine TC.condD rfl (fun hlt => ?_) (fun hlt => ?_) | refine TC.cond rfl (fun hlt => ?_) (fun hlt => ?_)
  · skip
    refine TC.skip ?_
    refine TQ.thenC ?_
    refine TC.seq ?_
    refine TC.block ?_
    obtain ⟨q1, hq1p, hq1⟩ := hx k (by omega)
    have hb9 := sm_bd6 (k := k) (f := fun j => xs.getD j 0) (by omega) (fun j hj => hs0 j (by omega))
    have hb8 := hs0 k (by omega)
    refine TC.region ?_
    refine TL.pure (PV.move rfl) rfl (by decide) ?_
    refine TL.pure (PV.move rfl) rfl (by decide) ?_
    refine TL.pure (PV.move rfl) rfl (by decide) ?_
    refine TL.pure (PV.indexA rfl hq1p rfl Tb.elm_22 rfl (by omega)) rfl (by decide) ?_
    refine TL.pure (PV.loadOld rfl Tb.one_3 hq1) rfl (by decide) ?_
    refine TL.pure (PV.add rfl rfl (by omega)) rfl (by decide) ?_
    refine TL.pure (PV.assign rfl) rfl (by decide) ?_
    refine TL.nil ?_
    refine TQ.blkN ?_
    refine TQ.thenC ?_
    refine TC.region ?_
    refine TL.pure (PV.move rfl) rfl (by decide) ?_
    refine TL.pure (PV.add rfl rfl (by omega)) rfl (by decide) ?_
    refine TL.pure (PV.assign rfl) rfl (by decide) ?_
    refine TL.nil ?_
    refine TQ.thenN ?_
    refine TQ.backK (k + 1) (by repeat (first | exact True.intro | refine And.intro rfl ?_)) (by repeat (first | exact True.intro | refine And.intro rfl ?_)) (by repeat (first | exact List.Sublist.slnil | exact List.nil_sublist _ | exact List.Sublist.refl _ | refine List.Sublist.cons_cons _ ?_ | refine List.Sublist.cons _ ?_ | refine List.Sublist.trans ?_ (List.sublist_append_right _ _))) (by omega) (by omega)
  · skip
    refine TC.exit ?_
    refine TQ.thenE ?_
    refine TQ.thenE ?_
    refine TQ.blkS ?_
    refine TQ.thenC ?_
    refine TC.seq ?_
    refine TC.region ?_
    refine TL.pure (PV.move rfl) rfl (by decide) ?_
    refine TL.pure (PV.assign rfl) rfl (by decide) ?_
    refine TL.nil ?_
    refine TQ.thenC ?_
    refine TC.ret ?_
    refine TQ.retE1 rfl rfl ?_
    exact ⟨(), by rw [show k = xs.length by omega]; rfl, trivial, List.nil_sublist _⟩

set_option maxRecDepth 100000 in
theorem amounts_ok (w0 : World) (pl : Option Addr) (cl : Nat) (xs : List Int) (hx : IntsAt w0 pl xs) (hl : xs.length ≤ 1000000) :
    Calls Try.prog 60 #[.slice pl xs.length cl] w0 (Post (X := Unit) (fun _ => .bool (amB xs)) (fun _ => True) (fun _ => []) w0) := by
  refine calls Try.func60 rfl (n := 19) rfl (by simp) ?_
  refine TC.seq ?_
  refine TC.region ?_
  refine TL.pure (PV.assign rfl) rfl (by decide) ?_
  refine TL.nil ?_
  refine TQ.thenC ?_
  refine TC.seq ?_
  refine TC.seq ?_
  refine TC.region ?_
  refine TL.pure (PV.assign rfl) rfl (by decide) ?_
  refine TL.nil ?_
  refine TQ.thenC ?_
  refine TC.block ?_
  -- live and written in the loop, not told: [2]
  refine TC.loopG [0] (X := Nat) (fun k => k ≤ xs.length ∧ ∀ j, j < k → wiB (xs.getD j 0) 0 30 = true) (fun k => [(3, .int .i64 k)]) (fun k => xs.length - k) 0 ⟨Nat.zero_le _, fun j hj => absurd hj (Nat.not_lt_zero _)⟩ (by repeat (first | exact True.intro | refine And.intro rfl ?_)) ?_
  intro k hk
  refine TC.seq ?_
  refine TC.seq ?_
  refine TC.region ?_
  refine TL.pure (PV.move rfl) rfl (by decide) ?_
  refine TL.pure (PV.move rfl) rfl (by decide) ?_
  refine TL.pure (PV.len rfl Tb.sl_22) rfl (by decide) ?_
  refine TL.pure (PV.lss rfl rfl) rfl (by decide) ?_
  refine TL.nil ?_
  refine TQ.thenC ?_
  first | refine TC.condD rfl (fun hlt => ?_) (fun hlt => ?_) | refine TC.cond rfl (fun hlt => ?_) (fun hlt => ?_)
  · skip
    refine TC.skip ?_
    refine TQ.thenC ?_
    refine TC.seq ?_
    refine TC.block ?_
    refine TC.seq ?_
    obtain ⟨q1, hq1p, hq1⟩ := hx k (by omega)
    refine TC.region ?_
    refine TL.pure (PV.move rfl) rfl (by decide) ?_
    refine TL.pure (PV.move rfl) rfl (by decide) ?_
    refine TL.pure (PV.indexA rfl hq1p rfl Tb.elm_22 rfl (by omega)) rfl (by decide) ?_
    refine TL.pure (PV.loadOld rfl Tb.one_3 hq1) rfl (by decide) ?_
    refine TL.call rfl Tb.gofn_73 (fun a w hs => within_ok w _ _ _) rfl (by decide) (fun _ _ => ?_)
    refine TL.pure ((by first | exact PV.notD rfl | exact PV.not rfl)) rfl (by decide) ?_
    refine TL.nil ?_
    refine TQ.thenC ?_
    first | refine TC.condD rfl (fun hno => ?_) (fun hno => ?_) | refine TC.cond rfl (fun hno => ?_) (fun hno => ?_)
    · skip
      refine TC.seq ?_
      refine TC.region ?_
      refine TL.pure (PV.assign rfl) rfl (by decide) ?_
      refine TL.nil ?_
      refine TQ.thenC ?_
      refine TC.ret ?_
      refine TQ.blkR ?_
      refine TQ.thenR ?_
      refine TQ.thenR ?_
      refine TQ.blkR ?_
      refine TQ.thenR ?_
      refine TQ.retE1 rfl rfl ?_
      exact ⟨(), by unfold amB; rw [all_no (k := k) (d := 0) (by omega) (by unfold wiB; simpa using hno), Bool.and_false], trivial, List.nil_sublist _⟩
    · skip
      refine TC.skip ?_
      refine TQ.blkN ?_
      refine TQ.thenC ?_
      refine TC.region ?_
      refine TL.pure (PV.move rfl) rfl (by decide) ?_
      refine TL.pure (PV.add rfl rfl (by omega)) rfl (by decide) ?_
      refine TL.pure (PV.assign rfl) rfl (by decide) ?_
      refine TL.nil ?_
      refine TQ.thenN ?_
      refine TQ.backK (k + 1) (by repeat (first | exact True.intro | refine And.intro rfl ?_)) (by repeat (first | exact True.intro | refine And.intro rfl ?_)) (by repeat (first | exact List.Sublist.slnil | exact List.nil_sublist _ | exact List.Sublist.refl _ | refine List.Sublist.cons_cons _ ?_ | refine List.Sublist.cons _ ?_ | refine List.Sublist.trans ?_ (List.sublist_append_right _ _))) ⟨by omega, fun j hj => if e : j < k then hk.2 j e else (show k = j by omega) ▸ (by unfold wiB; simpa using hno)⟩ (by omega)
  · skip
    refine TC.exit ?_
    refine TQ.thenE ?_
    refine TQ.thenE ?_
    refine TQ.blkS ?_
    refine TQ.thenC ?_
    refine TC.seq ?_
    refine TC.region ?_
    refine TL.pure (PV.move rfl) rfl (by decide) ?_
    refine TL.pure (PV.len rfl Tb.sl_22) rfl (by decide) ?_
    refine TL.call rfl Tb.gofn_73 (fun a w hs => within_ok w _ _ _) rfl (by decide) (fun _ _ => ?_)
    refine TL.pure (PV.assign rfl) rfl (by decide) ?_
    refine TL.nil ?_
    refine TQ.thenC ?_
    refine TC.ret ?_
    refine TQ.retE1 rfl rfl ?_
    exact ⟨(), by unfold amB; rw [all_yes (f := fun x => wiB x 0 30) (d := 0) (fun j hj => hk.2 j (by omega)), Bool.and_true]; unfold wiB; congr 1; rw [decide_eq_decide]; omega, trivial, List.nil_sublist _⟩

set_option maxRecDepth 100000 in
theorem indexFuncG_ok (w0 : World) (pg : Option Addr) (cg : Nat) (m : List (List Int)) (g1 : LsAt w0 pg m) (hl : m.length ≤ 1000000) (f : FuncId) (caps : List Value) (φ : List Int → Bool) (hfn : goFn Try.prog f = true) (hcb : ∀ w G, New w0 w G → ∀ k, k < m.length → ∀ p c, IntsAt w p (m.getD k []) → Calls Try.prog f (Value.slice p (m.getD k []).length c :: caps).toArray w (Post (X := Unit) (fun _ => .bool (φ (m.getD k []))) (fun _ => True) (fun _ => []) w)) :
    Calls Try.prog 103 #[.slice pg m.length cg, .func (.func f) #[] caps.toArray] w0 (Post (X := Int) (fun i => .int .i64 i) (fun i => Fst φ m i) (fun _ => []) w0) := by
  refine calls Try.func103 rfl (n := 19) rfl (by simp) ?_
  refine TC.seq ?_
  refine TC.region ?_
  refine TL.pure (PV.assign rfl) rfl (by decide) ?_
  refine TL.nil ?_
  refine TQ.thenC ?_
  refine TC.seq ?_
  refine TC.seq ?_
  refine TC.region ?_
  refine TL.pure (PV.move rfl) rfl (by decide) ?_
  refine TL.pure (PV.len rfl Tb.sl_23) rfl (by decide) ?_
  refine TL.pure (PV.move rfl) rfl (by decide) ?_
  refine TL.nil ?_
  refine TQ.thenC ?_
  refine TC.block ?_
  -- live and written in the loop, not told: [4]
  refine TC.loopG [0, 1, 7] (X := Nat) (fun k => k ≤ m.length ∧ ∀ j, j < k → φ (m.getD j default) = false) (fun k => [(8, .int .i64 k)]) (fun k => m.length - k) 0 ⟨Nat.zero_le _, fun j hj => absurd hj (Nat.not_lt_zero _)⟩ (by repeat (first | exact True.intro | refine And.intro rfl ?_)) ?_
  intro k hk
  refine TC.seq ?_
  refine TC.region ?_
  refine TL.pure (PV.lss rfl rfl) rfl (by decide) ?_
  refine TL.nil ?_
  refine TQ.thenC ?_
  refine TC.seq ?_
  first | refine TC.condD rfl (fun hlt => ?_) (fun hlt => ?_) | refine TC.cond rfl (fun hlt => ?_) (fun hlt => ?_)
  · skip
    refine TC.skip ?_
    refine TQ.thenC ?_
    refine TC.seq ?_
    refine TC.block ?_
    refine TC.seq ?_
    refine TC.region ?_
    refine TL.pure (PV.move rfl) rfl (by decide) ?_
    refine TL.pure (PV.assign rfl) rfl (by decide) ?_
    refine TL.nil ?_
    refine TQ.thenC ?_
    refine TC.seq ?_
    obtain ⟨q2, hq2p, q2p, q2c, hq2, hq2r⟩ := g1 k (by omega)
    refine TC.region ?_
    refine TL.pure (PV.move rfl) rfl (by decide) ?_
    refine TL.pure (PV.move rfl) rfl (by decide) ?_
    refine TL.pure (PV.move rfl) rfl (by decide) ?_
    refine TL.pure (PV.indexA rfl hq2p rfl Tb.elm_23 rfl (by omega)) rfl (by decide) ?_
    refine TL.pure (PV.loadOld rfl Tb.one_22 hq2) rfl (by decide) ?_
    refine TL.callF (f := f) (caps := caps) (X := Unit) (fun _ => .bool (φ (m.getD k []))) (fun _ => True) (fun _ => []) rfl rfl hfn (fun a w hs => (hcb w _ hs.new k (by omega) _ _ (hq2r.new hs.new)).mono fun e w' ⟨x9, h1, h2, h3⟩ => ⟨x9, h1, h2, hs.new.trans h3⟩) rfl (by decide) (fun _ _ => ?_)
    refine TL.nil ?_
    refine TQ.thenC ?_
    first | refine TC.condD rfl (fun hno => ?_) (fun hno => ?_) | refine TC.cond rfl (fun hno => ?_) (fun hno => ?_)
    · skip
      refine TC.seq ?_
      refine TC.region ?_
      refine TL.pure (PV.move rfl) rfl (by decide) ?_
      refine TL.pure (PV.assign rfl) rfl (by decide) ?_
      refine TL.nil ?_
      refine TQ.thenC ?_
      refine TC.ret ?_
      refine TQ.blkR ?_
      refine TQ.thenR ?_
      refine TQ.thenR ?_
      refine TQ.blkR ?_
      refine TQ.thenR ?_
      refine TQ.retE1 rfl rfl ?_
      first | exact ⟨k, rfl, .inr ⟨k, rfl, by omega, by simpa [default] using hno, hk.2⟩, List.nil_sublist _⟩ | exact ⟨-1, rfl, .inl ⟨rfl, fun j hj => hk.2 j (by omega)⟩, List.nil_sublist _⟩
    · skip
      refine TC.skip ?_
      refine TQ.blkN ?_
      refine TQ.thenC ?_
      refine TC.region ?_
      refine TL.pure (PV.add rfl rfl (by omega)) rfl (by decide) ?_
      refine TL.pure (PV.move rfl) rfl (by decide) ?_
      refine TL.nil ?_
      refine TQ.thenN ?_
      refine TQ.backK (k + 1) (by repeat (first | exact True.intro | refine And.intro rfl ?_)) (by repeat (first | exact True.intro | refine And.intro rfl ?_)) (by repeat (first | exact List.Sublist.slnil | exact List.nil_sublist _ | exact List.Sublist.refl _ | refine List.Sublist.cons_cons _ ?_ | refine List.Sublist.cons _ ?_ | refine List.Sublist.trans ?_ (List.sublist_append_right _ _))) ⟨by omega, fun j hj => if e : j < k then hk.2 j e else (show k = j by omega) ▸ (by simpa [default] using hno)⟩ (by omega)
  · skip
    refine TC.exit ?_
    refine TQ.thenE ?_
    refine TQ.thenE ?_
    refine TQ.blkS ?_
    refine TQ.thenC ?_
    refine TC.seq ?_
    refine TC.region ?_
    refine TL.pure (PV.assign rfl) rfl (by decide) ?_
    refine TL.nil ?_
    refine TQ.thenC ?_
    refine TC.ret ?_
    refine TQ.retE1 rfl rfl ?_
    first | exact ⟨k, rfl, .inr ⟨k, rfl, by omega, by simpa [default] using hno, hk.2⟩, List.nil_sublist _⟩ | exact ⟨-1, rfl, .inl ⟨rfl, fun j hj => hk.2 j (by omega)⟩, List.nil_sublist _⟩

set_option maxRecDepth 100000 in
theorem containsFuncG_ok (w0 : World) (pg : Option Addr) (cg : Nat) (m : List (List Int)) (g1 : LsAt w0 pg m) (hl : m.length ≤ 1000000) (f : FuncId) (caps : List Value) (φ : List Int → Bool) (hfn : goFn Try.prog f = true) (hcb : ∀ w G, New w0 w G → ∀ k, k < m.length → ∀ p c, IntsAt w p (m.getD k []) → Calls Try.prog f (Value.slice p (m.getD k []).length c :: caps).toArray w (Post (X := Unit) (fun _ => .bool (φ (m.getD k []))) (fun _ => True) (fun _ => []) w)) :
    Calls Try.prog 89 #[.slice pg m.length cg, .func (.func f) #[] caps.toArray] w0 (Post (X := Unit) (fun _ => .bool (m.any φ)) (fun _ => True) (fun _ => []) w0) := by
  refine calls Try.func89 rfl (n := 9) rfl (by simp) ?_
  refine TC.seq ?_
  refine TC.region ?_
  refine TL.pure (PV.assign rfl) rfl (by decide) ?_
  refine TL.nil ?_
  refine TQ.thenC ?_
  refine TC.seq ?_
  refine TC.region ?_
  refine TL.pure (PV.move rfl) rfl (by decide) ?_
  refine TL.pure (PV.move rfl) rfl (by decide) ?_
  refine TL.call rfl Tb.gofn_103 (fun a w hs => indexFuncG_ok w _ _ m (g1.new hs.new) hl f caps φ hfn (fun w2 G2 hn2 k hk p c hp => hcb w2 _ (hs.new.trans hn2) k hk p c hp)) rfl (by decide) (fun i9 hi9 => ?_)
  refine TL.pure (PV.geq rfl rfl) rfl (by decide) ?_
  refine TL.pure (PV.assign rfl) rfl (by decide) ?_
  refine TL.nil ?_
  refine TQ.thenC ?_
  refine TC.ret ?_
  refine TQ.retE1 rfl rfl ?_
  exact ⟨(), by rw [fst_any hi9], trivial, List.nil_sublist _⟩

set_option maxRecDepth 100000 in
theorem isGridF_ok (w0 : World) (pl : Option Addr) (cl : Nat) (xs : List Int) (hx : IntsAt w0 pl xs) (hl : xs.length ≤ 1000000) (n : Nat) (most : Int) (a b : Addr) (p2 : Option Addr) (c2 : Nat) (ha : w0.cell? (a.add 1) = some (.slice p2 n c2)) (hb : w0.cell? b = some (.int .i64 most)) :
    Calls Try.prog 88 #[.slice pl xs.length cl, .pointer (some a), .pointer (some b)] w0 (Post (X := Unit) (fun _ => .bool (!numB n 0 most xs)) (fun _ => True) (fun _ => []) w0) := by
  refine calls Try.func88 rfl (n := 12) rfl (by simp) ?_
  refine TC.seq ?_
  refine TC.region ?_
  refine TL.pure (PV.assign rfl) rfl (by decide) ?_
  refine TL.nil ?_
  refine TQ.thenC ?_
  refine TC.seq ?_
  refine TC.region ?_
  refine TL.pure (PV.move rfl) rfl (by decide) ?_
  refine TL.pure (PV.fieldAddrA rfl Tb.fo_25_1) rfl (by decide) ?_
  refine TL.pure (PV.loadOld rfl Tb.one_22 ha) rfl (by decide) ?_
  refine TL.pure (PV.len rfl Tb.sl_22) rfl (by decide) ?_
  refine TL.pure (PV.loadOld rfl Tb.one_3 hb) rfl (by decide) ?_
  refine TL.call rfl Tb.gofn_87 (fun a w hs => areNumbers_ok w _ _ _ (hx.new hs.new) hl _ _ _) rfl (by decide) (fun _ _ => ?_)
  refine TL.pure ((by first | exact PV.notD rfl | exact PV.not rfl)) rfl (by decide) ?_
  refine TL.pure (PV.assign rfl) rfl (by decide) ?_
  refine TL.nil ?_
  refine TQ.thenC ?_
  refine TC.ret ?_
  refine TQ.retE1 rfl rfl ?_
  exact ⟨(), rfl, trivial, List.nil_sublist _⟩

set_option maxRecDepth 100000 in
theorem isGrid_ok (w0 : World) (vt : Value) (t : Td) (ht : IsT w0 vt t) (vg : Value) (m : List (List Int)) (hg : IsG w0 vg m) (hM : SmG m) (most : Int) :
    Calls Try.prog 59 #[vt, vg, .int .i64 most] w0 (Post (X := Unit) (fun _ => .bool (grB t.s.length t.d.length most m)) (fun _ => True) (fun _ => []) w0) := by
  obtain ⟨p1, c1, p2, c2, p3, c3, rfl, t1, t2, t3⟩ := ht
  obtain ⟨pg, cg, rfl, g1⟩ := hg
  refine calls Try.func59 rfl (n := 21) rfl (by simp) ?_
  refine TC.seq ?_
  refine TC.region ?_
  refine TL.box rfl rfl (by decide) (fun b0 hb0 => ?_)
  refine TL.box rfl rfl (by decide) (fun b1 hb1 => ?_)
  refine TL.pure (PV.assign rfl) rfl (by decide) ?_
  refine TL.nil ?_
  refine TQ.thenC ?_
  refine TC.seq ?_
  refine TC.region ?_
  refine TL.pure (PV.makeFunc rfl) rfl (by decide) ?_
  refine TL.pure (PV.assign rfl) rfl (by decide) ?_
  refine TL.nil ?_
  refine TQ.thenC ?_
  refine TC.seq ?_
  refine TC.region ?_
  refine TL.pure (PV.move rfl) rfl (by decide) ?_
  refine TL.pure (PV.len rfl Tb.sl_23) rfl (by decide) ?_
  refine TL.pure (PV.fieldAddr rfl Tb.fo_25_0) rfl (by decide) ?_
  refine TL.pure (PV.load rfl Tb.one_22 (by repeat (first | exact List.Mem.head _ | refine List.Mem.tail _ ?_ | refine List.mem_append_right _ ?_)) rfl) rfl (by decide) ?_
  refine TL.pure (PV.len rfl Tb.sl_22) rfl (by decide) ?_
  refine TL.pure (PV.eql rfl rfl) rfl (by decide) ?_
  refine TL.pure (PV.move rfl) rfl (by decide) ?_
  first | refine TL.splitD 15 rfl (fun e1 => ?_) (fun e1 => ?_) | refine TL.split 15 rfl (fun e1 => ?_) (fun e1 => ?_)
  · skip
    refine TL.pure (PV.move rfl) rfl (by decide) ?_
    refine TL.pure (PV.move rfl) rfl (by decide) ?_
    refine TL.call rfl Tb.gofn_89 (fun a w hs => containsFuncG_ok w _ _ m (g1.new hs.new) hM.1 88 [.pointer (some ⟨b0, 0, none⟩), .pointer (some ⟨b1, 0, none⟩)] (fun r => !numB t.d.length 0 most r) Tb.gofn_88 (fun w2 G2 hn2 k hk p c hp => isGridF_ok w2 p c (m.getD k []) hp (hM.2 k) t.d.length most ⟨b0, 0, none⟩ ⟨b1, 0, none⟩ p2 c2 ((hs.new.trans hn2).cell (by repeat (first | exact List.Mem.head _ | refine List.Mem.tail _ ?_ | refine List.mem_append_right _ ?_)) rfl) ((hs.new.trans hn2).cell (by repeat (first | exact List.Mem.head _ | refine List.Mem.tail _ ?_ | refine List.mem_append_right _ ?_)) rfl))) rfl (by decide) (fun _ _ => ?_)
    refine TL.pure ((by first | exact PV.notD rfl | exact PV.not rfl)) rfl (by decide) ?_
    refine TL.pure (PV.pickT rfl rfl) rfl (by decide) ?_
    refine TL.pure (PV.assign rfl) rfl (by decide) ?_
    refine TL.nil ?_
    refine TQ.thenC ?_
    refine TC.ret ?_
    refine TQ.retE1 rfl rfl ?_
    first | exact ⟨(), by unfold grB; rw [decide_eq_true (by omega), Bool.true_and, not_any_not], trivial, List.nil_sublist _⟩ | exact ⟨(), by unfold grB; rw [decide_eq_false (by omega), Bool.false_and], trivial, List.nil_sublist _⟩
  · skip
    refine TL.skip rfl (fun k hk => by cases hk; decide) ?_
    refine TL.skip rfl (fun k hk => by cases hk; decide) ?_
    refine TL.skip rfl (fun k hk => by cases hk; decide) ?_
    refine TL.skip rfl (fun k hk => by cases hk; decide) ?_
    refine TL.pure (PV.pickF rfl rfl) rfl (by decide) ?_
    refine TL.pure (PV.assign rfl) rfl (by decide) ?_
    refine TL.nil ?_
    refine TQ.thenC ?_
    refine TC.ret ?_
    refine TQ.retE1 rfl rfl ?_
    first | exact ⟨(), by unfold grB; rw [decide_eq_true (by omega), Bool.true_and, not_any_not], trivial, List.nil_sublist _⟩ | exact ⟨(), by unfold grB; rw [decide_eq_false (by omega), Bool.false_and], trivial, List.nil_sublist _⟩

set_option maxRecDepth 100000 in
set_option maxHeartbeats 1000000 in
theorem validate_ok (w0 : World) (vt : Value) (t : Td) (ht : IsT w0 vt t) (hT : SmT t) :
    Calls Try.prog 21 #[vt] w0 (Post (X := Unit) (fun _ => .int .i64 (validI t)) (fun _ => True) (fun _ => []) w0) := by
  obtain ⟨p1, c1, p2, c2, p3, c3, rfl, t1, t2, t3⟩ := ht
  refine calls Try.func21 rfl (n := 27) rfl (by simp) ?_
  refine TC.seq ?_
  refine TC.region ?_
  refine TL.box rfl rfl (by decide) (fun b0 hb0 => ?_)
  refine TL.pure (PV.assign rfl) rfl (by decide) ?_
  refine TL.nil ?_
  refine TQ.thenC ?_
  refine TC.seq ?_
  refine TC.seq ?_
  refine TC.any Tb.mixed rfl rfl ?_
  refine TA.op (OpOK.pure (PV.fieldAddr rfl Tb.fo_25_0) rfl (by decide)) (by decide) ?_
  refine TA.op (OpOK.pure (PV.load rfl Tb.one_22 (by repeat (first | exact List.Mem.head _ | refine List.Mem.tail _ ?_ | refine List.mem_append_right _ ?_)) rfl) rfl (by decide)) (by decide) ?_
  refine TA.op (OpOK.call rfl Tb.gofn_57 (fun a w hs => areAmounts_ok w _ _ _ (t1.new hs.new) hT.s) rfl (by decide)) (by decide) ?_
  refine TA.op (OpOK.pure ((by first | exact PV.notD rfl | exact PV.not rfl)) rfl (by decide)) (by decide) ?_
  refine TA.op (OpOK.pure (PV.move rfl) rfl (by decide)) (by decide) ?_
  first | refine TA.splitD 7 rfl (fun e1 => ?_) (fun e1 => ?_) | refine TA.split 7 rfl (fun e1 => ?_) (fun e1 => ?_)
  · skip
    refine TA.op (OpOK.skip rfl) (by decide) ?_
    refine TA.op (OpOK.skip rfl) (by decide) ?_
    refine TA.op (OpOK.skip rfl) (by decide) ?_
    refine TA.op (OpOK.skip rfl) (by decide) ?_
    refine TA.op (OpOK.pure (PV.pickT rfl rfl) rfl (by decide)) (by decide) ?_
    refine TA.op (OpOK.pure (PV.move rfl) rfl (by decide)) (by decide) ?_
    refine TA.op (OpOK.skip rfl) (by decide) ?_
    refine TA.op (OpOK.skip rfl) (by decide) ?_
    refine TA.op (OpOK.skip rfl) (by decide) ?_
    refine TA.op (OpOK.skip rfl) (by decide) ?_
    refine TA.op (OpOK.skip rfl) (by decide) ?_
    refine TA.op (OpOK.skip rfl) (by decide) ?_
    refine TA.op (OpOK.skip rfl) (by decide) ?_
    refine TA.op (OpOK.pure (PV.pickT rfl rfl) rfl (by decide)) (by decide) ?_
    show TQ _ _ _ _ _
    refine TQ.thenC ?_
    refine TC.condT rfl ?_
    refine TC.seq ?_
    refine TC.region ?_
    refine TL.pure (PV.assign rfl) rfl (by decide) ?_
    refine TL.nil ?_
    refine TQ.thenC ?_
    refine TC.ret ?_
    refine TQ.thenR ?_
    refine TQ.retE1 rfl rfl ?_
    first | exact ⟨(), by rw [valid_b (not_am (xs := t.s) (by simpa using e1) (.inl rfl))], trivial, List.nil_sublist _⟩ | exact ⟨(), by rw [valid_b (not_am (xs := t.d) (by simpa using e2) (.inr rfl))], trivial, List.nil_sublist _⟩ | exact ⟨(), by rw [valid_b (by unfold validB; rw [decide_eq_false (by simpa using e3)]; simp)], trivial, List.nil_sublist _⟩ | exact ⟨(), by rw [valid_b (by unfold validB; rw [show grB t.s.length t.d.length 99 t.c = false by simpa using e4]; simp)], trivial, List.nil_sublist _⟩ | exact ⟨(), by unfold validI validB; simp_all, trivial, List.nil_sublist _⟩
  · skip
    refine TA.op (OpOK.pure (PV.fieldAddr rfl Tb.fo_25_1) rfl (by decide)) (by decide) ?_
    refine TA.op (OpOK.pure (PV.load rfl Tb.one_22 (by repeat (first | exact List.Mem.head _ | refine List.Mem.tail _ ?_ | refine List.mem_append_right _ ?_)) rfl) rfl (by decide)) (by decide) ?_
    refine TA.op (OpOK.call rfl Tb.gofn_57 (fun a w hs => areAmounts_ok w _ _ _ (t2.new hs.new) hT.d) rfl (by decide)) (by decide) ?_
    refine TA.op (OpOK.pure ((by first | exact PV.notD rfl | exact PV.not rfl)) rfl (by decide)) (by decide) ?_
    refine TA.op (OpOK.pure (PV.pickF rfl rfl) rfl (by decide)) (by decide) ?_
    refine TA.op (OpOK.pure (PV.move rfl) rfl (by decide)) (by decide) ?_
    first | refine TA.splitD 13 rfl (fun e2 => ?_) (fun e2 => ?_) | refine TA.split 13 rfl (fun e2 => ?_) (fun e2 => ?_)
    · skip
      refine TA.op (OpOK.skip rfl) (by decide) ?_
      refine TA.op (OpOK.skip rfl) (by decide) ?_
      refine TA.op (OpOK.skip rfl) (by decide) ?_
      refine TA.op (OpOK.skip rfl) (by decide) ?_
      refine TA.op (OpOK.skip rfl) (by decide) ?_
      refine TA.op (OpOK.skip rfl) (by decide) ?_
      refine TA.op (OpOK.skip rfl) (by decide) ?_
      refine TA.op (OpOK.pure (PV.pickT rfl rfl) rfl (by decide)) (by decide) ?_
      show TQ _ _ _ _ _
      refine TQ.thenC ?_
      refine TC.condT rfl ?_
      refine TC.seq ?_
      refine TC.region ?_
      refine TL.pure (PV.assign rfl) rfl (by decide) ?_
      refine TL.nil ?_
      refine TQ.thenC ?_
      refine TC.ret ?_
      refine TQ.thenR ?_
      refine TQ.retE1 rfl rfl ?_
      first | exact ⟨(), by rw [valid_b (not_am (xs := t.s) (by simpa using e1) (.inl rfl))], trivial, List.nil_sublist _⟩ | exact ⟨(), by rw [valid_b (not_am (xs := t.d) (by simpa using e2) (.inr rfl))], trivial, List.nil_sublist _⟩ | exact ⟨(), by rw [valid_b (by unfold validB; rw [decide_eq_false (by simpa using e3)]; simp)], trivial, List.nil_sublist _⟩ | exact ⟨(), by rw [valid_b (by unfold validB; rw [show grB t.s.length t.d.length 99 t.c = false by simpa using e4]; simp)], trivial, List.nil_sublist _⟩ | exact ⟨(), by unfold validI validB; simp_all, trivial, List.nil_sublist _⟩
    · skip
      refine TA.op (OpOK.pure (PV.fieldAddr rfl Tb.fo_25_0) rfl (by decide)) (by decide) ?_
      refine TA.op (OpOK.pure (PV.load rfl Tb.one_22 (by repeat (first | exact List.Mem.head _ | refine List.Mem.tail _ ?_ | refine List.mem_append_right _ ?_)) rfl) rfl (by decide)) (by decide) ?_
      refine TA.op (OpOK.call rfl Tb.gofn_58 (fun a w hs => sum_ok w _ _ _ (t1.new hs.new) hT.s (Sml.sub (am_of (by simpa using e1)).2)) rfl (by decide)) (by decide) ?_
      refine TA.op (OpOK.pure (PV.fieldAddr rfl Tb.fo_25_1) rfl (by decide)) (by decide) ?_
      refine TA.op (OpOK.pure (PV.load rfl Tb.one_22 (by repeat (first | exact List.Mem.head _ | refine List.Mem.tail _ ?_ | refine List.mem_append_right _ ?_)) rfl) rfl (by decide)) (by decide) ?_
      refine TA.op (OpOK.call rfl Tb.gofn_58 (fun a w hs => sum_ok w _ _ _ (t2.new hs.new) hT.d (Sml.sub (am_of (by simpa using e2)).2)) rfl (by decide)) (by decide) ?_
      refine TA.op (OpOK.pure (PV.neq rfl rfl) rfl (by decide)) (by decide) ?_
      refine TA.op (OpOK.pure (PV.pickF rfl rfl) rfl (by decide)) (by decide) ?_
      show TQ _ _ _ _ _
      refine TQ.thenC ?_
      first | refine TC.condD rfl (fun e3 => ?_) (fun e3 => ?_) | refine TC.cond rfl (fun e3 => ?_) (fun e3 => ?_)
      · skip
        refine TC.seq ?_
        refine TC.region ?_
        refine TL.pure (PV.assign rfl) rfl (by decide) ?_
        refine TL.nil ?_
        refine TQ.thenC ?_
        refine TC.ret ?_
        refine TQ.thenR ?_
        refine TQ.retE1 rfl rfl ?_
        first | exact ⟨(), by rw [valid_b (not_am (xs := t.s) (by simpa using e1) (.inl rfl))], trivial, List.nil_sublist _⟩ | exact ⟨(), by rw [valid_b (not_am (xs := t.d) (by simpa using e2) (.inr rfl))], trivial, List.nil_sublist _⟩ | exact ⟨(), by rw [valid_b (by unfold validB; rw [decide_eq_false (by simpa using e3)]; simp)], trivial, List.nil_sublist _⟩ | exact ⟨(), by rw [valid_b (by unfold validB; rw [show grB t.s.length t.d.length 99 t.c = false by simpa using e4]; simp)], trivial, List.nil_sublist _⟩ | exact ⟨(), by unfold validI validB; simp_all, trivial, List.nil_sublist _⟩
      · skip
        refine TC.skip ?_
        refine TQ.thenC ?_
        refine TC.seq ?_
        refine TC.seq ?_
        refine TC.region ?_
        refine TL.pure (PV.loadBox rfl Tb.agg_25 (by repeat (first | exact List.Mem.head _ | refine List.Mem.tail _ ?_ | refine List.mem_append_right _ ?_)) rfl) rfl (by decide) ?_
        refine TL.pure (PV.fieldAddr rfl Tb.fo_25_2) rfl (by decide) ?_
        refine TL.pure (PV.load rfl Tb.one_23 (by repeat (first | exact List.Mem.head _ | refine List.Mem.tail _ ?_ | refine List.mem_append_right _ ?_)) rfl) rfl (by decide) ?_
        refine TL.call rfl Tb.gofn_59 (fun a w hs => isGrid_ok w _ t (IsT.mk (t1.new hs.new) (t2.new hs.new) (t3.new hs.new)) _ t.c (IsG.of (t3.new hs.new)) hT.c 99) rfl (by decide) (fun _ _ => ?_)
        refine TL.pure ((by first | exact PV.notD rfl | exact PV.not rfl)) rfl (by decide) ?_
        refine TL.nil ?_
        refine TQ.thenC ?_
        first | refine TC.condD rfl (fun e4 => ?_) (fun e4 => ?_) | refine TC.cond rfl (fun e4 => ?_) (fun e4 => ?_)
        · skip
          refine TC.seq ?_
          refine TC.region ?_
          refine TL.pure (PV.assign rfl) rfl (by decide) ?_
          refine TL.nil ?_
          refine TQ.thenC ?_
          refine TC.ret ?_
          refine TQ.thenR ?_
          refine TQ.retE1 rfl rfl ?_
          first | exact ⟨(), by rw [valid_b (not_am (xs := t.s) (by simpa using e1) (.inl rfl))], trivial, List.nil_sublist _⟩ | exact ⟨(), by rw [valid_b (not_am (xs := t.d) (by simpa using e2) (.inr rfl))], trivial, List.nil_sublist _⟩ | exact ⟨(), by rw [valid_b (by unfold validB; rw [decide_eq_false (by simpa using e3)]; simp)], trivial, List.nil_sublist _⟩ | exact ⟨(), by rw [valid_b (by unfold validB; rw [show grB t.s.length t.d.length 99 t.c = false by simpa using e4]; simp)], trivial, List.nil_sublist _⟩ | exact ⟨(), by unfold validI validB; simp_all, trivial, List.nil_sublist _⟩
        · skip
          refine TC.skip ?_
          refine TQ.thenC ?_
          refine TC.seq ?_
          refine TC.region ?_
          refine TL.pure (PV.assign rfl) rfl (by decide) ?_
          refine TL.nil ?_
          refine TQ.thenC ?_
          refine TC.ret ?_
          refine TQ.retE1 rfl rfl ?_
          first | exact ⟨(), by rw [valid_b (not_am (xs := t.s) (by simpa using e1) (.inl rfl))], trivial, List.nil_sublist _⟩ | exact ⟨(), by rw [valid_b (not_am (xs := t.d) (by simpa using e2) (.inr rfl))], trivial, List.nil_sublist _⟩ | exact ⟨(), by rw [valid_b (by unfold validB; rw [decide_eq_false (by simpa using e3)]; simp)], trivial, List.nil_sublist _⟩ | exact ⟨(), by rw [valid_b (by unfold validB; rw [show grB t.s.length t.d.length 99 t.c = false by simpa using e4]; simp)], trivial, List.nil_sublist _⟩ | exact ⟨(), by unfold validI validB; simp_all, trivial, List.nil_sublist _⟩

end Go.Proofs.Ytghlkndanpegbaa
