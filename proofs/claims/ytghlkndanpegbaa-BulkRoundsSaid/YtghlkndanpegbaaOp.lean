/- What comes in, opened: numbers, lists, tables, trades, prices, rounds. -/
import Derived.Test.YtghlkndanpegbaaBo
import Derived.ProofKit
import Derived.Deep.Slices
import Derived.Deep.Fields
import Derived.Lib.SmallJoins
import Derived.Carry
set_option linter.unusedVariables false
set_option linter.unusedSimpArgs false
namespace Go.Proofs.Ytghlkndanpegbaa
open Go.ChangeShapes Go.WideShapes Go.ChangeAt Go.RowKit Go.Sx

theorem own_knob : ownKnob Try.prog.godebug = none := by kernel_rfl
theorem laid_out : laidOutB Try.prog = true := by kernel_rfl
def I64 (i : Int) : Prop := -9223372036854775808 ≤ i ∧ i ≤ 9223372036854775807
theorem i64_of {n : Int} (h : (Lit.int .i64 n).wf = true) : I64 n := by
  simp only [Lit.wf, Bool.and_eq_true, decide_eq_true_eq] at h
  exact ⟨Int.le_trans (by decide +kernel) h.1, Int.le_trans h.2 (by decide +kernel)⟩
section
variable {H : Type} {enc : TypeId × Value → H} {W : World} {base : Nat} {spare : Nat → Bool} {held : Bool}
set_option maxRecDepth 100000 in
theorem int_cell {n : Nat} {v : Value} {y : DataW H × List MemPlace} (h : DataW.trod enc Try.prog W base spare held n 3 [v] = some y) : ∃ i : Int, v = .int .i64 i ∧ I64 i := by
  obtain ⟨i, e, _, hw⟩ := DataW.trod_int Try.underlying3 h
  exact ⟨i, by simpa using e, i64_of hw⟩
set_option maxRecDepth 100000 in
theorem int_open {r : Reach} {b0 : Nat} {v : Value} {d : DataW H} {p : List MemPlace} (hval : Value.okWide Try.prog W r b0 3 v) (h : DataW.Trod enc Try.prog W base spare held 3 v d p) : ∃ i : Int, v = .int .i64 i ∧ I64 i := by
  obtain ⟨n, rfl, _, _, hw⟩ := open_int Try.underlying3 hval h
  exact ⟨n, rfl, i64_of hw⟩
set_option maxRecDepth 100000 in
theorem ints_cell {n : Nat} {v : Value} {y : DataW H × List MemPlace} (h : DataW.trod enc Try.prog W base (fun _ => true) held n 22 [v] = some y) :
    ∃ (q : Option Addr) (cap : Nat) (xs : List Int), v = .slice q xs.length cap ∧ IntsAt W q xs ∧ (∀ x ∈ xs, I64 x) ∧ xs.length ≤ cap := by
  have h1 : Try.prog.cellsOf 3 = 1 := by kernel_rfl
  rcases Go.Deep.open_slice1 Try.underlying22 h1 h with ⟨hc, _⟩ | ⟨a, len, cap, m', k, V, D, Pl, hc, _, hl, _, hmm, _, hi⟩
  · have hv1 : v = .slice none 0 0 := by simpa using hc
    subst hv1
    exact ⟨none, 0, [], rfl, fun j hj => by simp at hj, by simp, Nat.le_refl _⟩
  · have hv1 : v = .slice (some a) len cap := by simpa using hc
    subst hv1
    have hex : ∀ i, ∃ x : Int, i < len → W.cell? (a.add i) = some (.int .i64 x) ∧ I64 x := fun i => by
      by_cases hil : i < len
      · obtain ⟨hcell, ht⟩ := hi i (by simp at hmm; omega)
        obtain ⟨x, hx, hw⟩ := int_cell ht
        exact ⟨x, fun _ => ⟨by rw [hcell, hx], hw⟩⟩
      · exact ⟨0, fun hh => absurd hh hil⟩
    obtain ⟨f, hf⟩ := Classical.skolem.1 hex
    refine ⟨some a, cap, (List.range len).map f, by simp, fun j hj => ⟨a, rfl, ?_⟩, fun x hx => ?_, by simpa using hl⟩
    · have hj' : j < len := by simpa using hj
      rw [Nat.mul_one]
      have := (hf j hj').1
      simpa [List.getD, hj'] using this
    · obtain ⟨i, hi, rfl⟩ := List.mem_map.1 hx
      exact (hf i (List.mem_range.1 hi)).2
set_option maxRecDepth 100000 in
theorem ints_open {r : Reach} {b0 : Nat} {v : Value} {d : DataW H} {p : List MemPlace} (hval : Value.okWide Try.prog W r b0 22 v) (h : DataW.Trod enc Try.prog W base (fun _ => true) held 22 v d p) :
    ∃ (q : Option Addr) (cap : Nat) (xs : List Int), v = .slice q xs.length cap ∧ IntsAt W q xs ∧ (∀ x ∈ xs, I64 x) ∧ xs.length ≤ cap := by
  obtain ⟨a, len, cap, rfl⟩ := okWide_slice Try.underlying22 hval
  obtain ⟨fuel, hf⟩ := h
  exact ints_cell (v := .slice a len cap) (by simpa [Value.cells] using hf)
set_option maxRecDepth 100000 in
theorem grid_cell {n : Nat} {v : Value} {y : DataW H × List MemPlace} (h : DataW.trod enc Try.prog W base (fun _ => true) held n 23 [v] = some y) :
    ∃ (q : Option Addr) (cap : Nat) (m : List (List Int)), v = .slice q m.length cap ∧ LsAt W q m ∧ m.length ≤ 9223372036854775807 := by
  have h1 : Try.prog.cellsOf 22 = 1 := by kernel_rfl
  rcases Go.Deep.open_slice1 Try.underlying23 h1 h with ⟨hc, _⟩ | ⟨a, len, cap, m', k', V, D, Pl, hc, _, hl, hmax, hmm, _, hi⟩
  · have hv1 : v = .slice none 0 0 := by simpa using hc
    subst hv1
    exact ⟨none, 0, [], rfl, fun j hj => by simp at hj, by simp⟩
  · have hv1 : v = .slice (some a) len cap := by simpa using hc
    subst hv1
    have hex : ∀ i, ∃ x : List Int × Option Addr × Nat, i < len → W.cell? (a.add i) = some (.slice x.2.1 x.1.length x.2.2) ∧ IntsAt W x.2.1 x.1 := fun i => by
      by_cases hil : i < len
      · obtain ⟨hcell, ht⟩ := hi i (by simp at hmm; omega)
        obtain ⟨q, c, xs, hx, hint, _, _⟩ := ints_cell ht
        exact ⟨(xs, q, c), fun _ => ⟨by rw [hcell, hx], hint⟩⟩
      · exact ⟨([], none, 0), fun hh => absurd hh hil⟩
    obtain ⟨f, hf⟩ := Classical.skolem.1 hex
    have hlm : cap ≤ 9223372036854775807 := hmax
    have hat : ∀ j, j < len → ((List.range len).map fun i => (f i).1).getD j [] = (f j).1 := fun j hj => by simp [List.getD, hj]
    refine ⟨some a, cap, (List.range len).map fun i => (f i).1, by simp, fun j hj => ?_, by simp; omega⟩
    have hj' : j < len := by simpa using hj
    obtain ⟨e1, e2⟩ := hf j hj'
    rw [hat j hj']
    exact ⟨a, rfl, (f j).2.1, (f j).2.2, by rw [Nat.mul_one]; exact e1, e2⟩
set_option maxRecDepth 100000 in
theorem grid_open {r : Reach} {b0 : Nat} {v : Value} {d : DataW H} {p : List MemPlace} (hval : Value.okWide Try.prog W r b0 23 v) (h : DataW.Trod enc Try.prog W base (fun _ => true) held 23 v d p) :
    ∃ m : List (List Int), IsG W v m ∧ m.length ≤ 9223372036854775807 := by
  obtain ⟨a, len, cap, rfl⟩ := okWide_slice Try.underlying23 hval
  obtain ⟨fuel, hf⟩ := h
  obtain ⟨q, c, m, e, h1, h2⟩ := grid_cell (v := .slice a len cap) (by simpa [Value.cells] using hf)
  exact ⟨m, ⟨q, c, e, h1⟩, h2⟩
set_option maxRecDepth 100000 in
theorem prices_open {r : Reach} {b0 : Nat} {v : Value} {d : DataW H} {p : List MemPlace} (hval : Value.okWide Try.prog W r b0 43 v) (h : DataW.Trod enc Try.prog W base (fun _ => true) held 43 v d p) :
    ∃ us vs : List Int, IsP W v us vs := by
  obtain ⟨v0, v1, y0, y1, m, rfl, rfl, rfl, h0, h1⟩ := Go.Joins.open_agg2 Try.underlying43 (by kernel_rfl) (by kernel_rfl) hval h
  obtain ⟨q, c, xs, e0, hx, _, _⟩ := ints_cell h0
  obtain ⟨q2, c2, ys, e1, hy, _, _⟩ := ints_cell h1
  subst e0; subst e1
  exact ⟨xs, ys, q, c, q2, c2, rfl, hx, hy⟩
set_option maxRecDepth 100000 in
theorem trade_open {r : Reach} {b0 : Nat} {v : Value} {d : DataW H} {p : List MemPlace} (hval : Value.okWide Try.prog W r b0 25 v) (h : DataW.Trod enc Try.prog W base (fun _ => true) held 25 v d p) :
    ∃ t : Td, IsT W v t ∧ t.c.length ≤ 9223372036854775807 := by
  obtain ⟨cs, rfl, hsz⟩ := okWide_struct Try.underlying25 hval
  have hC : Try.prog.cellsOf 25 = 3 := by kernel_rfl
  obtain ⟨v0, v1, v2, rfl⟩ : ∃ c0 c1 c2, cs = #[c0, c1, c2] := by
    have h9 := hsz.trans hC
    obtain ⟨l⟩ := cs
    match l, h9 with
    | [c0, c1, c2], _ => exact ⟨c0, c1, c2, rfl⟩
  obtain ⟨fuel, hf⟩ := h
  obtain ⟨xs, k, _, _, hlen, hxl, hg⟩ := DataW.trod_struct Try.underlying25 hf
  match xs, hxl with
  | [y0, y1, y2], _ =>
    have h2 : Try.prog.cellsOf 22 = 1 := by kernel_rfl
    have h3 : Try.prog.cellsOf 23 = 1 := by kernel_rfl
    have t0 := hg 0 _ rfl
    change DataW.trod enc Try.prog W base (fun _ => true) held k 22 (([v0, v1, v2].drop 0).take (Try.prog.cellsOf 22)) = some y0 at t0
    rw [h2] at t0
    have t1 := hg 1 _ rfl
    change DataW.trod enc Try.prog W base (fun _ => true) held k 22 (([v0, v1, v2].drop 1).take (Try.prog.cellsOf 22)) = some y1 at t1
    rw [h2] at t1
    have t2 := hg 2 _ rfl
    change DataW.trod enc Try.prog W base (fun _ => true) held k 23 (([v0, v1, v2].drop 2).take (Try.prog.cellsOf 23)) = some y2 at t2
    rw [h3] at t2
    obtain ⟨q, c, xs, e0, hx, _, _⟩ := ints_cell t0
    obtain ⟨q2, c2, ys, e1, hy, _, _⟩ := ints_cell t1
    obtain ⟨q3, c3, m, e2, hm, hml⟩ := grid_cell t2
    subst e0; subst e1; subst e2
    exact ⟨⟨xs, ys, m⟩, ⟨q, c, q2, c2, q3, c3, rfl, hx, hy, hm⟩, hml⟩
set_option maxRecDepth 100000 in
theorem pair_cell {n : Nat} {c0 c1 : Value} {y : DataW H × List MemPlace} (h : DataW.trod enc Try.prog W base (fun _ => true) held n 84 [c0, c1] = some y) : ∃ r : Pr, c0 = .int .i64 r.p ∧ c1 = .int .i64 r.q := by
  obtain ⟨xs, k, _, _, hlen, hxl, hg⟩ := DataW.trod_array Try.underlying84 h
  match xs, hxl with
  | [y0, y1], _ =>
    have h2 : Try.prog.cellsOf 3 = 1 := by kernel_rfl
    have t0 := hg 0 (by decide)
    have t1 := hg 1 (by decide)
    rw [h2] at t0 t1
    obtain ⟨i, e0, _⟩ := int_cell t0
    obtain ⟨j, e1, _⟩ := int_cell t1
    exact ⟨⟨i, j⟩, e0, e1⟩
set_option maxRecDepth 100000 in
theorem pairs_open {r : Reach} {b0 : Nat} {v : Value} {d : DataW H} {p : List MemPlace} (hval : Value.okWide Try.prog W r b0 49 v) (h : DataW.Trod enc Try.prog W base (fun _ => true) held 49 v d p) :
    ∃ (q : Option Addr) (cap : Nat) (l : List Pr), v = .slice q l.length cap ∧ RecsAt prR W q l ∧ l.length ≤ cap := by
  obtain ⟨a, len, cap, rfl⟩ := okWide_slice Try.underlying49 hval
  obtain ⟨fuel, hf⟩ := h
  have hf : DataW.trod enc Try.prog W base (fun _ => true) held fuel 49 [.slice a len cap] = some (d, p) := by simpa [Value.cells] using hf
  rcases Go.Deep.open_slice Try.underlying49 hf with ⟨hc, _⟩ | ⟨a, len, cap, m', k, D, Pl, hc, _, hl, _, hmm, _, hi⟩
  · cases hc
    exact ⟨none, 0, [], rfl, fun j hj => by simp at hj, Nat.le_refl _⟩
  · cases hc
    have h4 : Try.prog.cellsOf 84 = 2 := by kernel_rfl
    rw [h4] at hi
    have hex : ∀ i, ∃ r : Pr, i < len → W.cell? ((a.add (i * 2)).add 0) = some (.int .i64 r.p) ∧ W.cell? ((a.add (i * 2)).add 1) = some (.int .i64 r.q) := fun i => by
      by_cases hil : i < len
      · obtain ⟨cs', hcs, ht⟩ := hi i (by simp at hmm; omega)
        obtain ⟨_, hcl, hat⟩ := World.cells?_some hcs
        obtain ⟨c0, c1, rfl⟩ : ∃ c0 c1, cs' = [c0, c1] := by
          match cs', hcl with
          | [c0, c1], _ => exact ⟨c0, c1, rfl⟩
        obtain ⟨r, e0, e1⟩ := pair_cell ht
        exact ⟨r, fun _ => ⟨by rw [hat 0 (by decide), ← e0]; rfl, by rw [hat 1 (by decide), ← e1]; rfl⟩⟩
      · exact ⟨default, fun hh => absurd hh hil⟩
    obtain ⟨f, hf⟩ := Classical.skolem.1 hex
    have hat : ∀ j, j < len → ((List.range len).map f).getD j default = f j := fun j hj => by simp [List.getD, hj]
    refine ⟨some a, cap, (List.range len).map f, by simp, fun j hj => ⟨a, rfl, fun i v hv => ?_⟩, by simpa using hl⟩
    have hj' : j < len := by simpa using hj
    obtain ⟨e1, e2⟩ := hf j hj'
    rw [hat j hj'] at hv
    match i with
    | 0 => simp only [prR, List.getElem?_cons_zero, Option.some.injEq] at hv; subst hv; exact e1
    | 1 => simp only [prR, List.getElem?_cons_succ, List.getElem?_cons_zero, Option.some.injEq] at hv; subst hv; exact e2
    | i + 2 => simp [prR] at hv
end
end Go.Proofs.Ytghlkndanpegbaa
