/- What comes in, opened: numbers, lists of numbers, readings, tables. -/
import Derived.Test.YtmmgcajegokkoaaN0
set_option linter.unusedVariables false
set_option linter.unusedSimpArgs false
namespace Go.Proofs.Ytmmgcajegokkoaa
open Go.ChangeShapes Go.WideShapes Go.ChangeAt Go.RowKit Go.Sx
def I64 (i : Int) : Prop := -9223372036854775808 ≤ i ∧ i ≤ 9223372036854775807
theorem i64_of {n : Int} (h : (Lit.int .i64 n).wf = true) : I64 n := by
  simp only [Lit.wf, Bool.and_eq_true, decide_eq_true_eq] at h
  exact ⟨Int.le_trans (by decide +kernel) h.1, Int.le_trans h.2 (by decide +kernel)⟩
section
variable {H : Type} {enc : TypeId × Value → H} {W : World} {base : Nat} {spare : Nat → Bool} {held : Bool}
set_option maxRecDepth 100000 in
theorem int_cell {n : Nat} {v : Value} {y : DataW H × List MemPlace} (h : DataW.trod enc Try.prog W base spare held n 3 [v] = some y) : ∃ i : Int, v = .int .i64 i ∧ I64 i := by
  obtain ⟨i, e, _, hw⟩ := DataW.trod_int Try.underlying3 h
  exact ⟨i, by simpa using e, i64_of hw⟩
set_option maxRecDepth 100000 in
theorem int_open {r : Reach} {b0 : Nat} {v : Value} {d : DataW H} {p : List MemPlace} (hval : Value.okWide Try.prog W r b0 3 v) (h : DataW.Trod enc Try.prog W base spare held 3 v d p) : ∃ i : Int, v = .int .i64 i ∧ I64 i := by
  obtain ⟨n, rfl, _, _, hw⟩ := open_int Try.underlying3 hval h
  exact ⟨n, rfl, i64_of hw⟩
set_option maxRecDepth 100000 in
theorem three_open {r : Reach} {b0 : Nat} {v : Value} {d : DataW H} {p : List MemPlace} (hval : Value.okWide Try.prog W r b0 63 v) (h : DataW.Trod enc Try.prog W base spare held 63 v d p) :
    ∃ (i j k : Int), v = .agg #[.int .i64 i, .int .i64 j, .int .i64 k] ∧ I64 i ∧ I64 j ∧ I64 k := by
  obtain ⟨v0, v1, v2, y0, y1, y2, m, rfl, rfl, rfl, h0, h1, h2⟩ := Go.Joins.open_agg3 Try.underlying63 (by kernel_rfl) (by kernel_rfl) hval h
  obtain ⟨i, rfl, e0⟩ := int_cell h0
  obtain ⟨j, rfl, e1⟩ := int_cell h1
  obtain ⟨k, rfl, e2⟩ := int_cell h2
  exact ⟨i, j, k, rfl, e0, e1, e2⟩
set_option maxRecDepth 100000 in
theorem reading_open {r : Reach} {b0 : Nat} {v : Value} {d : DataW H} {p : List MemPlace} (hval : Value.okWide Try.prog W r b0 61 v) (h : DataW.Trod enc Try.prog W base spare held 61 v d p) :
    ∃ r : Rd, v = r.val ∧ I64 r.fr ∧ I64 r.to ∧ I64 r.rise ∧ I64 r.wt := by
  obtain ⟨v0, v1, v2, v3, y0, y1, y2, y3, m, rfl, rfl, rfl, h0, h1, h2, h3⟩ := Go.Joins.open_agg4 Try.underlying61 (by kernel_rfl) (by kernel_rfl) hval h
  obtain ⟨i, rfl, e0⟩ := int_cell h0
  obtain ⟨j, rfl, e1⟩ := int_cell h1
  obtain ⟨k, rfl, e2⟩ := int_cell h2
  obtain ⟨l, rfl, e3⟩ := int_cell h3
  exact ⟨⟨i, j, k, l⟩, rfl, e0, e1, e2, e3⟩

set_option maxRecDepth 100000 in
theorem ints_cell {n : Nat} {v : Value} {y : DataW H × List MemPlace} (h : DataW.trod enc Try.prog W base (fun _ => true) held n 31 [v] = some y) :
    ∃ (q : Option Addr) (cap : Nat) (xs : List Int), v = .slice q xs.length cap ∧ IntsAt W q xs ∧ ∀ x ∈ xs, I64 x := by
  have h1 : Try.prog.cellsOf 3 = 1 := by kernel_rfl
  rcases Go.Deep.open_slice1 Try.underlying31 h1 h with ⟨hc, _⟩ | ⟨a, len, cap, m', k, V, D, Pl, hc, _, hl, _, hmm, _, hi⟩
  · have hv1 : v = .slice none 0 0 := by simpa using hc
    subst hv1
    exact ⟨none, 0, [], rfl, fun j hj => by simp at hj, by simp⟩
  · have hv1 : v = .slice (some a) len cap := by simpa using hc
    subst hv1
    have hex : ∀ i, ∃ x : Int, i < len → W.cell? (a.add i) = some (.int .i64 x) ∧ I64 x := fun i => by
      by_cases hil : i < len
      · obtain ⟨hcell, ht⟩ := hi i (by simp at hmm; omega)
        obtain ⟨x, hx, hw⟩ := int_cell ht
        exact ⟨x, fun _ => ⟨by rw [hcell, hx], hw⟩⟩
      · exact ⟨0, fun hh => absurd hh hil⟩
    obtain ⟨f, hf⟩ := Classical.skolem.1 hex
    refine ⟨some a, cap, (List.range len).map f, by simp, fun j hj => ⟨a, rfl, ?_⟩, fun x hx => ?_⟩
    · have hj' : j < len := by simpa using hj
      rw [Nat.mul_one]
      have := (hf j hj').1
      simpa [List.getD, hj'] using this
    · obtain ⟨i, hi, rfl⟩ := List.mem_map.1 hx
      exact (hf i (List.mem_range.1 hi)).2
set_option maxRecDepth 100000 in
theorem ints_open {r : Reach} {b0 : Nat} {v : Value} {d : DataW H} {p : List MemPlace} (hval : Value.okWide Try.prog W r b0 31 v) (h : DataW.Trod enc Try.prog W base (fun _ => true) held 31 v d p) :
    ∃ (q : Option Addr) (cap : Nat) (xs : List Int), v = .slice q xs.length cap ∧ IntsAt W q xs ∧ ∀ x ∈ xs, I64 x := by
  obtain ⟨a, len, cap, rfl⟩ := okWide_slice Try.underlying31 hval
  obtain ⟨fuel, hf⟩ := h
  exact ints_cell (v := .slice a len cap) (by simpa [Value.cells] using hf)
set_option maxRecDepth 100000 in
theorem table_open {r : Reach} {b0 : Nat} {v : Value} {d : DataW H} {p : List MemPlace} (hval : Value.okWide Try.prog W r b0 51 v) (h : DataW.Trod enc Try.prog W base (fun _ => true) held 51 v d p) :
    ∃ (i : Int) (q : Option Addr) (cap : Nat) (xs : List Int), v = .agg #[.int .i64 i, .slice q xs.length cap] ∧ I64 i ∧ IntsAt W q xs ∧ ∀ x ∈ xs, I64 x := by
  obtain ⟨v0, v1, y0, y1, m, rfl, rfl, rfl, h0, h1⟩ := Go.Joins.open_agg2 Try.underlying51 (by kernel_rfl) (by kernel_rfl) hval h
  obtain ⟨i, rfl, e0⟩ := int_cell h0
  obtain ⟨q, cap, xs, rfl, e1, e2⟩ := ints_cell h1
  exact ⟨i, q, cap, xs, rfl, e0, e1, e2⟩
set_option maxRecDepth 100000 in
theorem claim_open {r : Reach} {b0 : Nat} {v : Value} {d : DataW H} {p : List MemPlace} (hval : Value.okWide Try.prog W r b0 74 v) (h : DataW.Trod enc Try.prog W base (fun _ => true) held 74 v d p) :
    ∃ (q : Option Addr) (cap : Nat) (xs : List Int) (i j : Int), v = .agg #[.slice q xs.length cap, .int .i64 i, .int .i64 j] ∧ IntsAt W q xs ∧ (∀ x ∈ xs, I64 x) ∧ I64 i ∧ I64 j := by
  obtain ⟨v0, v1, v2, y0, y1, y2, m, rfl, rfl, rfl, h0, h1, h2⟩ := Go.Joins.open_agg3 Try.underlying74 (by kernel_rfl) (by kernel_rfl) hval h
  obtain ⟨q, cap, xs, rfl, e1, e2⟩ := ints_cell h0
  obtain ⟨i, rfl, e3⟩ := int_cell h1
  obtain ⟨j, rfl, e4⟩ := int_cell h2
  exact ⟨q, cap, xs, i, j, rfl, e1, e2, e3, e4⟩
end
end Go.Proofs.Ytmmgcajegokkoaa
