/- What comes in, opened: numbers, lists of numbers, bogs. -/
import Derived.Test.YtfgjojoipbbacaaQCC
import Derived.ProofKit
import Derived.Deep.Slices
import Derived.Deep.Fields
import Derived.Lib.SmallJoins
import Derived.Carry
set_option linter.unusedVariables false
set_option linter.unusedSimpArgs false
namespace Go.Proofs.Ytfgjojoipbbacaa
open Go.ChangeShapes Go.WideShapes Go.ChangeAt Go.RowKit Go.Sx

theorem own_knob : ownKnob Try.prog.godebug = none := by kernel_rfl
theorem laid_out : laidOutB Try.prog = true := by kernel_rfl
def I64 (i : Int) : Prop := -9223372036854775808 ≤ i ∧ i ≤ 9223372036854775807
theorem i64_of {n : Int} (h : (Lit.int .i64 n).wf = true) : I64 n := by
  simp only [Lit.wf, Bool.and_eq_true, decide_eq_true_eq] at h
  exact ⟨Int.le_trans (by decide +kernel) h.1, Int.le_trans h.2 (by decide +kernel)⟩
section
variable {H : Type} {enc : TypeId × Value → H} {W : World} {base : Nat} {spare : Nat → Bool} {held : Bool}
set_option maxRecDepth 100000 in
theorem int_cell {n : Nat} {v : Value} {y : DataW H × List MemPlace} (h : DataW.trod enc Try.prog W base spare held n 3 [v] = some y) : ∃ i : Int, v = .int .i64 i ∧ I64 i := by
  obtain ⟨i, e, _, hw⟩ := DataW.trod_int Try.underlying3 h
  exact ⟨i, by simpa using e, i64_of hw⟩
set_option maxRecDepth 100000 in
theorem int_open {r : Reach} {b0 : Nat} {v : Value} {d : DataW H} {p : List MemPlace} (hval : Value.okWide Try.prog W r b0 3 v) (h : DataW.Trod enc Try.prog W base spare held 3 v d p) : ∃ i : Int, v = .int .i64 i ∧ I64 i := by
  obtain ⟨n, rfl, _, _, hw⟩ := open_int Try.underlying3 hval h
  exact ⟨n, rfl, i64_of hw⟩
set_option maxRecDepth 100000 in
theorem ints_cell {n : Nat} {v : Value} {y : DataW H × List MemPlace} (h : DataW.trod enc Try.prog W base (fun _ => true) held n 25 [v] = some y) :
    ∃ (q : Option Addr) (cap : Nat) (xs : List Int), v = .slice q xs.length cap ∧ IntsAt W q xs ∧ (∀ x ∈ xs, I64 x) ∧ xs.length ≤ cap := by
  have h1 : Try.prog.cellsOf 3 = 1 := by kernel_rfl
  rcases Go.Deep.open_slice1 Try.underlying25 h1 h with ⟨hc, _⟩ | ⟨a, len, cap, m', k, V, D, Pl, hc, _, hl, _, hmm, _, hi⟩
  · have hv1 : v = .slice none 0 0 := by simpa using hc
    subst hv1
    exact ⟨none, 0, [], rfl, fun j hj => by simp at hj, by simp, Nat.le_refl _⟩
  · have hv1 : v = .slice (some a) len cap := by simpa using hc
    subst hv1
    have hex : ∀ i, ∃ x : Int, i < len → W.cell? (a.add i) = some (.int .i64 x) ∧ I64 x := fun i => by
      by_cases hil : i < len
      · obtain ⟨hcell, ht⟩ := hi i (by simp at hmm; omega)
        obtain ⟨x, hx, hw⟩ := int_cell ht
        exact ⟨x, fun _ => ⟨by rw [hcell, hx], hw⟩⟩
      · exact ⟨0, fun hh => absurd hh hil⟩
    obtain ⟨f, hf⟩ := Classical.skolem.1 hex
    refine ⟨some a, cap, (List.range len).map f, by simp, fun j hj => ⟨a, rfl, ?_⟩, fun x hx => ?_, by simpa using hl⟩
    · have hj' : j < len := by simpa using hj
      rw [Nat.mul_one]
      have := (hf j hj').1
      simpa [List.getD, hj'] using this
    · obtain ⟨i, hi, rfl⟩ := List.mem_map.1 hx
      exact (hf i (List.mem_range.1 hi)).2
set_option maxRecDepth 100000 in
theorem ints_open {r : Reach} {b0 : Nat} {v : Value} {d : DataW H} {p : List MemPlace} (hval : Value.okWide Try.prog W r b0 25 v) (h : DataW.Trod enc Try.prog W base (fun _ => true) held 25 v d p) :
    ∃ (q : Option Addr) (cap : Nat) (xs : List Int), v = .slice q xs.length cap ∧ IntsAt W q xs ∧ (∀ x ∈ xs, I64 x) ∧ xs.length ≤ cap := by
  obtain ⟨a, len, cap, rfl⟩ := okWide_slice Try.underlying25 hval
  obtain ⟨fuel, hf⟩ := h
  exact ints_cell (v := .slice a len cap) (by simpa [Value.cells] using hf)
set_option maxRecDepth 100000 in
theorem bog_open {r : Reach} {b0 : Nat} {v : Value} {d : DataW H} {p : List MemPlace} (hval : Value.okWide Try.prog W r b0 24 v) (h : DataW.Trod enc Try.prog W base (fun _ => true) held 24 v d p) :
    ∃ (q : Option Addr) (cap : Nat) (ls : List (List Int)), v = bv q ls.length cap ∧ LsAt W q ls ∧ CapsAt W q ls ∧ ls.length ≤ 9223372036854775807 ∧ ls.length ≤ cap := by
  obtain ⟨cs, rfl, hsz⟩ := okWide_struct Try.underlying24 hval
  have hC : Try.prog.cellsOf 24 = 1 := by kernel_rfl
  obtain ⟨v0, rfl⟩ : ∃ c0, cs = #[c0] := by
    have h9 := hsz.trans hC
    obtain ⟨l⟩ := cs
    match l, h9 with
    | [c0], _ => exact ⟨c0, rfl⟩
  obtain ⟨fuel, hf⟩ := h
  obtain ⟨xs, k, _, _, hlen, hxl, hg⟩ := DataW.trod_struct Try.underlying24 hf
  match xs, hxl with
  | [y0], _ =>
    have h1 : Try.prog.cellsOf 22 = 1 := by kernel_rfl
    have h2 : Try.prog.cellsOf 25 = 1 := by kernel_rfl
    have t0 := hg 0 _ rfl
    change DataW.trod enc Try.prog W base (fun _ => true) held k 22 (([v0].drop 0).take (Try.prog.cellsOf 22)) = some y0 at t0
    rw [h1] at t0
    rcases Go.Deep.open_slice1 Try.underlying22 h2 t0 with ⟨hc, _⟩ | ⟨a, len, cap, m', k', V, D, Pl, hc, _, hl, hmax, hmm, _, hi⟩
    · have hv1 : v0 = .slice none 0 0 := by simpa using hc
      subst hv1
      exact ⟨none, 0, [], rfl, fun j hj => by simp at hj, fun j hj => by simp at hj, by simp, Nat.le_refl _⟩
    · have hv1 : v0 = .slice (some a) len cap := by simpa using hc
      subst hv1
      have hex : ∀ i, ∃ x : List Int × Option Addr × Nat, i < len → W.cell? (a.add i) = some (.slice x.2.1 x.1.length x.2.2) ∧ IntsAt W x.2.1 x.1 ∧ x.1.length ≤ x.2.2 := fun i => by
        by_cases hil : i < len
        · obtain ⟨hcell, ht⟩ := hi i (by simp at hmm; omega)
          obtain ⟨q, c, xs, hx, hint, _, hcap⟩ := ints_cell ht
          exact ⟨(xs, q, c), fun _ => ⟨by rw [hcell, hx], hint, hcap⟩⟩
        · exact ⟨([], none, 0), fun hh => absurd hh hil⟩
      obtain ⟨f, hf⟩ := Classical.skolem.1 hex
      have hlm : cap ≤ 9223372036854775807 := hmax
      have hat : ∀ j, j < len → ((List.range len).map fun i => (f i).1).getD j [] = (f j).1 := fun j hj => by simp [List.getD, hj]
      refine ⟨some a, cap, (List.range len).map fun i => (f i).1, by simp, fun j hj => ?_, fun j hj q pj cj l hp hq => ?_, by simp; omega, by simpa using hl⟩
      · have hj' : j < len := by simpa using hj
        obtain ⟨e1, e2, _⟩ := hf j hj'
        rw [hat j hj']
        exact ⟨a, rfl, (f j).2.1, (f j).2.2, by rw [Nat.mul_one]; exact e1, e2⟩
      · have hj' : j < len := by simpa using hj
        obtain ⟨e1, _, e3⟩ := hf j hj'
        cases hp
        rw [Nat.mul_one, e1] at hq
        simp only [Option.some.injEq, Value.slice.injEq] at hq
        obtain ⟨_, rfl, rfl⟩ := hq
        exact e3
end
end Go.Proofs.Ytfgjojoipbbacaa
