/- What comes in, opened: numbers, lists, meadows; the library's table as it is laid. -/
import Derived.Test.YtaeobkgogipceaaDoorQb
import Derived.Test.YtaeobkgogipceaaDoorCards
import Derived.Test.YtaeobkgogipceaaDoorTie
import Derived.ProofKit
import Derived.Deep.Slices
import Derived.Deep.Fields
import Derived.Lib.SmallJoins
import Derived.Lib.LaidTab
import Derived.Carry
import Derived.OpenShut
import Derived.LaidMore
import Derived.Lay
import Derived.SevenTiedAt
import Derived.Stop.Joined
set_option linter.unusedVariables false
set_option linter.unusedSimpArgs false
namespace Go.Proofs.YtaeobkgogipceaaDoor
open Go.ChangeShapes Go.WideShapes Go.ChangeAt Go.RowKit Go.Sx

theorem own_knob : ownKnob Tryd.prog.godebug = none := by kernel_rfl
theorem laid_out : laidOutB Tryd.prog = true := by kernel_rfl
def I64 (i : Int) : Prop := -9223372036854775808 ≤ i ∧ i ≤ 9223372036854775807
theorem i64_of {n : Int} (h : (Lit.int .i64 n).wf = true) : I64 n := by
  simp only [Lit.wf, Bool.and_eq_true, decide_eq_true_eq] at h
  exact ⟨Int.le_trans (by decide +kernel) h.1, Int.le_trans h.2 (by decide +kernel)⟩
section
variable {H : Type} {enc : TypeId × Value → H} {W : World} {base : Nat} {spare : Nat → Bool} {held : Bool}
set_option maxRecDepth 100000 in
theorem int_cell {n : Nat} {v : Value} {y : DataW H × List MemPlace} (h : DataW.trod enc Tryd.prog W base spare held n 3 [v] = some y) : ∃ i : Int, v = .int .i64 i ∧ I64 i := by
  obtain ⟨i, e, _, hw⟩ := DataW.trod_int Tryd.underlying3 h
  exact ⟨i, by simpa using e, i64_of hw⟩
set_option maxRecDepth 100000 in
theorem int_open {r : Reach} {b0 : Nat} {v : Value} {d : DataW H} {p : List MemPlace} (hval : Value.okWide Tryd.prog W r b0 3 v) (h : DataW.Trod enc Tryd.prog W base spare held 3 v d p) : ∃ i : Int, v = .int .i64 i ∧ I64 i := by
  obtain ⟨n, rfl, _, _, hw⟩ := open_int Tryd.underlying3 hval h
  exact ⟨n, rfl, i64_of hw⟩
set_option maxRecDepth 100000 in
theorem ints_cell {n : Nat} {v : Value} {y : DataW H × List MemPlace} (h : DataW.trod enc Tryd.prog W base (fun _ => true) held n 24 [v] = some y) :
    ∃ (q : Option Addr) (cap : Nat) (xs : List Int), v = .slice q xs.length cap ∧ IntsAt W q xs ∧ (∀ x ∈ xs, I64 x) ∧ xs.length ≤ cap := by
  have h1 : Tryd.prog.cellsOf 3 = 1 := by kernel_rfl
  rcases Go.Deep.open_slice1 Tryd.underlying24 h1 h with ⟨hc, _⟩ | ⟨a, len, cap, m', k, V, D, Pl, hc, _, hl, _, hmm, _, hi⟩
  · have hv1 : v = .slice none 0 0 := by simpa using hc
    subst hv1
    exact ⟨none, 0, [], rfl, fun j hj => by simp at hj, by simp, Nat.le_refl _⟩
  · have hv1 : v = .slice (some a) len cap := by simpa using hc
    subst hv1
    have hex : ∀ i, ∃ x : Int, i < len → W.cell? (a.add i) = some (.int .i64 x) ∧ I64 x := fun i => by
      by_cases hil : i < len
      · obtain ⟨hcell, ht⟩ := hi i (by simp at hmm; omega)
        obtain ⟨x, hx, hw⟩ := int_cell ht
        exact ⟨x, fun _ => ⟨by rw [hcell, hx], hw⟩⟩
      · exact ⟨0, fun hh => absurd hh hil⟩
    obtain ⟨f, hf⟩ := Classical.skolem.1 hex
    refine ⟨some a, cap, (List.range len).map f, by simp, fun j hj => ⟨a, rfl, ?_⟩, fun x hx => ?_, by simpa using hl⟩
    · have hj' : j < len := by simpa using hj
      rw [Nat.mul_one]
      have := (hf j hj').1
      simpa [List.getD, hj'] using this
    · obtain ⟨i, hi, rfl⟩ := List.mem_map.1 hx
      exact (hf i (List.mem_range.1 hi)).2
set_option maxRecDepth 100000 in
theorem ints_open {r : Reach} {b0 : Nat} {v : Value} {d : DataW H} {p : List MemPlace} (hval : Value.okWide Tryd.prog W r b0 24 v) (h : DataW.Trod enc Tryd.prog W base (fun _ => true) held 24 v d p) :
    ∃ (q : Option Addr) (cap : Nat) (xs : List Int), v = .slice q xs.length cap ∧ IntsAt W q xs ∧ (∀ x ∈ xs, I64 x) ∧ xs.length ≤ cap := by
  obtain ⟨a, len, cap, rfl⟩ := okWide_slice Tryd.underlying24 hval
  obtain ⟨fuel, hf⟩ := h
  exact ints_cell (v := .slice a len cap) (by simpa [Value.cells] using hf)
set_option maxRecDepth 100000 in
theorem meadow_open {r : Reach} {b0 : Nat} {v : Value} {d : DataW H} {p : List MemPlace} (hval : Value.okWide Tryd.prog W r b0 23 v) (h : DataW.Trod enc Tryd.prog W base spare held 23 v d p) :
    ∃ (i j k : Int), v = .agg #[.int .i64 i, .int .i64 j, .int .i64 k] ∧ I64 i ∧ I64 j ∧ I64 k := by
  obtain ⟨v0, v1, v2, y0, y1, y2, m, rfl, rfl, rfl, h0, h1, h2⟩ := Go.Joins.open_agg3 Tryd.underlying23 (by kernel_rfl) (by kernel_rfl) hval h
  obtain ⟨i, rfl, e0⟩ := int_cell h0
  obtain ⟨j, rfl, e1⟩ := int_cell h1
  obtain ⟨k, rfl, e2⟩ := int_cell h2
  exact ⟨i, j, k, rfl, e0, e1, e2⟩
end
/-- What the statements list of the library. -/
def laid2 : List (String × DataW Unit) := [("math/bits.deBruijn32tab", Rows.laid_math_bits_deBruijn32tab), ("math/bits.deBruijn64tab", Rows.laid_math_bits_deBruijn64tab)]
theorem tab_is : (Rows.laid_math_bits_deBruijn64tab : DataW Unit) = Lib.tabData .u8 (Lib.deBruijn64tab.map fun n : Nat => (n : Int)) := by kernel_rfl
theorem tz_of_laid {W : World} (h : laidMetH Tryd.prog laid2 W) : TzAt W := by
  rw [MakeChecks.laidMetH_plain _ _ _ (by kernel_rfl)] at h
  obtain ⟨ps, ⟨g0, t0, cs0, f0, p0, q0, hg0, ht0, hv0, hd0, ⟨g1, t1, cs1, f1, p1, q1, hg1, ht1, hv1, hd1, _, _⟩, _⟩, _, _⟩ := h
  obtain rfl := Option.some.inj ((show Tryd.prog.globalNamed "math/bits.deBruijn64tab" = some 1 by kernel_rfl).symm.trans hg1)
  obtain rfl := Option.some.inj ((show (Tryd.prog.globals[1]?).map (·.type) = some 102 by kernel_rfl).symm.trans ht1)
  rw [tab_is] at hd1
  have hcs := Lib.cells_of_tab Tryd.underlying102 Tryd.underlying5 (by kernel_rfl) (by kernel_rfl) hd1
  intro j hj
  rw [World.var?_cell hg1 hv1 j]
  have hl : Lib.deBruijn64tab.length = 64 := by decide +kernel
  rw [show cs1[j]? = cs1.toList[j]? by simp, hcs]
  simp [List.getD, hl, hj]
end Go.Proofs.YtaeobkgogipceaaDoor
