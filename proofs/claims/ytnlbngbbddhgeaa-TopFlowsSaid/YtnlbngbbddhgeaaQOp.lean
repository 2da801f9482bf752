/- What comes in, opened: numbers, lists of numbers, drains, nets. -/
import Derived.Test.YtnlbngbbddhgeaaQFa
import Derived.ProofKit
import Derived.Deep.Slices
import Derived.Deep.Fields
import Derived.Lib.SmallJoins
import Derived.Carry
set_option linter.unusedVariables false
set_option linter.unusedSimpArgs false
namespace Go.Proofs.Ytnlbngbbddhgeaa
open Go.ChangeShapes Go.WideShapes Go.ChangeAt Go.RowKit Go.Sx

theorem own_knob : ownKnob Try.prog.godebug = none := by kernel_rfl
theorem laid_out : laidOutB Try.prog = true := by kernel_rfl
def I64 (i : Int) : Prop := -9223372036854775808 ≤ i ∧ i ≤ 9223372036854775807
theorem i64_of {n : Int} (h : (Lit.int .i64 n).wf = true) : I64 n := by
  simp only [Lit.wf, Bool.and_eq_true, decide_eq_true_eq] at h
  exact ⟨Int.le_trans (by decide +kernel) h.1, Int.le_trans h.2 (by decide +kernel)⟩
section
variable {H : Type} {enc : TypeId × Value → H} {W : World} {base : Nat} {spare : Nat → Bool} {held : Bool}
set_option maxRecDepth 100000 in
theorem int_cell {n : Nat} {v : Value} {y : DataW H × List MemPlace} (h : DataW.trod enc Try.prog W base spare held n 3 [v] = some y) : ∃ i : Int, v = .int .i64 i ∧ I64 i := by
  obtain ⟨i, e, _, hw⟩ := DataW.trod_int Try.underlying3 h
  exact ⟨i, by simpa using e, i64_of hw⟩
set_option maxRecDepth 100000 in
theorem int_open {r : Reach} {b0 : Nat} {v : Value} {d : DataW H} {p : List MemPlace} (hval : Value.okWide Try.prog W r b0 3 v) (h : DataW.Trod enc Try.prog W base spare held 3 v d p) : ∃ i : Int, v = .int .i64 i ∧ I64 i := by
  obtain ⟨n, rfl, _, _, hw⟩ := open_int Try.underlying3 hval h
  exact ⟨n, rfl, i64_of hw⟩
set_option maxRecDepth 100000 in
theorem bd_open {n : Nat} {a : Addr} {cs : List Value} {x : DataW H × List MemPlace} (hc : W.cells? base a 3 = some cs) (h : DataW.trod enc Try.prog W base spare held n 40 cs = some x) :
    ∃ r : Bd, ∀ j v, r.cells[j]? = some v → W.cell? (a.add j) = some v := by
  obtain ⟨xs, k, _, _, hlen, hxl, hg⟩ := DataW.trod_struct Try.underlying40 h
  obtain ⟨_, hcl, hat⟩ := World.cells?_some hc
  have h1 : Try.prog.cellsOf 3 = 1 := by kernel_rfl
  match cs, hcl with
  | [c0, c1, c2], _ =>
    match xs, hxl with
    | [y0, y1, y2], _ =>
      have t0 := hg 0 _ rfl
      change DataW.trod enc Try.prog W base spare held k 3 (([c0, c1, c2].drop 0).take (Try.prog.cellsOf 3)) = some y0 at t0
      rw [h1] at t0
      have t1 := hg 1 _ rfl
      change DataW.trod enc Try.prog W base spare held k 3 (([c0, c1, c2].drop 1).take (Try.prog.cellsOf 3)) = some y1 at t1
      rw [h1] at t1
      have t2 := hg 2 _ rfl
      change DataW.trod enc Try.prog W base spare held k 3 (([c0, c1, c2].drop 2).take (Try.prog.cellsOf 3)) = some y2 at t2
      rw [h1] at t2
      obtain ⟨i0, e0, _, _⟩ := DataW.trod_int Try.underlying3 t0
      obtain ⟨i1, e1, _, _⟩ := DataW.trod_int Try.underlying3 t1
      obtain ⟨i2, e2, _, _⟩ := DataW.trod_int Try.underlying3 t2
      simp at e0 e1 e2
      subst e0; subst e1; subst e2
      refine ⟨⟨i0, i1, i2⟩, fun j v hv => ?_⟩
      have hj : j < 3 := (List.getElem?_eq_some_iff.1 hv).1
      rw [hat j hj]
      exact hv
set_option maxRecDepth 100000 in
theorem net_open {r : Reach} {b0 : Nat} {v : Value} {d : DataW H} {p : List MemPlace} (hval : Value.okWide Try.prog W r b0 24 v) (h : DataW.Trod enc Try.prog W base (fun _ => true) held 24 v d p) :
    ∃ (n s t : Int) (q : Option Addr) (cap : Nat) (rs : List Bd), v = dnV n s t q rs.length cap ∧ BdsAt W q rs := by
  obtain ⟨v0, v1, v2, v3, y0, y1, y2, y3, m, rfl, rfl, rfl, h0, h1, h2, h3⟩ := Go.Joins.open_agg4 Try.underlying24 (by kernel_rfl) (by kernel_rfl) hval h
  obtain ⟨n, rfl, _⟩ := int_cell h0
  obtain ⟨s, rfl, _⟩ := int_cell h1
  obtain ⟨t, rfl, _⟩ := int_cell h2
  rcases Go.Deep.open_slice Try.underlying22 h3 with ⟨hc, _⟩ | ⟨a, len, cap, m', k, D, Pl, hc, _, hl, _, hmm, _, hi⟩
  · have hv1 : v3 = .slice none 0 0 := by simpa using hc
    subst hv1
    exact ⟨n, s, t, none, 0, [], rfl, fun j hj => by simp at hj⟩
  · have hv1 : v3 = .slice (some a) len cap := by simpa using hc
    subst hv1
    have h4 : Try.prog.cellsOf 40 = 3 := by kernel_rfl
    rw [h4] at hi
    have hex : ∀ i, ∃ r : Bd, i < len → ∀ j v, r.cells[j]? = some v → W.cell? ((a.add (i * 3)).add j) = some v := fun i => by
      by_cases hil : i < len
      · obtain ⟨cs', hcs, ht⟩ := hi i (by simp at hmm; omega)
        obtain ⟨r, hr⟩ := bd_open hcs ht
        exact ⟨r, fun _ => hr⟩
      · exact ⟨default, fun hh => absurd hh hil⟩
    obtain ⟨f, hf⟩ := Classical.skolem.1 hex
    refine ⟨n, s, t, some a, cap, (List.range len).map f, by simp, fun j hj => ⟨a, rfl, fun i v hv => ?_⟩⟩
    have hj' : j < len := by simpa using hj
    refine hf j hj' i v ?_
    simpa [List.getD, hj'] using hv
end
end Go.Proofs.Ytnlbngbbddhgeaa
