/- A survey that comes in, opened: its number of points and its readings. -/
import Derived.Test.YtmmgcajegokkoaaM1
import Derived.ProofKit
import Derived.Deep.Slices
import Derived.Deep.Fields
import Derived.Lib.SmallJoins
import Derived.Carry
set_option linter.unusedVariables false
set_option linter.unusedSimpArgs false
namespace Go.Proofs.Ytmmgcajegokkoaa
open Go.ChangeShapes Go.WideShapes Go.ChangeAt Go.RowKit Go.Sx

theorem own_knob : ownKnob Try.prog.godebug = none := by kernel_rfl
theorem laid_out : laidOutB Try.prog = true := by kernel_rfl

section
variable {H : Type} {enc : TypeId × Value → H} {W : World} {base : Nat} {spare : Nat → Bool} {held : Bool}
set_option maxRecDepth 100000 in
theorem rd_open {n : Nat} {a : Addr} {cs : List Value} {x : DataW H × List MemPlace} (hc : W.cells? base a 4 = some cs) (h : DataW.trod enc Try.prog W base spare held n 61 cs = some x) :
    ∃ r : Rd, ∀ j v, r.cells[j]? = some v → W.cell? (a.add j) = some v := by
  obtain ⟨xs, k, _, _, hlen, hxl, hg⟩ := DataW.trod_struct Try.underlying61 h
  obtain ⟨_, hcl, hat⟩ := World.cells?_some hc
  have h1 : Try.prog.cellsOf 3 = 1 := by kernel_rfl
  match cs, hcl with
  | [c0, c1, c2, c3], _ =>
    match xs, hxl with
    | [y0, y1, y2, y3], _ =>
      have t0 := hg 0 _ rfl
      change DataW.trod enc Try.prog W base spare held k 3 (([c0, c1, c2, c3].drop 0).take (Try.prog.cellsOf 3)) = some y0 at t0
      rw [h1] at t0
      have t1 := hg 1 _ rfl
      change DataW.trod enc Try.prog W base spare held k 3 (([c0, c1, c2, c3].drop 1).take (Try.prog.cellsOf 3)) = some y1 at t1
      rw [h1] at t1
      have t2 := hg 2 _ rfl
      change DataW.trod enc Try.prog W base spare held k 3 (([c0, c1, c2, c3].drop 2).take (Try.prog.cellsOf 3)) = some y2 at t2
      rw [h1] at t2
      have t3 := hg 3 _ rfl
      change DataW.trod enc Try.prog W base spare held k 3 (([c0, c1, c2, c3].drop 3).take (Try.prog.cellsOf 3)) = some y3 at t3
      rw [h1] at t3
      obtain ⟨i0, e0, _, _⟩ := DataW.trod_int Try.underlying3 t0
      obtain ⟨i1, e1, _, _⟩ := DataW.trod_int Try.underlying3 t1
      obtain ⟨i2, e2, _, _⟩ := DataW.trod_int Try.underlying3 t2
      obtain ⟨i3, e3, _, _⟩ := DataW.trod_int Try.underlying3 t3
      simp at e0 e1 e2 e3
      subst e0; subst e1; subst e2; subst e3
      refine ⟨⟨i0, i1, i2, i3⟩, fun j v hv => ?_⟩
      have hj : j < 4 := (List.getElem?_eq_some_iff.1 hv).1
      rw [hat j hj]
      exact hv

set_option maxRecDepth 100000 in
theorem survey_open {r : Reach} {b0 : Nat} {v : Value} {d : DataW H} {p : List MemPlace} (hval : Value.okWide Try.prog W r b0 24 v) (h : DataW.Trod enc Try.prog W base (fun _ => true) held 24 v d p) :
    ∃ (n : Int) (q : Option Addr) (cap : Nat) (rs : List Rd), v = sv n q rs.length cap ∧ RdsAt W q rs := by
  obtain ⟨v0, v1, y0, y1, m, rfl, rfl, rfl, h0, h1⟩ := Go.Joins.open_agg2 Try.underlying24 (by kernel_rfl) (by kernel_rfl) hval h
  obtain ⟨n, hc0, _, _⟩ := DataW.trod_int Try.underlying3 h0
  have hv0 : v0 = .int .i64 n := by simpa using hc0
  subst hv0
  rcases Go.Deep.open_slice Try.underlying22 h1 with ⟨hc, _⟩ | ⟨a, len, cap, m', k, D, Pl, hc, _, hl, _, hmm, _, hi⟩
  · have hv1 : v1 = .slice none 0 0 := by simpa using hc
    subst hv1
    exact ⟨n, none, 0, [], rfl, fun j hj => by simp at hj⟩
  · have hv1 : v1 = .slice (some a) len cap := by simpa using hc
    subst hv1
    have h4 : Try.prog.cellsOf 61 = 4 := by kernel_rfl
    rw [h4] at hi
    have hex : ∀ i, ∃ r : Rd, i < len → ∀ j v, r.cells[j]? = some v → W.cell? ((a.add (i * 4)).add j) = some v := fun i => by
      by_cases hil : i < len
      · obtain ⟨cs', hcs, ht⟩ := hi i (by simp at hmm; omega)
        obtain ⟨r, hr⟩ := rd_open hcs ht
        exact ⟨r, fun _ => hr⟩
      · exact ⟨default, fun hh => absurd hh hil⟩
    obtain ⟨f, hf⟩ := Classical.skolem.1 hex
    refine ⟨n, some a, cap, (List.range len).map f, by simp, fun j hj => ⟨a, rfl, fun i v hv => ?_⟩⟩
    have hj' : j < len := by simpa using hj
    refine hf j hj' i v ?_
    simpa [List.getD, hj'] using hv
end

end Go.Proofs.Ytmmgcajegokkoaa
