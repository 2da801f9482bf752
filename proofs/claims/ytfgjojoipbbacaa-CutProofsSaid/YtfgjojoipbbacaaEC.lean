/- What comes in, opened: passes. -/
import Derived.Test.YtfgjojoipbbacaaOp
import Derived.Test.YtfgjojoipbbacaaDV
set_option linter.unusedVariables false
set_option linter.unusedSimpArgs false
namespace Go.Proofs.Ytfgjojoipbbacaa
open Go.ChangeShapes Go.WideShapes Go.ChangeAt Go.RowKit Go.Sx
section
variable {H : Type} {enc : TypeId × Value → H} {W : World} {base : Nat} {spare : Nat → Bool} {held : Bool}
set_option maxRecDepth 100000 in
theorem ps_open {n : Nat} {a : Addr} {cs : List Value} {x : DataW H × List MemPlace} (hc : W.cells? base a 4 = some cs) (h : DataW.trod enc Try.prog W base spare held n 90 cs = some x) :
    ∃ r : Ps, ∀ (j : Nat) (v : Value), (rP.cells r)[j]? = some v → W.cell? (a.add j) = some v := by
  obtain ⟨xs, k, _, _, hlen, hxl, hg⟩ := DataW.trod_struct Try.underlying90 h
  obtain ⟨_, hcl, hat⟩ := World.cells?_some hc
  have h1 : Try.prog.cellsOf 3 = 1 := by kernel_rfl
  match cs, hcl with
  | [c0, c1, c2, c3], _ =>
    match xs, hxl with
    | [y0, y1, y2, y3], _ =>
      have t0 := hg 0 _ rfl
      change DataW.trod enc Try.prog W base spare held k 3 (([c0, c1, c2, c3].drop 0).take (Try.prog.cellsOf 3)) = some y0 at t0
      rw [h1] at t0
      have t1 := hg 1 _ rfl
      change DataW.trod enc Try.prog W base spare held k 3 (([c0, c1, c2, c3].drop 1).take (Try.prog.cellsOf 3)) = some y1 at t1
      rw [h1] at t1
      have t2 := hg 2 _ rfl
      change DataW.trod enc Try.prog W base spare held k 3 (([c0, c1, c2, c3].drop 2).take (Try.prog.cellsOf 3)) = some y2 at t2
      rw [h1] at t2
      have t3 := hg 3 _ rfl
      change DataW.trod enc Try.prog W base spare held k 3 (([c0, c1, c2, c3].drop 3).take (Try.prog.cellsOf 3)) = some y3 at t3
      rw [h1] at t3
      obtain ⟨i0, e0, _, _⟩ := DataW.trod_int Try.underlying3 t0
      obtain ⟨i1, e1, _, _⟩ := DataW.trod_int Try.underlying3 t1
      obtain ⟨i2, e2, _, _⟩ := DataW.trod_int Try.underlying3 t2
      obtain ⟨i3, e3, _, _⟩ := DataW.trod_int Try.underlying3 t3
      simp at e0 e1 e2 e3
      subst e0; subst e1; subst e2; subst e3
      refine ⟨⟨i0, i1, i2, i3⟩, fun j v hv => ?_⟩
      have hj : j < 4 := (List.getElem?_eq_some_iff.1 hv).1
      rw [hat j hj]
      exact hv
set_option maxRecDepth 100000 in
theorem passes_open {r : Reach} {b0 : Nat} {v : Value} {d : DataW H} {p : List MemPlace} (hval : Value.okWide Try.prog W r b0 55 v) (h : DataW.Trod enc Try.prog W base (fun _ => true) held 55 v d p) :
    ∃ (q : Option Addr) (cap : Nat) (ps : List Ps), v = .slice q ps.length cap ∧ RecsAt rP W q ps := by
  obtain ⟨a, len, cap, rfl⟩ := okWide_slice Try.underlying55 hval
  obtain ⟨fuel, hf⟩ := h
  have hf' : DataW.trod enc Try.prog W base (fun _ => true) held fuel 55 [Value.slice a len cap] = some (d, p) := by simpa [Value.cells] using hf
  rcases Go.Deep.open_slice Try.underlying55 hf' with ⟨hc, _⟩ | ⟨a', len', cap', m', k, D, Pl, hc, _, hl, _, hmm, _, hi⟩
  · have hv1 : Value.slice a len cap = .slice none 0 0 := by simpa using hc
    rw [hv1]
    exact ⟨none, 0, [], rfl, fun j hj => by simp at hj⟩
  · have hv1 : Value.slice a len cap = .slice (some a') len' cap' := by simpa using hc
    rw [hv1]
    have h4 : Try.prog.cellsOf 90 = 4 := by kernel_rfl
    rw [h4] at hi
    have hex : ∀ i, ∃ r : Ps, i < len' → ∀ (j : Nat) (v : Value), (rP.cells r)[j]? = some v → W.cell? ((a'.add (i * 4)).add j) = some v := fun i => by
      by_cases hil : i < len'
      · obtain ⟨cs', hcs, ht⟩ := hi i (by simp at hmm; omega)
        obtain ⟨r, hr⟩ := ps_open hcs ht
        exact ⟨r, fun _ => hr⟩
      · exact ⟨default, fun hh => absurd hh hil⟩
    obtain ⟨f, hf2⟩ := Classical.skolem.1 hex
    refine ⟨some a', cap', (List.range len').map f, by simp, fun j hj => ⟨a', rfl, fun i v hv => ?_⟩⟩
    have hj' : j < len' := by simpa using hj
    refine hf2 j hj' i v ?_
    simpa [List.getD, hj'] using hv
end
end Go.Proofs.Ytfgjojoipbbacaa
