/- A survey opened, with the room of its readings. -/
import Derived.Test.YtmmgcajegokkoaaOp
namespace Go.Proofs.Ytmmgcajegokkoaa
open Go.Sx Go.RowKit

open Go.ChangeShapes Go.WideShapes Go.ChangeAt Go.RowKit Go.Sx
variable {H : Type} {enc : TypeId × Value → H} {W : World} {base : Nat} {spare : Nat → Bool} {held : Bool}
set_option maxRecDepth 100000 in
theorem survey_openC {r : Reach} {b0 : Nat} {v : Value} {d : DataW H} {p : List MemPlace} (hval : Value.okWide Try.prog W r b0 24 v) (h : DataW.Trod enc Try.prog W base (fun _ => true) held 24 v d p) :
    ∃ (n : Int) (q : Option Addr) (cap : Nat) (rs : List Rd), v = sv n q rs.length cap ∧ RdsAt W q rs ∧ rs.length ≤ cap := by
  obtain ⟨v0, v1, y0, y1, m, rfl, rfl, rfl, h0, h1⟩ := Go.Joins.open_agg2 Try.underlying24 (by kernel_rfl) (by kernel_rfl) hval h
  obtain ⟨n, hc0, _, _⟩ := DataW.trod_int Try.underlying3 h0
  have hv0 : v0 = .int .i64 n := by simpa using hc0
  subst hv0
  rcases Go.Deep.open_slice Try.underlying22 h1 with ⟨hc, _⟩ | ⟨a, len, cap, m', k, D, Pl, hc, _, hl, _, hmm, _, hi⟩
  · have hv1 : v1 = .slice none 0 0 := by simpa using hc
    subst hv1
    exact ⟨n, none, 0, [], rfl, fun j hj => by simp at hj, Nat.le_refl _⟩
  · have hv1 : v1 = .slice (some a) len cap := by simpa using hc
    subst hv1
    have h4 : Try.prog.cellsOf 61 = 4 := by kernel_rfl
    rw [h4] at hi
    have hex : ∀ i, ∃ r : Rd, i < len → ∀ j v, r.cells[j]? = some v → W.cell? ((a.add (i * 4)).add j) = some v := fun i => by
      by_cases hil : i < len
      · obtain ⟨cs', hcs, ht⟩ := hi i (by simp at hmm; omega)
        obtain ⟨r, hr⟩ := rd_open hcs ht
        exact ⟨r, fun _ => hr⟩
      · exact ⟨default, fun hh => absurd hh hil⟩
    obtain ⟨f, hf⟩ := Classical.skolem.1 hex
    refine ⟨n, some a, cap, (List.range len).map f, by simp, fun j hj => ⟨a, rfl, fun i v hv => ?_⟩, by simpa using hl⟩
    have hj' : j < len := by simpa using hj
    refine hf j hj' i v ?_
    simpa [List.getD, hj'] using hv

end Go.Proofs.Ytmmgcajegokkoaa
