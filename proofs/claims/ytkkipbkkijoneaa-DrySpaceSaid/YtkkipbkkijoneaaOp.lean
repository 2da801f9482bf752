/- What comes in, opened: numbers, lists of numbers, bogs. -/
import Derived.Test.YtkkipbkkijoneaaDe
import Derived.ProofKit
import Derived.Deep.Slices
import Derived.Deep.Fields
import Derived.Lib.SmallJoins
import Derived.Carry
set_option linter.unusedVariables false
set_option linter.unusedSimpArgs false
namespace Go.Proofs.Ytkkipbkkijoneaa
open Go.ChangeShapes Go.WideShapes Go.ChangeAt Go.RowKit Go.Sx

theorem own_knob : ownKnob Try.prog.godebug = none := by kernel_rfl
theorem laid_out : laidOutB Try.prog = true := by kernel_rfl
def I64 (i : Int) : Prop := -9223372036854775808 ≤ i ∧ i ≤ 9223372036854775807
theorem i64_of {n : Int} (h : (Lit.int .i64 n).wf = true) : I64 n := by
  simp only [Lit.wf, Bool.and_eq_true, decide_eq_true_eq] at h
  exact ⟨Int.le_trans (by decide +kernel) h.1, Int.le_trans h.2 (by decide +kernel)⟩
section
variable {H : Type} {enc : TypeId × Value → H} {W : World} {base : Nat} {spare : Nat → Bool} {held : Bool}
set_option maxRecDepth 100000 in
theorem int_cell {n : Nat} {v : Value} {y : DataW H × List MemPlace} (h : DataW.trod enc Try.prog W base spare held n 3 [v] = some y) : ∃ i : Int, v = .int .i64 i ∧ I64 i := by
  obtain ⟨i, e, _, hw⟩ := DataW.trod_int Try.underlying3 h
  exact ⟨i, by simpa using e, i64_of hw⟩
set_option maxRecDepth 100000 in
theorem int_open {r : Reach} {b0 : Nat} {v : Value} {d : DataW H} {p : List MemPlace} (hval : Value.okWide Try.prog W r b0 3 v) (h : DataW.Trod enc Try.prog W base spare held 3 v d p) : ∃ i : Int, v = .int .i64 i ∧ I64 i := by
  obtain ⟨n, rfl, _, _, hw⟩ := open_int Try.underlying3 hval h
  exact ⟨n, rfl, i64_of hw⟩
set_option maxRecDepth 100000 in
theorem ints_cell {n : Nat} {v : Value} {y : DataW H × List MemPlace} (h : DataW.trod enc Try.prog W base (fun _ => true) held n 25 [v] = some y) :
    ∃ (q : Option Addr) (cap : Nat) (xs : List Int), v = .slice q xs.length cap ∧ IntsAt W q xs ∧ (∀ x ∈ xs, I64 x) ∧ xs.length ≤ cap := by
  have h1 : Try.prog.cellsOf 3 = 1 := by kernel_rfl
  rcases Go.Deep.open_slice1 Try.underlying25 h1 h with ⟨hc, _⟩ | ⟨a, len, cap, m', k, V, D, Pl, hc, _, hl, _, hmm, _, hi⟩
  · have hv1 : v = .slice none 0 0 := by simpa using hc
    subst hv1
    exact ⟨none, 0, [], rfl, fun j hj => by simp at hj, by simp, Nat.le_refl _⟩
  · have hv1 : v = .slice (some a) len cap := by simpa using hc
    subst hv1
    have hex : ∀ i, ∃ x : Int, i < len → W.cell? (a.add i) = some (.int .i64 x) ∧ I64 x := fun i => by
      by_cases hil : i < len
      · obtain ⟨hcell, ht⟩ := hi i (by simp at hmm; omega)
        obtain ⟨x, hx, hw⟩ := int_cell ht
        exact ⟨x, fun _ => ⟨by rw [hcell, hx], hw⟩⟩
      · exact ⟨0, fun hh => absurd hh hil⟩
    obtain ⟨f, hf⟩ := Classical.skolem.1 hex
    refine ⟨some a, cap, (List.range len).map f, by simp, fun j hj => ⟨a, rfl, ?_⟩, fun x hx => ?_, by simpa using hl⟩
    · have hj' : j < len := by simpa using hj
      rw [Nat.mul_one]
      have := (hf j hj').1
      simpa [List.getD, hj'] using this
    · obtain ⟨i, hi, rfl⟩ := List.mem_map.1 hx
      exact (hf i (List.mem_range.1 hi)).2
set_option maxRecDepth 100000 in
theorem ints_open {r : Reach} {b0 : Nat} {v : Value} {d : DataW H} {p : List MemPlace} (hval : Value.okWide Try.prog W r b0 25 v) (h : DataW.Trod enc Try.prog W base (fun _ => true) held 25 v d p) :
    ∃ (q : Option Addr) (cap : Nat) (xs : List Int), v = .slice q xs.length cap ∧ IntsAt W q xs ∧ (∀ x ∈ xs, I64 x) ∧ xs.length ≤ cap := by
  obtain ⟨a, len, cap, rfl⟩ := okWide_slice Try.underlying25 hval
  obtain ⟨fuel, hf⟩ := h
  exact ints_cell (v := .slice a len cap) (by simpa [Value.cells] using hf)
set_option maxRecDepth 100000 in
theorem step_cell {n : Nat} {c0 c1 : Value} {y : DataW H × List MemPlace} (h : DataW.trod enc Try.prog W base (fun _ => true) held n 63 [c0, c1] = some y) :
    ∃ (q1 : Option Addr) (k1 : Nat) (q2 : Option Addr) (k2 : Nat) (s : St), c0 = .slice q1 s.t.length k1 ∧ c1 = .slice q2 s.g.length k2 ∧ IntsAt W q1 s.t ∧ IntsAt W q2 s.g := by
  obtain ⟨xs, k, _, _, hlen, hxl, hg⟩ := DataW.trod_struct Try.underlying63 h
  match xs, hxl with
  | [y0, y1], _ =>
    have h2 : Try.prog.cellsOf 25 = 1 := by kernel_rfl
    have t0 := hg 0 _ rfl
    change DataW.trod enc Try.prog W base (fun _ => true) held k 25 (([c0, c1].drop 0).take (Try.prog.cellsOf 25)) = some y0 at t0
    rw [h2] at t0
    have t1 := hg 1 _ rfl
    change DataW.trod enc Try.prog W base (fun _ => true) held k 25 (([c0, c1].drop 1).take (Try.prog.cellsOf 25)) = some y1 at t1
    rw [h2] at t1
    obtain ⟨q1, k1, xs, e0, hx, _, _⟩ := ints_cell t0
    obtain ⟨q2, k2, ys, e1, hy, _, _⟩ := ints_cell t1
    exact ⟨q1, k1, q2, k2, ⟨xs, ys⟩, e0, e1, hx, hy⟩
set_option maxRecDepth 100000 in
theorem yard_open {r : Reach} {b0 : Nat} {v : Value} {d : DataW H} {p : List MemPlace} (hval : Value.okWide Try.prog W r b0 24 v) (h : DataW.Trod enc Try.prog W base (fun _ => true) held 24 v d p) :
    ∃ (n : Int) (q : Option Addr) (cap : Nat) (ss : List St), v = yv n q ss.length cap ∧ StsAt W q ss := by
  obtain ⟨v0, v1, y0, y1, m, rfl, rfl, rfl, h0, h1⟩ := Go.Joins.open_agg2 Try.underlying24 (by kernel_rfl) (by kernel_rfl) hval h
  obtain ⟨n, hc0, _, _⟩ := DataW.trod_int Try.underlying3 h0
  have hv0 : v0 = .int .i64 n := by simpa using hc0
  subst hv0
  rcases Go.Deep.open_slice Try.underlying22 h1 with ⟨hc, _⟩ | ⟨a, len, cap, m', k, D, Pl, hc, _, hl, _, hmm, _, hi⟩
  · have hv1 : v1 = .slice none 0 0 := by simpa using hc
    subst hv1
    exact ⟨n, none, 0, [], rfl, fun j hj => by simp at hj⟩
  · have hv1 : v1 = .slice (some a) len cap := by simpa using hc
    subst hv1
    have h4 : Try.prog.cellsOf 63 = 2 := by kernel_rfl
    rw [h4] at hi
    have hex : ∀ i, ∃ r : St × Option Addr × Option Addr × Nat × Nat, i < len → W.cell? ((a.add (i * 2)).add 0) = some (.slice r.2.1 r.1.t.length r.2.2.2.1) ∧ W.cell? ((a.add (i * 2)).add 1) = some (.slice r.2.2.1 r.1.g.length r.2.2.2.2) ∧ IntsAt W r.2.1 r.1.t ∧ IntsAt W r.2.2.1 r.1.g := fun i => by
      by_cases hil : i < len
      · obtain ⟨cs', hcs, ht⟩ := hi i (by simp at hmm; omega)
        obtain ⟨_, hcl, hat⟩ := World.cells?_some hcs
        obtain ⟨c0, c1, rfl⟩ : ∃ c0 c1, cs' = [c0, c1] := by
          match cs', hcl with
          | [c0, c1], _ => exact ⟨c0, c1, rfl⟩
        obtain ⟨q1, k1, q2, k2, s, e0, e1, hx, hy⟩ := step_cell ht
        exact ⟨(s, q1, q2, k1, k2), fun _ => ⟨by rw [hat 0 (by decide), ← e0]; rfl, by rw [hat 1 (by decide), ← e1]; rfl, hx, hy⟩⟩
      · exact ⟨(default, none, none, 0, 0), fun hh => absurd hh hil⟩
    obtain ⟨f, hf⟩ := Classical.skolem.1 hex
    have hat : ∀ j, j < len → ((List.range len).map fun i => (f i).1).getD j default = (f j).1 := fun j hj => by simp [List.getD, hj]
    refine ⟨n, some a, cap, (List.range len).map fun i => (f i).1, by simp, fun j hj => ?_⟩
    have hj' : j < len := by simpa using hj
    obtain ⟨e1, e2, e3, e4⟩ := hf j hj'
    rw [hat j hj']
    exact ⟨a, rfl, _, _, _, _, e1, e2, e3, e4⟩
set_option maxRecDepth 100000 in
theorem pair_open {r : Reach} {b0 : Nat} {v : Value} {d : DataW H} {p : List MemPlace} (hval : Value.okWide Try.prog W r b0 43 v) (h : DataW.Trod enc Try.prog W base (fun _ => true) held 43 v d p) :
    ∃ (q : Option Addr) (c : Nat) (xs : List Int) (q2 : Option Addr) (c2 : Nat) (ys : List Int), v = .agg #[.slice q xs.length c, .slice q2 ys.length c2] ∧ IntsAt W q xs ∧ IntsAt W q2 ys := by
  obtain ⟨v0, v1, y0, y1, m, rfl, rfl, rfl, h0, h1⟩ := Go.Joins.open_agg2 Try.underlying43 (by kernel_rfl) (by kernel_rfl) hval h
  obtain ⟨q, c, xs, e0, hx, _, _⟩ := ints_cell h0
  obtain ⟨q2, c2, ys, e1, hy, _, _⟩ := ints_cell h1
  subst e0; subst e1
  exact ⟨q, c, xs, q2, c2, ys, rfl, hx, hy⟩
set_option maxRecDepth 100000 in
theorem plan_open {r : Reach} {b0 : Nat} {v : Value} {d : DataW H} {p : List MemPlace} (hval : Value.okWide Try.prog W r b0 53 v) (h : DataW.Trod enc Try.prog W base (fun _ => true) held 53 v d p) :
    ∃ (q : Option Addr) (c : Nat) (xs : List Int) (i : Int), v = .agg #[.slice q xs.length c, .int .i64 i] ∧ IntsAt W q xs := by
  obtain ⟨v0, v1, y0, y1, m, rfl, rfl, rfl, h0, h1⟩ := Go.Joins.open_agg2 Try.underlying53 (by kernel_rfl) (by kernel_rfl) hval h
  obtain ⟨q, c, xs, e0, hx, _, _⟩ := ints_cell h0
  obtain ⟨i, hc1, _, _⟩ := DataW.trod_int Try.underlying3 h1
  have hv1 : v1 = .int .i64 i := by simpa using hc1
  subst e0; subst hv1
  exact ⟨q, c, xs, i, rfl, hx⟩
set_option maxRecDepth 100000 in
theorem moved_open {r : Reach} {b0 : Nat} {v : Value} {d : DataW H} {p : List MemPlace} (hval : Value.okWide Try.prog W r b0 65 v) (h : DataW.Trod enc Try.prog W base (fun _ => true) held 65 v d p) :
    ∃ (q : Option Addr) (c : Nat) (xs : List Int) (q2 : Option Addr) (c2 : Nat) (ys : List Int) (q3 : Option Addr) (c3 : Nat) (zs : List Int), v = .agg #[.slice q xs.length c, .slice q2 ys.length c2, .slice q3 zs.length c3] ∧ IntsAt W q xs ∧ IntsAt W q2 ys ∧ IntsAt W q3 zs := by
  obtain ⟨cs, rfl, hsz⟩ := okWide_struct Try.underlying65 hval
  have hC : Try.prog.cellsOf 65 = 3 := by kernel_rfl
  obtain ⟨v0, v1, v2, rfl⟩ : ∃ c0 c1 c2, cs = #[c0, c1, c2] := by
    have h9 := hsz.trans hC
    obtain ⟨l⟩ := cs
    match l, h9 with
    | [c0, c1, c2], _ => exact ⟨c0, c1, c2, rfl⟩
  obtain ⟨fuel, hf⟩ := h
  obtain ⟨xs, k, _, _, hlen, hxl, hg⟩ := DataW.trod_struct Try.underlying65 hf
  match xs, hxl with
  | [y0, y1, y2], _ =>
    have h2 : Try.prog.cellsOf 25 = 1 := by kernel_rfl
    have t0 := hg 0 _ rfl
    change DataW.trod enc Try.prog W base (fun _ => true) held k 25 (([v0, v1, v2].drop 0).take (Try.prog.cellsOf 25)) = some y0 at t0
    rw [h2] at t0
    have t1 := hg 1 _ rfl
    change DataW.trod enc Try.prog W base (fun _ => true) held k 25 (([v0, v1, v2].drop 1).take (Try.prog.cellsOf 25)) = some y1 at t1
    rw [h2] at t1
    have t2 := hg 2 _ rfl
    change DataW.trod enc Try.prog W base (fun _ => true) held k 25 (([v0, v1, v2].drop 2).take (Try.prog.cellsOf 25)) = some y2 at t2
    rw [h2] at t2
    obtain ⟨q, c, xs, e0, hx, _, _⟩ := ints_cell t0
    obtain ⟨q2, c2, ys, e1, hy, _, _⟩ := ints_cell t1
    obtain ⟨q3, c3, zs, e2, hz, _, _⟩ := ints_cell t2
    subst e0; subst e1; subst e2
    exact ⟨q, c, xs, q2, c2, ys, q3, c3, zs, rfl, hx, hy, hz⟩
end
end Go.Proofs.Ytkkipbkkijoneaa
