/- Op Oq Oj Os Ot -/
import Derived.Test.YtbnjmkidbfmomaaGreatDoorV06
import Derived.Test.YtbnjmkidbfmomaaGreatDoorV26
import Derived.Stop.LaidErr
import Derived.LaidHandle
import Derived.ChangeMaps5
import Derived.Stop.Joined
import Derived.Test.YtbnjmkidbfmomaaGreatDoorCards
import Derived.Test.YtbnjmkidbfmomaaGreatDoorTie
import Derived.ProofKit
import Derived.Deep.Slices
import Derived.Deep.Fields
import Derived.Lib.SmallJoins
import Derived.Lib.LaidTab
import Derived.Carry
import Derived.OpenShut
import Derived.LaidMore
import Derived.Lay
import Derived.SevenTiedAt
import Derived.SliceStrings
set_option linter.unusedVariables false
set_option linter.unusedSimpArgs false
set_option maxRecDepth 100000
namespace Go.Proofs.YtbnjmkidbfmomaaGreatDoor
open Go.ChangeShapes Go.WideShapes Go.ChangeAt Go.RowKit Go.Sx
theorem own_knob : ownKnob Tryz.prog.godebug = none := by kernel_rfl
theorem laid_out : laidOutB Tryz.prog = true := by kernel_rfl
def I64 (i : Int) : Prop := -9223372036854775808 ≤ i ∧ i ≤ 9223372036854775807
theorem i64_of {n : Int} (h : (Lit.int .i64 n).wf = true) : I64 n := by
  simp only [Lit.wf, Bool.and_eq_true, decide_eq_true_eq] at h
  exact ⟨Int.le_trans (by decide +kernel) h.1, Int.le_trans h.2 (by decide +kernel)⟩
section
variable {H : Type} {enc : TypeId × Value → H} {W : World} {base : Nat} {spare : Nat → Bool} {held : Bool}
theorem int_cell {n : Nat} {v : Value} {y : DataW H × List MemPlace} (h : DataW.trod enc Tryz.prog W base spare held n 3 [v] = some y) : ∃ i : Int, v = .int .i64 i ∧ I64 i := by
  obtain ⟨i, e, _, hw⟩ := DataW.trod_int Tryz.underlying3 h
  exact ⟨i, by simpa using e, i64_of hw⟩
theorem int_open {r : Reach} {b0 : Nat} {v : Value} {d : DataW H} {p : List MemPlace} (hval : Value.okWide Tryz.prog W r b0 3 v) (h : DataW.Trod enc Tryz.prog W base spare held 3 v d p) : ∃ i : Int, v = .int .i64 i ∧ I64 i := by
  obtain ⟨n, rfl, _, _, hw⟩ := open_int Tryz.underlying3 hval h
  exact ⟨n, rfl, i64_of hw⟩
theorem ints_cell {n : Nat} {v : Value} {y : DataW H × List MemPlace} (h : DataW.trod enc Tryz.prog W base (fun _ => true) held n 25 [v] = some y) :
    ∃ (q : Option Addr) (cap : Nat) (xs : List Int), v = .slice q xs.length cap ∧ IntsAt W q xs ∧ (∀ x ∈ xs, I64 x) ∧ xs.length ≤ cap := by
  have h1 : Tryz.prog.cellsOf 3 = 1 := by kernel_rfl
  rcases Go.Deep.open_slice1 Tryz.underlying25 h1 h with ⟨hc, _⟩ | ⟨a, len, cap, m', k, V, D, Pl, hc, _, hl, _, hmm, _, hi⟩
  · have hv1 : v = .slice none 0 0 := by simpa using hc
    subst hv1
    exact ⟨none, 0, [], rfl, fun j hj => by simp at hj, by simp, Nat.le_refl _⟩
  · have hv1 : v = .slice (some a) len cap := by simpa using hc
    subst hv1
    have hex : ∀ i, ∃ x : Int, i < len → W.cell? (a.add i) = some (.int .i64 x) ∧ I64 x := fun i => by
      by_cases hil : i < len
      · obtain ⟨hcell, ht⟩ := hi i (by simp at hmm; omega)
        obtain ⟨x, hx, hw⟩ := int_cell ht
        exact ⟨x, fun _ => ⟨by rw [hcell, hx], hw⟩⟩
      · exact ⟨0, fun hh => absurd hh hil⟩
    obtain ⟨f, hf⟩ := Classical.skolem.1 hex
    refine ⟨some a, cap, (List.range len).map f, by simp, fun j hj => ⟨a, rfl, ?_⟩, fun x hx => ?_, by simpa using hl⟩
    · have hj' : j < len := by simpa using hj
      rw [Nat.mul_one]
      have := (hf j hj').1
      simpa [List.getD, hj'] using this
    · obtain ⟨i, hi, rfl⟩ := List.mem_map.1 hx
      exact (hf i (List.mem_range.1 hi)).2
end
def laid7 : List (String × DataW Unit) := [("math/bits.deBruijn32tab", Rows.laid_math_bits_deBruijn32tab), ("math/bits.deBruijn64tab", Rows.laid_math_bits_deBruijn64tab), ("internal/strconv.uint64pow10", Rows.laid_internal_strconv_uint64pow10), ("unicode/utf8.acceptRanges", Rows.laid_unicode_utf8_acceptRanges), ("strconv.ErrRange", Rows.laid_strconv_ErrRange), ("strconv.ErrSyntax", Rows.laid_strconv_ErrSyntax), ("unicode/utf8.first", Rows.laid_unicode_utf8_first)]
def laid8 : List (String × DataW Unit) := [("math/bits.deBruijn32tab", Rows.laid_math_bits_deBruijn32tab), ("math/bits.deBruijn64tab", Rows.laid_math_bits_deBruijn64tab), ("internal/strconv.uint64pow10", Rows.laid_internal_strconv_uint64pow10), ("unicode/utf8.acceptRanges", Rows.laid_unicode_utf8_acceptRanges), ("errors.errorType", Rows.laid_errors_errorType), ("strconv.ErrRange", Rows.laid_strconv_ErrRange), ("strconv.ErrSyntax", Rows.laid_strconv_ErrSyntax), ("unicode/utf8.first", Rows.laid_unicode_utf8_first)]
theorem laid_parts {W : World} (h : laidMetH Tryz.prog laid8 W) : laidMet Tryz.prog laid7 W ∧ handlesMet Tryz.prog [("errors.errorType", Rows.laid_errors_errorType)] W := h
theorem tab_is : (Rows.laid_math_bits_deBruijn64tab : DataW Unit) = Lib.tabData .u8 (Lib.deBruijn64tab.map fun n : Nat => (n : Int)) := by kernel_rfl
theorem pow_is : (Rows.laid_internal_strconv_uint64pow10 : DataW Unit) = Lib.tabData .u64 Lib.pow10Tab := by kernel_rfl
theorem tz_of_laid {W : World} (h : laidMet Tryz.prog laid7 W) : M.TzAt W := by
  have h1 := h.tail
  rw [tab_is] at h1
  have h2 := Lib.tabIs_of_head (show Tryz.prog.globalNamed "math/bits.deBruijn64tab" = some 6 by kernel_rfl) (show (Tryz.prog.globals[6]?).map (·.type) = some 286 by kernel_rfl) Tryz.underlying286 Tryz.underlying5 (by kernel_rfl) (by kernel_rfl) h1
  intro j hj
  have hl : Lib.deBruijn64tab.length = 64 := by decide +kernel
  rw [World.var?_cell (show Tryz.prog.globalNamed "math/bits.deBruijn64tab" = some 6 by kernel_rfl) h2 j]
  simp [List.getD, hl, hj]
theorem pw_of_laid {W : World} (h : laidMet Tryz.prog laid7 W) : Lib.TabIs Tryz.prog W "internal/strconv.uint64pow10" .u64 Lib.pow10Tab := by
  have h1 := h.tail.tail
  rw [pow_is] at h1
  exact Lib.tabIs_of_head (show Tryz.prog.globalNamed "internal/strconv.uint64pow10" = some 2 by kernel_rfl) (show (Tryz.prog.globals[2]?).map (·.type) = some 258 by kernel_rfl) Tryz.underlying258 Tryz.underlying231 (by kernel_rfl) (by kernel_rfl) h1
theorem star_err : "*" ++ "errors.errorString" = "*errors.errorString" := by decide
theorem row_err (u : TypeId) (h : Tryz.prog.typeName? 3 u = some "*errors.errorString") : u = 280 :=
  typeName_ptr_named (nm := "errors.errorString") (by rw [star_err]; kernel_rfl) (by kernel_rfl) (by decide) u (by rw [star_err]; exact h)
theorem ty_size : Tryz.prog.types.size = 318 := by kernel_rfl
theorem ty_one : ((List.range 318).filter fun t => Tryz.prog.rowNamed t [101, 114, 114, 111, 114]) = [105] := by kernel_rfl
theorem er_of_laid {W : World} (h : handlesMet Tryz.prog [("errors.errorType", Rows.laid_errors_errorType)] W) : W.cell? ⟨0, 0, none⟩ = some (.iface 196 (.agg #[.pointer (some ⟨9, 105, none⟩)])) := by
  obtain ⟨name, u, ty, e1, e2, e3, e4, e5⟩ := h _ (List.mem_singleton.2 rfl)
  have en : name = [101, 114, 114, 111, 114] := (Option.some.inj e1).symm
  subst en
  obtain rfl := Option.some.inj ((show (Tryz.prog.cutTypes.find? (·.1 == "internal/reflectlite.rtype")).map (·.2) = some 196 by kernel_rfl).symm.trans e2)
  have hm : ty ∈ (List.range 318).filter fun t => Tryz.prog.rowNamed t [101, 114, 114, 111, 114] := List.mem_filter.2 ⟨List.mem_range.2 (by rw [← ty_size]; exact e3), e4⟩
  rw [ty_one] at hm
  obtain rfl := List.mem_singleton.1 hm
  have hh : typeHandle Tryz.prog 105 = .pointer (some ⟨9, 105, none⟩) := by kernel_rfl
  rw [hh] at e5
  simpa using World.var?_cell (show Tryz.prog.globalNamed "errors.errorType" = some 0 by kernel_rfl) e5 0
theorem w_of_laid {W : World} (h : laidMetH Tryz.prog laid8 W) (hs : W.ShapedOpen Tryz.prog) : WAt W := by
  obtain ⟨h7, hh⟩ := laid_parts h
  have hr := h7.tail.tail.tail.tail
  have hy := hr.tail
  obtain ⟨a0, s0, hv0, _⟩ := laid_sentinel hr (show Tryz.prog.globalNamed "strconv.ErrRange" = some 4 by kernel_rfl) (show (Tryz.prog.globals[4]?).map (·.type) = some 105 by kernel_rfl) Tryz.underlying105 row_err Tryz.underlying280 Tryz.underlying282 rfl rfl Tryz.underlying9 (by kernel_rfl) (by kernel_rfl)
  obtain ⟨a1, s1, hv1, _⟩ := laid_sentinel hy (show Tryz.prog.globalNamed "strconv.ErrSyntax" = some 3 by kernel_rfl) (show (Tryz.prog.globals[3]?).map (·.type) = some 105 by kernel_rfl) Tryz.underlying105 row_err Tryz.underlying280 Tryz.underlying282 rfl rfl Tryz.underlying9 (by kernel_rfl) (by kernel_rfl)
  have h0 := World.var?_cell (show Tryz.prog.globalNamed "strconv.ErrRange" = some 4 by kernel_rfl) hv0 0
  have h1 := World.var?_cell (show Tryz.prog.globalNamed "strconv.ErrSyntax" = some 3 by kernel_rfl) hv1 0
  exact ⟨tz_of_laid h7, Tryz.cutS.s1_3 W hs, pw_of_laid h7, ⟨280, .pointer (some a1), by simpa using h1⟩, ⟨280, .pointer (some a0), by simpa using h0⟩, er_of_laid hh⟩
noncomputable def laidW (os : Os) : World :=
  let w0 := World.laidAll Tryz.prog os laid7
  { w0 with heap := w0.heap.modify 0 fun
      | .cells _ t frozen => .cells #[.iface 196 (.agg #[.pointer (some ⟨9, 105, none⟩)])] t frozen
      | o => o }
end Go.Proofs.YtbnjmkidbfmomaaGreatDoor
namespace Go.Proofs.YtbnjmkidbfmomaaGreatDoor
open Go.ChangeShapes Go.WideShapes Go.ChangeAt Go.RowKit Go.Sx
theorem laidW_shaped (os : Os) : World.Shaped Tryz.prog (laidW os) := World.shaped_of_ZipB (by kernel_rfl) (by kernel_rfl)
theorem laidW_met (os : Os) (args : Array Value) : laidMetH Tryz.prog laid8 ((laidW os).forCall (fun _ _ => 0) ⟨#[], args, []⟩).memory :=
  laidMetH_of_parts (laidMet_of_run' (l := laid7) 8 (by kernel_rfl) (by kernel_rfl)) (by kernel_rfl)
end Go.Proofs.YtbnjmkidbfmomaaGreatDoor
namespace Go.Proofs.YtbnjmkidbfmomaaGreatDoor
open Go.ChangeShapes Go.WideShapes Go.ChangeAt Go.RowKit Go.Sx
set_option maxRecDepth 100000
theorem pg_maps : mapsRowed Tryz.prog = true := by kernel_rfl
theorem pg_keys : Tryz.prog.plainKeys = Rows.bogReadsRow.plainKeys := by kernel_rfl
theorem pg_heard : Tryz.prog.stopsHeard = true := by kernel_rfl
theorem pg_enter : Tryz.prog.mayEnter = true := by kernel_rfl
theorem pg_lifts : Tryz.prog.liftsFinal = Rows.bogReadsRow.lifted := by kernel_rfl
theorem pg_make : Tryz.prog.make = some Rows.bogReadsRow.make := by kernel_rfl
theorem pg_looks : Tryz.prog.looks [] = true := by kernel_rfl
theorem pg_main : Tryz.prog.mainIs = some (true, "fcc777ddfb8154fadbd91790461f55cc516da33efda5b47a3ccdcee66b2ee3a4".toList) := by kernel_rfl
end Go.Proofs.YtbnjmkidbfmomaaGreatDoor
namespace Go.Proofs.YtbnjmkidbfmomaaGreatDoor
open Go.ChangeShapes Go.WideShapes Go.ChangeAt Go.RowKit Go.Sx
section
variable {H : Type} {enc : TypeId × Value → H} {W : World} {base : Nat} {held : Bool}
theorem strs_open {r : Reach} {b0 : Nat} {v : Value} {d : DataW H} {p : List MemPlace} (hval : Value.okWide Tryz.prog W r b0 43 v) (h : DataW.Trod enc Tryz.prog W base (fun _ => true) held 43 v d p) :
    ∃ (q : Option Addr) (cap : Nat) (xs : List (List UInt8)), v = .slice q xs.length cap ∧ StrsAt W q xs ∧ xs.length ≤ 9223372036854775807 ∧ xs.length ≤ cap := by
  obtain ⟨a, len, cap, rfl⟩ := okWide_slice Tryz.underlying43 hval
  obtain ⟨fuel, hf⟩ := h
  have h1 : Tryz.prog.cellsOf 9 = 1 := by kernel_rfl
  rcases Go.ChangeShapes.open_strings Tryz.underlying43 Tryz.underlying9 h1 hf with ⟨hc, _⟩ | ⟨a', len', cap', ss, hc, _, hl, hm, hss, _, hi, _⟩
  · have hv1 : Value.slice a len cap = .slice none 0 0 := by simpa [Value.cells] using hc
    injection hv1 with e1 e2 e3
    subst e1; subst e2; subst e3
    exact ⟨none, 0, [], rfl, fun j hj => absurd hj (Nat.not_lt_zero _), by decide, Nat.le_refl _⟩
  · have hv1 : Value.slice a len cap = .slice (some a') len' cap' := by simpa [Value.cells] using hc
    injection hv1 with e1 e2 e3
    subst e1; subst e2; subst e3
    simp only [if_true] at hss
    have hl9 : ((ss.take len).map fun s => s.data.toList).length = len := by simp; omega
    refine ⟨some a', cap, (ss.take len).map fun s => s.data.toList, by rw [hl9], fun j hj => ⟨a', rfl, ?_⟩, ?_, by rw [hl9]; exact hl⟩
    · rw [hl9] at hj
      rw [Nat.mul_one, hi j (by omega), str_of]
      congr 2
      simp [List.getD, hj, show j < ss.length by omega]
    · rw [hl9]
      have : maxLen ≤ 9223372036854775807 := by decide +kernel
      omega
end
end Go.Proofs.YtbnjmkidbfmomaaGreatDoor
namespace Go.Proofs.YtbnjmkidbfmomaaGreatDoor
open Go.ChangeShapes Go.WideShapes Go.ChangeAt Go.RowKit Go.Sx
section
variable {H : Type} {enc : TypeId × Value → H} {W : World} {base : Nat} {held : Bool}
theorem rows_cell {n : Nat} {v : Value} {y : DataW H × List MemPlace} (h : DataW.trod enc Tryz.prog W base (fun _ => true) held n 22 [v] = some y) :
    ∃ (q : Option Addr) (cap : Nat) (ls : List (List Int)), v = .slice q ls.length cap ∧ LsAt W q ls ∧ C.CapsAt W q ls ∧ ls.length ≤ 9223372036854775807 := by
  have h2 : Tryz.prog.cellsOf 25 = 1 := by kernel_rfl
  rcases Go.Deep.open_slice1 Tryz.underlying22 h2 h with ⟨hc, _⟩ | ⟨a, len, cap, m', k', V, D, Pl, hc, _, hl, hmax, hmm, _, hi⟩
  · have hv1 : v = .slice none 0 0 := by simpa using hc
    subst hv1
    exact ⟨none, 0, [], rfl, fun j hj => by simp at hj, fun j hj => by simp at hj, by simp⟩
  · have hv1 : v = .slice (some a) len cap := by simpa using hc
    subst hv1
    have hex : ∀ i, ∃ x : List Int × Option Addr × Nat, i < len → W.cell? (a.add i) = some (.slice x.2.1 x.1.length x.2.2) ∧ IntsAt W x.2.1 x.1 ∧ x.1.length ≤ x.2.2 := fun i => by
      by_cases hil : i < len
      · obtain ⟨hcell, ht⟩ := hi i (by simp at hmm; omega)
        obtain ⟨q, c, xs, hx, hint, _, hcap⟩ := ints_cell ht
        exact ⟨(xs, q, c), fun _ => ⟨by rw [hcell, hx], hint, hcap⟩⟩
      · exact ⟨([], none, 0), fun hh => absurd hh hil⟩
    obtain ⟨f, hf⟩ := Classical.skolem.1 hex
    have hlm : cap ≤ 9223372036854775807 := hmax
    have hat : ∀ j, j < len → ((List.range len).map fun i => (f i).1).getD j [] = (f j).1 := fun j hj => by simp [List.getD, hj]
    refine ⟨some a, cap, (List.range len).map fun i => (f i).1, by simp, fun j hj => ?_, fun j hj q pj cj l hp hq => ?_, by simp; omega⟩
    · have hj' : j < len := by simpa using hj
      obtain ⟨e1, e2, _⟩ := hf j hj'
      rw [hat j hj']
      exact ⟨a, rfl, (f j).2.1, (f j).2.2, by rw [Nat.mul_one]; exact e1, e2⟩
    · have hj' : j < len := by simpa using hj
      obtain ⟨e1, _, e3⟩ := hf j hj'
      cases hp
      rw [Nat.mul_one, e1] at hq
      simp only [Option.some.injEq, Value.slice.injEq] at hq
      obtain ⟨_, rfl, rfl⟩ := hq
      exact e3
theorem bog_cell {n : Nat} {v : Value} {y : DataW H × List MemPlace} (h : DataW.trod enc Tryz.prog W base (fun _ => true) held n 24 [v] = some y) :
    ∃ (q : Option Addr) (cap : Nat) (ls : List (List Int)), v = .slice q ls.length cap ∧ LsAt W q ls ∧ C.CapsAt W q ls ∧ ls.length ≤ 9223372036854775807 := by
  obtain ⟨xs, k, _, _, hlen, hxl, hg⟩ := DataW.trod_struct Tryz.underlying24 h
  match xs, hxl with
  | [y0], _ =>
    have h1 : Tryz.prog.cellsOf 22 = 1 := by kernel_rfl
    have t0 := hg 0 _ rfl
    change DataW.trod enc Tryz.prog W base (fun _ => true) held k 22 (([v].drop 0).take (Tryz.prog.cellsOf 22)) = some y0 at t0
    rw [h1] at t0
    exact rows_cell t0
theorem heaps_cell {n : Nat} {v0 v1 : Value} {y : DataW H × List MemPlace} (h : DataW.trod enc Tryz.prog W base (fun _ => true) held n 27 [v0, v1] = some y) :
    ∃ (q : Option Addr) (cap : Nat) (ls : List (List Int)) (q2 : Option Addr) (c2 : Nat) (gs : List Int), v0 = .slice q ls.length cap ∧ v1 = .slice q2 gs.length c2 ∧ LsAt W q ls ∧ ls.length ≤ 9223372036854775807 ∧ IntsAt W q2 gs := by
  obtain ⟨xs, k, _, _, hlen, hxl, hg⟩ := DataW.trod_struct Tryz.underlying27 h
  match xs, hxl with
  | [y0, y1], _ =>
    have h1 : Tryz.prog.cellsOf 22 = 1 := by kernel_rfl
    have h2 : Tryz.prog.cellsOf 25 = 1 := by kernel_rfl
    have t0 := hg 0 _ rfl
    change DataW.trod enc Tryz.prog W base (fun _ => true) held k 22 (([v0, v1].drop 0).take (Tryz.prog.cellsOf 22)) = some y0 at t0
    rw [h1] at t0
    have t1 := hg 1 _ rfl
    change DataW.trod enc Tryz.prog W base (fun _ => true) held k 25 (([v0, v1].drop 1).take (Tryz.prog.cellsOf 25)) = some y1 at t1
    rw [h2] at t1
    obtain ⟨q, cap, ls, e0, hr, _, hl⟩ := rows_cell t0
    obtain ⟨q2, c2, gs, e1, hg2, _, _⟩ := ints_cell t1
    exact ⟨q, cap, ls, q2, c2, gs, e0, e1, hr, hl, hg2⟩
theorem site_open {r : Reach} {b0 : Nat} {v : Value} {d : DataW H} {p : List MemPlace} (hval : Value.okWide Tryz.prog W r b0 29 v) (h : DataW.Trod enc Tryz.prog W base (fun _ => true) held 29 v d p) :
    ∃ (q : Option Addr) (cap : Nat) (ls : List (List Int)) (q1 : Option Addr) (c1 : Nat) (ks : List (List Int)) (q2 : Option Addr) (c2 : Nat) (gs : List Int) (need : Int), v = .agg #[.slice q ls.length cap, .slice q1 ks.length c1, .slice q2 gs.length c2, .int .i64 need] ∧ LsAt W q ls ∧ C.CapsAt W q ls ∧ ls.length ≤ 9223372036854775807 ∧ LsAt W q1 ks ∧ ks.length ≤ 9223372036854775807 ∧ IntsAt W q2 gs ∧ I64 need := by
  obtain ⟨cs, rfl, hsz⟩ := okWide_struct Tryz.underlying29 hval
  have hC : Tryz.prog.cellsOf 29 = 4 := by kernel_rfl
  obtain ⟨v0, v1, v2, v3, rfl⟩ : ∃ c0 c1 c2 c3, cs = #[c0, c1, c2, c3] := by
    have h9 := hsz.trans hC
    obtain ⟨l⟩ := cs
    match l, h9 with
    | [c0, c1, c2, c3], _ => exact ⟨c0, c1, c2, c3, rfl⟩
  obtain ⟨fuel, hf⟩ := h
  obtain ⟨xs, k, _, _, hlen, hxl, hg⟩ := DataW.trod_struct Tryz.underlying29 hf
  match xs, hxl with
  | [y0, y1, y2], _ =>
    have h1 : Tryz.prog.cellsOf 24 = 1 := by kernel_rfl
    have h2 : Tryz.prog.cellsOf 27 = 2 := by kernel_rfl
    have h3 : Tryz.prog.cellsOf 3 = 1 := by kernel_rfl
    have t0 := hg 0 _ rfl
    change DataW.trod enc Tryz.prog W base (fun _ => true) held k 24 (([v0, v1, v2, v3].drop 0).take (Tryz.prog.cellsOf 24)) = some y0 at t0
    rw [h1] at t0
    have t1 := hg 1 _ rfl
    change DataW.trod enc Tryz.prog W base (fun _ => true) held k 27 (([v0, v1, v2, v3].drop 1).take (Tryz.prog.cellsOf 27)) = some y1 at t1
    rw [h2] at t1
    have t2 := hg 2 _ rfl
    change DataW.trod enc Tryz.prog W base (fun _ => true) held k 3 (([v0, v1, v2, v3].drop 3).take (Tryz.prog.cellsOf 3)) = some y2 at t2
    rw [h3] at t2
    obtain ⟨q, cap, ls, e0, hr, hcap, hl⟩ := bog_cell t0
    obtain ⟨q1, c1, ks, q2, c2, gs, e1, e2, hk, hkl, hg2⟩ := heaps_cell t1
    obtain ⟨i, e3, hi⟩ := int_cell t2
    subst e0; subst e1; subst e2; subst e3
    exact ⟨q, cap, ls, q1, c1, ks, q2, c2, gs, i, rfl, hr, hcap, hl, hk, hkl, hg2, hi⟩
end
end Go.Proofs.YtbnjmkidbfmomaaGreatDoor
