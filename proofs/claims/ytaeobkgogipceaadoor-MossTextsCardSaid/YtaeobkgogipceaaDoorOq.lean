/- What the statement of texts lists of the library, and what a law may suppose of it. -/
import Derived.Test.YtaeobkgogipceaaDoorOp
import Derived.Test.YtaeobkgogipceaaDoorUa
import Derived.Stop.LaidErr
import Derived.Stop.LaidErr
import Derived.ChangeMaps5
set_option linter.unusedVariables false
namespace Go.Proofs.YtaeobkgogipceaaDoor
open Go.ChangeShapes Go.WideShapes Go.ChangeAt Go.RowKit Go.Sx

def laid7 : List (String × DataW Unit) := [("math/bits.deBruijn32tab", Rows.laid_math_bits_deBruijn32tab), ("math/bits.deBruijn64tab", Rows.laid_math_bits_deBruijn64tab), ("internal/strconv.uint64pow10", Rows.laid_internal_strconv_uint64pow10), ("unicode/utf8.acceptRanges", Rows.laid_unicode_utf8_acceptRanges), ("strconv.ErrRange", Rows.laid_strconv_ErrRange), ("strconv.ErrSyntax", Rows.laid_strconv_ErrSyntax), ("unicode/utf8.first", Rows.laid_unicode_utf8_first)]
theorem tz_of_laid7 {W : World} (h : laidMet Tryd.prog laid7 W) : TzAt W := by
  obtain ⟨ps, ⟨g0, t0, cs0, f0, p0, q0, hg0, ht0, hv0, hd0, ⟨g1, t1, cs1, f1, p1, q1, hg1, ht1, hv1, hd1, _, _⟩, _⟩, _, _⟩ := h
  obtain rfl := Option.some.inj ((show Tryd.prog.globalNamed "math/bits.deBruijn64tab" = some 1 by kernel_rfl).symm.trans hg1)
  obtain rfl := Option.some.inj ((show (Tryd.prog.globals[1]?).map (·.type) = some 102 by kernel_rfl).symm.trans ht1)
  rw [tab_is] at hd1
  have hcs := Lib.cells_of_tab Tryd.underlying102 Tryd.underlying5 (by kernel_rfl) (by kernel_rfl) hd1
  intro j hj
  rw [World.var?_cell hg1 hv1 j]
  have hl : Lib.deBruijn64tab.length = 64 := by decide +kernel
  rw [show cs1[j]? = cs1.toList[j]? by simp, hcs]
  simp [List.getD, hl, hj]
theorem star_err : "*" ++ "errors.errorString" = "*errors.errorString" := by decide
theorem row_err (u : TypeId) (h : Tryd.prog.typeName? 3 u = some "*errors.errorString") : u = 134 :=
  typeName_ptr_named (nm := "errors.errorString") (by rw [star_err]; kernel_rfl) (by kernel_rfl) (by decide) u (by rw [star_err]; exact h)
theorem tx_of_laid7 {W : World} (h : laidMet Tryd.prog laid7 W) (hs : W.ShapedOpen Tryd.prog) : TxAt W := by
  have hr := h.tail.tail.tail.tail
  have hy := hr.tail
  obtain ⟨a0, s0, hv0, _⟩ := laid_sentinel hr (show Tryd.prog.globalNamed "strconv.ErrRange" = some 5 by kernel_rfl) (show (Tryd.prog.globals[5]?).map (·.type) = some 90 by kernel_rfl) Tryd.underlying90 row_err Tryd.underlying134 Tryd.underlying136 rfl rfl Tryd.underlying9 (by kernel_rfl) (by kernel_rfl)
  obtain ⟨a1, s1, hv1, _⟩ := laid_sentinel hy (show Tryd.prog.globalNamed "strconv.ErrSyntax" = some 4 by kernel_rfl) (show (Tryd.prog.globals[4]?).map (·.type) = some 90 by kernel_rfl) Tryd.underlying90 row_err Tryd.underlying134 Tryd.underlying136 rfl rfl Tryd.underlying9 (by kernel_rfl) (by kernel_rfl)
  have h0 := World.var?_cell (show Tryd.prog.globalNamed "strconv.ErrRange" = some 5 by kernel_rfl) hv0 0
  have h1 := World.var?_cell (show Tryd.prog.globalNamed "strconv.ErrSyntax" = some 4 by kernel_rfl) hv1 0
  exact ⟨Tryd.cutS.s1_3 W hs, ⟨134, .pointer (some a1), by simpa using h1⟩, ⟨134, .pointer (some a0), by simpa using h0⟩⟩
end Go.Proofs.YtaeobkgogipceaaDoor
