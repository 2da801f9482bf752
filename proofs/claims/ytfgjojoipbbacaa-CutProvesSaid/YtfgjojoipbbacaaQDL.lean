/- Tolls: contracts. -/
import Derived.Test.YtfgjojoipbbacaaQDK
set_option linter.unusedVariables false
set_option linter.unusedSimpArgs false
namespace Go.Proofs.Ytfgjojoipbbacaa
open Go.Sx Go.RowKit

theorem GrP.val {l : List (List Int)} {y : HD × List (HD × List Int)} (h : GrP l y) : gvP y = .slice (gp y.1) l.length (gc y.1) := by rw [← h.len]; exact gval_eq h.ok
theorem cellP {l m : List (List Int)} {y : HD × List (HD × List Int)} {c : Nat} (h : GrP l y) (hs : Shp y.2 m) (hc : c < y.2.length) : goI ((y.2.getD c (none, [])).1, m.getD c []) ∧ ((y.2.getD c (none, [])).1, m.getD c []) ∈ mkR y.2 m := by
  obtain ⟨h1, h2, h3⟩ := (h.mkR hs).row (i := c) (by rw [hs.len]; exact hc)
  have e := mkR_at (m := m) hc
  simp only at h1 h3
  rw [e] at h1 h3
  exact ⟨h1, h3⟩
theorem row_le {ls : List (List Int)} (hv : VB ls) (j : Nat) : (ls.getD j []).length ≤ dep ls := by
  by_cases h : j < ls.length
  · rw [hv.c j h]; exact Nat.le_refl _
  · rw [List.getD_eq_getElem?_getD, List.getElem?_eq_none (by omega)]; exact Nat.zero_le _
theorem row_at {ls : List (List Int)} {y : HD × List (HD × List Int)} (h : GrP ls y) {c : Nat} (hc : c < ls.length) : goI (y.2.getD c (none, [])) ∧ (y.2.getD c (none, [])).2.length = (ls.getD c []).length := ⟨(h.row hc).1, by rw [(h.row hc).2.1]⟩
end Go.Proofs.Ytfgjojoipbbacaa
