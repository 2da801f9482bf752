/- Both and Either: contracts; hollows that are joined: the law's contract. -/
import Derived.Test.YtfgjojoipbbacaaQDA
set_option linter.unusedVariables false
set_option linter.unusedSimpArgs false
namespace Go.Proofs.Ytfgjojoipbbacaa
open Go.Sx Go.RowKit

theorem two_hol {ls : List (List Int)} {xs ys : List Int} (h : ¬ twoI ls xs ys ≠ 0) : HO ls xs ∧ HO ls ys := ⟨ho_of (two_of h).1, ho_of (two_of h).2⟩
/-- The worth of what is joined. -/
theorem joins {ls : List (List Int)} {xs ys : List Int} (h : ¬ twoI ls xs ys ≠ 0) : holI ls (jnL min ls xs ys) = 0 ∧ holI ls (jnL max ls xs ys) = 0 ∧ holI ls xs = 0 ∧ holI ls ys = 0 ∧ worH ls (jnL min ls xs ys) + worH ls (jnL max ls xs ys) = worH ls xs + worH ls ys := by
  obtain ⟨h1, h2⟩ := two_hol h
  have hv := hol_val (two_of h).1
  rw [jn_ok (Decidable.of_not_not h), jn_ok (Decidable.of_not_not h)]
  exact ⟨ho_to hv (h1.both h2), ho_to hv (h1.either h2), Decidable.of_not_not (two_of h).1, Decidable.of_not_not (two_of h).2, wor_mod h1.len h2.len⟩
end Go.Proofs.Ytfgjojoipbbacaa
