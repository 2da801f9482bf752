/- The best hollows: the law's contract. -/
import Derived.Test.YtfgjojoipbbacaaQDG
set_option linter.unusedVariables false
set_option linter.unusedSimpArgs false
namespace Go.Proofs.Ytfgjojoipbbacaa
open Go.Sx Go.RowKit

theorem lie_yes {xs ys : List Int} (h : xs.length = ys.length) (h2 : ∀ c, c < xs.length → xs.getD c 0 ≤ ys.getD c 0) : lieB xs ys = true := decide_eq_true ⟨h, h2⟩


end Go.Proofs.Ytfgjojoipbbacaa
