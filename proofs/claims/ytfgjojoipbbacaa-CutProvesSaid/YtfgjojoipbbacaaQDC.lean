/- Open by the reference: contracts; which columns are open: the law's contract. -/
import Derived.Test.YtfgjojoipbbacaaQDB
set_option linter.unusedVariables false
set_option linter.unusedSimpArgs false
namespace Go.Proofs.Ytfgjojoipbbacaa
open Go.Sx Go.RowKit

abbrev upL (xs : List Int) (c : Nat) : List Int := xs.set c (xs.getD c 0 + 1)
end Go.Proofs.Ytfgjojoipbbacaa
