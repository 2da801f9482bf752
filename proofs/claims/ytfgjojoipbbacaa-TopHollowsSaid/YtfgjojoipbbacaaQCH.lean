/- Open: contract. -/
import Derived.Test.YtfgjojoipbbacaaQCG
set_option linter.unusedVariables false
set_option linter.unusedSimpArgs false
namespace Go.Proofs.Ytfgjojoipbbacaa
open Go.Sx Go.RowKit


end Go.Proofs.Ytfgjojoipbbacaa
