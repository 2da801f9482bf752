/- Passes: which there are. The functions' contracts. -/
import Derived.Test.YtfgjojoipbbacaaQDV
import Derived.Test.YtfgjojoipbbacaaQSw
import Derived.Test.YtfgjojoipbbacaaQSv
set_option linter.unusedVariables false
set_option linter.unusedSimpArgs false
namespace Go.Proofs.Ytfgjojoipbbacaa
open Go.Sx Go.RowKit

theorem nearL_len (ls : List (List Int)) (c : Nat) : (nearL ls c).length ≤ 3 := by
  unfold nearL
  exact Nat.le_trans (List.length_filter_le _ _) (by simp)


end Go.Proofs.Ytfgjojoipbbacaa
