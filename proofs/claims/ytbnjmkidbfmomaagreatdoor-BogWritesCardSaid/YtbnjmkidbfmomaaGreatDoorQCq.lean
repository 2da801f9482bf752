/- What hollows are worth, and which inputs are long: contracts. -/
import Derived.Test.YtbnjmkidbfmomaaGreatDoorQCb
set_option linter.unusedVariables false
set_option linter.unusedSimpArgs false
namespace Go.Proofs.YtbnjmkidbfmomaaGreatDoor.C
open Go.Sx Go.RowKit

/-- No column has a capacity below its length. -/
def CapsAt (w : World) (p : Option Addr) (ls : List (List Int)) : Prop := ∀ j, j < ls.length → ∀ q pj cj (l : Nat), p = some q → w.cell? (q.add (j * 1)) = some (.slice pj l cj) → l ≤ cj

end Go.Proofs.YtbnjmkidbfmomaaGreatDoor.C
