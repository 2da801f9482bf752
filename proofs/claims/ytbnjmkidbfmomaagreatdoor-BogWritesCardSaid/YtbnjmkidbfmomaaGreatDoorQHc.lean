/- Which heaps are valid, by the reference: contract. -/
import Derived.Test.YtbnjmkidbfmomaaGreatDoorQHb
set_option linter.unusedVariables false
set_option linter.unusedSimpArgs false
namespace Go.Proofs.YtbnjmkidbfmomaaGreatDoor.H
open Go.Sx Go.RowKit Go.Sand

end Go.Proofs.YtbnjmkidbfmomaaGreatDoor.H
