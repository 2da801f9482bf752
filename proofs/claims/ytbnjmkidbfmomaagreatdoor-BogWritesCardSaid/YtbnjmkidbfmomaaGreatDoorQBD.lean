/- The document's books of orders: contracts. -/
import Derived.Test.YtbnjmkidbfmomaaGreatDoorQPy
set_option linter.unusedVariables false
set_option linter.unusedSimpArgs false
namespace Go.Proofs.YtbnjmkidbfmomaaGreatDoor
open Go.Sx Go.RowKit Go.Bt Go.Lib Go.Sand

def wrI (L : List (List UInt8)) : Int := if 100 < L.length then 3 else if L.all rightS = true then 0 else 1
theorem wr_100 {L : List (List UInt8)} (h : 100 < L.length) : wrI L = 3 := if_pos h
def wrL (dg : Int → List UInt8) (L : List (List UInt8)) : List UInt8 := if wrI L = 0 then (bookL dg L).2 else []

end Go.Proofs.YtbnjmkidbfmomaaGreatDoor
