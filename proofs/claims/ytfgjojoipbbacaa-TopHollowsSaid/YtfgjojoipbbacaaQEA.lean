/- What a proof bounds, by the document: the reference's contract. -/
import Derived.Test.YtfgjojoipbbacaaQDZ
set_option linter.unusedVariables false
set_option linter.unusedSimpArgs false
namespace Go.Proofs.Ytfgjojoipbbacaa
open Go.Sx Go.RowKit

theorem Sh.shp {ls m : List (List Int)} {y : HD × List (HD × List Int)} {B : Int} (h : GrP ls y) (hv : VB ls) (hs : Sh ls.length (dep ls) B m) : Shp y.2 m := h.shp hs.len fun j hj => by rw [hs.row j hj, hv.c j hj]
end Go.Proofs.Ytfgjojoipbbacaa
