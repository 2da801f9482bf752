/- A core turned, and the bounds of two: the statements' own functions, whole. -/
import Derived.Test.YtenalmddoljhoaaVN
import Derived.Test.YtenalmddoljhoaaVU
import Derived.Test.YtenalmddoljhoaaOp
namespace Go.Proofs.Ytenalmddoljhoaa
open Go.Sx Go.RowKit

theorem coreTurns_all (W : World) (n : Int) (p : Option Addr) (cap : Nat) (rs : List Bd) (hr : BdsAt W p rs) (hc : rs.length ≤ cap) (hn : I64 n) (pd : Option Addr) (cd : Nat) (ds : List Int) (hx : IntsAt W pd ds) (hb : ∀ x ∈ ds, I64 x) :
    Calls Try.prog 14 #[cv n p rs.length cap, .slice pd ds.length cd] W (Post (X := Unit) (fun _ => .bool true) (fun _ => True) (fun _ => []) W) := coreTurns_ok knownOk W n p cap rs hr pd cd ds hx hb
theorem coreBoths_all (W : World) (n1 : Int) (p1 : Option Addr) (c1 : Nat) (r1 : List Bd) (hr1 : BdsAt W p1 r1) (hc1 : r1.length ≤ c1) (hn1 : I64 n1) (n2 : Int) (p2 : Option Addr) (c2 : Nat) (r2 : List Bd) (hr2 : BdsAt W p2 r2) (hc2 : r2.length ≤ c2) (hn2 : I64 n2) (pd : Option Addr) (cd : Nat) (ds : List Int) (hx : IntsAt W pd ds) (hb : ∀ x ∈ ds, I64 x) :
    Calls Try.prog 13 #[cv n1 p1 r1.length c1, cv n2 p2 r2.length c2, .slice pd ds.length cd] W (Post (X := Unit) (fun _ => .bool true) (fun _ => True) (fun _ => []) W) := coreBoths_ok knownOk W n1 p1 c1 r1 hr1 n2 p2 c2 r2 hr2 pd cd ds hx
end Go.Proofs.Ytenalmddoljhoaa
