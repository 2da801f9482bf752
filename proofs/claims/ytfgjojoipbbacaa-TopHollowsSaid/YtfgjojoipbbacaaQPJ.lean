/- The law of proofs that reach the bound: contract. -/
import Derived.Test.YtfgjojoipbbacaaQPI
import Derived.Test.YtfgjojoipbbacaaQDG
import Derived.Test.YtfgjojoipbbacaaQMM
import Derived.Test.YtfgjojoipbbacaaQEA
set_option linter.unusedVariables false
set_option linter.unusedSimpArgs false
namespace Go.Proofs.Ytfgjojoipbbacaa
open Go.Sx Go.RowKit

theorem PV.eqlI {P : Program} {n : Nat} {w0 : World} {E : Env} {G : Heap} {d : Option Nat} {ty : TypeId} {pos : String} {aft : Array Edge} {g : Option (Nat × Bool)} {x y : Operand} {i : Int} {t t' : TypeId} (hx : evo E x = some (.int .i64 i)) (hy : evo E y = some (.int .i64 i)) : PV P n w0 E G ⟨d, .binOp .eql t x y t', ty, pos, aft, g⟩ (.bool true) := by
  have := PV.eql (P := P) (n := n) (w0 := w0) (G := G) (d := d) (t := t) (t' := t') (ty := ty) (pos := pos) (aft := aft) (g := g) hx hy
  rwa [decide_eq_true rfl] at this
theorem PV.neqI {P : Program} {n : Nat} {w0 : World} {E : Env} {G : Heap} {d : Option Nat} {ty : TypeId} {pos : String} {aft : Array Edge} {g : Option (Nat × Bool)} {x y : Operand} {i : Int} {t t' : TypeId} (hx : evo E x = some (.int .i64 i)) (hy : evo E y = some (.int .i64 i)) : PV P n w0 E G ⟨d, .binOp .neq t x y t', ty, pos, aft, g⟩ (.bool false) := by
  have := PV.neq (P := P) (n := n) (w0 := w0) (G := G) (d := d) (t := t) (t' := t') (ty := ty) (pos := pos) (aft := aft) (g := g) hx hy
  rwa [decide_eq_false (fun h => h rfl)] at this
theorem prf_eq {ls : List (List Int)} {ps : List Ps} {zs : List Int} {v : Int} (hv : ¬ validI ls ≠ 0) (h : PrfP ls ps) (hb : BesP min ls zs v) : prI ls ps = 0 ∧ prV ls ps = v := by
  obtain ⟨h1, xs, h2, h3⟩ := h.ok hv
  have hB := hb.ok hv
  have h4 := hB.max xs h2
  have h5 := ho_bound h1 hB.ho
  rw [hB.w] at h5
  exact ⟨h1, by omega⟩


end Go.Proofs.Ytfgjojoipbbacaa
