/- What the laws know of their example: contracts. -/
import Derived.Test.YtnlbngbbddhgeaaQFo
set_option linter.unusedVariables false
set_option linter.unusedSimpArgs false
namespace Go.Proofs.Ytnlbngbbddhgeaa
open Go.Sx Go.RowKit

def exL : List Bd := [⟨0, 1, 3⟩, ⟨0, 1, 4⟩, ⟨1, 2, 5⟩]
theorem cut_dr {n s t : Nat} {rs : List Bd} {L : List Fl.E} (h : Mx n s t rs L) (S : Nat → Bool) : Fl.cutW S L = Fl.cutW S (dr0 rs) := by
  have hl := h.len
  refine Fl.cutW_same S (by rw [mkL_len]; exact hl) fun k h1 h2 => ?_
  have h3 := h.same k (by omega)
  rw [getD_get h1] at h3
  have h4 : (dr0 rs)[k] = mkE (rs.getD k default) 0 := by simp [dr0, mkL]
  rw [h4]; exact h3
section
variable {P : Program} {n : Nat} {w0 : World} {E : Env} {G : Heap} {d : Option Nat} {ty : TypeId} {pos : String} {aft : Array Edge} {g : Option (Nat × Bool)} {x y : Operand} {i : Int} {t t' : TypeId}
theorem PV.eqlI (hx : evo E x = some (.int .i64 i)) (hy : evo E y = some (.int .i64 i)) : PV P n w0 E G ⟨d, .binOp .eql t x y t', ty, pos, aft, g⟩ (.bool true) := by
  have := PV.eql (P := P) (n := n) (w0 := w0) (G := G) (d := d) (t := t) (t' := t') (ty := ty) (pos := pos) (aft := aft) (g := g) hx hy
  rwa [decide_eq_true rfl] at this
end


end Go.Proofs.Ytnlbngbbddhgeaa
