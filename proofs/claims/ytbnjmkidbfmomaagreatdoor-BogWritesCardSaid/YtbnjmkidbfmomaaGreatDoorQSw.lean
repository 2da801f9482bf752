/- The rule for regions that draw their order, once more: what is gone through knows every slot that it has not turned itself. -/
import Derived.Test.YtbnjmkidbfmomaaGreatDoorQSz
set_option linter.unusedVariables false
set_option linter.unusedSimpArgs false
namespace Go.Sx
open Go.RowKit

section
variable {P : Program} {n : Nat} {w0 : World} {E : Env} {G GJ : Heap} {a : Act} {w : World} {Q : Exit → Act → World → Prop} {l : List Oper} {st : List Bool}
/-- The stable operations one behind another, then the others. -/
def TY (P : Program) (n : Nat) (w0 : World) (l0 : List Oper) (st : List Bool) (GJ : Heap) (Q : Exit → Act → World → Prop) (fuel : Nat) (E0 E1 : Env) (G : Heap) : List Oper → List Bool → Env → Prop
  | o :: r, true :: fs, B => ∃ d v, o.dst = some d ∧ d < n ∧ SOK P n w0 l0.toArray GJ (depB l0 B o.after.toList ++ E0) o v ∧ TY P n w0 l0 st GJ Q fuel E0 E1 G r fs ((d, v) :: B)
  | _ :: r, false :: fs, B => TY P n w0 l0 st GJ Q fuel E0 E1 G r fs B
  | _, _, B => TX P n w0 l0 st GJ Q fuel st (B ++ E1) G

theorem TY.op {l0 : List Oper} {fuel : Nat} {E0 E1 : Env} {r : List Oper} {fs : List Bool} {B : Env} {d : Nat} {v : Value} {op : Op} {ty : TypeId} {pos : String} {aft : Array Edge} {g : Option (Nat × Bool)}
    (ho : SOK P n w0 l0.toArray GJ (depB l0 B aft.toList ++ E0) ⟨some d, op, ty, pos, aft, g⟩ v) (hd : d < n) (h : TY P n w0 l0 st GJ Q fuel E0 E1 G r fs ((d, v) :: B)) :
    TY P n w0 l0 st GJ Q fuel E0 E1 G (⟨some d, op, ty, pos, aft, g⟩ :: r) (true :: fs) B := ⟨d, v, rfl, hd, ho, h⟩

theorem TY.no {l0 : List Oper} {fuel : Nat} {E0 E1 : Env} {r : List Oper} {fs : List Bool} {B : Env} {o : Oper} (h : TY P n w0 l0 st GJ Q fuel E0 E1 G r fs B) : TY P n w0 l0 st GJ Q fuel E0 E1 G (o :: r) (false :: fs) B := h
theorem TY.fin {l0 : List Oper} {fuel : Nat} {E0 E1 : Env} {B : Env} (h : TX P n w0 l0 st GJ Q fuel st (B ++ E1) G) : TY P n w0 l0 st GJ Q fuel E0 E1 G [] [] B := h

end
end Go.Sx
