/- Slices of bools: rules. -/
import Derived.Test.YtnlbngbbddhgeaaQRe
set_option linter.unusedVariables false
set_option linter.unusedSimpArgs false
namespace Go.Sx
open Go.RowKit
abbrev boolsA (bs : List Bool) : Array Value := (bs.map Value.bool).toArray
theorem boolsA_get {bs : List Bool} {j : Nat} (h : j < bs.length) : (boolsA bs)[j]? = some (.bool (bs.getD j false)) := by
  simp [boolsA, List.getD, h]
theorem boolsA_set (bs : List Bool) (j : Nat) (v : Bool) : (boolsA bs).setIfInBounds j (.bool v) = boolsA (bs.set j v) := by
  simp [boolsA, List.map_set]
theorem boolsA_size (bs : List Bool) : (boolsA bs).size = bs.length := by simp [boolsA]
theorem boolsA_replicate (k : Nat) (v : Bool) : (List.replicate k (Value.bool v)).toArray = boolsA (List.replicate k v) := by simp [boolsA]
section
variable {P : Program} {n : Nat} {w0 : World} {E : Env} {G : Heap} {a : Act} {w : World} {ops : Array Oper} {Q : Exit → Act → World → Prop} {l : List Oper} {ty : TypeId} {pos : String} {aft : Array Edge} {g : Option (Nat × Bool)}
theorem PV.loadB {d : Option Nat} {x : Operand} {b j : Nat} {t : Nat} {bs : List Bool} {e : TypeId} {fr : Nat × Nat} (hx : evo E x = some (.pointer (some ⟨b, j, none⟩))) (ht : oneB P t = true)
    (hm : (b, Obj.cells (boolsA bs) e fr) ∈ G) (hj : j < bs.length) :
    PV P n w0 E G ⟨d, .load t x, ty, pos, aft, g⟩ (.bool (bs.getD j false)) := PV.loadG' hx ht hm (boolsA_get hj)
theorem TL.storeB {dd : Option Nat} {x y : Operand} {b j : Nat} {t : Nat} {bs : List Bool} {e : TypeId} {v : Bool} {G' : Heap} (hx : evo E x = some (.pointer (some ⟨b, j, none⟩))) (hy : evo E y = some (.bool v))
    (hsz : cellsN P t = some 1) (hu : Upd b (.cells (boolsA bs) e (0, 0)) (.cells (boolsA (bs.set j v)) e (0, 0)) G G') (hlt : j < bs.length)
    (hg : wants ops E g = some true) (hdd : dd = none) (h : TL P n w0 ops Q l E G') : TL P n w0 ops Q (⟨dd, .store t x y, ty, pos, aft, g⟩ :: l) E G :=
  TL.store (cs := boolsA bs) hx hy hsz rfl (by rw [boolsA_set]; exact hu) (by rw [boolsA_size]; exact hlt) hg hdd h
theorem TL.makeB {d : Nat} {x y : Operand} {t e : Nat} {by_ k : Nat} {i : Int} (hx : evo E x = some (.int .i64 i)) (hy : evo E y = some (.int .i64 i)) (ht : P.underlying t = some (.slice e))
    (hz : zeroI P e = some (.bool false, 1, by_)) (hi : i = (k : Int)) (hk : by_ * k ≤ 281474976710656) (hk2 : k ≤ 9223372036854775807) (hg : wants ops E g = some true) (hd : d < n)
    (h : ∀ b, w0.heap.size ≤ b → TL P n w0 ops Q l ((d, .slice (some ⟨b, 0, none⟩) k k) :: E) ((b, .cells (boolsA (List.replicate k false)) e (0, 0)) :: G)) :
    TL P n w0 ops Q (⟨some d, .makeSlice t x y, ty, pos, aft, g⟩ :: l) E G :=
  TL.make hx hy ht hz rfl hi hk hk2 hg hd (fun b hb => by rw [boolsA_replicate]; exact h b hb)
end
end Go.Sx
