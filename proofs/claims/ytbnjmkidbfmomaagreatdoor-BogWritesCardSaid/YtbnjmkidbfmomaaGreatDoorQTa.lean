/- Strings and rows of bytes: what the operations do with them. -/
import Derived.Test.YtbnjmkidbfmomaaGreatDoorQRe
import Derived.Laws.IdiomStrings
import Derived.Laws.IdiomCopy
set_option linter.unusedVariables false
set_option linter.unusedSimpArgs false
namespace Go.Sx
open Go.RowKit

/-- A string with its bytes. -/
def str (L : List UInt8) : Value := .string ⟨L.toArray⟩
theorem str_of (s : ByteArray) : Value.string s = str s.data.toList := by
  cases s with | mk d => simp [str]
def bcs (L : List UInt8) : List Value := L.map fun b => .int .u8 (b.toNat : Int)
/-- A row of bytes of the call's own: its block, its capacity, what lies behind its elements, its mark. -/
structure HB where
  b : Nat
  cap : Nat
  sp : List Value
  fr : Nat × Nat
def bvl (h : HB) (len : Nat) : Value := .slice (some ⟨h.b, 0, none⟩) len h.cap
def bob (h : HB) (e : TypeId) (L : List UInt8) : Obj := .cells (bcs L ++ h.sp).toArray e h.fr
def bok (h : HB) (L : List UInt8) : Prop := h.cap = L.length + h.sp.length ∧ (h.fr = (0, 0) ∨ h.cap ≤ h.fr.1)

theorem str_app (L M : List UInt8) : (⟨L.toArray⟩ : ByteArray) ++ ⟨M.toArray⟩ = ⟨(L ++ M).toArray⟩ := by
  apply ByteArray.ext
  simp [ByteArray.data_append]

section rules
variable {P : Program} {n : Nat} {w0 : World} {E : Env} {G : Heap} {a : Act} {w : World} {ops : Array Oper} {Q : Exit → Act → World → Prop} {l : List Oper}
variable {ty : TypeId} {pos : String} {aft : Array Edge} {g : Option (Nat × Bool)}

section pv
variable {d : Option Nat}
theorem PV.addS {x y : Operand} {t t' : TypeId} {L M : List UInt8} (hx : evo E x = some (str L)) (hy : evo E y = some (str M)) (h : L.length + M.length ≤ 9223372036854775807) :
    PV P n w0 E G ⟨d, .binOp .add t x y t', ty, pos, aft, g⟩ (str (L ++ M)) :=
  fun a w hs => by
    simp only [execOp, hs.ev hx, hs.ev hy]
    have h1 : ¬ (((⟨L.toArray⟩ : ByteArray).size + (⟨M.toArray⟩ : ByteArray).size : Nat) : Int) > IntKind.i64.max := by
      show ¬ ((L.toArray.size + M.toArray.size : Nat) : Int) > 9223372036854775807
      simp only [List.size_toArray]; omega
    simp [go_sem, str, Op.stringOp, str_app, eqGuard]
    first | omega | (intro hh; exact absurd hh h1) | (rw [if_neg h1]; simp)
theorem PV.eqS {x y : Operand} {t t' : TypeId} {L M : List UInt8} (hx : evo E x = some (str L)) (hy : evo E y = some (str M)) :
    PV P n w0 E G ⟨d, .binOp .eql t x y t', ty, pos, aft, g⟩ (.bool (decide (L = M))) :=
  fun a w hs => by
    simp only [execOp, hs.ev hx, hs.ev hy]
    simp [go_sem, str, Op.stringOp, eqGuard]
    try (rw [Bool.eq_iff_iff]; simp)
theorem PV.neqS {x y : Operand} {t t' : TypeId} {L M : List UInt8} (hx : evo E x = some (str L)) (hy : evo E y = some (str M)) :
    PV P n w0 E G ⟨d, .binOp .neq t x y t', ty, pos, aft, g⟩ (.bool (decide (L ≠ M))) :=
  fun a w hs => by
    simp only [execOp, hs.ev hx, hs.ev hy]
    simp [go_sem, str, Op.stringOp, eqGuard, binOp, bne]
    try (rw [Bool.eq_iff_iff]; simp)
theorem PV.lenS {x : Operand} {L : List UInt8} {t : TypeId} (hx : evo E x = some (str L)) (ht : P.underlying t = some .string) :
    PV P n w0 E G ⟨d, .call { callee := .builtin .len, args := #[x], argTypes := #[t] }, ty, pos, aft, g⟩ (.int .i64 L.length) :=
  fun a w hs => by
    simp only [execOp, resolve, List.map_toArray, List.map_cons, List.map_nil, hs.ev hx]
    have h1 : (⟨L.toArray⟩ : ByteArray).size = L.length := by simp [ByteArray.size]
    simp [invoke, builtin, str, run_len_string, ht, goInt, h1]
theorem PV.indexS {x y : Operand} {L : List UInt8} {k : IntKind} {t : TypeId} {i : Int} {j : Nat} (hx : evo E x = some (str L)) (hy : evo E y = some (.int k i)) (ht : P.underlying t = some .string) (hi : i = (j : Int)) (hj : j < L.length) :
    PV P n w0 E G ⟨d, .index t x y, ty, pos, aft, g⟩ (.int .u8 ((L.getD j 0).toNat : Int)) :=
  fun a w hs => by
    subst hi
    simp only [execOp, hs.ev hx, hs.ev hy]
    have h1 : (0 : Int) ≤ (j : Int) ∧ (j : Int) < ((⟨L.toArray⟩ : ByteArray).size : Int) := by
      have : (⟨L.toArray⟩ : ByteArray).size = L.length := by simp [ByteArray.size]
      omega
    have h2 := run_index_string (P := P) w t ⟨L.toArray⟩ k (j : Int) ht
    rw [dif_pos h1] at h2
    have h3 : ∀ hh, ((⟨L.toArray⟩ : ByteArray)[(j : Int).toNat]'hh) = L.getD j 0 := fun hh => by
      rw [List.getD_eq_getElem?_getD, List.getElem?_eq_getElem hj]
      rfl
    rw [h3] at h2
    simp [str, h2]
end pv

end rules
end Go.Sx
