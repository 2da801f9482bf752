/- Rules: bits of whole numbers. -/
import Derived.Test.YtaeobkgogipceaaDoorBs
import Derived.Test.YtaeobkgogipceaaDoorPe
import Derived.Laws.BitsAllLaws
set_option linter.unusedVariables false
set_option linter.unusedSimpArgs false
namespace Go.Proofs.YtaeobkgogipceaaDoor
open Go.Sx Go.RowKit

theorem ofInt_i64 (a : Nat) (ha : a < 9223372036854775808) : (BitVec.ofInt 64 (a : Int)).toNat = a := by
  rw [BitVec.ofInt_natCast, BitVec.toNat_ofNat]; exact Nat.mod_eq_of_lt (by omega)
theorem wrap_nat {a : Nat} (ha : a < 9223372036854775808) : IntKind.i64.wrap (a : Int) = (a : Int) := by rw [IntKind.wrap_i64]; omega
theorem i64_and_nat {a b : Nat} (ha : a < 9223372036854775808) (hb : b < 9223372036854775808) : bits .and .i64 (a : Int) (b : Int) = ((a &&& b : Nat) : Int) := by
  have hx : a &&& b < 2 ^ 63 := Nat.and_lt_two_pow _ (by omega)
  show IntKind.i64.wrap ((BitVec.ofInt 64 (a : Int) &&& BitVec.ofInt 64 (b : Int)).toNat : Int) = _
  rw [BitVec.toNat_and, ofInt_i64 a ha, ofInt_i64 b hb, wrap_nat (by omega)]
theorem i64_or_nat {a b : Nat} (ha : a < 9223372036854775808) (hb : b < 9223372036854775808) : bits .or .i64 (a : Int) (b : Int) = ((a ||| b : Nat) : Int) := by
  have hx : a ||| b < 2 ^ 63 := Nat.or_lt_two_pow (by omega) (by omega)
  show IntKind.i64.wrap ((BitVec.ofInt 64 (a : Int) ||| BitVec.ofInt 64 (b : Int)).toNat : Int) = _
  rw [BitVec.toNat_or, ofInt_i64 a ha, ofInt_i64 b hb, wrap_nat (by omega)]
theorem i64_andNot_nat {a b : Nat} (ha : a < 9223372036854775808) (hb : b < 9223372036854775808) : bits .andNot .i64 (a : Int) (b : Int) = ((Mo.dif a b : Nat) : Int) := by
  have hx : Mo.dif a b < 2 ^ 63 := Mo.dif_lt (by omega)
  show IntKind.i64.wrap ((BitVec.ofInt 64 (a : Int) &&& ~~~ BitVec.ofInt 64 (b : Int)).toNat : Int) = _
  have e : (BitVec.ofInt 64 (a : Int) &&& ~~~ BitVec.ofInt 64 (b : Int)).toNat = Mo.dif a b := by
    rw [BitVec.toNat_and, BitVec.toNat_not, ofInt_i64 a ha, ofInt_i64 b hb]
    refine Nat.eq_of_testBit_eq fun i => ?_
    rw [Nat.testBit_and, Mo.dif_t, show 2 ^ 64 - 1 - b = 2 ^ 64 - (b + 1) by omega, Nat.testBit_two_pow_sub_succ (by omega)]
    by_cases hi : i < 64
    · rw [decide_eq_true hi]; rfl
    · rw [Nat.testBit_lt_two_pow (x := a) (Nat.lt_of_lt_of_le (by omega : a < 2 ^ 63) (Nat.pow_le_pow_right (by decide) (by omega : 63 ≤ i)))]; rfl
  rw [e, wrap_nat (by omega)]
theorem shl_nat {s : Nat} (h : s ≤ 60) : IntKind.i64.wrap ((1 : Int) * 2 ^ ((s : Int)).toNat) = ((2 ^ s : Nat) : Int) := by
  have : 2 ^ s ≤ 2 ^ 60 := Nat.pow_le_pow_right (by decide) h
  rw [Int.toNat_natCast, Int.one_mul, show ((2 : Int) ^ s) = ((2 ^ s : Nat) : Int) by simp, wrap_nat (by omega)]
section
variable {P : Program} {n : Nat} {w0 : World} {E : Env} {G : Heap} {d : Option Nat} {ty : TypeId} {pos : String} {aft : Array Edge} {g : Option (Nat × Bool)}
theorem PV.conv {x : Operand} {k k2 : IntKind} {s t : Nat} {i v : Int} (hs : P.underlying s = some (.int k)) (ht : P.underlying t = some (.int k2)) (hx : evo E x = some (.int k i)) (hv : k2.wrap i = v) : PV P n w0 E G ⟨d, .convert s t x, ty, pos, aft, g⟩ (.int k2 v) :=
  fun a w hS => by
    subst hv
    simp only [execOp, hS.ev hx]
    simp [convert, run_underlying hs, run_underlying ht, Conv.intToInt]
theorem PV.shlK {k : IntKind} {x y : Operand} {i j v : Int} {t t' : TypeId} (hx : evo E x = some (.int .i64 i)) (hy : evo E y = some (.int k j)) (h0 : 0 ≤ j) (h1 : j ≤ 64) (hv : IntKind.i64.wrap (i * 2 ^ j.toNat) = v) : PV P n w0 E G ⟨d, .binOp .shl t x y t', ty, pos, aft, g⟩ (.int .i64 v) :=
  fun a w hS => by
    subst hv
    simp only [execOp, hS.ev hx, hS.ev hy]
    simp [binOp, eqGuard, shift_shl .i64 k i j h0 h1]
theorem PV.shrK {k k2 : IntKind} {x y : Operand} {i j v : Int} {t t' : TypeId} (hx : evo E x = some (.int k2 i)) (hy : evo E y = some (.int k j)) (h0 : 0 ≤ j) (h1 : j ≤ k2.bits) (hv : i / 2 ^ j.toNat = v) : PV P n w0 E G ⟨d, .binOp .shr t x y t', ty, pos, aft, g⟩ (.int k2 v) :=
  fun a w hS => by
    subst hv
    simp only [execOp, hS.ev hx, hS.ev hy]
    simp [binOp, eqGuard, shift_shr k2 k i j h0 h1]
theorem PV.andK {k : IntKind} {x y : Operand} {i j v : Int} {t t' : TypeId} (hx : evo E x = some (.int k i)) (hy : evo E y = some (.int k j)) (hv : bits .and k i j = v) : PV P n w0 E G ⟨d, .binOp .and t x y t', ty, pos, aft, g⟩ (.int k v) :=
  fun a w hS => by
    subst hv
    simp only [execOp, hS.ev hx, hS.ev hy]
    cases k <;> simp [binOp, eqGuard, intBits_and]
theorem PV.orK {x y : Operand} {i j v : Int} {t t' : TypeId} (hx : evo E x = some (.int .i64 i)) (hy : evo E y = some (.int .i64 j)) (hv : bits .or .i64 i j = v) : PV P n w0 E G ⟨d, .binOp .or t x y t', ty, pos, aft, g⟩ (.int .i64 v) :=
  fun a w hS => by
    subst hv
    simp only [execOp, hS.ev hx, hS.ev hy]
    simp [binOp, eqGuard, intBits_or]
theorem PV.andNotK {x y : Operand} {i j v : Int} {t t' : TypeId} (hx : evo E x = some (.int .i64 i)) (hy : evo E y = some (.int .i64 j)) (hv : bits .andNot .i64 i j = v) : PV P n w0 E G ⟨d, .binOp .andNot t x y t', ty, pos, aft, g⟩ (.int .i64 v) :=
  fun a w hS => by
    subst hv
    simp only [execOp, hS.ev hx, hS.ev hy]
    simp [binOp, eqGuard, intBits_andNot]
theorem PV.addU {x y : Operand} {i j v : Int} {t t' : TypeId} (hx : evo E x = some (.int .u64 i)) (hy : evo E y = some (.int .u64 j)) (hv : IntKind.u64.wrap (i + j) = v) : PV P n w0 E G ⟨d, .binOp .add t x y t', ty, pos, aft, g⟩ (.int .u64 v) :=
  fun a w hS => by
    subst hv
    simp only [execOp, hS.ev hx, hS.ev hy]
    simp [go_sem, Op.intArith]
end
end Go.Proofs.YtaeobkgogipceaaDoor
