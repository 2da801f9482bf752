/- Qa Bl Qb Ly -/
import Derived.Test.YtbnjmkidbfmomaaGreatDoorV04
import Derived.Test.YtbnjmkidbfmomaaGreatDoorV05
import Derived.Test.YtbnjmkidbfmomaaGreatDoorV06
import Derived.Laws.BitsAllLaws
import Derived.Laws.Bits128
import Derived.Shelf.Strconv.Itoa3
import Derived.Shelf.Strings.SplitShaped
import Derived.Shelf.Small.Wraps
import Derived.Shelf.LaysC
import Derived.Ground.NamesProg
import Derived.Test.YtbnjmkidbfmomaaGreatDoorProg
set_option linter.unusedVariables false
set_option linter.unusedSimpArgs false
set_option maxRecDepth 100000
namespace Go.Proofs.YtbnjmkidbfmomaaGreatDoor.M
open Go.Sx Go.RowKit
theorem ofInt_i64 (a : Nat) (ha : a < 9223372036854775808) : (BitVec.ofInt 64 (a : Int)).toNat = a := by
  rw [BitVec.ofInt_natCast, BitVec.toNat_ofNat]; exact Nat.mod_eq_of_lt (by omega)
theorem wrap_nat {a : Nat} (ha : a < 9223372036854775808) : IntKind.i64.wrap (a : Int) = (a : Int) := by rw [IntKind.wrap_i64]; omega
theorem i64_and_nat {a b : Nat} (ha : a < 9223372036854775808) (hb : b < 9223372036854775808) : bits .and .i64 (a : Int) (b : Int) = ((a &&& b : Nat) : Int) := by
  have hx : a &&& b < 2 ^ 63 := Nat.and_lt_two_pow _ (by omega)
  show IntKind.i64.wrap ((BitVec.ofInt 64 (a : Int) &&& BitVec.ofInt 64 (b : Int)).toNat : Int) = _
  rw [BitVec.toNat_and, ofInt_i64 a ha, ofInt_i64 b hb, wrap_nat (by omega)]
theorem i64_or_nat {a b : Nat} (ha : a < 9223372036854775808) (hb : b < 9223372036854775808) : bits .or .i64 (a : Int) (b : Int) = ((a ||| b : Nat) : Int) := by
  have hx : a ||| b < 2 ^ 63 := Nat.or_lt_two_pow (by omega) (by omega)
  show IntKind.i64.wrap ((BitVec.ofInt 64 (a : Int) ||| BitVec.ofInt 64 (b : Int)).toNat : Int) = _
  rw [BitVec.toNat_or, ofInt_i64 a ha, ofInt_i64 b hb, wrap_nat (by omega)]
theorem i64_andNot_nat {a b : Nat} (ha : a < 9223372036854775808) (hb : b < 9223372036854775808) : bits .andNot .i64 (a : Int) (b : Int) = ((Mo.dif a b : Nat) : Int) := by
  have hx : Mo.dif a b < 2 ^ 63 := Mo.dif_lt (by omega)
  show IntKind.i64.wrap ((BitVec.ofInt 64 (a : Int) &&& ~~~ BitVec.ofInt 64 (b : Int)).toNat : Int) = _
  have e : (BitVec.ofInt 64 (a : Int) &&& ~~~ BitVec.ofInt 64 (b : Int)).toNat = Mo.dif a b := by
    rw [BitVec.toNat_and, BitVec.toNat_not, ofInt_i64 a ha, ofInt_i64 b hb]
    refine Nat.eq_of_testBit_eq fun i => ?_
    rw [Nat.testBit_and, Mo.dif_t, show 2 ^ 64 - 1 - b = 2 ^ 64 - (b + 1) by omega, Nat.testBit_two_pow_sub_succ (by omega)]
    by_cases hi : i < 64
    · rw [decide_eq_true hi]; rfl
    · rw [Nat.testBit_lt_two_pow (x := a) (Nat.lt_of_lt_of_le (by omega : a < 2 ^ 63) (Nat.pow_le_pow_right (by decide) (by omega : 63 ≤ i)))]; rfl
  rw [e, wrap_nat (by omega)]
theorem shl_nat {s : Nat} (h : s ≤ 60) : IntKind.i64.wrap ((1 : Int) * 2 ^ ((s : Int)).toNat) = ((2 ^ s : Nat) : Int) := by
  have : 2 ^ s ≤ 2 ^ 60 := Nat.pow_le_pow_right (by decide) h
  rw [Int.toNat_natCast, Int.one_mul, show ((2 : Int) ^ s) = ((2 ^ s : Nat) : Int) by simp, wrap_nat (by omega)]
section
variable {P : Program} {n : Nat} {w0 : World} {E : Env} {G : Heap} {d : Option Nat} {ty : TypeId} {pos : String} {aft : Array Edge} {g : Option (Nat × Bool)}
theorem PV.conv {x : Operand} {k k2 : IntKind} {s t : Nat} {i v : Int} (hs : P.underlying s = some (.int k)) (ht : P.underlying t = some (.int k2)) (hx : evo E x = some (.int k i)) (hv : k2.wrap i = v) : PV P n w0 E G ⟨d, .convert s t x, ty, pos, aft, g⟩ (.int k2 v) :=
  fun a w hS => by
    subst hv
    simp only [execOp, hS.ev hx]
    simp [convert, run_underlying hs, run_underlying ht, Conv.intToInt]
theorem PV.shlK {k : IntKind} {x y : Operand} {i j v : Int} {t t' : TypeId} (hx : evo E x = some (.int .i64 i)) (hy : evo E y = some (.int k j)) (h0 : 0 ≤ j) (h1 : j ≤ 64) (hv : IntKind.i64.wrap (i * 2 ^ j.toNat) = v) : PV P n w0 E G ⟨d, .binOp .shl t x y t', ty, pos, aft, g⟩ (.int .i64 v) :=
  fun a w hS => by
    subst hv
    simp only [execOp, hS.ev hx, hS.ev hy]
    simp [binOp, eqGuard, shift_shl .i64 k i j h0 h1]
theorem PV.shrK {k k2 : IntKind} {x y : Operand} {i j v : Int} {t t' : TypeId} (hx : evo E x = some (.int k2 i)) (hy : evo E y = some (.int k j)) (h0 : 0 ≤ j) (h1 : j ≤ k2.bits) (hv : i / 2 ^ j.toNat = v) : PV P n w0 E G ⟨d, .binOp .shr t x y t', ty, pos, aft, g⟩ (.int k2 v) :=
  fun a w hS => by
    subst hv
    simp only [execOp, hS.ev hx, hS.ev hy]
    simp [binOp, eqGuard, shift_shr k2 k i j h0 h1]
theorem PV.andK {k : IntKind} {x y : Operand} {i j v : Int} {t t' : TypeId} (hx : evo E x = some (.int k i)) (hy : evo E y = some (.int k j)) (hv : bits .and k i j = v) : PV P n w0 E G ⟨d, .binOp .and t x y t', ty, pos, aft, g⟩ (.int k v) :=
  fun a w hS => by
    subst hv
    simp only [execOp, hS.ev hx, hS.ev hy]
    cases k <;> simp [binOp, eqGuard, intBits_and]
theorem PV.orK {x y : Operand} {i j v : Int} {t t' : TypeId} (hx : evo E x = some (.int .i64 i)) (hy : evo E y = some (.int .i64 j)) (hv : bits .or .i64 i j = v) : PV P n w0 E G ⟨d, .binOp .or t x y t', ty, pos, aft, g⟩ (.int .i64 v) :=
  fun a w hS => by
    subst hv
    simp only [execOp, hS.ev hx, hS.ev hy]
    simp [binOp, eqGuard, intBits_or]
theorem PV.andNotK {x y : Operand} {i j v : Int} {t t' : TypeId} (hx : evo E x = some (.int .i64 i)) (hy : evo E y = some (.int .i64 j)) (hv : bits .andNot .i64 i j = v) : PV P n w0 E G ⟨d, .binOp .andNot t x y t', ty, pos, aft, g⟩ (.int .i64 v) :=
  fun a w hS => by
    subst hv
    simp only [execOp, hS.ev hx, hS.ev hy]
    simp [binOp, eqGuard, intBits_andNot]
theorem PV.addU {x y : Operand} {i j v : Int} {t t' : TypeId} (hx : evo E x = some (.int .u64 i)) (hy : evo E y = some (.int .u64 j)) (hv : IntKind.u64.wrap (i + j) = v) : PV P n w0 E G ⟨d, .binOp .add t x y t', ty, pos, aft, g⟩ (.int .u64 v) :=
  fun a w hS => by
    subst hv
    simp only [execOp, hS.ev hx, hS.ev hy]
    simp [go_sem, Op.intArith]
end
end Go.Proofs.YtbnjmkidbfmomaaGreatDoor.M
namespace Go.Proofs.YtbnjmkidbfmomaaGreatDoor
open Go.Sx Go.RowKit
def LsAt (w : World) (p : Option Addr) (ls : List (List Int)) : Prop := ∀ j, j < ls.length → ∃ q, p = some q ∧ ∃ pj cj, w.cell? (q.add (j * 1)) = some (.slice pj (ls.getD j []).length cj) ∧ IntsAt w pj (ls.getD j [])
theorem LsAt.new {w0 w : World} {G : Heap} {p : Option Addr} {ls : List (List Int)} (h : LsAt w0 p ls) (hn : New w0 w G) : LsAt w p ls := fun j hj =>
  let ⟨q, hq, pj, cj, h1, h2⟩ := h j hj
  ⟨q, hq, pj, cj, hn.old h1, h2.new hn⟩
end Go.Proofs.YtbnjmkidbfmomaaGreatDoor
namespace Go.Proofs.YtbnjmkidbfmomaaGreatDoor.M
open Go.Sx Go.RowKit
def arrOf (P : Program) (t : Nat) : Option (Nat × Nat × Nat) :=
  match P.underlying t with
  | some (.array n e) => (P.info? e).map fun i => (n, e, i.size)
  | _ => none
section
variable {P : Program} {n : Nat} {w0 : World} {E : Env} {G : Heap} {d : Option Nat} {ty : TypeId} {pos : String} {aft : Array Edge} {g : Option (Nat × Bool)}
theorem PV.indexArr {k : IntKind} {x y : Operand} {b m e j : Nat} {i : Int} {t : Nat} (hx : evo E x = some (.pointer (some ⟨b, 0, none⟩))) (hy : evo E y = some (.int k i))
    (ht : arrOf P t = some (m, e, 1)) (hi : i = (j : Int)) (hj : j < m) : PV P n w0 E G ⟨d, .indexAddr t x y, ty, pos, aft, g⟩ (.pointer (some ⟨b, j, none⟩)) :=
  fun a w hs => by
    unfold arrOf at ht
    cases hu : P.underlying t with
    | none => simp [hu] at ht
    | some u =>
      cases u <;> simp only [hu] at ht <;> try (simp at ht; done)
      rename_i m' e'
      cases hi2 : P.info? e' with
      | none => simp [hi2] at ht
      | some inf =>
        simp [hi2] at ht
        obtain ⟨rfl, rfl, h3⟩ := ht
        subst hi
        simp only [execOp, hs.ev hx, hs.ev hy]
        simp [Instr.indexAt, run_underlying hu, asIntOf, Instr.sureAddr, sizeOf, typeInfo, hi2, h3, hj, add_off]
theorem PV.eqlK {k : IntKind} {x y : Operand} {i j : Int} {t t' : TypeId} (hx : evo E x = some (.int k i)) (hy : evo E y = some (.int k j)) : PV P n w0 E G ⟨d, .binOp .eql t x y t', ty, pos, aft, g⟩ (.bool (decide (i = j))) :=
  fun a w hs => by simp only [execOp, hs.ev hx, hs.ev hy]; cases k <;> (simp [go_sem]; rw [Bool.eq_iff_iff]; simp)
theorem PV.mulU {x y : Operand} {i j v : Int} {t t' : TypeId} (hx : evo E x = some (.int .u64 i)) (hy : evo E y = some (.int .u64 j)) (hv : IntKind.u64.wrap (i * j) = v) : PV P n w0 E G ⟨d, .binOp .mul t x y t', ty, pos, aft, g⟩ (.int .u64 v) :=
  fun a w hS => by
    subst hv
    simp only [execOp, hS.ev hx, hS.ev hy]
    simp [go_sem, Op.intArith]
theorem PV.negU {x : Operand} {i v : Int} {t : TypeId} (hx : evo E x = some (.int .u64 i)) (hv : IntKind.u64.wrap (-i) = v) : PV P n w0 E G ⟨d, .unOp .neg t x, ty, pos, aft, g⟩ (.int .u64 v) :=
  fun a w hS => by
    subst hv
    simp only [execOp, hS.ev hx]
    simp [go_sem, Op.intArith]
end
theorem arr_102 : arrOf Tryz.prog 286 = some (64, 5, 1) := by kernel_rfl
def TzAt (w : World) : Prop := ∀ j, j < 64 → w.cell? ⟨6, j, none⟩ = some (.int .u8 (Lib.deBruijn64tab.getD j 0 : Nat))
theorem TzAt.new {w0 w : World} {G : Heap} (h : TzAt w0) (hn : New w0 w G) : TzAt w := fun j hj => hn.old (h j hj)
theorem conv_u {x : Nat} (h : x < 18446744073709551616) : IntKind.u64.wrap (x : Int) = (x : Int) := by rw [IntKind.wrap_u64]; omega
theorem conv_i {x : Nat} (h : x < 9223372036854775808) : IntKind.i64.wrap (x : Int) = (x : Int) := wrap_nat h
theorem tz_key {x : Nat} (hx : x < 18446744073709551616) (h0 : x ≠ 0) : IntKind.u64.wrap (-(x : Int)) = ((18446744073709551616 - x : Nat) : Int) := by rw [IntKind.wrap_u64]; omega
theorem tz_ix (p : Nat) : IntKind.u64.wrap ((p : Int) * 285870213051353865) / 2 ^ ((58 : Int)).toNat = ((p * 285870213051353865 % 18446744073709551616 / 288230376151711744 : Nat) : Int) := by
  rw [IntKind.wrap_u64]
  show _ / 288230376151711744 = _
  omega
theorem u64_and {a b : Nat} (ha : a < 18446744073709551616) (hb : b < 18446744073709551616) : bits .and .u64 (a : Int) (b : Int) = ((a &&& b : Nat) : Int) := u64_and_nat a b ha hb
theorem and_lt {a b n : Nat} (h : a < n) : a &&& b < n := Nat.lt_of_le_of_lt Nat.and_le_left h
theorem p40 {k : Nat} (h : k < 64) : 2 ^ k < 18446744073709551616 := Nat.pow_lt_pow_right (a := 2) (n := 64) (by decide) h
def vB (r c k : Int) : Prop := (1 ≤ r ∧ r ≤ 6) ∧ (1 ≤ c ∧ c ≤ 6) ∧ (1 ≤ k ∧ k ≤ 3)
instance (r c k : Int) : Decidable (vB r c k) := by unfold vB; infer_instance
def vI (r c k : Int) : Int := if vB r c k then 0 else 1
abbrev mV (m : Mo.Md) : Value := .agg #[.int .i64 m.R, .int .i64 m.C, .int .i64 m.K]
theorem vI_ok {m : Mo.Md} (ho : Mo.Ok m) : vI m.R m.C m.K = 0 := if_pos ⟨⟨by have := ho.R1; omega, by have := ho.R6; omega⟩, ⟨by have := ho.C1; omega, by have := ho.C6; omega⟩, by have := ho.K1; omega, by have := ho.K3; omega⟩
theorem vI_is {r c k : Int} (h : vI r c k = 0) : ∃ m : Mo.Md, Mo.Ok m ∧ r = m.R ∧ c = m.C ∧ k = m.K := by
  unfold vI at h
  by_cases h1 : vB r c k
  · obtain ⟨⟨a, b⟩, ⟨c1, d⟩, e, f⟩ := h1
    exact ⟨⟨r.toNat, c.toNat, k.toNat⟩, ⟨by show 1 ≤ r.toNat; omega, by show r.toNat ≤ 6; omega, by show 1 ≤ c.toNat; omega, by show c.toNat ≤ 6; omega, by show 1 ≤ k.toNat; omega, by show k.toNat ≤ 3; omega⟩, by show r = (r.toNat : Int); omega, by show c = (c.toNat : Int); omega, by show k = (k.toNat : Int); omega⟩
  · rw [if_neg h1] at h; cases h
theorem vI_yes {r c k : Int} (h : vB r c k) : vI r c k = 0 := if_pos h
theorem vI_no {r c k : Int} (h : ¬ vB r c k) : vI r c k = 1 := if_neg h
theorem bF {p : Prop} [Decidable p] (h : ¬ p) : false = decide p := (decide_eq_false h).symm
theorem vI_or (r c k : Int) : vI r c k = 0 ∨ vI r c k = 1 := by unfold vI; split <;> simp
def gI (r c k w : Int) : Int := if vI r c k = 0 then (if 0 ≤ w ∧ w ≤ 2 ^ (r.toNat * c.toNat) - 1 then 0 else 1) else 1
theorem pow_cast (n : Nat) : ((2 ^ n : Nat) : Int) = 2 ^ n := by simp
theorem gI_ok {m : Mo.Md} (ho : Mo.Ok m) {S : Nat} (hS : S < 2 ^ m.N) : gI m.R m.C m.K S = 0 := by
  unfold gI
  rw [if_pos (vI_ok ho), if_pos]
  rw [Int.toNat_natCast, Int.toNat_natCast, ← pow_cast]
  have : S < 2 ^ (m.R * m.C) := hS
  omega
theorem gI_is {r c k w : Int} (h : gI r c k w = 0) : ∃ (m : Mo.Md) (S : Nat), Mo.Ok m ∧ S < 2 ^ m.N ∧ r = m.R ∧ c = m.C ∧ k = m.K ∧ w = S := by
  unfold gI at h
  by_cases h1 : vI r c k = 0
  · rw [if_pos h1] at h
    obtain ⟨m, ho, rfl, rfl, rfl⟩ := vI_is h1
    by_cases h2 : 0 ≤ w ∧ w ≤ 2 ^ ((m.R : Int).toNat * (m.C : Int).toNat) - 1
    · rw [Int.toNat_natCast, Int.toNat_natCast, ← pow_cast] at h2
      refine ⟨m, w.toNat, ho, ?_, rfl, rfl, rfl, by omega⟩
      show _ < 2 ^ (m.R * m.C)
      omega
    · rw [if_neg h2] at h; cases h
  · rw [if_neg h1] at h; cases h
theorem N40 {m : Mo.Md} (ho : Mo.Ok m) : 2 ^ m.N ≤ 2 ^ 36 := Nat.pow_le_pow_right (by decide) ho.N36
theorem Has_eq {S s : Nat} (hS : S < 9223372036854775808) : decide (bits .and .i64 (((S / 2 ^ s : Nat)) : Int) 1 = 1) = S.testBit s := by
  have h1 : S / 2 ^ s ≤ S := Nat.div_le_self _ _
  have h2 := i64_and_nat (a := S / 2 ^ s) (b := 1) (by omega) (by decide)
  have h3 : S / 2 ^ s &&& 1 = S / 2 ^ s % 2 := Nat.and_two_pow_sub_one_eq_mod _ 1
  rw [show ((1 : Nat) : Int) = 1 from rfl, h3] at h2
  rw [h2, Nat.testBit_eq_decide_div_mod_eq]
  exact decide_eq_decide.2 (by omega)
theorem nat_shr (k x : Nat) : (x : Int) / 2 ^ ((k : Nat) : Int).toNat = ((x / 2 ^ k : Nat) : Int) := by
  rw [Int.toNat_natCast]; simp
theorem full_63 {m : Mo.Md} (ho : Mo.Ok m) : Mo.full m < 9223372036854775808 := by
  have := N40 ho; have := Mo.full_lt m; omega
theorem and_le' (a b : Nat) : a &&& b ≤ b := Nat.and_le_right
theorem ones_steps {x : Nat} (hx : x < 18446744073709551616) :
    IntKind.u64.wrap (((x / 2 ^ 1 &&& 6148914691236517205 : Nat) : Int) + ((x &&& 6148914691236517205 : Nat) : Int)) = ((Mo.S1 8 x : Nat) : Int) ∧ Mo.S1 8 x < 18446744073709551616 ∧
    IntKind.u64.wrap (((Mo.S1 8 x / 2 ^ 2 &&& 3689348814741910323 : Nat) : Int) + ((Mo.S1 8 x &&& 3689348814741910323 : Nat) : Int)) = ((Mo.S2 8 (Mo.S1 8 x) : Nat) : Int) ∧
    IntKind.u64.wrap (((Mo.S2 8 (Mo.S1 8 x) / 2 ^ 4 : Nat) : Int) + ((Mo.S2 8 (Mo.S1 8 x) : Nat) : Int)) = ((Mo.S2 8 (Mo.S1 8 x) / 2 ^ 4 + Mo.S2 8 (Mo.S1 8 x) : Nat) : Int) ∧
    bits .and .u64 ((Mo.S2 8 (Mo.S1 8 x) / 2 ^ 4 + Mo.S2 8 (Mo.S1 8 x) : Nat) : Int) 1085102592571150095 = ((Mo.bt 8 x : Nat) : Int) ∧
    IntKind.u64.wrap (((Mo.bt 8 x : Nat) : Int) + ((Mo.bt 8 x / 2 ^ 8 : Nat) : Int)) = ((Mo.bt 8 x + Mo.bt 8 x / 2 ^ 8 : Nat) : Int) ∧
    IntKind.u64.wrap (((Mo.bt 8 x + Mo.bt 8 x / 2 ^ 8 : Nat) : Int) + (((Mo.bt 8 x + Mo.bt 8 x / 2 ^ 8) / 2 ^ 16 : Nat) : Int)) = ((Mo.bt 8 x + Mo.bt 8 x / 2 ^ 8 + (Mo.bt 8 x + Mo.bt 8 x / 2 ^ 8) / 2 ^ 16 : Nat) : Int) ∧
    IntKind.u64.wrap (((Mo.bt 8 x + Mo.bt 8 x / 2 ^ 8 + (Mo.bt 8 x + Mo.bt 8 x / 2 ^ 8) / 2 ^ 16 : Nat) : Int) + (((Mo.bt 8 x + Mo.bt 8 x / 2 ^ 8 + (Mo.bt 8 x + Mo.bt 8 x / 2 ^ 8) / 2 ^ 16) / 2 ^ 32 : Nat) : Int)) = ((Mo.fold3 (Mo.bt 8 x) : Nat) : Int) ∧
    Mo.fold3 (Mo.bt 8 x) < 9223372036854775808 ∧ ((Mo.fold3 (Mo.bt 8 x) : Nat) : Int) % 128 = ((Mo.pc x : Nat) : Int) := by
  have h8 := Mo.m18
  have hb := Mo.S_bt 8 x
  have hf := Mo.fold_sum x
  have a1 := and_le' (x / 2 ^ 1) 6148914691236517205
  have a2 := and_le' x 6148914691236517205
  have e1 : Mo.S1 8 x = (x / 2 ^ 1 &&& 6148914691236517205) + (x &&& 6148914691236517205) := by unfold Mo.S1; rw [h8.1]
  have a3 := and_le' (Mo.S1 8 x / 2 ^ 2) 3689348814741910323
  have a4 := and_le' (Mo.S1 8 x) 3689348814741910323
  have e2 : Mo.S2 8 (Mo.S1 8 x) = (Mo.S1 8 x / 2 ^ 2 &&& 3689348814741910323) + (Mo.S1 8 x &&& 3689348814741910323) := by unfold Mo.S2; rw [h8.2.1]
  have e3 : (Mo.S2 8 (Mo.S1 8 x) / 2 ^ 4 + Mo.S2 8 (Mo.S1 8 x)) &&& 1085102592571150095 = Mo.bt 8 x := by rw [← hb]; unfold Mo.S3; rw [h8.2.2]
  generalize hz2 : Mo.S2 8 (Mo.S1 8 x) = z2 at *
  generalize hz1 : Mo.S1 8 x = z1 at *
  have hl2 : z2 < 7400000000000000000 := by omega
  have hfo : Mo.fold3 (Mo.bt 8 x) = Mo.bt 8 x + Mo.bt 8 x / 256 + (Mo.bt 8 x + Mo.bt 8 x / 256) / 65536 + (Mo.bt 8 x + Mo.bt 8 x / 256 + (Mo.bt 8 x + Mo.bt 8 x / 256) / 65536) / 4294967296 := rfl
  refine ⟨?_, by omega, ?_, ?_, ?_, ?_, ?_, ?_, by omega, by omega⟩
  · rw [IntKind.wrap_u64]; omega
  · rw [IntKind.wrap_u64]; omega
  · rw [IntKind.wrap_u64]; omega
  · have := u64_and (a := z2 / 2 ^ 4 + z2) (b := 1085102592571150095) (by omega) (by decide)
    rw [e3] at this
    exact this
  · rw [IntKind.wrap_u64]; omega
  · rw [IntKind.wrap_u64]; omega
  · rw [IntKind.wrap_u64, hfo]; omega
theorem tz64_ok (w0 : World) (ht : TzAt w0) (x : Nat) (hx : x < 18446744073709551616) (h0 : x ≠ 0) :
    Calls Tryz.prog 242 #[.int .u64 x] w0 (Post (X := Unit) (fun _ => .int .i64 (Lib.ctz 64 x : Nat)) (fun _ => True) (fun _ => []) w0) := by
  have hlow := Lib.lowest_bit 64 x h0 hx
  have hat := Lib.deBruijn64_at _ hlow.2
  have hcell := ht _ hat.1
  rw [hat.2] at hcell
  have hp := p40 hlow.2
  refine calls Tryz.func242 rfl (n := 14) rfl (by simp) ?_
  refine zr (za rfl (zn (TC.seq (zr (zm rfl (zq (PV.eqlK rfl rfl) rfl (zn (TC.cd rfl (fun h0_ => ?_) (fun h0_ => ?_)))))))))
  exact absurd h0_ (by omega)
  refine TC.skip (TQ.thenC (zr (zm rfl (zm rfl (zq (PV.negU rfl (tz_key hx h0)) rfl (zq (PV.andK rfl rfl ((u64_and hx om).trans (by rw [hlow.1]))) rfl ?_))))))
  refine zq (PV.mulU rfl rfl rfl) rfl (zq (PV.shrK rfl rfl dc dc rfl) rfl (zq (PV.indexArr rfl rfl arr_102 (tz_ix _) hat.1) rfl (zq (PV.loadOld rfl Tb.one_5 hcell) rfl (zq (PV.conv Tb.int_5 Tb.int_3 rfl (conv_i om)) rfl (za rfl (zt (TQ.retE1 rfl rfl ?_)))))))
  exact ⟨(), rfl, trivial, nils⟩
theorem tz_ok (w0 : World) (ht : TzAt w0) (x : Nat) (hx : x < 18446744073709551616) (h0 : x ≠ 0) :
    Calls Tryz.prog 225 #[.int .u64 x] w0 (Post (X := Unit) (fun _ => .int .i64 (Lib.ctz 64 x : Nat)) (fun _ => True) (fun _ => []) w0) := by
  refine calls Tryz.func225 rfl (n := 8) rfl (by simp) ?_
  refine zr (za rfl (zn (TC.seq (TC.condF rfl (TC.skip (TQ.thenC (zr (zm rfl (TL.call rfl Tb.gofn_242 (fun a w hs => tz64_ok w (ht.new hs.new) x hx h0) rfl dc (fun _ _ => ?_))))))))))
  refine za rfl (zt (TQ.retE1 rfl rfl ?_))
  exact ⟨(), rfl, trivial, nils⟩
theorem ones64_ok (w0 : World) (x : Nat) (hx : x < 18446744073709551616) :
    Calls Tryz.prog 255 #[.int .u64 x] w0 (Post (X := Unit) (fun _ => .int .i64 (Mo.pc x : Nat)) (fun _ => True) (fun _ => []) w0) := by
  have hf := ones_steps hx
  refine calls Tryz.func255 rfl (n := 35) rfl (by simp) ?_
  refine zr (za rfl (zk (zm rfl (zq (PV.shrK rfl rfl dc dc (nat_shr 1 x)) rfl (zq (PV.andK rfl rfl (u64_and om dc)) rfl (zm rfl (zq (PV.andK rfl rfl (u64_and hx dc)) rfl (zq (PV.addU rfl rfl hf.1) rfl (za rfl (zk (zm rfl (zq (PV.shrK rfl rfl dc dc (nat_shr 2 _)) rfl (zq (PV.andK rfl rfl (u64_and (by have := hf.2.1; omega) dc)) rfl ?_)))))))))))))
  refine zm rfl (zq (PV.andK rfl rfl (u64_and hf.2.1 dc)) rfl (zq (PV.addU rfl rfl hf.2.2.1) rfl (za rfl (zk (zm rfl (zq (PV.shrK rfl rfl dc dc (nat_shr 4 _)) rfl (zm rfl (zq (PV.addU rfl rfl hf.2.2.2.1) rfl (zq (PV.andK rfl rfl hf.2.2.2.2.1) rfl (za rfl (zk (zm rfl (zm rfl (zq (PV.shrK rfl rfl dc dc (nat_shr 8 _)) rfl (zq (PV.addU rfl rfl hf.2.2.2.2.2.1) rfl (za rfl (zk (zm rfl (zm rfl (zq (PV.shrK rfl rfl dc dc (nat_shr 16 _)) rfl (zq (PV.addU rfl rfl hf.2.2.2.2.2.2.1) rfl (za rfl (zk (zm rfl (zm rfl (zq (PV.shrK rfl rfl dc dc (nat_shr 32 _)) rfl (zq (PV.addU rfl rfl hf.2.2.2.2.2.2.2.1) rfl (za rfl (zk (zm rfl (zq (PV.conv Tb.int_231 Tb.int_3 rfl (conv_i (by have := hf.2.2.2.2.2.2.2.2.1; omega))) rfl ?_)))))))))))))))))))))))))))))))
  refine zq (PV.andK rfl rfl ((i64_and127 _).trans hf.2.2.2.2.2.2.2.2.2)) rfl (za rfl (zt (TQ.retE1 rfl rfl ?_)))
  exact ⟨(), rfl, trivial, nils⟩
theorem ones_ok (w0 : World) (x : Nat) (hx : x < 18446744073709551616) :
    Calls Tryz.prog 252 #[.int .u64 x] w0 (Post (X := Unit) (fun _ => .int .i64 (Mo.pc x : Nat)) (fun _ => True) (fun _ => []) w0) := by
  refine calls Tryz.func252 rfl (n := 8) rfl (by simp) ?_
  refine zr (za rfl (zn (TC.seq (TC.condF rfl (TC.skip (TQ.thenC (zr (zm rfl (TL.call rfl Tb.gofn_255 (fun a w hs => ones64_ok w x hx) rfl dc (fun _ _ => ?_))))))))))
  refine za rfl (zt (TQ.retE1 rfl rfl ?_))
  exact ⟨(), rfl, trivial, nils⟩
theorem count_ok (w0 : World) (x : Nat) (hx : x < 9223372036854775808) :
    Calls Tryz.prog 247 #[.int .i64 x] w0 (Post (X := Unit) (fun _ => .int .i64 (Mo.pc x : Nat)) (fun _ => True) (fun _ => []) w0) := by
  refine calls Tryz.func247 rfl (n := 6) rfl (by simp) ?_
  refine zr (za rfl (zk (zm rfl (zq (PV.conv Tb.int_3 Tb.int_55 rfl (conv_u om)) rfl (TL.call rfl Tb.gofn_252 (fun a w hs => ones_ok w x om) rfl dc (fun _ _ => ?_))))))
  refine za rfl (zt (TQ.retE1 rfl rfl ?_))
  exact ⟨(), rfl, trivial, nils⟩
theorem only_ok (w0 : World) (s : Nat) (hs4 : s ≤ 60) :
    Calls Tryz.prog 237 #[.int .i64 s] w0 (Post (X := Unit) (fun _ => .int .i64 (2 ^ s : Nat)) (fun _ => True) (fun _ => []) w0) := by
  refine calls Tryz.func237 rfl (n := 5) rfl (by simp) ?_
  refine zr (za rfl (zk (zm rfl (zq (PV.shlK rfl rfl om om (shl_nat hs4)) rfl (za rfl (zt (TQ.retE1 rfl rfl ?_)))))))
  exact ⟨(), rfl, trivial, nils⟩
theorem rHas_ok (w0 : World) (S s : Nat) (hS : S < 9223372036854775808) (hs4 : s ≤ 60) :
    Calls Tryz.prog 117 #[.int .i64 S, .int .i64 s] w0 (Post (X := Unit) (fun _ => .bool (S.testBit s)) (fun _ => True) (fun _ => []) w0) := by
  refine calls Tryz.func117 rfl (n := 11) rfl (by simp) ?_
  refine zr (za rfl (zk (zm rfl (zm rfl (zq (PV.conv Tb.int_3 Tb.int_55 rfl (conv_u om)) rfl (zq (PV.shrK rfl rfl om (by show (s : Int) ≤ 64; omega) (nat_shr _ S)) rfl ?_))))))
  refine zq (PV.andK rfl rfl rfl) rfl (zq (PV.eql rfl rfl) rfl (za rfl (zt (TQ.retE1 rfl rfl ?_))))
  exact ⟨(), congrArg Value.bool (Has_eq hS), trivial, nils⟩
theorem isWithin_ok (w0 : World) (x y : Int) :
    Calls Tryz.prog 138 #[.int .i64 x, .int .i64 y] w0 (Post (X := Unit) (fun _ => .bool (decide (1 ≤ x ∧ x ≤ y))) (fun _ => True) (fun _ => []) w0) := by
  refine calls Tryz.func138 rfl (n := 12) rfl (by simp) ?_
  refine zr (za rfl (zk (zm rfl (zq (PV.geq rfl rfl) rfl (zm rfl (TL.sp 7 rfl (fun h0 => ?_) (fun h0 => ?_)))))))
  refine zm rfl (zm rfl (zq (PV.leq rfl rfl) rfl (zq (PV.pickT rfl rfl) rfl (za rfl (zt (TQ.retE1 rfl rfl ?_))))))
  exact ⟨(), congrArg Value.bool (by first | (refine bF ?_; omega) | (refine bT ?_; omega) | (refine decide_eq_decide.2 ?_; omega)), trivial, nils⟩
  refine zx rfl (zx rfl (zx rfl (zq (PV.pickF rfl rfl) rfl (za rfl (zt (TQ.retE1 rfl rfl ?_))))))
  exact ⟨(), congrArg Value.bool (by first | (refine bF ?_; omega) | (refine bT ?_; omega) | (refine decide_eq_decide.2 ?_; omega)), trivial, nils⟩
theorem within_ok (w0 : World) (x lo y : Int) :
    Calls Tryz.prog 128 #[.int .i64 x, .int .i64 lo, .int .i64 y] w0 (Post (X := Unit) (fun _ => .bool (decide (lo ≤ x ∧ x ≤ y))) (fun _ => True) (fun _ => []) w0) := by
  refine calls Tryz.func128 rfl (n := 15) rfl (by simp) ?_
  refine zr (za rfl (zk (zm rfl (zm rfl (zq (PV.geq rfl rfl) rfl (zm rfl (TL.sp 10 rfl (fun h0 => ?_) (fun h0 => ?_))))))))
  refine zm rfl (zm rfl (zq (PV.leq rfl rfl) rfl (zq (PV.pickT rfl rfl) rfl (za rfl (zt (TQ.retE1 rfl rfl ?_))))))
  exact ⟨(), congrArg Value.bool (by first | (refine bF ?_; omega) | (refine bT ?_; omega) | (refine decide_eq_decide.2 ?_; omega)), trivial, nils⟩
  refine zx rfl (zx rfl (zx rfl (zq (PV.pickF rfl rfl) rfl (za rfl (zt (TQ.retE1 rfl rfl ?_))))))
  exact ⟨(), congrArg Value.bool (by first | (refine bF ?_; omega) | (refine bT ?_; omega) | (refine decide_eq_decide.2 ?_; omega)), trivial, nils⟩
theorem validate_ok (w0 : World) (r c k : Int) :
    Calls Tryz.prog 98 #[.agg #[.int .i64 r, .int .i64 c, .int .i64 k]] w0 (Post (X := Unit) (fun _ => .int .i64 (vI r c k)) (fun _ => True) (fun _ => []) w0) := by
  refine calls Tryz.func98 rfl (n := 19) rfl (by simp) ?_
  refine zr (TL.box rfl rfl dc (fun b0 hb0 => ?_))
  refine za rfl (zn (TC.seq (zr (zq (PV.fieldAddr rfl Tb.fo_52_0) rfl (zq (PV.load rfl Tb.one_3 m9z rfl) rfl ?_)))))
  refine TL.call rfl Tb.gofn_138 (fun a w hs => isWithin_ok w _ _) rfl dc (fun _ _ => ?_)
  refine zq ((by first | exact PV.notD rfl | exact PV.not rfl)) rfl ?_
  refine zm rfl (TL.sp 7 rfl (fun h0 => ?_) (fun h0 => ?_))
  refine zx rfl (zx rfl (zx rfl (zx rfl (zq (PV.pickT rfl rfl) rfl (zm rfl (zx rfl (zx rfl (zx rfl (zx rfl (zq (PV.pickT rfl rfl) rfl (zn (TC.condT rfl (zr (za rfl (zt (TQ.thenR (TQ.retE1 rfl rfl ?_)))))))))))))))))
  exact ⟨(), congrArg (Value.int .i64) (by first | (refine (vI_no fun h => ?_).symm; unfold vB at h; omega) | (refine (vI_yes ?_).symm; unfold vB; omega)), trivial, nils⟩
  refine zq (PV.fieldAddr rfl Tb.fo_52_1) rfl (zq (PV.load rfl Tb.one_3 m9z rfl) rfl ?_)
  refine TL.call rfl Tb.gofn_138 (fun a w hs => isWithin_ok w _ _) rfl dc (fun _ _ => ?_)
  refine zq ((by first | exact PV.notD rfl | exact PV.not rfl)) rfl ?_
  refine zq (PV.pickF rfl rfl) rfl (zm rfl (TL.sp 13 rfl (fun h1 => ?_) (fun h1 => ?_)))
  refine zx rfl (zx rfl (zx rfl (zx rfl (zq (PV.pickT rfl rfl) rfl (zn (TC.condT rfl (zr (za rfl (zt (TQ.thenR (TQ.retE1 rfl rfl ?_)))))))))))
  exact ⟨(), congrArg (Value.int .i64) (by first | (refine (vI_no fun h => ?_).symm; unfold vB at h; omega) | (refine (vI_yes ?_).symm; unfold vB; omega)), trivial, nils⟩
  refine zq (PV.fieldAddr rfl Tb.fo_52_2) rfl (zq (PV.load rfl Tb.one_3 m9z rfl) rfl ?_)
  refine TL.call rfl Tb.gofn_138 (fun a w hs => isWithin_ok w _ _) rfl dc (fun _ _ => ?_)
  refine zq ((by first | exact PV.notD rfl | exact PV.not rfl)) rfl ?_
  refine zq (PV.pickF rfl rfl) rfl (zn (TC.cd rfl (fun h2 => ?_) (fun h2 => ?_)))
  refine zr (za rfl (zt (TQ.thenR (TQ.retE1 rfl rfl ?_))))
  exact ⟨(), congrArg (Value.int .i64) (by first | (refine (vI_no fun h => ?_).symm; unfold vB at h; omega) | (refine (vI_yes ?_).symm; unfold vB; omega)), trivial, nils⟩
  refine TC.skip (TQ.thenC (zr (za rfl (zt (TQ.retE1 rfl rfl ?_)))))
  exact ⟨(), congrArg (Value.int .i64) (by first | (refine (vI_no fun h => ?_).symm; unfold vB at h; omega) | (refine (vI_yes ?_).symm; unfold vB; omega)), trivial, nils⟩
theorem rvalidate_ok (w0 : World) (r c k : Int) :
    Calls Tryz.prog 88 #[.agg #[.int .i64 r, .int .i64 c, .int .i64 k]] w0 (Post (X := Unit) (fun _ => .int .i64 (vI r c k)) (fun _ => True) (fun _ => []) w0) := by
  refine calls Tryz.func88 rfl (n := 19) rfl (by simp) ?_
  refine zr (TL.box rfl rfl dc (fun b0 hb0 => ?_))
  refine za rfl (zn (TC.seq (zr (zq (PV.fieldAddr rfl Tb.fo_52_0) rfl (zq (PV.load rfl Tb.one_3 m9z rfl) rfl ?_)))))
  refine TL.call rfl Tb.gofn_128 (fun a w hs => within_ok w _ _ _) rfl dc (fun _ _ => ?_)
  refine zq ((by first | exact PV.notD rfl | exact PV.not rfl)) rfl ?_
  refine zm rfl (TL.sp 7 rfl (fun h0 => ?_) (fun h0 => ?_))
  refine zx rfl (zx rfl (zx rfl (zx rfl (zq (PV.pickT rfl rfl) rfl (zm rfl (zx rfl (zx rfl (zx rfl (zx rfl (zq (PV.pickT rfl rfl) rfl (zn (TC.condT rfl (zr (za rfl (zt (TQ.thenR (TQ.retE1 rfl rfl ?_)))))))))))))))))
  exact ⟨(), congrArg (Value.int .i64) (by first | (refine (vI_no fun h => ?_).symm; unfold vB at h; omega) | (refine (vI_yes ?_).symm; unfold vB; omega)), trivial, nils⟩
  refine zq (PV.fieldAddr rfl Tb.fo_52_1) rfl (zq (PV.load rfl Tb.one_3 m9z rfl) rfl ?_)
  refine TL.call rfl Tb.gofn_128 (fun a w hs => within_ok w _ _ _) rfl dc (fun _ _ => ?_)
  refine zq ((by first | exact PV.notD rfl | exact PV.not rfl)) rfl ?_
  refine zq (PV.pickF rfl rfl) rfl (zm rfl (TL.sp 13 rfl (fun h1 => ?_) (fun h1 => ?_)))
  refine zx rfl (zx rfl (zx rfl (zx rfl (zq (PV.pickT rfl rfl) rfl (zn (TC.condT rfl (zr (za rfl (zt (TQ.thenR (TQ.retE1 rfl rfl ?_)))))))))))
  exact ⟨(), congrArg (Value.int .i64) (by first | (refine (vI_no fun h => ?_).symm; unfold vB at h; omega) | (refine (vI_yes ?_).symm; unfold vB; omega)), trivial, nils⟩
  refine zq (PV.fieldAddr rfl Tb.fo_52_2) rfl (zq (PV.load rfl Tb.one_3 m9z rfl) rfl ?_)
  refine TL.call rfl Tb.gofn_128 (fun a w hs => within_ok w _ _ _) rfl dc (fun _ _ => ?_)
  refine zq ((by first | exact PV.notD rfl | exact PV.not rfl)) rfl ?_
  refine zq (PV.pickF rfl rfl) rfl (zn (TC.cd rfl (fun h2 => ?_) (fun h2 => ?_)))
  refine zr (za rfl (zt (TQ.thenR (TQ.retE1 rfl rfl ?_))))
  exact ⟨(), congrArg (Value.int .i64) (by first | (refine (vI_no fun h => ?_).symm; unfold vB at h; omega) | (refine (vI_yes ?_).symm; unfold vB; omega)), trivial, nils⟩
  refine TC.skip (TQ.thenC (zr (za rfl (zt (TQ.retE1 rfl rfl ?_)))))
  exact ⟨(), congrArg (Value.int .i64) (by first | (refine (vI_no fun h => ?_).symm; unfold vB at h; omega) | (refine (vI_yes ?_).symm; unfold vB; omega)), trivial, nils⟩
theorem rsquares_ok (w0 : World) (m : Mo.Md) (ho : Mo.Ok m) :
    Calls Tryz.prog 191 #[mV m] w0 (Post (X := Unit) (fun _ => .int .i64 (m.N : Nat)) (fun _ => True) (fun _ => []) w0) := by
  have hN := ho.N36
  have hRC : (m.R : Int) * m.C = ((m.N : Nat) : Int) := (Int.natCast_mul _ _).symm
  refine calls Tryz.func191 rfl (n := 8) rfl (by simp) ?_
  refine zr (TL.box rfl rfl dc (fun b0 hb0 => ?_))
  refine za rfl (zk (zq (PV.fieldAddr rfl Tb.fo_52_0) rfl (zq (PV.load rfl Tb.one_3 m9z rfl) rfl ?_)))
  refine zq (PV.fieldAddr rfl Tb.fo_52_1) rfl (zq (PV.load rfl Tb.one_3 m9z rfl) rfl ?_)
  refine zq (PV.mul rfl rfl om) rfl (za rfl (zt (TQ.retE1 rfl rfl ?_)))
  exact ⟨(), congrArg (Value.int .i64) hRC, trivial, nils⟩
theorem all_ok (w0 : World) (m : Mo.Md) (ho : Mo.Ok m) :
    Calls Tryz.prog 234 #[mV m] w0 (Post (X := Unit) (fun _ => .int .i64 (Mo.full m : Nat)) (fun _ => True) (fun _ => []) w0) := by
  have hN := ho.N36
  have hRC : (m.R : Int) * m.C = ((m.N : Nat) : Int) := (Int.natCast_mul _ _).symm
  have h40 := N40 ho
  have h1p := Nat.two_pow_pos m.N
  refine calls Tryz.func234 rfl (n := 10) rfl (by simp) ?_
  refine zr (TL.box rfl rfl dc (fun b0 hb0 => ?_))
  refine za rfl (zk (zq (PV.fieldAddr rfl Tb.fo_52_0) rfl (zq (PV.load rfl Tb.one_3 m9z rfl) rfl ?_)))
  refine zq (PV.fieldAddr rfl Tb.fo_52_1) rfl (zq (PV.load rfl Tb.one_3 m9z rfl) rfl ?_)
  refine zq (PV.mul rfl rfl om) rfl (zq (PV.shlK rfl rfl om om ((congrArg (fun z : Int => IntKind.i64.wrap (1 * 2 ^ z.toNat)) hRC).trans (shl_nat om))) rfl ?_)
  refine zq (PV.sub rfl rfl om) rfl (za rfl (zt (TQ.retE1 rfl rfl ?_)))
  exact ⟨(), congrArg (Value.int .i64) (by unfold Mo.full; omega), trivial, nils⟩
theorem rfull_ok (w0 : World) (m : Mo.Md) (ho : Mo.Ok m) :
    Calls Tryz.prog 190 #[mV m] w0 (Post (X := Unit) (fun _ => .int .i64 (Mo.full m : Nat)) (fun _ => True) (fun _ => []) w0) := by
  have hN := ho.N36
  have h40 := N40 ho
  have h1p := Nat.two_pow_pos m.N
  refine calls Tryz.func190 rfl (n := 8) rfl (by simp) ?_
  refine zr (TL.box rfl rfl dc (fun b0 hb0 => ?_))
  refine za rfl (zk (zq (PV.loadBox rfl Tb.agg_52 m9z rfl) rfl ?_))
  refine TL.call rfl Tb.gofn_191 (fun a w hs => rsquares_ok w m ho) rfl dc (fun _ _ => ?_)
  refine zq (PV.conv Tb.int_3 Tb.int_55 rfl (conv_u om)) rfl (zq (PV.shlK rfl rfl om om (shl_nat om)) rfl (zq (PV.sub rfl rfl om) rfl (za rfl (zt (TQ.retE1 rfl rfl ?_)))))
  exact ⟨(), congrArg (Value.int .i64) (by unfold Mo.full; omega), trivial, nils⟩
end Go.Proofs.YtbnjmkidbfmomaaGreatDoor.M
namespace Go.Proofs
open Go.Shelf
def Tryz.itoaS_ren : Go.Shelf.Ren := ⟨fun | 171 => 78 | 243 => 122 | 246 => 165 | 283 => 194 | 284 => 195 | 285 => 196 | 286 => 197 | 129 => 222 | 317 => 221 | 318 => 223 | 319 => 224 | 320 => 225 | 337 => 241 | 338 => 242 | n => n, fun | 3 => 3 | 9 => 9 | 2 => 2 | 4 => 4 | 171 => 230 | 0 => 0 | 53 => 231 | 37 => 234 | 5 => 5 | 173 => 235 | 212 => 258 | 51 => 93 | 20 => 20 | 213 => 259 | 46 => 55 | 232 => 285 | 233 => 286 | n => n, fun | 17 => 2 | 18 => 5 | 19 => 6 | n => n⟩
theorem Tryz.itoaS : Go.Proofs.LaysM.n171 Tryz.prog Tryz.itoaS_ren := {
  mixed := by kernel_rfl
  f129 := Tryz.func222.trans (congrArg some (by kernel_rfl))
  f171 := Tryz.func78.trans (congrArg some (by kernel_rfl))
  f243 := Tryz.func122.trans (congrArg some (by kernel_rfl))
  f246 := Tryz.func165.trans (congrArg some (by kernel_rfl))
  f283 := Tryz.func194.trans (congrArg some (by kernel_rfl))
  f284 := Tryz.func195.trans (congrArg some (by kernel_rfl))
  f285 := Tryz.func196.trans (congrArg some (by kernel_rfl))
  f286 := Tryz.func197.trans (congrArg some (by kernel_rfl))
  f317 := Tryz.func221.trans (congrArg some (by kernel_rfl))
  f318 := Tryz.func223.trans (congrArg some (by kernel_rfl))
  f319 := Tryz.func224.trans (congrArg some (by kernel_rfl))
  f320 := Tryz.func225.trans (congrArg some (by kernel_rfl))
  f337 := Tryz.func241.trans (congrArg some (by kernel_rfl))
  f338 := Tryz.func242.trans (congrArg some (by kernel_rfl))
  t0 := Tryz.underlying0
  a0 := Tryz.isAgg0
  z0 := Tryz.sizeOf0
  v0 := Tryz.zeroValue0
  t2 := Tryz.underlying2
  a2 := Tryz.isAgg2
  z2 := Tryz.sizeOf2
  v2 := Tryz.zeroValue2
  t3 := Tryz.underlying3
  a3 := Tryz.isAgg3
  z3 := Tryz.sizeOf3
  v3 := Tryz.zeroValue3
  t4 := Tryz.underlying4
  a4 := Tryz.isAgg4
  z4 := Tryz.sizeOf4
  v4 := Tryz.zeroValue4
  t5 := Tryz.underlying5
  a5 := Tryz.isAgg5
  z5 := Tryz.sizeOf5
  v5 := Tryz.zeroValue5
  t9 := Tryz.underlying9
  a9 := Tryz.isAgg9
  z9 := Tryz.sizeOf9
  v9 := Tryz.zeroValue9
  t20 := Tryz.underlying20
  a20 := Tryz.isAgg20
  z20 := Tryz.sizeOf20
  v20 := Tryz.zeroValue20
  t37 := Tryz.underlying234
  a37 := Tryz.isAgg234
  z37 := Tryz.sizeOf234
  v37 := Tryz.zeroValue234
  t46 := Tryz.underlying55
  a46 := Tryz.isAgg55
  z46 := Tryz.sizeOf55
  v46 := Tryz.zeroValue55
  t51 := Tryz.underlying93
  a51 := Tryz.isAgg93
  z51 := Tryz.sizeOf93
  v51 := Tryz.zeroValue93
  t53 := Tryz.underlying231
  a53 := Tryz.isAgg231
  z53 := Tryz.sizeOf231
  v53 := Tryz.zeroValue231
  t171 := Tryz.underlying230
  a171 := Tryz.isAgg230
  z171 := Tryz.sizeOf230
  v171 := Tryz.zeroValue230
  t173 := Tryz.underlying235
  a173 := Tryz.isAgg235
  z173 := Tryz.sizeOf235
  v173 := Tryz.zeroValue235
  t212 := Tryz.underlying258
  a212 := Tryz.isAgg258
  z212 := Tryz.sizeOf258
  v212 := Tryz.zeroValue258
  t213 := Tryz.underlying259
  a213 := Tryz.isAgg259
  z213 := Tryz.sizeOf259
  t232 := Tryz.underlying285
  a232 := Tryz.isAgg285
  z232 := Tryz.sizeOf285
  v232 := Tryz.zeroValue285
  t233 := Tryz.underlying286
  a233 := Tryz.isAgg286
  z233 := Tryz.sizeOf286
  v233 := Tryz.zeroValue286
  g17 := by kernel_rfl
  g18 := by kernel_rfl
  g19 := by kernel_rfl
  i0 := by kernel_rfl
  i2 := by kernel_rfl
  i3 := by kernel_rfl
  i4 := by kernel_rfl
  i5 := by kernel_rfl
  i9 := by kernel_rfl
  i20 := by kernel_rfl
  i37 := by kernel_rfl
  i46 := by kernel_rfl
  i51 := by kernel_rfl
  i53 := by kernel_rfl
  i171 := by kernel_rfl
  i173 := by kernel_rfl
  i212 := by kernel_rfl
  i232 := by kernel_rfl
  i233 := by kernel_rfl
  m17 := by kernel_rfl
  m18 := by kernel_rfl
  m19 := by kernel_rfl }
def Tryz.cutS_ren : Go.Shelf.Ren := ⟨fun | 145 => 79 | 220 => 123 | 219 => 166 | 217 => 198 | 225 => 199 | 224 => 200 | 267 => 201 | 266 => 226 | 314 => 227 | n => n, fun | 9 => 9 | 4 => 4 | 59 => 126 | 3 => 3 | 5 => 5 | 46 => 55 | 146 => 261 | 51 => 93 | n => n, fun | 1 => 1 | n => n⟩
theorem Tryz.cutS : Go.Proofs.LaysM.n145 Tryz.prog Tryz.cutS_ren := {
  mixed := by kernel_rfl
  f145 := Tryz.func79.trans (congrArg some (by kernel_rfl))
  f217 := Tryz.func198.trans (congrArg some (by kernel_rfl))
  f219 := Tryz.func166.trans (congrArg some (by kernel_rfl))
  f220 := Tryz.func123.trans (congrArg some (by kernel_rfl))
  f224 := Tryz.func200.trans (congrArg some (by kernel_rfl))
  f225 := Tryz.func199.trans (congrArg some (by kernel_rfl))
  f266 := Tryz.func226.trans (congrArg some (by kernel_rfl))
  f267 := Tryz.func201.trans (congrArg some (by kernel_rfl))
  f314 := Tryz.func227.trans (congrArg some (by kernel_rfl))
  t3 := Tryz.underlying3
  a3 := Tryz.isAgg3
  z3 := Tryz.sizeOf3
  v3 := Tryz.zeroValue3
  t4 := Tryz.underlying4
  a4 := Tryz.isAgg4
  z4 := Tryz.sizeOf4
  v4 := Tryz.zeroValue4
  t5 := Tryz.underlying5
  a5 := Tryz.isAgg5
  z5 := Tryz.sizeOf5
  v5 := Tryz.zeroValue5
  t9 := Tryz.underlying9
  a9 := Tryz.isAgg9
  z9 := Tryz.sizeOf9
  v9 := Tryz.zeroValue9
  t46 := Tryz.underlying55
  a46 := Tryz.isAgg55
  z46 := Tryz.sizeOf55
  v46 := Tryz.zeroValue55
  t51 := Tryz.underlying93
  a51 := Tryz.isAgg93
  z51 := Tryz.sizeOf93
  v51 := Tryz.zeroValue93
  t59 := Tryz.underlying126
  a59 := Tryz.isAgg126
  z59 := Tryz.sizeOf126
  v59 := Tryz.zeroValue126
  t146 := Tryz.underlying261
  a146 := Tryz.isAgg261
  z146 := Tryz.sizeOf261
  v146 := Tryz.zeroValue261
  g1 := by kernel_rfl
  i3 := by kernel_rfl
  i4 := by kernel_rfl
  i5 := by kernel_rfl
  i9 := by kernel_rfl
  i46 := by kernel_rfl
  i51 := by kernel_rfl
  i59 := by kernel_rfl
  i146 := by kernel_rfl
  m1 := by kernel_rfl
  s1_3 := fun w h => Go.Proofs.cell_of_shapedOpen_int (zero := #[.int .i64 0]) (t := 3) h (of_decide_eq_true (by kernel_rfl)) (by kernel_rfl) rfl (by kernel_rfl) (by kernel_rfl) Tryz.underlying3 }
def Tryz.splitS_ren : Go.Shelf.Ren := ⟨fun | 146 => 147 | 221 => 180 | 268 => 204 | 138 => 205 | 143 => 167 | 195 => 228 | 197 => 229 | 218 => 230 | 219 => 166 | 260 => 243 | 217 => 198 | 225 => 199 | 224 => 200 | 267 => 201 | 266 => 226 | 314 => 227 | n => n, fun | 9 => 9 | 31 => 43 | 3 => 3 | 4 => 4 | 0 => 0 | 105 => 263 | 21 => 21 | 5 => 5 | 46 => 55 | 119 => 287 | 139 => 290 | 138 => 289 | 146 => 261 | 51 => 93 | n => n, fun | 1 => 1 | 3 => 7 | 4 => 8 | n => n⟩
theorem Tryz.splitS : Go.Proofs.LaysM.n146 Tryz.prog Tryz.splitS_ren := {
  mixed := by kernel_rfl
  f138 := Tryz.func205.trans (congrArg some (by kernel_rfl))
  f143 := Tryz.func167.trans (congrArg some (by kernel_rfl))
  f146 := Tryz.func147.trans (congrArg some (by kernel_rfl))
  f195 := Tryz.func228.trans (congrArg some (by kernel_rfl))
  f197 := Tryz.func229.trans (congrArg some (by kernel_rfl))
  f217 := Tryz.func198.trans (congrArg some (by kernel_rfl))
  f218 := Tryz.func230.trans (congrArg some (by kernel_rfl))
  f219 := Tryz.func166.trans (congrArg some (by kernel_rfl))
  f221 := Tryz.func180.trans (congrArg some (by kernel_rfl))
  f224 := Tryz.func200.trans (congrArg some (by kernel_rfl))
  f225 := Tryz.func199.trans (congrArg some (by kernel_rfl))
  f260 := Tryz.func243.trans (congrArg some (by kernel_rfl))
  f266 := Tryz.func226.trans (congrArg some (by kernel_rfl))
  f267 := Tryz.func201.trans (congrArg some (by kernel_rfl))
  f268 := Tryz.func204.trans (congrArg some (by kernel_rfl))
  f314 := Tryz.func227.trans (congrArg some (by kernel_rfl))
  t0 := Tryz.underlying0
  a0 := Tryz.isAgg0
  z0 := Tryz.sizeOf0
  v0 := Tryz.zeroValue0
  t3 := Tryz.underlying3
  a3 := Tryz.isAgg3
  z3 := Tryz.sizeOf3
  v3 := Tryz.zeroValue3
  t4 := Tryz.underlying4
  a4 := Tryz.isAgg4
  z4 := Tryz.sizeOf4
  v4 := Tryz.zeroValue4
  t5 := Tryz.underlying5
  a5 := Tryz.isAgg5
  z5 := Tryz.sizeOf5
  v5 := Tryz.zeroValue5
  t9 := Tryz.underlying9
  a9 := Tryz.isAgg9
  z9 := Tryz.sizeOf9
  v9 := Tryz.zeroValue9
  t21 := Tryz.underlying21
  a21 := Tryz.isAgg21
  z21 := Tryz.sizeOf21
  v21 := Tryz.zeroValue21
  t31 := Tryz.underlying43
  a31 := Tryz.isAgg43
  z31 := Tryz.sizeOf43
  v31 := Tryz.zeroValue43
  t46 := Tryz.underlying55
  a46 := Tryz.isAgg55
  z46 := Tryz.sizeOf55
  v46 := Tryz.zeroValue55
  t51 := Tryz.underlying93
  a51 := Tryz.isAgg93
  z51 := Tryz.sizeOf93
  v51 := Tryz.zeroValue93
  t105 := Tryz.underlying263
  a105 := Tryz.isAgg263
  z105 := Tryz.sizeOf263
  v105 := Tryz.zeroValue263
  t119 := Tryz.underlying287
  a119 := Tryz.isAgg287
  z119 := Tryz.sizeOf287
  t138 := Tryz.underlying289
  a138 := Tryz.isAgg289
  z138 := Tryz.sizeOf289
  v138 := Tryz.zeroValue289
  t139 := Tryz.underlying290
  a139 := Tryz.isAgg290
  z139 := Tryz.sizeOf290
  v139 := Tryz.zeroValue290
  t146 := Tryz.underlying261
  a146 := Tryz.isAgg261
  z146 := Tryz.sizeOf261
  v146 := Tryz.zeroValue261
  g1 := by kernel_rfl
  g3 := by kernel_rfl
  g4 := by kernel_rfl
  i0 := by kernel_rfl
  i3 := by kernel_rfl
  i4 := by kernel_rfl
  i5 := by kernel_rfl
  i9 := by kernel_rfl
  i21 := by kernel_rfl
  i31 := by kernel_rfl
  i46 := by kernel_rfl
  i51 := by kernel_rfl
  i105 := by kernel_rfl
  i138 := by kernel_rfl
  i139 := by kernel_rfl
  i146 := by kernel_rfl
  m1 := by kernel_rfl
  s1_3 := fun w h => Go.Proofs.cell_of_shapedOpen_int (zero := #[.int .i64 0]) (t := 3) h (of_decide_eq_true (by kernel_rfl)) (by kernel_rfl) rfl (by kernel_rfl) (by kernel_rfl) Tryz.underlying3
  m3 := by kernel_rfl
  m4 := by kernel_rfl }
def Tryz.cutPS_ren : Go.Shelf.Ren := ⟨fun | 103 => 81 | 210 => 125 | 206 => 168 | n => n, fun | 9 => 9 | 4 => 4 | 24 => 129 | 3 => 3 | n => n, fun | n => n⟩
theorem Tryz.cutPS : Go.Proofs.LaysM.n103 Tryz.prog Tryz.cutPS_ren := {
  mixed := by kernel_rfl
  f103 := Tryz.func81.trans (congrArg some (by kernel_rfl))
  f206 := Tryz.func168.trans (congrArg some (by kernel_rfl))
  f210 := Tryz.func125.trans (congrArg some (by kernel_rfl))
  t3 := Tryz.underlying3
  a3 := Tryz.isAgg3
  z3 := Tryz.sizeOf3
  v3 := Tryz.zeroValue3
  t4 := Tryz.underlying4
  a4 := Tryz.isAgg4
  z4 := Tryz.sizeOf4
  v4 := Tryz.zeroValue4
  t9 := Tryz.underlying9
  a9 := Tryz.isAgg9
  z9 := Tryz.sizeOf9
  v9 := Tryz.zeroValue9
  t24 := Tryz.underlying129
  a24 := Tryz.isAgg129
  z24 := Tryz.sizeOf129
  v24 := Tryz.zeroValue129
  i3 := by kernel_rfl
  i4 := by kernel_rfl
  i9 := by kernel_rfl
  i24 := by kernel_rfl }
def Tryz.contS_ren : Go.Shelf.Ren := ⟨fun | 144 => 124 | 143 => 167 | 219 => 166 | 217 => 198 | 225 => 199 | 224 => 200 | 267 => 201 | 266 => 226 | 314 => 227 | n => n, fun | 9 => 9 | 4 => 4 | 3 => 3 | 5 => 5 | 46 => 55 | 146 => 261 | 51 => 93 | n => n, fun | 1 => 1 | n => n⟩
theorem Tryz.contS : Go.Proofs.LaysM.n144 Tryz.prog Tryz.contS_ren := {
  mixed := by kernel_rfl
  f143 := Tryz.func167.trans (congrArg some (by kernel_rfl))
  f144 := Tryz.func124.trans (congrArg some (by kernel_rfl))
  f217 := Tryz.func198.trans (congrArg some (by kernel_rfl))
  f219 := Tryz.func166.trans (congrArg some (by kernel_rfl))
  f224 := Tryz.func200.trans (congrArg some (by kernel_rfl))
  f225 := Tryz.func199.trans (congrArg some (by kernel_rfl))
  f266 := Tryz.func226.trans (congrArg some (by kernel_rfl))
  f267 := Tryz.func201.trans (congrArg some (by kernel_rfl))
  f314 := Tryz.func227.trans (congrArg some (by kernel_rfl))
  t3 := Tryz.underlying3
  a3 := Tryz.isAgg3
  z3 := Tryz.sizeOf3
  v3 := Tryz.zeroValue3
  t4 := Tryz.underlying4
  a4 := Tryz.isAgg4
  z4 := Tryz.sizeOf4
  v4 := Tryz.zeroValue4
  t5 := Tryz.underlying5
  a5 := Tryz.isAgg5
  z5 := Tryz.sizeOf5
  v5 := Tryz.zeroValue5
  t9 := Tryz.underlying9
  a9 := Tryz.isAgg9
  z9 := Tryz.sizeOf9
  v9 := Tryz.zeroValue9
  t46 := Tryz.underlying55
  a46 := Tryz.isAgg55
  z46 := Tryz.sizeOf55
  v46 := Tryz.zeroValue55
  t51 := Tryz.underlying93
  a51 := Tryz.isAgg93
  z51 := Tryz.sizeOf93
  v51 := Tryz.zeroValue93
  t146 := Tryz.underlying261
  a146 := Tryz.isAgg261
  z146 := Tryz.sizeOf261
  v146 := Tryz.zeroValue261
  g1 := by kernel_rfl
  i3 := by kernel_rfl
  i4 := by kernel_rfl
  i5 := by kernel_rfl
  i9 := by kernel_rfl
  i46 := by kernel_rfl
  i51 := by kernel_rfl
  i146 := by kernel_rfl
  m1 := by kernel_rfl
  s1_3 := fun w h => Go.Proofs.cell_of_shapedOpen_int (zero := #[.int .i64 0]) (t := 3) h (of_decide_eq_true (by kernel_rfl)) (by kernel_rfl) rfl (by kernel_rfl) (by kernel_rfl) Tryz.underlying3 }
def Tryz.atoiS_ren : Go.Shelf.Ren := ⟨fun | 172 => 149 | 244 => 181 | 245 => 182 | 247 => 206 | 279 => 207 | 280 => 208 | 281 => 209 | 282 => 210 | 287 => 231 | 316 => 232 | 171 => 78 | 205 => 233 | 321 => 244 | 322 => 245 | 243 => 122 | 246 => 165 | 283 => 194 | 284 => 195 | 285 => 196 | 286 => 197 | 129 => 222 | 317 => 221 | 318 => 223 | 319 => 224 | 320 => 225 | 337 => 241 | 338 => 242 | n => n, fun | 9 => 9 | 3 => 3 | 75 => 105 | 76 => 190 | 4 => 4 | 5 => 5 | 167 => 242 | 37 => 234 | 0 => 0 | 85 => 243 | 2 => 2 | 168 => 245 | 53 => 231 | 175 => 265 | 46 => 55 | 210 => 269 | 127 => 279 | 145 => 282 | 143 => 280 | 21 => 21 | 171 => 230 | 173 => 235 | 212 => 258 | 51 => 93 | 20 => 20 | 213 => 259 | 232 => 285 | 233 => 286 | 80 => 36 | n => n, fun | 15 => 3 | 16 => 4 | 17 => 2 | 18 => 5 | 19 => 6 | n => n⟩
theorem Tryz.atoiS : Go.Proofs.LaysC.n172 Tryz.prog Tryz.atoiS_ren := {
  mixed := by kernel_rfl
  f129 := Tryz.func222.trans (congrArg some (by kernel_rfl))
  f171 := Tryz.func78.trans (congrArg some (by kernel_rfl))
  f172 := Tryz.func149.trans (congrArg some (by kernel_rfl))
  f205 := Tryz.func233.trans (congrArg some (by kernel_rfl))
  f243 := Tryz.func122.trans (congrArg some (by kernel_rfl))
  f244 := Tryz.func181.trans (congrArg some (by kernel_rfl))
  f245 := Tryz.func182.trans (congrArg some (by kernel_rfl))
  f246 := Tryz.func165.trans (congrArg some (by kernel_rfl))
  f247 := Tryz.func206.trans (congrArg some (by kernel_rfl))
  f279 := Tryz.func207.trans (congrArg some (by kernel_rfl))
  f280 := Tryz.func208.trans (congrArg some (by kernel_rfl))
  f281 := Tryz.func209.trans (congrArg some (by kernel_rfl))
  f282 := Tryz.func210.trans (congrArg some (by kernel_rfl))
  f283 := Tryz.func194.trans (congrArg some (by kernel_rfl))
  f284 := Tryz.func195.trans (congrArg some (by kernel_rfl))
  f285 := Tryz.func196.trans (congrArg some (by kernel_rfl))
  f286 := Tryz.func197.trans (congrArg some (by kernel_rfl))
  f287 := Tryz.func231.trans (congrArg some (by kernel_rfl))
  f316 := Tryz.func232.trans (congrArg some (by kernel_rfl))
  f317 := Tryz.func221.trans (congrArg some (by kernel_rfl))
  f318 := Tryz.func223.trans (congrArg some (by kernel_rfl))
  f319 := Tryz.func224.trans (congrArg some (by kernel_rfl))
  f320 := Tryz.func225.trans (congrArg some (by kernel_rfl))
  f321 := Tryz.func244.trans (congrArg some (by kernel_rfl))
  f322 := Tryz.func245.trans (congrArg some (by kernel_rfl))
  f337 := Tryz.func241.trans (congrArg some (by kernel_rfl))
  f338 := Tryz.func242.trans (congrArg some (by kernel_rfl))
  t0 := Tryz.underlying0
  a0 := Tryz.isAgg0
  z0 := Tryz.sizeOf0
  v0 := Tryz.zeroValue0
  t2 := Tryz.underlying2
  a2 := Tryz.isAgg2
  z2 := Tryz.sizeOf2
  v2 := Tryz.zeroValue2
  t3 := Tryz.underlying3
  a3 := Tryz.isAgg3
  z3 := Tryz.sizeOf3
  v3 := Tryz.zeroValue3
  t4 := Tryz.underlying4
  a4 := Tryz.isAgg4
  z4 := Tryz.sizeOf4
  v4 := Tryz.zeroValue4
  t5 := Tryz.underlying5
  a5 := Tryz.isAgg5
  z5 := Tryz.sizeOf5
  v5 := Tryz.zeroValue5
  t9 := Tryz.underlying9
  a9 := Tryz.isAgg9
  z9 := Tryz.sizeOf9
  v9 := Tryz.zeroValue9
  t20 := Tryz.underlying20
  a20 := Tryz.isAgg20
  z20 := Tryz.sizeOf20
  v20 := Tryz.zeroValue20
  t21 := Tryz.underlying21
  a21 := Tryz.isAgg21
  z21 := Tryz.sizeOf21
  v21 := Tryz.zeroValue21
  t37 := Tryz.underlying234
  a37 := Tryz.isAgg234
  z37 := Tryz.sizeOf234
  v37 := Tryz.zeroValue234
  t46 := Tryz.underlying55
  a46 := Tryz.isAgg55
  z46 := Tryz.sizeOf55
  v46 := Tryz.zeroValue55
  t51 := Tryz.underlying93
  a51 := Tryz.isAgg93
  z51 := Tryz.sizeOf93
  v51 := Tryz.zeroValue93
  t53 := Tryz.underlying231
  a53 := Tryz.isAgg231
  z53 := Tryz.sizeOf231
  v53 := Tryz.zeroValue231
  t75 := Tryz.underlying105
  a75 := Tryz.isAgg105
  z75 := Tryz.sizeOf105
  v75 := Tryz.zeroValue105
  t76 := Tryz.underlying190
  a76 := Tryz.isAgg190
  z76 := Tryz.sizeOf190
  v76 := Tryz.zeroValue190
  t85 := Tryz.underlying243
  a85 := Tryz.isAgg243
  z85 := Tryz.sizeOf243
  v85 := Tryz.zeroValue243
  t127 := Tryz.underlying279
  a127 := Tryz.isAgg279
  z127 := Tryz.sizeOf279
  v127 := Tryz.zeroValue279
  t143 := Tryz.underlying280
  a143 := Tryz.isAgg280
  z143 := Tryz.sizeOf280
  v143 := Tryz.zeroValue280
  t145 := Tryz.underlying282
  a145 := Tryz.isAgg282
  z145 := Tryz.sizeOf282
  v145 := Tryz.zeroValue282
  t167 := Tryz.underlying242
  a167 := Tryz.isAgg242
  z167 := Tryz.sizeOf242
  v167 := Tryz.zeroValue242
  t168 := Tryz.underlying245
  a168 := Tryz.isAgg245
  z168 := Tryz.sizeOf245
  v168 := Tryz.zeroValue245
  t171 := Tryz.underlying230
  a171 := Tryz.isAgg230
  z171 := Tryz.sizeOf230
  v171 := Tryz.zeroValue230
  t173 := Tryz.underlying235
  a173 := Tryz.isAgg235
  z173 := Tryz.sizeOf235
  v173 := Tryz.zeroValue235
  t175 := Tryz.underlying265
  a175 := Tryz.isAgg265
  z175 := Tryz.sizeOf265
  v175 := Tryz.zeroValue265
  t210 := Tryz.underlying269
  a210 := Tryz.isAgg269
  z210 := Tryz.sizeOf269
  v210 := Tryz.zeroValue269
  t212 := Tryz.underlying258
  a212 := Tryz.isAgg258
  z212 := Tryz.sizeOf258
  v212 := Tryz.zeroValue258
  t213 := Tryz.underlying259
  a213 := Tryz.isAgg259
  z213 := Tryz.sizeOf259
  t232 := Tryz.underlying285
  a232 := Tryz.isAgg285
  z232 := Tryz.sizeOf285
  v232 := Tryz.zeroValue285
  t233 := Tryz.underlying286
  a233 := Tryz.isAgg286
  z233 := Tryz.sizeOf286
  v233 := Tryz.zeroValue286
  g15 := by kernel_rfl
  g16 := by kernel_rfl
  g17 := by kernel_rfl
  g18 := by kernel_rfl
  g19 := by kernel_rfl
  t80 := Tryz.underlying36
  a80 := Tryz.isAgg36
  z80 := Tryz.sizeOf36
  v80 := Tryz.zeroValue36
  i0 := by kernel_rfl
  i2 := by kernel_rfl
  i3 := by kernel_rfl
  i4 := by kernel_rfl
  i5 := by kernel_rfl
  i9 := by kernel_rfl
  i20 := by kernel_rfl
  i21 := by kernel_rfl
  i37 := by kernel_rfl
  i46 := by kernel_rfl
  i51 := by kernel_rfl
  i53 := by kernel_rfl
  i75 := by kernel_rfl
  i76 := by kernel_rfl
  i80 := by kernel_rfl
  i85 := by kernel_rfl
  i127 := by kernel_rfl
  i143 := by kernel_rfl
  i145 := by kernel_rfl
  i167 := by kernel_rfl
  i168 := by kernel_rfl
  i171 := by kernel_rfl
  i173 := by kernel_rfl
  i175 := by kernel_rfl
  i210 := by kernel_rfl
  i212 := by kernel_rfl
  i232 := by kernel_rfl
  i233 := by kernel_rfl
  m15 := by kernel_rfl
  m16 := by kernel_rfl
  m17 := by kernel_rfl
  m18 := by kernel_rfl
  m19 := by kernel_rfl
  c0 := by kernel_rfl
  c2 := by kernel_rfl
  c3 := by kernel_rfl
  c4 := by kernel_rfl
  c5 := by kernel_rfl
  c9 := by kernel_rfl
  c20 := by kernel_rfl
  c21 := by kernel_rfl
  c37 := by kernel_rfl
  c46 := by kernel_rfl
  c51 := by kernel_rfl
  c53 := by kernel_rfl
  c75 := by kernel_rfl
  c76 := by kernel_rfl
  c80 := by kernel_rfl
  c85 := by kernel_rfl
  c127 := by kernel_rfl
  c143 := by kernel_rfl
  c145 := by kernel_rfl
  c167 := by kernel_rfl
  c168 := by kernel_rfl
  c171 := by kernel_rfl
  c173 := by kernel_rfl
  c175 := by kernel_rfl
  c210 := by kernel_rfl
  c212 := by kernel_rfl
  c213 := by kernel_rfl
  c232 := by kernel_rfl
  c233 := by kernel_rfl }
end Go.Proofs
