/- Pe Qa Bl Qb -/
import Derived.Test.YtbnjmkidbfmomaaGreatDoorW04
import Derived.Test.YtbnjmkidbfmomaaGreatDoorW05
import Derived.Test.YtbnjmkidbfmomaaGreatDoorW06
import Derived.Laws.BitsAllLaws
import Derived.Laws.Bits128
set_option linter.unusedVariables false
set_option linter.unusedSimpArgs false
set_option maxRecDepth 100000
namespace Go.Mo
def m1 : Nat → Nat | 0 => 0 | k + 1 => 256 * m1 k + 85
def m2 : Nat → Nat | 0 => 0 | k + 1 => 256 * m2 k + 51
def m3 : Nat → Nat | 0 => 0 | k + 1 => 256 * m3 k + 15
def S1 (k x : Nat) : Nat := (x / 2 &&& m1 k) + (x &&& m1 k)
def S2 (k x : Nat) : Nat := (x / 4 &&& m2 k) + (x &&& m2 k)
def S3 (k x : Nat) : Nat := (x / 16 + x) &&& m3 k
def b1 (x : Nat) : Nat := (x / 2 &&& 85) + (x &&& 85)
def b2 (x : Nat) : Nat := (x / 4 &&& 51) + (x &&& 51)
def b3 (x : Nat) : Nat := x / 16 + x % 16
def c8 (l : Nat) : Nat := b3 (b2 (b1 l))
theorem and_split (h l M c : Nat) (hl : l < 256) (hc : c < 256) : (256 * h + l) &&& (256 * M + c) = 256 * (h &&& M) + (l &&& c) := by
  refine Nat.eq_of_testBit_eq fun i => ?_
  have h1 := Nat.testBit_two_pow_mul_add h (i := 8) hl i
  have h2 := Nat.testBit_two_pow_mul_add M (i := 8) hc i
  have h3 := Nat.testBit_two_pow_mul_add (h &&& M) (i := 8) (b := l &&& c) (Nat.lt_of_le_of_lt Nat.and_le_left hl) i
  rw [show (256 : Nat) = 2 ^ 8 from rfl, Nat.testBit_and, h1, h2, h3]
  by_cases hi : i < 8
  · simp [hi]
  · simp [hi]
theorem k85 : ∀ l : Fin 256, (128 + l.val / 2 &&& 85) = (l.val / 2 &&& 85) ∧ b1 l.val < 256 ∧ b2 (b1 l.val) < 256 ∧ b2 (b1 l.val) % 16 ≤ 4 ∧ b2 (b1 l.val) / 16 ≤ 4 ∧ c8 l.val ≤ 8 ∧ c8 l.val = cnt 8 l.val.testBit := by decide +kernel
theorem k51 : ∀ q : Fin 4, ∀ l : Fin 256, (q.val * 64 + l.val / 4 &&& 51) = (l.val / 4 &&& 51) := by decide +kernel
theorem S1_s (k h l : Nat) (hl : l < 256) : S1 (k + 1) (256 * h + l) = 256 * S1 k h + b1 l := by
  unfold S1 b1
  rw [show m1 (k + 1) = 256 * m1 k + 85 from rfl]
  have e : (256 * h + l) / 2 = 256 * (h / 2) + (h % 2 * 128 + l / 2) := by omega
  rw [e, and_split _ _ _ _ (by omega) (by decide), and_split _ _ _ _ hl (by decide)]
  have := (k85 ⟨l, hl⟩).1
  simp only at this
  rcases Nat.mod_two_eq_zero_or_one h with h0 | h0
  · rw [h0, Nat.zero_mul, Nat.zero_add]; omega
  · rw [h0, Nat.one_mul, this]; omega
theorem S2_s (k h l : Nat) (hl : l < 256) : S2 (k + 1) (256 * h + l) = 256 * S2 k h + b2 l := by
  unfold S2 b2
  rw [show m2 (k + 1) = 256 * m2 k + 51 from rfl]
  have e : (256 * h + l) / 4 = 256 * (h / 4) + (h % 4 * 64 + l / 4) := by omega
  rw [e, and_split _ _ _ _ (by omega) (by decide), and_split _ _ _ _ hl (by decide)]
  have := k51 ⟨h % 4, Nat.mod_lt _ (by decide)⟩ ⟨l, hl⟩
  simp only at this
  rw [this]; omega
theorem and15 (x : Nat) : x &&& 15 = x % 16 := Nat.and_two_pow_sub_one_eq_mod x 4
theorem S3_s (k h l : Nat) (hl : l < 256) (h1 : l % 16 ≤ 4) (h2 : l / 16 ≤ 4) (hh : h % 16 ≤ 4) : S3 (k + 1) (256 * h + l) = 256 * S3 k h + b3 l := by
  unfold S3 b3
  rw [show m3 (k + 1) = 256 * m3 k + 15 from rfl]
  have e : (256 * h + l) / 16 + (256 * h + l) = 256 * (h / 16 + h) + (h % 16 * 16 + l / 16 + l) := by omega
  rw [e, and_split _ _ _ _ (by omega) (by decide), and15]; omega
def bt : Nat → Nat → Nat | 0, _ => 0 | k + 1, x => 256 * bt k (x / 256) + c8 (x % 256)
theorem S_low : ∀ (k x : Nat), S2 k (S1 k x) % 16 ≤ 4
  | 0, x => by unfold S2 S1 m1 m2; simp
  | k + 1, x => by
    have hl : x % 256 < 256 := Nat.mod_lt _ (by decide)
    have hk := k85 ⟨x % 256, hl⟩
    simp only at hk
    rw [show x = 256 * (x / 256) + x % 256 by omega, S1_s _ _ _ hl, S2_s _ _ _ hk.2.1]
    omega
theorem S_bt : ∀ (k x : Nat), S3 k (S2 k (S1 k x)) = bt k x
  | 0, x => by unfold S3 m3 bt; simp
  | k + 1, x => by
    have hl : x % 256 < 256 := Nat.mod_lt _ (by decide)
    have hk := k85 ⟨x % 256, hl⟩
    simp only at hk
    have e : x = 256 * (x / 256) + x % 256 := by omega
    conv => lhs; rw [e]
    rw [S1_s _ _ _ hl, S2_s _ _ _ hk.2.1, S3_s _ _ _ hk.2.2.1 hk.2.2.2.1 hk.2.2.2.2.1 (S_low _ _), S_bt k]
    rfl
theorem m18 : m1 8 = 6148914691236517205 ∧ m2 8 = 3689348814741910323 ∧ m3 8 = 1085102592571150095 := by decide +kernel
theorem cnt_add (a : Nat) (f : Nat → Bool) : ∀ b, cnt (a + b) f = cnt a f + cnt b (fun i => f (a + i))
  | 0 => rfl
  | b + 1 => by show cnt (a + b) f + (f (a + b)).toNat = _; rw [cnt_add a f b, cnt_s]; omega
theorem c8_eq (x : Nat) : c8 (x % 256) = cnt 8 x.testBit := by
  have := (k85 ⟨x % 256, Nat.mod_lt _ (by decide)⟩).2.2.2.2.2.2
  simp only at this
  rw [this]
  refine cnt_congr fun i hi => ?_
  rw [show (256 : Nat) = 2 ^ 8 from rfl, Nat.testBit_mod_two_pow, decide_eq_true hi]; rfl
def sm : Nat → Nat → Nat | 0, _ => 0 | k + 1, x => c8 (x % 256) + sm k (x / 256)
theorem sm_eq : ∀ (k x : Nat), sm k x = cnt (8 * k) x.testBit
  | 0, _ => rfl
  | k + 1, x => by
    show c8 _ + sm k _ = _
    rw [c8_eq, sm_eq k, show 8 * (k + 1) = 8 + 8 * k by omega, cnt_add]
    congr 1
    refine cnt_congr fun i _ => ?_
    rw [show x / 256 = x / 2 ^ 8 from rfl, Nat.testBit_div_two_pow, Nat.add_comm]
theorem c8_le (x : Nat) : c8 (x % 256) ≤ 8 := (k85 ⟨x % 256, Nat.mod_lt _ (by decide)⟩).2.2.2.2.2.1
def fold3 (y : Nat) : Nat :=
  let a := y + y / 256
  let b := a + a / 65536
  b + b / 4294967296
theorem fold_lem (d0 d1 d2 d3 d4 d5 d6 d7 y a b : Nat) (h0 : d0 ≤ 8) (h1 : d1 ≤ 8) (h2 : d2 ≤ 8) (h3 : d3 ≤ 8) (h4 : d4 ≤ 8) (h5 : d5 ≤ 8) (h6 : d6 ≤ 8) (h7 : d7 ≤ 8)
    (hy : y = d0 + 256 * d1 + 65536 * d2 + 16777216 * d3 + 4294967296 * d4 + 1099511627776 * d5 + 281474976710656 * d6 + 72057594037927936 * d7) (ha : a = y + y / 256) (hb : b = a + a / 65536) :
    y < 1000000000000000000 ∧ b + b / 4294967296 < 2000000000000000000 ∧ (b + b / 4294967296) % 128 = d0 + d1 + d2 + d3 + d4 + d5 + d6 + d7 := by
  have e1 : y / 256 = d1 + 256 * d2 + 65536 * d3 + 16777216 * d4 + 4294967296 * d5 + 1099511627776 * d6 + 281474976710656 * d7 := by omega
  have e2 : a = (d0 + d1) + 256 * (d1 + d2) + 65536 * (d2 + d3) + 16777216 * (d3 + d4) + 4294967296 * (d4 + d5) + 1099511627776 * (d5 + d6) + 281474976710656 * (d6 + d7) + 72057594037927936 * d7 := by omega
  clear ha e1
  have e3 : a / 65536 = (d2 + d3) + 256 * (d3 + d4) + 65536 * (d4 + d5) + 16777216 * (d5 + d6) + 4294967296 * (d6 + d7) + 1099511627776 * d7 := by clear hb hy; omega
  have e4 : b = (d0 + d1 + d2 + d3) + 256 * (d1 + d2 + d3 + d4) + 65536 * (d2 + d3 + d4 + d5) + 16777216 * (d3 + d4 + d5 + d6) + 4294967296 * (d4 + d5 + d6 + d7) + 1099511627776 * (d5 + d6 + d7) + 281474976710656 * (d6 + d7) + 72057594037927936 * d7 := by clear hy; omega
  clear hb e2 e3
  have e5 : b / 4294967296 = (d4 + d5 + d6 + d7) + 256 * (d5 + d6 + d7) + 65536 * (d6 + d7) + 16777216 * d7 := by clear hy; omega
  refine ⟨by clear e4 e5; omega, by clear hy; omega, ?_⟩
  clear hy
  have e6 : b + b / 4294967296 = (d0 + d1 + d2 + d3 + d4 + d5 + d6 + d7) + 128 * (2 * (d1 + d2 + d3 + d4 + d5 + d6 + d7) + 512 * (d2 + d3 + d4 + d5 + d6 + d7) + 131072 * (d3 + d4 + d5 + d6 + d7) + 33554432 * (d4 + d5 + d6 + d7) + 8589934592 * (d5 + d6 + d7) + 2199023255552 * (d6 + d7) + 562949953421312 * d7) := by omega
  rw [e6, Nat.add_mul_mod_self_left]
  exact Nat.mod_eq_of_lt (by omega)
theorem bt_8 (x : Nat) : bt 8 x = c8 (x % 256) + 256 * c8 (x / 256 % 256) + 65536 * c8 (x / 256 / 256 % 256) + 16777216 * c8 (x / 256 / 256 / 256 % 256) + 4294967296 * c8 (x / 256 / 256 / 256 / 256 % 256) + 1099511627776 * c8 (x / 256 / 256 / 256 / 256 / 256 % 256) + 281474976710656 * c8 (x / 256 / 256 / 256 / 256 / 256 / 256 % 256) + 72057594037927936 * c8 (x / 256 / 256 / 256 / 256 / 256 / 256 / 256 % 256) := by
  simp only [bt]; omega
theorem fold_sum (x : Nat) : bt 8 x < 1000000000000000000 ∧ fold3 (bt 8 x) < 2000000000000000000 ∧ fold3 (bt 8 x) % 128 = pc x := by
  have h := fold_lem _ _ _ _ _ _ _ _ _ _ _ (c8_le x) (c8_le (x / 256)) (c8_le (x / 256 / 256)) (c8_le (x / 256 / 256 / 256)) (c8_le (x / 256 / 256 / 256 / 256)) (c8_le (x / 256 / 256 / 256 / 256 / 256)) (c8_le (x / 256 / 256 / 256 / 256 / 256 / 256)) (c8_le (x / 256 / 256 / 256 / 256 / 256 / 256 / 256)) (bt_8 x) rfl rfl
  refine ⟨h.1, h.2.1, h.2.2.trans ?_⟩
  have hs : sm 8 x = pc x := sm_eq 8 x
  rw [← hs]
  simp only [sm]; omega
end Go.Mo
namespace Go.Proofs.YtbnjmkidbfmomaaGreatDoor.M
open Go.Sx Go.RowKit
theorem ofInt_i64 (a : Nat) (ha : a < 9223372036854775808) : (BitVec.ofInt 64 (a : Int)).toNat = a := by
  rw [BitVec.ofInt_natCast, BitVec.toNat_ofNat]; exact Nat.mod_eq_of_lt (by omega)
theorem wrap_nat {a : Nat} (ha : a < 9223372036854775808) : IntKind.i64.wrap (a : Int) = (a : Int) := by rw [IntKind.wrap_i64]; omega
theorem i64_and_nat {a b : Nat} (ha : a < 9223372036854775808) (hb : b < 9223372036854775808) : bits .and .i64 (a : Int) (b : Int) = ((a &&& b : Nat) : Int) := by
  have hx : a &&& b < 2 ^ 63 := Nat.and_lt_two_pow _ (by omega)
  show IntKind.i64.wrap ((BitVec.ofInt 64 (a : Int) &&& BitVec.ofInt 64 (b : Int)).toNat : Int) = _
  rw [BitVec.toNat_and, ofInt_i64 a ha, ofInt_i64 b hb, wrap_nat (by omega)]
theorem i64_or_nat {a b : Nat} (ha : a < 9223372036854775808) (hb : b < 9223372036854775808) : bits .or .i64 (a : Int) (b : Int) = ((a ||| b : Nat) : Int) := by
  have hx : a ||| b < 2 ^ 63 := Nat.or_lt_two_pow (by omega) (by omega)
  show IntKind.i64.wrap ((BitVec.ofInt 64 (a : Int) ||| BitVec.ofInt 64 (b : Int)).toNat : Int) = _
  rw [BitVec.toNat_or, ofInt_i64 a ha, ofInt_i64 b hb, wrap_nat (by omega)]
theorem i64_andNot_nat {a b : Nat} (ha : a < 9223372036854775808) (hb : b < 9223372036854775808) : bits .andNot .i64 (a : Int) (b : Int) = ((Mo.dif a b : Nat) : Int) := by
  have hx : Mo.dif a b < 2 ^ 63 := Mo.dif_lt (by omega)
  show IntKind.i64.wrap ((BitVec.ofInt 64 (a : Int) &&& ~~~ BitVec.ofInt 64 (b : Int)).toNat : Int) = _
  have e : (BitVec.ofInt 64 (a : Int) &&& ~~~ BitVec.ofInt 64 (b : Int)).toNat = Mo.dif a b := by
    rw [BitVec.toNat_and, BitVec.toNat_not, ofInt_i64 a ha, ofInt_i64 b hb]
    refine Nat.eq_of_testBit_eq fun i => ?_
    rw [Nat.testBit_and, Mo.dif_t, show 2 ^ 64 - 1 - b = 2 ^ 64 - (b + 1) by omega, Nat.testBit_two_pow_sub_succ (by omega)]
    by_cases hi : i < 64
    · rw [decide_eq_true hi]; rfl
    · rw [Nat.testBit_lt_two_pow (x := a) (Nat.lt_of_lt_of_le (by omega : a < 2 ^ 63) (Nat.pow_le_pow_right (by decide) (by omega : 63 ≤ i)))]; rfl
  rw [e, wrap_nat (by omega)]
theorem shl_nat {s : Nat} (h : s ≤ 60) : IntKind.i64.wrap ((1 : Int) * 2 ^ ((s : Int)).toNat) = ((2 ^ s : Nat) : Int) := by
  have : 2 ^ s ≤ 2 ^ 60 := Nat.pow_le_pow_right (by decide) h
  rw [Int.toNat_natCast, Int.one_mul, show ((2 : Int) ^ s) = ((2 ^ s : Nat) : Int) by simp, wrap_nat (by omega)]
section
variable {P : Program} {n : Nat} {w0 : World} {E : Env} {G : Heap} {d : Option Nat} {ty : TypeId} {pos : String} {aft : Array Edge} {g : Option (Nat × Bool)}
theorem PV.conv {x : Operand} {k k2 : IntKind} {s t : Nat} {i v : Int} (hs : P.underlying s = some (.int k)) (ht : P.underlying t = some (.int k2)) (hx : evo E x = some (.int k i)) (hv : k2.wrap i = v) : PV P n w0 E G ⟨d, .convert s t x, ty, pos, aft, g⟩ (.int k2 v) :=
  fun a w hS => by
    subst hv
    simp only [execOp, hS.ev hx]
    simp [convert, run_underlying hs, run_underlying ht, Conv.intToInt]
theorem PV.shlK {k : IntKind} {x y : Operand} {i j v : Int} {t t' : TypeId} (hx : evo E x = some (.int .i64 i)) (hy : evo E y = some (.int k j)) (h0 : 0 ≤ j) (h1 : j ≤ 64) (hv : IntKind.i64.wrap (i * 2 ^ j.toNat) = v) : PV P n w0 E G ⟨d, .binOp .shl t x y t', ty, pos, aft, g⟩ (.int .i64 v) :=
  fun a w hS => by
    subst hv
    simp only [execOp, hS.ev hx, hS.ev hy]
    simp [binOp, eqGuard, shift_shl .i64 k i j h0 h1]
theorem PV.shrK {k k2 : IntKind} {x y : Operand} {i j v : Int} {t t' : TypeId} (hx : evo E x = some (.int k2 i)) (hy : evo E y = some (.int k j)) (h0 : 0 ≤ j) (h1 : j ≤ k2.bits) (hv : i / 2 ^ j.toNat = v) : PV P n w0 E G ⟨d, .binOp .shr t x y t', ty, pos, aft, g⟩ (.int k2 v) :=
  fun a w hS => by
    subst hv
    simp only [execOp, hS.ev hx, hS.ev hy]
    simp [binOp, eqGuard, shift_shr k2 k i j h0 h1]
theorem PV.andK {k : IntKind} {x y : Operand} {i j v : Int} {t t' : TypeId} (hx : evo E x = some (.int k i)) (hy : evo E y = some (.int k j)) (hv : bits .and k i j = v) : PV P n w0 E G ⟨d, .binOp .and t x y t', ty, pos, aft, g⟩ (.int k v) :=
  fun a w hS => by
    subst hv
    simp only [execOp, hS.ev hx, hS.ev hy]
    cases k <;> simp [binOp, eqGuard, intBits_and]
theorem PV.orK {x y : Operand} {i j v : Int} {t t' : TypeId} (hx : evo E x = some (.int .i64 i)) (hy : evo E y = some (.int .i64 j)) (hv : bits .or .i64 i j = v) : PV P n w0 E G ⟨d, .binOp .or t x y t', ty, pos, aft, g⟩ (.int .i64 v) :=
  fun a w hS => by
    subst hv
    simp only [execOp, hS.ev hx, hS.ev hy]
    simp [binOp, eqGuard, intBits_or]
theorem PV.andNotK {x y : Operand} {i j v : Int} {t t' : TypeId} (hx : evo E x = some (.int .i64 i)) (hy : evo E y = some (.int .i64 j)) (hv : bits .andNot .i64 i j = v) : PV P n w0 E G ⟨d, .binOp .andNot t x y t', ty, pos, aft, g⟩ (.int .i64 v) :=
  fun a w hS => by
    subst hv
    simp only [execOp, hS.ev hx, hS.ev hy]
    simp [binOp, eqGuard, intBits_andNot]
theorem PV.addU {x y : Operand} {i j v : Int} {t t' : TypeId} (hx : evo E x = some (.int .u64 i)) (hy : evo E y = some (.int .u64 j)) (hv : IntKind.u64.wrap (i + j) = v) : PV P n w0 E G ⟨d, .binOp .add t x y t', ty, pos, aft, g⟩ (.int .u64 v) :=
  fun a w hS => by
    subst hv
    simp only [execOp, hS.ev hx, hS.ev hy]
    simp [go_sem, Op.intArith]
end
end Go.Proofs.YtbnjmkidbfmomaaGreatDoor.M
namespace Go.Proofs.YtbnjmkidbfmomaaGreatDoor
open Go.Sx Go.RowKit
def LsAt (w : World) (p : Option Addr) (ls : List (List Int)) : Prop := ∀ j, j < ls.length → ∃ q, p = some q ∧ ∃ pj cj, w.cell? (q.add (j * 1)) = some (.slice pj (ls.getD j []).length cj) ∧ IntsAt w pj (ls.getD j [])
theorem LsAt.new {w0 w : World} {G : Heap} {p : Option Addr} {ls : List (List Int)} (h : LsAt w0 p ls) (hn : New w0 w G) : LsAt w p ls := fun j hj =>
  let ⟨q, hq, pj, cj, h1, h2⟩ := h j hj
  ⟨q, hq, pj, cj, hn.old h1, h2.new hn⟩
end Go.Proofs.YtbnjmkidbfmomaaGreatDoor
namespace Go.Proofs.YtbnjmkidbfmomaaGreatDoor.M
open Go.Sx Go.RowKit
def arrOf (P : Program) (t : Nat) : Option (Nat × Nat × Nat) :=
  match P.underlying t with
  | some (.array n e) => (P.info? e).map fun i => (n, e, i.size)
  | _ => none
section
variable {P : Program} {n : Nat} {w0 : World} {E : Env} {G : Heap} {d : Option Nat} {ty : TypeId} {pos : String} {aft : Array Edge} {g : Option (Nat × Bool)}
theorem PV.indexArr {k : IntKind} {x y : Operand} {b m e j : Nat} {i : Int} {t : Nat} (hx : evo E x = some (.pointer (some ⟨b, 0, none⟩))) (hy : evo E y = some (.int k i))
    (ht : arrOf P t = some (m, e, 1)) (hi : i = (j : Int)) (hj : j < m) : PV P n w0 E G ⟨d, .indexAddr t x y, ty, pos, aft, g⟩ (.pointer (some ⟨b, j, none⟩)) :=
  fun a w hs => by
    unfold arrOf at ht
    cases hu : P.underlying t with
    | none => simp [hu] at ht
    | some u =>
      cases u <;> simp only [hu] at ht <;> try (simp at ht; done)
      rename_i m' e'
      cases hi2 : P.info? e' with
      | none => simp [hi2] at ht
      | some inf =>
        simp [hi2] at ht
        obtain ⟨rfl, rfl, h3⟩ := ht
        subst hi
        simp only [execOp, hs.ev hx, hs.ev hy]
        simp [Instr.indexAt, run_underlying hu, asIntOf, Instr.sureAddr, sizeOf, typeInfo, hi2, h3, hj, add_off]
theorem PV.eqlK {k : IntKind} {x y : Operand} {i j : Int} {t t' : TypeId} (hx : evo E x = some (.int k i)) (hy : evo E y = some (.int k j)) : PV P n w0 E G ⟨d, .binOp .eql t x y t', ty, pos, aft, g⟩ (.bool (decide (i = j))) :=
  fun a w hs => by simp only [execOp, hs.ev hx, hs.ev hy]; cases k <;> (simp [go_sem]; rw [Bool.eq_iff_iff]; simp)
theorem PV.mulU {x y : Operand} {i j v : Int} {t t' : TypeId} (hx : evo E x = some (.int .u64 i)) (hy : evo E y = some (.int .u64 j)) (hv : IntKind.u64.wrap (i * j) = v) : PV P n w0 E G ⟨d, .binOp .mul t x y t', ty, pos, aft, g⟩ (.int .u64 v) :=
  fun a w hS => by
    subst hv
    simp only [execOp, hS.ev hx, hS.ev hy]
    simp [go_sem, Op.intArith]
theorem PV.negU {x : Operand} {i v : Int} {t : TypeId} (hx : evo E x = some (.int .u64 i)) (hv : IntKind.u64.wrap (-i) = v) : PV P n w0 E G ⟨d, .unOp .neg t x, ty, pos, aft, g⟩ (.int .u64 v) :=
  fun a w hS => by
    subst hv
    simp only [execOp, hS.ev hx]
    simp [go_sem, Op.intArith]
end
theorem arr_102 : arrOf Tryz.prog 286 = some (64, 5, 1) := by kernel_rfl
def TzAt (w : World) : Prop := ∀ j, j < 64 → w.cell? ⟨6, j, none⟩ = some (.int .u8 (Lib.deBruijn64tab.getD j 0 : Nat))
theorem TzAt.new {w0 w : World} {G : Heap} (h : TzAt w0) (hn : New w0 w G) : TzAt w := fun j hj => hn.old (h j hj)
theorem conv_u {x : Nat} (h : x < 18446744073709551616) : IntKind.u64.wrap (x : Int) = (x : Int) := by rw [IntKind.wrap_u64]; omega
theorem conv_i {x : Nat} (h : x < 9223372036854775808) : IntKind.i64.wrap (x : Int) = (x : Int) := wrap_nat h
theorem tz_key {x : Nat} (hx : x < 18446744073709551616) (h0 : x ≠ 0) : IntKind.u64.wrap (-(x : Int)) = ((18446744073709551616 - x : Nat) : Int) := by rw [IntKind.wrap_u64]; omega
theorem tz_ix (p : Nat) : IntKind.u64.wrap ((p : Int) * 285870213051353865) / 2 ^ ((58 : Int)).toNat = ((p * 285870213051353865 % 18446744073709551616 / 288230376151711744 : Nat) : Int) := by
  rw [IntKind.wrap_u64]
  show _ / 288230376151711744 = _
  omega
theorem u64_and {a b : Nat} (ha : a < 18446744073709551616) (hb : b < 18446744073709551616) : bits .and .u64 (a : Int) (b : Int) = ((a &&& b : Nat) : Int) := u64_and_nat a b ha hb
theorem and_lt {a b n : Nat} (h : a < n) : a &&& b < n := Nat.lt_of_le_of_lt Nat.and_le_left h
theorem p40 {k : Nat} (h : k < 64) : 2 ^ k < 18446744073709551616 := Nat.pow_lt_pow_right (a := 2) (n := 64) (by decide) h
def vB (r c k : Int) : Prop := (1 ≤ r ∧ r ≤ 6) ∧ (1 ≤ c ∧ c ≤ 6) ∧ (1 ≤ k ∧ k ≤ 3)
instance (r c k : Int) : Decidable (vB r c k) := by unfold vB; infer_instance
def vI (r c k : Int) : Int := if vB r c k then 0 else 1
abbrev mV (m : Mo.Md) : Value := .agg #[.int .i64 m.R, .int .i64 m.C, .int .i64 m.K]
theorem vI_ok {m : Mo.Md} (ho : Mo.Ok m) : vI m.R m.C m.K = 0 := if_pos ⟨⟨by have := ho.R1; omega, by have := ho.R6; omega⟩, ⟨by have := ho.C1; omega, by have := ho.C6; omega⟩, by have := ho.K1; omega, by have := ho.K3; omega⟩
theorem vI_is {r c k : Int} (h : vI r c k = 0) : ∃ m : Mo.Md, Mo.Ok m ∧ r = m.R ∧ c = m.C ∧ k = m.K := by
  unfold vI at h
  by_cases h1 : vB r c k
  · obtain ⟨⟨a, b⟩, ⟨c1, d⟩, e, f⟩ := h1
    exact ⟨⟨r.toNat, c.toNat, k.toNat⟩, ⟨by show 1 ≤ r.toNat; omega, by show r.toNat ≤ 6; omega, by show 1 ≤ c.toNat; omega, by show c.toNat ≤ 6; omega, by show 1 ≤ k.toNat; omega, by show k.toNat ≤ 3; omega⟩, by show r = (r.toNat : Int); omega, by show c = (c.toNat : Int); omega, by show k = (k.toNat : Int); omega⟩
  · rw [if_neg h1] at h; cases h
theorem vI_yes {r c k : Int} (h : vB r c k) : vI r c k = 0 := if_pos h
theorem vI_no {r c k : Int} (h : ¬ vB r c k) : vI r c k = 1 := if_neg h
theorem bF {p : Prop} [Decidable p] (h : ¬ p) : false = decide p := (decide_eq_false h).symm
theorem vI_or (r c k : Int) : vI r c k = 0 ∨ vI r c k = 1 := by unfold vI; split <;> simp
def gI (r c k w : Int) : Int := if vI r c k = 0 then (if 0 ≤ w ∧ w ≤ 2 ^ (r.toNat * c.toNat) - 1 then 0 else 1) else 1
theorem pow_cast (n : Nat) : ((2 ^ n : Nat) : Int) = 2 ^ n := by simp
theorem gI_ok {m : Mo.Md} (ho : Mo.Ok m) {S : Nat} (hS : S < 2 ^ m.N) : gI m.R m.C m.K S = 0 := by
  unfold gI
  rw [if_pos (vI_ok ho), if_pos]
  rw [Int.toNat_natCast, Int.toNat_natCast, ← pow_cast]
  have : S < 2 ^ (m.R * m.C) := hS
  omega
theorem gI_is {r c k w : Int} (h : gI r c k w = 0) : ∃ (m : Mo.Md) (S : Nat), Mo.Ok m ∧ S < 2 ^ m.N ∧ r = m.R ∧ c = m.C ∧ k = m.K ∧ w = S := by
  unfold gI at h
  by_cases h1 : vI r c k = 0
  · rw [if_pos h1] at h
    obtain ⟨m, ho, rfl, rfl, rfl⟩ := vI_is h1
    by_cases h2 : 0 ≤ w ∧ w ≤ 2 ^ ((m.R : Int).toNat * (m.C : Int).toNat) - 1
    · rw [Int.toNat_natCast, Int.toNat_natCast, ← pow_cast] at h2
      refine ⟨m, w.toNat, ho, ?_, rfl, rfl, rfl, by omega⟩
      show _ < 2 ^ (m.R * m.C)
      omega
    · rw [if_neg h2] at h; cases h
  · rw [if_neg h1] at h; cases h
theorem N40 {m : Mo.Md} (ho : Mo.Ok m) : 2 ^ m.N ≤ 2 ^ 36 := Nat.pow_le_pow_right (by decide) ho.N36
theorem Has_eq {S s : Nat} (hS : S < 9223372036854775808) : decide (bits .and .i64 (((S / 2 ^ s : Nat)) : Int) 1 = 1) = S.testBit s := by
  have h1 : S / 2 ^ s ≤ S := Nat.div_le_self _ _
  have h2 := i64_and_nat (a := S / 2 ^ s) (b := 1) (by omega) (by decide)
  have h3 : S / 2 ^ s &&& 1 = S / 2 ^ s % 2 := Nat.and_two_pow_sub_one_eq_mod _ 1
  rw [show ((1 : Nat) : Int) = 1 from rfl, h3] at h2
  rw [h2, Nat.testBit_eq_decide_div_mod_eq]
  exact decide_eq_decide.2 (by omega)
theorem nat_shr (k x : Nat) : (x : Int) / 2 ^ ((k : Nat) : Int).toNat = ((x / 2 ^ k : Nat) : Int) := by
  rw [Int.toNat_natCast]; simp
theorem full_63 {m : Mo.Md} (ho : Mo.Ok m) : Mo.full m < 9223372036854775808 := by
  have := N40 ho; have := Mo.full_lt m; omega
theorem and_le' (a b : Nat) : a &&& b ≤ b := Nat.and_le_right
theorem ones_steps {x : Nat} (hx : x < 18446744073709551616) :
    IntKind.u64.wrap (((x / 2 ^ 1 &&& 6148914691236517205 : Nat) : Int) + ((x &&& 6148914691236517205 : Nat) : Int)) = ((Mo.S1 8 x : Nat) : Int) ∧ Mo.S1 8 x < 18446744073709551616 ∧
    IntKind.u64.wrap (((Mo.S1 8 x / 2 ^ 2 &&& 3689348814741910323 : Nat) : Int) + ((Mo.S1 8 x &&& 3689348814741910323 : Nat) : Int)) = ((Mo.S2 8 (Mo.S1 8 x) : Nat) : Int) ∧
    IntKind.u64.wrap (((Mo.S2 8 (Mo.S1 8 x) / 2 ^ 4 : Nat) : Int) + ((Mo.S2 8 (Mo.S1 8 x) : Nat) : Int)) = ((Mo.S2 8 (Mo.S1 8 x) / 2 ^ 4 + Mo.S2 8 (Mo.S1 8 x) : Nat) : Int) ∧
    bits .and .u64 ((Mo.S2 8 (Mo.S1 8 x) / 2 ^ 4 + Mo.S2 8 (Mo.S1 8 x) : Nat) : Int) 1085102592571150095 = ((Mo.bt 8 x : Nat) : Int) ∧
    IntKind.u64.wrap (((Mo.bt 8 x : Nat) : Int) + ((Mo.bt 8 x / 2 ^ 8 : Nat) : Int)) = ((Mo.bt 8 x + Mo.bt 8 x / 2 ^ 8 : Nat) : Int) ∧
    IntKind.u64.wrap (((Mo.bt 8 x + Mo.bt 8 x / 2 ^ 8 : Nat) : Int) + (((Mo.bt 8 x + Mo.bt 8 x / 2 ^ 8) / 2 ^ 16 : Nat) : Int)) = ((Mo.bt 8 x + Mo.bt 8 x / 2 ^ 8 + (Mo.bt 8 x + Mo.bt 8 x / 2 ^ 8) / 2 ^ 16 : Nat) : Int) ∧
    IntKind.u64.wrap (((Mo.bt 8 x + Mo.bt 8 x / 2 ^ 8 + (Mo.bt 8 x + Mo.bt 8 x / 2 ^ 8) / 2 ^ 16 : Nat) : Int) + (((Mo.bt 8 x + Mo.bt 8 x / 2 ^ 8 + (Mo.bt 8 x + Mo.bt 8 x / 2 ^ 8) / 2 ^ 16) / 2 ^ 32 : Nat) : Int)) = ((Mo.fold3 (Mo.bt 8 x) : Nat) : Int) ∧
    Mo.fold3 (Mo.bt 8 x) < 9223372036854775808 ∧ ((Mo.fold3 (Mo.bt 8 x) : Nat) : Int) % 128 = ((Mo.pc x : Nat) : Int) := by
  have h8 := Mo.m18
  have hb := Mo.S_bt 8 x
  have hf := Mo.fold_sum x
  have a1 := and_le' (x / 2 ^ 1) 6148914691236517205
  have a2 := and_le' x 6148914691236517205
  have e1 : Mo.S1 8 x = (x / 2 ^ 1 &&& 6148914691236517205) + (x &&& 6148914691236517205) := by unfold Mo.S1; rw [h8.1]
  have a3 := and_le' (Mo.S1 8 x / 2 ^ 2) 3689348814741910323
  have a4 := and_le' (Mo.S1 8 x) 3689348814741910323
  have e2 : Mo.S2 8 (Mo.S1 8 x) = (Mo.S1 8 x / 2 ^ 2 &&& 3689348814741910323) + (Mo.S1 8 x &&& 3689348814741910323) := by unfold Mo.S2; rw [h8.2.1]
  have e3 : (Mo.S2 8 (Mo.S1 8 x) / 2 ^ 4 + Mo.S2 8 (Mo.S1 8 x)) &&& 1085102592571150095 = Mo.bt 8 x := by rw [← hb]; unfold Mo.S3; rw [h8.2.2]
  generalize hz2 : Mo.S2 8 (Mo.S1 8 x) = z2 at *
  generalize hz1 : Mo.S1 8 x = z1 at *
  have hl2 : z2 < 7400000000000000000 := by omega
  have hfo : Mo.fold3 (Mo.bt 8 x) = Mo.bt 8 x + Mo.bt 8 x / 256 + (Mo.bt 8 x + Mo.bt 8 x / 256) / 65536 + (Mo.bt 8 x + Mo.bt 8 x / 256 + (Mo.bt 8 x + Mo.bt 8 x / 256) / 65536) / 4294967296 := rfl
  refine ⟨?_, by omega, ?_, ?_, ?_, ?_, ?_, ?_, by omega, by omega⟩
  · rw [IntKind.wrap_u64]; omega
  · rw [IntKind.wrap_u64]; omega
  · rw [IntKind.wrap_u64]; omega
  · have := u64_and (a := z2 / 2 ^ 4 + z2) (b := 1085102592571150095) (by omega) (by decide)
    rw [e3] at this
    exact this
  · rw [IntKind.wrap_u64]; omega
  · rw [IntKind.wrap_u64]; omega
  · rw [IntKind.wrap_u64, hfo]; omega
theorem tz64_ok (w0 : World) (ht : TzAt w0) (x : Nat) (hx : x < 18446744073709551616) (h0 : x ≠ 0) :
    Calls Tryz.prog 242 #[.int .u64 x] w0 (Post (X := Unit) (fun _ => .int .i64 (Lib.ctz 64 x : Nat)) (fun _ => True) (fun _ => []) w0) := by
  have hlow := Lib.lowest_bit 64 x h0 hx
  have hat := Lib.deBruijn64_at _ hlow.2
  have hcell := ht _ hat.1
  rw [hat.2] at hcell
  have hp := p40 hlow.2
  refine calls Tryz.func242 rfl (n := 14) rfl (by simp) ?_
  refine zr (za rfl (zn (TC.seq (zr (zm rfl (zq (PV.eqlK rfl rfl) rfl (zn (TC.cd rfl (fun h0_ => ?_) (fun h0_ => ?_)))))))))
  exact absurd h0_ (by omega)
  refine TC.skip (TQ.thenC (zr (zm rfl (zm rfl (zq (PV.negU rfl (tz_key hx h0)) rfl (zq (PV.andK rfl rfl ((u64_and hx om).trans (by rw [hlow.1]))) rfl ?_))))))
  refine zq (PV.mulU rfl rfl rfl) rfl (zq (PV.shrK rfl rfl dc dc rfl) rfl (zq (PV.indexArr rfl rfl arr_102 (tz_ix _) hat.1) rfl (zq (PV.loadOld rfl Tb.one_5 hcell) rfl (zq (PV.conv Tb.int_5 Tb.int_3 rfl (conv_i om)) rfl (za rfl (zt (TQ.retE1 rfl rfl ?_)))))))
  exact ⟨(), rfl, trivial, nils⟩
theorem tz_ok (w0 : World) (ht : TzAt w0) (x : Nat) (hx : x < 18446744073709551616) (h0 : x ≠ 0) :
    Calls Tryz.prog 225 #[.int .u64 x] w0 (Post (X := Unit) (fun _ => .int .i64 (Lib.ctz 64 x : Nat)) (fun _ => True) (fun _ => []) w0) := by
  refine calls Tryz.func225 rfl (n := 8) rfl (by simp) ?_
  refine zr (za rfl (zn (TC.seq (TC.condF rfl (TC.skip (TQ.thenC (zr (zm rfl (TL.call rfl Tb.gofn_242 (fun a w hs => tz64_ok w (ht.new hs.new) x hx h0) rfl dc (fun _ _ => ?_))))))))))
  refine za rfl (zt (TQ.retE1 rfl rfl ?_))
  exact ⟨(), rfl, trivial, nils⟩
theorem ones64_ok (w0 : World) (x : Nat) (hx : x < 18446744073709551616) :
    Calls Tryz.prog 255 #[.int .u64 x] w0 (Post (X := Unit) (fun _ => .int .i64 (Mo.pc x : Nat)) (fun _ => True) (fun _ => []) w0) := by
  have hf := ones_steps hx
  refine calls Tryz.func255 rfl (n := 35) rfl (by simp) ?_
  refine zr (za rfl (zk (zm rfl (zq (PV.shrK rfl rfl dc dc (nat_shr 1 x)) rfl (zq (PV.andK rfl rfl (u64_and om dc)) rfl (zm rfl (zq (PV.andK rfl rfl (u64_and hx dc)) rfl (zq (PV.addU rfl rfl hf.1) rfl (za rfl (zk (zm rfl (zq (PV.shrK rfl rfl dc dc (nat_shr 2 _)) rfl (zq (PV.andK rfl rfl (u64_and (by have := hf.2.1; omega) dc)) rfl ?_)))))))))))))
  refine zm rfl (zq (PV.andK rfl rfl (u64_and hf.2.1 dc)) rfl (zq (PV.addU rfl rfl hf.2.2.1) rfl (za rfl (zk (zm rfl (zq (PV.shrK rfl rfl dc dc (nat_shr 4 _)) rfl (zm rfl (zq (PV.addU rfl rfl hf.2.2.2.1) rfl (zq (PV.andK rfl rfl hf.2.2.2.2.1) rfl (za rfl (zk (zm rfl (zm rfl (zq (PV.shrK rfl rfl dc dc (nat_shr 8 _)) rfl (zq (PV.addU rfl rfl hf.2.2.2.2.2.1) rfl (za rfl (zk (zm rfl (zm rfl (zq (PV.shrK rfl rfl dc dc (nat_shr 16 _)) rfl (zq (PV.addU rfl rfl hf.2.2.2.2.2.2.1) rfl (za rfl (zk (zm rfl (zm rfl (zq (PV.shrK rfl rfl dc dc (nat_shr 32 _)) rfl (zq (PV.addU rfl rfl hf.2.2.2.2.2.2.2.1) rfl (za rfl (zk (zm rfl (zq (PV.conv Tb.int_231 Tb.int_3 rfl (conv_i (by have := hf.2.2.2.2.2.2.2.2.1; omega))) rfl ?_)))))))))))))))))))))))))))))))
  refine zq (PV.andK rfl rfl ((i64_and127 _).trans hf.2.2.2.2.2.2.2.2.2)) rfl (za rfl (zt (TQ.retE1 rfl rfl ?_)))
  exact ⟨(), rfl, trivial, nils⟩
theorem ones_ok (w0 : World) (x : Nat) (hx : x < 18446744073709551616) :
    Calls Tryz.prog 252 #[.int .u64 x] w0 (Post (X := Unit) (fun _ => .int .i64 (Mo.pc x : Nat)) (fun _ => True) (fun _ => []) w0) := by
  refine calls Tryz.func252 rfl (n := 8) rfl (by simp) ?_
  refine zr (za rfl (zn (TC.seq (TC.condF rfl (TC.skip (TQ.thenC (zr (zm rfl (TL.call rfl Tb.gofn_255 (fun a w hs => ones64_ok w x hx) rfl dc (fun _ _ => ?_))))))))))
  refine za rfl (zt (TQ.retE1 rfl rfl ?_))
  exact ⟨(), rfl, trivial, nils⟩
theorem count_ok (w0 : World) (x : Nat) (hx : x < 9223372036854775808) :
    Calls Tryz.prog 247 #[.int .i64 x] w0 (Post (X := Unit) (fun _ => .int .i64 (Mo.pc x : Nat)) (fun _ => True) (fun _ => []) w0) := by
  refine calls Tryz.func247 rfl (n := 6) rfl (by simp) ?_
  refine zr (za rfl (zk (zm rfl (zq (PV.conv Tb.int_3 Tb.int_55 rfl (conv_u om)) rfl (TL.call rfl Tb.gofn_252 (fun a w hs => ones_ok w x om) rfl dc (fun _ _ => ?_))))))
  refine za rfl (zt (TQ.retE1 rfl rfl ?_))
  exact ⟨(), rfl, trivial, nils⟩
theorem only_ok (w0 : World) (s : Nat) (hs4 : s ≤ 60) :
    Calls Tryz.prog 237 #[.int .i64 s] w0 (Post (X := Unit) (fun _ => .int .i64 (2 ^ s : Nat)) (fun _ => True) (fun _ => []) w0) := by
  refine calls Tryz.func237 rfl (n := 5) rfl (by simp) ?_
  refine zr (za rfl (zk (zm rfl (zq (PV.shlK rfl rfl om om (shl_nat hs4)) rfl (za rfl (zt (TQ.retE1 rfl rfl ?_)))))))
  exact ⟨(), rfl, trivial, nils⟩
theorem isWithin_ok (w0 : World) (x y : Int) :
    Calls Tryz.prog 138 #[.int .i64 x, .int .i64 y] w0 (Post (X := Unit) (fun _ => .bool (decide (1 ≤ x ∧ x ≤ y))) (fun _ => True) (fun _ => []) w0) := by
  refine calls Tryz.func138 rfl (n := 12) rfl (by simp) ?_
  refine zr (za rfl (zk (zm rfl (zq (PV.geq rfl rfl) rfl (zm rfl (TL.sp 7 rfl (fun h0 => ?_) (fun h0 => ?_)))))))
  refine zm rfl (zm rfl (zq (PV.leq rfl rfl) rfl (zq (PV.pickT rfl rfl) rfl (za rfl (zt (TQ.retE1 rfl rfl ?_))))))
  exact ⟨(), congrArg Value.bool (by first | (refine bF ?_; omega) | (refine bT ?_; omega) | (refine decide_eq_decide.2 ?_; omega)), trivial, nils⟩
  refine zx rfl (zx rfl (zx rfl (zq (PV.pickF rfl rfl) rfl (za rfl (zt (TQ.retE1 rfl rfl ?_))))))
  exact ⟨(), congrArg Value.bool (by first | (refine bF ?_; omega) | (refine bT ?_; omega) | (refine decide_eq_decide.2 ?_; omega)), trivial, nils⟩
theorem validate_ok (w0 : World) (r c k : Int) :
    Calls Tryz.prog 98 #[.agg #[.int .i64 r, .int .i64 c, .int .i64 k]] w0 (Post (X := Unit) (fun _ => .int .i64 (vI r c k)) (fun _ => True) (fun _ => []) w0) := by
  refine calls Tryz.func98 rfl (n := 19) rfl (by simp) ?_
  refine zr (TL.box rfl rfl dc (fun b0 hb0 => ?_))
  refine za rfl (zn (TC.seq (zr (zq (PV.fieldAddr rfl Tb.fo_52_0) rfl (zq (PV.load rfl Tb.one_3 m9z rfl) rfl ?_)))))
  refine TL.call rfl Tb.gofn_138 (fun a w hs => isWithin_ok w _ _) rfl dc (fun _ _ => ?_)
  refine zq ((by first | exact PV.notD rfl | exact PV.not rfl)) rfl ?_
  refine zm rfl (TL.sp 7 rfl (fun h0 => ?_) (fun h0 => ?_))
  refine zx rfl (zx rfl (zx rfl (zx rfl (zq (PV.pickT rfl rfl) rfl (zm rfl (zx rfl (zx rfl (zx rfl (zx rfl (zq (PV.pickT rfl rfl) rfl (zn (TC.condT rfl (zr (za rfl (zt (TQ.thenR (TQ.retE1 rfl rfl ?_)))))))))))))))))
  exact ⟨(), congrArg (Value.int .i64) (by first | (refine (vI_no fun h => ?_).symm; unfold vB at h; omega) | (refine (vI_yes ?_).symm; unfold vB; omega)), trivial, nils⟩
  refine zq (PV.fieldAddr rfl Tb.fo_52_1) rfl (zq (PV.load rfl Tb.one_3 m9z rfl) rfl ?_)
  refine TL.call rfl Tb.gofn_138 (fun a w hs => isWithin_ok w _ _) rfl dc (fun _ _ => ?_)
  refine zq ((by first | exact PV.notD rfl | exact PV.not rfl)) rfl ?_
  refine zq (PV.pickF rfl rfl) rfl (zm rfl (TL.sp 13 rfl (fun h1 => ?_) (fun h1 => ?_)))
  refine zx rfl (zx rfl (zx rfl (zx rfl (zq (PV.pickT rfl rfl) rfl (zn (TC.condT rfl (zr (za rfl (zt (TQ.thenR (TQ.retE1 rfl rfl ?_)))))))))))
  exact ⟨(), congrArg (Value.int .i64) (by first | (refine (vI_no fun h => ?_).symm; unfold vB at h; omega) | (refine (vI_yes ?_).symm; unfold vB; omega)), trivial, nils⟩
  refine zq (PV.fieldAddr rfl Tb.fo_52_2) rfl (zq (PV.load rfl Tb.one_3 m9z rfl) rfl ?_)
  refine TL.call rfl Tb.gofn_138 (fun a w hs => isWithin_ok w _ _) rfl dc (fun _ _ => ?_)
  refine zq ((by first | exact PV.notD rfl | exact PV.not rfl)) rfl ?_
  refine zq (PV.pickF rfl rfl) rfl (zn (TC.cd rfl (fun h2 => ?_) (fun h2 => ?_)))
  refine zr (za rfl (zt (TQ.thenR (TQ.retE1 rfl rfl ?_))))
  exact ⟨(), congrArg (Value.int .i64) (by first | (refine (vI_no fun h => ?_).symm; unfold vB at h; omega) | (refine (vI_yes ?_).symm; unfold vB; omega)), trivial, nils⟩
  refine TC.skip (TQ.thenC (zr (za rfl (zt (TQ.retE1 rfl rfl ?_)))))
  exact ⟨(), congrArg (Value.int .i64) (by first | (refine (vI_no fun h => ?_).symm; unfold vB at h; omega) | (refine (vI_yes ?_).symm; unfold vB; omega)), trivial, nils⟩
theorem all_ok (w0 : World) (m : Mo.Md) (ho : Mo.Ok m) :
    Calls Tryz.prog 234 #[mV m] w0 (Post (X := Unit) (fun _ => .int .i64 (Mo.full m : Nat)) (fun _ => True) (fun _ => []) w0) := by
  have hN := ho.N36
  have hRC : (m.R : Int) * m.C = ((m.N : Nat) : Int) := (Int.natCast_mul _ _).symm
  have h40 := N40 ho
  have h1p := Nat.two_pow_pos m.N
  refine calls Tryz.func234 rfl (n := 10) rfl (by simp) ?_
  refine zr (TL.box rfl rfl dc (fun b0 hb0 => ?_))
  refine za rfl (zk (zq (PV.fieldAddr rfl Tb.fo_52_0) rfl (zq (PV.load rfl Tb.one_3 m9z rfl) rfl ?_)))
  refine zq (PV.fieldAddr rfl Tb.fo_52_1) rfl (zq (PV.load rfl Tb.one_3 m9z rfl) rfl ?_)
  refine zq (PV.mul rfl rfl om) rfl (zq (PV.shlK rfl rfl om om ((congrArg (fun z : Int => IntKind.i64.wrap (1 * 2 ^ z.toNat)) hRC).trans (shl_nat om))) rfl ?_)
  refine zq (PV.sub rfl rfl om) rfl (za rfl (zt (TQ.retE1 rfl rfl ?_)))
  exact ⟨(), congrArg (Value.int .i64) (by unfold Mo.full; omega), trivial, nils⟩
end Go.Proofs.YtbnjmkidbfmomaaGreatDoor.M
