/- Counting bits by masks: what the library's way of counting ones comes to. -/
import Derived.Test.YtaeobkgogipceaaDoorPd
set_option linter.unusedVariables false
set_option linter.unusedSimpArgs false
namespace Go.Mo
def m1 : Nat → Nat | 0 => 0 | k + 1 => 256 * m1 k + 85
def m2 : Nat → Nat | 0 => 0 | k + 1 => 256 * m2 k + 51
def m3 : Nat → Nat | 0 => 0 | k + 1 => 256 * m3 k + 15
def S1 (k x : Nat) : Nat := (x / 2 &&& m1 k) + (x &&& m1 k)
def S2 (k x : Nat) : Nat := (x / 4 &&& m2 k) + (x &&& m2 k)
def S3 (k x : Nat) : Nat := (x / 16 + x) &&& m3 k
def b1 (x : Nat) : Nat := (x / 2 &&& 85) + (x &&& 85)
def b2 (x : Nat) : Nat := (x / 4 &&& 51) + (x &&& 51)
def b3 (x : Nat) : Nat := x / 16 + x % 16
def c8 (l : Nat) : Nat := b3 (b2 (b1 l))
/-- The bits of a byte and of what stands above it are masked each by itself. -/
theorem and_split (h l M c : Nat) (hl : l < 256) (hc : c < 256) : (256 * h + l) &&& (256 * M + c) = 256 * (h &&& M) + (l &&& c) := by
  refine Nat.eq_of_testBit_eq fun i => ?_
  have h1 := Nat.testBit_two_pow_mul_add h (i := 8) hl i
  have h2 := Nat.testBit_two_pow_mul_add M (i := 8) hc i
  have h3 := Nat.testBit_two_pow_mul_add (h &&& M) (i := 8) (b := l &&& c) (Nat.lt_of_le_of_lt Nat.and_le_left hl) i
  rw [show (256 : Nat) = 2 ^ 8 from rfl, Nat.testBit_and, h1, h2, h3]
  by_cases hi : i < 8
  · simp [hi]
  · simp [hi]
theorem k85 : ∀ l : Fin 256, (128 + l.val / 2 &&& 85) = (l.val / 2 &&& 85) ∧ b1 l.val < 256 ∧ b2 (b1 l.val) < 256 ∧ b2 (b1 l.val) % 16 ≤ 4 ∧ b2 (b1 l.val) / 16 ≤ 4 ∧ c8 l.val ≤ 8 ∧ c8 l.val = cnt 8 l.val.testBit := by decide +kernel
theorem k51 : ∀ q : Fin 4, ∀ l : Fin 256, (q.val * 64 + l.val / 4 &&& 51) = (l.val / 4 &&& 51) := by decide +kernel
theorem S1_s (k h l : Nat) (hl : l < 256) : S1 (k + 1) (256 * h + l) = 256 * S1 k h + b1 l := by
  unfold S1 b1
  rw [show m1 (k + 1) = 256 * m1 k + 85 from rfl]
  have e : (256 * h + l) / 2 = 256 * (h / 2) + (h % 2 * 128 + l / 2) := by omega
  rw [e, and_split _ _ _ _ (by omega) (by decide), and_split _ _ _ _ hl (by decide)]
  have := (k85 ⟨l, hl⟩).1
  simp only at this
  rcases Nat.mod_two_eq_zero_or_one h with h0 | h0
  · rw [h0, Nat.zero_mul, Nat.zero_add]; omega
  · rw [h0, Nat.one_mul, this]; omega
theorem S2_s (k h l : Nat) (hl : l < 256) : S2 (k + 1) (256 * h + l) = 256 * S2 k h + b2 l := by
  unfold S2 b2
  rw [show m2 (k + 1) = 256 * m2 k + 51 from rfl]
  have e : (256 * h + l) / 4 = 256 * (h / 4) + (h % 4 * 64 + l / 4) := by omega
  rw [e, and_split _ _ _ _ (by omega) (by decide), and_split _ _ _ _ hl (by decide)]
  have := k51 ⟨h % 4, Nat.mod_lt _ (by decide)⟩ ⟨l, hl⟩
  simp only at this
  rw [this]; omega
theorem and15 (x : Nat) : x &&& 15 = x % 16 := Nat.and_two_pow_sub_one_eq_mod x 4
theorem S3_s (k h l : Nat) (hl : l < 256) (h1 : l % 16 ≤ 4) (h2 : l / 16 ≤ 4) (hh : h % 16 ≤ 4) : S3 (k + 1) (256 * h + l) = 256 * S3 k h + b3 l := by
  unfold S3 b3
  rw [show m3 (k + 1) = 256 * m3 k + 15 from rfl]
  have e : (256 * h + l) / 16 + (256 * h + l) = 256 * (h / 16 + h) + (h % 16 * 16 + l / 16 + l) := by omega
  rw [e, and_split _ _ _ _ (by omega) (by decide), and15]; omega
def bt : Nat → Nat → Nat | 0, _ => 0 | k + 1, x => 256 * bt k (x / 256) + c8 (x % 256)
theorem S_low : ∀ (k x : Nat), S2 k (S1 k x) % 16 ≤ 4
  | 0, x => by unfold S2 S1 m1 m2; simp
  | k + 1, x => by
    have hl : x % 256 < 256 := Nat.mod_lt _ (by decide)
    have hk := k85 ⟨x % 256, hl⟩
    simp only at hk
    rw [show x = 256 * (x / 256) + x % 256 by omega, S1_s _ _ _ hl, S2_s _ _ _ hk.2.1]
    omega
theorem S_bt : ∀ (k x : Nat), S3 k (S2 k (S1 k x)) = bt k x
  | 0, x => by unfold S3 m3 bt; simp
  | k + 1, x => by
    have hl : x % 256 < 256 := Nat.mod_lt _ (by decide)
    have hk := k85 ⟨x % 256, hl⟩
    simp only at hk
    have e : x = 256 * (x / 256) + x % 256 := by omega
    conv => lhs; rw [e]
    rw [S1_s _ _ _ hl, S2_s _ _ _ hk.2.1, S3_s _ _ _ hk.2.2.1 hk.2.2.2.1 hk.2.2.2.2.1 (S_low _ _), S_bt k]
    rfl
theorem m18 : m1 8 = 6148914691236517205 ∧ m2 8 = 3689348814741910323 ∧ m3 8 = 1085102592571150095 := by decide +kernel
theorem cnt_add (a : Nat) (f : Nat → Bool) : ∀ b, cnt (a + b) f = cnt a f + cnt b (fun i => f (a + i))
  | 0 => rfl
  | b + 1 => by show cnt (a + b) f + (f (a + b)).toNat = _; rw [cnt_add a f b, cnt_s]; omega
theorem c8_eq (x : Nat) : c8 (x % 256) = cnt 8 x.testBit := by
  have := (k85 ⟨x % 256, Nat.mod_lt _ (by decide)⟩).2.2.2.2.2.2
  simp only at this
  rw [this]
  refine cnt_congr fun i hi => ?_
  rw [show (256 : Nat) = 2 ^ 8 from rfl, Nat.testBit_mod_two_pow, decide_eq_true hi]; rfl
def sm : Nat → Nat → Nat | 0, _ => 0 | k + 1, x => c8 (x % 256) + sm k (x / 256)
theorem sm_eq : ∀ (k x : Nat), sm k x = cnt (8 * k) x.testBit
  | 0, _ => rfl
  | k + 1, x => by
    show c8 _ + sm k _ = _
    rw [c8_eq, sm_eq k, show 8 * (k + 1) = 8 + 8 * k by omega, cnt_add]
    congr 1
    refine cnt_congr fun i _ => ?_
    rw [show x / 256 = x / 2 ^ 8 from rfl, Nat.testBit_div_two_pow, Nat.add_comm]
theorem c8_le (x : Nat) : c8 (x % 256) ≤ 8 := (k85 ⟨x % 256, Nat.mod_lt _ (by decide)⟩).2.2.2.2.2.1
def fold3 (y : Nat) : Nat :=
  let a := y + y / 256
  let b := a + a / 65536
  b + b / 4294967296
theorem fold_lem (d0 d1 d2 d3 d4 d5 d6 d7 y a b : Nat) (h0 : d0 ≤ 8) (h1 : d1 ≤ 8) (h2 : d2 ≤ 8) (h3 : d3 ≤ 8) (h4 : d4 ≤ 8) (h5 : d5 ≤ 8) (h6 : d6 ≤ 8) (h7 : d7 ≤ 8)
    (hy : y = d0 + 256 * d1 + 65536 * d2 + 16777216 * d3 + 4294967296 * d4 + 1099511627776 * d5 + 281474976710656 * d6 + 72057594037927936 * d7) (ha : a = y + y / 256) (hb : b = a + a / 65536) :
    y < 1000000000000000000 ∧ b + b / 4294967296 < 2000000000000000000 ∧ (b + b / 4294967296) % 128 = d0 + d1 + d2 + d3 + d4 + d5 + d6 + d7 := by
  have e1 : y / 256 = d1 + 256 * d2 + 65536 * d3 + 16777216 * d4 + 4294967296 * d5 + 1099511627776 * d6 + 281474976710656 * d7 := by omega
  have e2 : a = (d0 + d1) + 256 * (d1 + d2) + 65536 * (d2 + d3) + 16777216 * (d3 + d4) + 4294967296 * (d4 + d5) + 1099511627776 * (d5 + d6) + 281474976710656 * (d6 + d7) + 72057594037927936 * d7 := by omega
  clear ha e1
  have e3 : a / 65536 = (d2 + d3) + 256 * (d3 + d4) + 65536 * (d4 + d5) + 16777216 * (d5 + d6) + 4294967296 * (d6 + d7) + 1099511627776 * d7 := by clear hb hy; omega
  have e4 : b = (d0 + d1 + d2 + d3) + 256 * (d1 + d2 + d3 + d4) + 65536 * (d2 + d3 + d4 + d5) + 16777216 * (d3 + d4 + d5 + d6) + 4294967296 * (d4 + d5 + d6 + d7) + 1099511627776 * (d5 + d6 + d7) + 281474976710656 * (d6 + d7) + 72057594037927936 * d7 := by clear hy; omega
  clear hb e2 e3
  have e5 : b / 4294967296 = (d4 + d5 + d6 + d7) + 256 * (d5 + d6 + d7) + 65536 * (d6 + d7) + 16777216 * d7 := by clear hy; omega
  refine ⟨by clear e4 e5; omega, by clear hy; omega, ?_⟩
  clear hy
  have e6 : b + b / 4294967296 = (d0 + d1 + d2 + d3 + d4 + d5 + d6 + d7) + 128 * (2 * (d1 + d2 + d3 + d4 + d5 + d6 + d7) + 512 * (d2 + d3 + d4 + d5 + d6 + d7) + 131072 * (d3 + d4 + d5 + d6 + d7) + 33554432 * (d4 + d5 + d6 + d7) + 8589934592 * (d5 + d6 + d7) + 2199023255552 * (d6 + d7) + 562949953421312 * d7) := by omega
  rw [e6, Nat.add_mul_mod_self_left]
  exact Nat.mod_eq_of_lt (by omega)
theorem bt_8 (x : Nat) : bt 8 x = c8 (x % 256) + 256 * c8 (x / 256 % 256) + 65536 * c8 (x / 256 / 256 % 256) + 16777216 * c8 (x / 256 / 256 / 256 % 256) + 4294967296 * c8 (x / 256 / 256 / 256 / 256 % 256) + 1099511627776 * c8 (x / 256 / 256 / 256 / 256 / 256 % 256) + 281474976710656 * c8 (x / 256 / 256 / 256 / 256 / 256 / 256 % 256) + 72057594037927936 * c8 (x / 256 / 256 / 256 / 256 / 256 / 256 / 256 % 256) := by
  simp only [bt]; omega
theorem fold_sum (x : Nat) : bt 8 x < 1000000000000000000 ∧ fold3 (bt 8 x) < 2000000000000000000 ∧ fold3 (bt 8 x) % 128 = pc x := by
  have h := fold_lem _ _ _ _ _ _ _ _ _ _ _ (c8_le x) (c8_le (x / 256)) (c8_le (x / 256 / 256)) (c8_le (x / 256 / 256 / 256)) (c8_le (x / 256 / 256 / 256 / 256)) (c8_le (x / 256 / 256 / 256 / 256 / 256)) (c8_le (x / 256 / 256 / 256 / 256 / 256 / 256)) (c8_le (x / 256 / 256 / 256 / 256 / 256 / 256 / 256)) (bt_8 x) rfl rfl
  refine ⟨h.1, h.2.1, h.2.2.trans ?_⟩
  have hs : sm 8 x = pc x := sm_eq 8 x
  rw [← hs]
  simp only [sm]; omega
end Go.Mo
