/- Mathematics of moss, first part: sets as numbers, counting, neighbors, steps, and what they spread to. -/
import Derived.Lib.TrailingZeros
set_option linter.unusedVariables false
set_option linter.unusedSimpArgs false
namespace Go.Mo
/-! ## Counting -/
def cnt : Nat → (Nat → Bool) → Nat
  | 0, _ => 0
  | n + 1, f => cnt n f + (f n).toNat
theorem cnt_s (n : Nat) (f : Nat → Bool) : cnt (n + 1) f = cnt n f + (f n).toNat := rfl
theorem toNat_mono {a b : Bool} (h : a = true → b = true) : a.toNat ≤ b.toNat := by cases a <;> cases b <;> simp_all
theorem cnt_congr {n : Nat} {f g : Nat → Bool} (h : ∀ i, i < n → f i = g i) : cnt n f = cnt n g := by
  induction n with
  | zero => rfl
  | succ n ih => rw [cnt_s, cnt_s, ih fun i hi => h i (by omega), h n (by omega)]
theorem cnt_le (n : Nat) (f : Nat → Bool) : cnt n f ≤ n := by
  induction n with
  | zero => exact Nat.le_refl _
  | succ n ih => rw [cnt_s]; have := Bool.toNat_le (f n); omega
theorem cnt_mono {n : Nat} {f g : Nat → Bool} (h : ∀ i, i < n → f i = true → g i = true) : cnt n f ≤ cnt n g := by
  induction n with
  | zero => exact Nat.le_refl _
  | succ n ih =>
    rw [cnt_s, cnt_s]
    have h1 := ih fun i hi => h i (by omega)
    have h2 := toNat_mono (h n (by omega))
    omega
theorem cnt_ins {n t : Nat} {f : Nat → Bool} (ht : t < n) (hf : f t = false) : cnt n (fun i => f i || decide (i = t)) = cnt n f + 1 := by
  induction n with
  | zero => omega
  | succ n ih =>
    rw [cnt_s, cnt_s]
    by_cases h : t = n
    · subst h
      rw [cnt_congr (g := f) fun i hi => by rw [decide_eq_false (by omega : ¬ i = t), Bool.or_false], hf]; simp
    · rw [ih (by omega), decide_eq_false (by omega : ¬ n = t), Bool.or_false]; omega
theorem cnt_out {n t : Nat} {f : Nat → Bool} (ht : n ≤ t) : cnt n (fun i => f i || decide (i = t)) = cnt n f :=
  cnt_congr fun i hi => by rw [decide_eq_false (by omega : ¬ i = t), Bool.or_false]
theorem cnt_strict {n t : Nat} {f g : Nat → Bool} (h : ∀ i, i < n → f i = true → g i = true) (ht : t < n) (hf : f t = false) (hg : g t = true) : cnt n f < cnt n g := by
  have h1 := cnt_ins ht hf
  have h2 : cnt n (fun i => f i || decide (i = t)) ≤ cnt n g := cnt_mono fun i hi h3 => by
    rcases (Bool.or_eq_true _ _).mp h3 with h4 | h4
    · exact h i hi h4
    · rw [of_decide_eq_true h4]; exact hg
  omega
theorem cnt_zero {n : Nat} {f : Nat → Bool} (h : ∀ i, i < n → f i = false) : cnt n f = 0 := by
  induction n with
  | zero => rfl
  | succ n ih => rw [cnt_s, ih fun i hi => h i (by omega), h n (by omega)]; rfl
theorem cnt_all {n : Nat} {f : Nat → Bool} (h : ∀ i, i < n → f i = true) : cnt n f = n := by
  induction n with
  | zero => rfl
  | succ n ih => rw [cnt_s, ih fun i hi => h i (by omega), h n (by omega)]; rfl
theorem cnt_more {n m : Nat} {f : Nat → Bool} (h : n ≤ m) (hf : ∀ i, n ≤ i → f i = false) : cnt m f = cnt n f := by
  induction m with
  | zero => rw [show n = 0 by omega]
  | succ m ih =>
    by_cases h1 : n = m + 1
    · rw [h1]
    · rw [cnt_s, ih (by omega), hf m (by omega)]; rfl
theorem cnt_filter (n : Nat) (f : Nat → Bool) : ((List.range n).filter f).length = cnt n f := by
  induction n with
  | zero => rfl
  | succ n ih =>
    rw [List.range_succ, List.filter_append, List.length_append, ih, cnt_s, List.filter_cons, List.filter_nil]
    cases h : f n
    · rw [if_neg (by simp)]; rfl
    · rw [if_pos rfl]; rfl
/-! ## Masks -/
def msk : Nat → (Nat → Bool) → Nat
  | 0, _ => 0
  | n + 1, f => if f n = true then msk n f ||| 2 ^ n else msk n f
theorem msk_t (n : Nat) (f : Nat → Bool) (i : Nat) : (msk n f).testBit i = (decide (i < n) && f i) := by
  induction n with
  | zero => simp [msk]
  | succ n ih =>
    have e : decide (i < n + 1) = (decide (i < n) || decide (n = i)) := by
      rw [← Bool.decide_or]; exact decide_eq_decide.2 (by omega)
    simp only [msk]
    split
    · rename_i h
      rw [Nat.testBit_or, ih, Nat.testBit_two_pow, e]
      by_cases hi : n = i
      · subst hi; simp [h]
      · simp [hi]
    · rename_i h
      rw [ih, e]
      by_cases hi : n = i
      · subst hi; simp [h]
      · simp [hi]
theorem msk_lt (n : Nat) (f : Nat → Bool) : msk n f < 2 ^ n := Nat.lt_pow_two_of_testBit _ fun i hi => by rw [msk_t, decide_eq_false (by omega)]; rfl
theorem tb_out {a n i : Nat} (h : a < 2 ^ n) (hi : n ≤ i) : a.testBit i = false := Nat.testBit_lt_two_pow (Nat.lt_of_lt_of_le h (Nat.pow_le_pow_right (by decide) hi))
theorem tb_in {a n i : Nat} (h : a < 2 ^ n) (hi : a.testBit i = true) : i < n := by
  rcases Nat.lt_or_ge i n with h1 | h1
  · exact h1
  · rw [tb_out h h1] at hi; cases hi
theorem bext {a b n : Nat} (ha : a < 2 ^ n) (hb : b < 2 ^ n) (h : ∀ i, i < n → a.testBit i = b.testBit i) : a = b := Nat.eq_of_testBit_eq fun i => by
  rcases Nat.lt_or_ge i n with hi | hi
  · exact h i hi
  · rw [tb_out ha hi, tb_out hb hi]
theorem msk_congr {n : Nat} {f g : Nat → Bool} (h : ∀ i, i < n → f i = g i) : msk n f = msk n g := bext (msk_lt _ _) (msk_lt _ _) fun i hi => by rw [msk_t, msk_t, h i hi]
theorem msk_of {n a : Nat} (h : a < 2 ^ n) : msk n a.testBit = a := bext (msk_lt _ _) h fun i hi => by rw [msk_t, decide_eq_true hi]; rfl
theorem msk_zero {n : Nat} {f : Nat → Bool} : msk n f = 0 ↔ ∀ i, i < n → f i = false := by
  constructor
  · intro h i hi
    have := msk_t n f i
    rw [h, Nat.zero_testBit, decide_eq_true hi, Bool.true_and] at this
    exact this.symm
  · intro h
    exact bext (msk_lt _ _) (Nat.two_pow_pos n) fun i hi => by rw [msk_t, h i hi, Nat.zero_testBit, Bool.and_false]
theorem ne_bit {x : Nat} (h : x ≠ 0) : ∃ i, x.testBit i = true := by
  rcases Classical.em (∃ i, x.testBit i = true) with h1 | h1
  · exact h1
  · refine absurd (Nat.eq_of_testBit_eq fun i => ?_) h
    rw [Nat.zero_testBit]
    cases hb : x.testBit i
    · rfl
    · exact absurd ⟨i, hb⟩ h1
def dif (a b : Nat) : Nat := a ^^^ (a &&& b)
theorem dif_t (a b i : Nat) : (dif a b).testBit i = (a.testBit i && !b.testBit i) := by
  unfold dif; rw [Nat.testBit_xor, Nat.testBit_and]; cases a.testBit i <;> cases b.testBit i <;> rfl
theorem lt_of_sub {a b n : Nat} (hb : b < 2 ^ n) (h : ∀ i, a.testBit i = true → b.testBit i = true) : a < 2 ^ n := Nat.lt_pow_two_of_testBit _ fun i hi => by
  cases h1 : a.testBit i
  · rfl
  · have := h i h1; rw [tb_out hb hi] at this; cases this
theorem dif_lt {a b n : Nat} (ha : a < 2 ^ n) : dif a b < 2 ^ n := lt_of_sub ha fun i h => by rw [dif_t] at h; exact ((Bool.and_eq_true _ _).mp h).1
/-- How many elements a set has. -/
def pc (x : Nat) : Nat := cnt 64 x.testBit
theorem pc_eq {x n : Nat} (h : x < 2 ^ n) (hn : n ≤ 64) : pc x = cnt n x.testBit := cnt_more hn fun i hi => tb_out h hi
theorem pc_msk {n : Nat} (hn : n ≤ 64) (f : Nat → Bool) : pc (msk n f) = cnt n f := by
  rw [pc_eq (msk_lt _ _) hn]; exact cnt_congr fun i hi => by rw [msk_t, decide_eq_true hi]; rfl
/-! ## The lowest bit -/
theorem low_form {x : Nat} (h0 : x ≠ 0) (h : x < 2 ^ 64) : ∃ m, x = 2 ^ Lib.ctz 64 x * (2 * m + 1) ∧ Lib.ctz 64 x < 64 := by
  have := Lib.ctzFrom_spec 64 x (by omega) h
  unfold Lib.ctz
  rw [if_neg h0]
  exact this
theorem low_t {x : Nat} (h0 : x ≠ 0) (h : x < 2 ^ 64) : x.testBit (Lib.ctz 64 x) = true := by
  obtain ⟨m, e, _⟩ := low_form h0 h
  generalize Lib.ctz 64 x = k at e
  subst e
  rw [Nat.testBit_two_pow_mul]
  simp
theorem low_min {x i : Nat} (h0 : x ≠ 0) (h : x < 2 ^ 64) (hi : i < Lib.ctz 64 x) : x.testBit i = false := by
  obtain ⟨m, e, _⟩ := low_form h0 h
  generalize Lib.ctz 64 x = k at e hi
  subst e
  rw [Nat.testBit_two_pow_mul, decide_eq_false (by omega)]; rfl
theorem low_lt {x n : Nat} (h0 : x ≠ 0) (h : x < 2 ^ n) (hn : n ≤ 64) : Lib.ctz 64 x < n := by
  have h1 := low_t h0 (Nat.lt_of_lt_of_le h (Nat.pow_le_pow_right (by decide) hn))
  rcases Nat.lt_or_ge (Lib.ctz 64 x) n with h2 | h2
  · exact h2
  · rw [tb_out h h2] at h1; cases h1
theorem low_eq {x s : Nat} (h : x < 2 ^ 64) (hs : x.testBit s = true) (hm : ∀ i, i < s → x.testBit i = false) : Lib.ctz 64 x = s := by
  have h0 : x ≠ 0 := fun e => by rw [e, Nat.zero_testBit] at hs; cases hs
  rcases Nat.lt_trichotomy (Lib.ctz 64 x) s with h1 | h1 | h1
  · have := hm _ h1; rw [low_t h0 h] at this; cases this
  · exact h1
  · have := low_min h0 h h1; rw [hs] at this; cases this
/-- The lowest bit falls away. -/
theorem drop_low {x : Nat} (h0 : x ≠ 0) (h : x < 2 ^ 64) (i : Nat) : (x &&& (x - 1)).testBit i = (x.testBit i && !decide (i = Lib.ctz 64 x)) := by
  obtain ⟨m, e, _⟩ := low_form h0 h
  generalize Lib.ctz 64 x = k at e
  have hp := Nat.two_pow_pos k
  have e1 : x - 1 = 2 ^ k * (2 * m) + (2 ^ k - 1) := by
    rw [e, Nat.mul_add, Nat.mul_one]; omega
  have e2 : x = 2 ^ k * (2 * m + 1) + 0 := by rw [e]; rfl
  rw [Nat.testBit_and, e1, Nat.testBit_two_pow_mul_add _ (by omega), e2, Nat.testBit_two_pow_mul_add _ hp]
  by_cases hi : i < k
  · rw [if_pos hi, if_pos hi, Nat.zero_testBit]; rfl
  · rw [if_neg hi, if_neg hi]
    by_cases hk : i = k
    · subst hk
      rw [Nat.sub_self, decide_eq_true rfl]
      simp
    · obtain ⟨j, hj⟩ : ∃ j, i - k = j + 1 := ⟨i - k - 1, by omega⟩
      rw [hj, decide_eq_false hk, Nat.testBit_succ, Nat.testBit_succ]
      rw [show (2 * m + 1) / 2 = m by omega, show 2 * m / 2 = m by omega]
      simp
/-! ## The squares of a set, in ascending order -/
def sqL (x : Nat) : List Nat := (List.range 64).filter x.testBit
theorem mem_sq {x i : Nat} (h : x < 2 ^ 64) : i ∈ sqL x ↔ x.testBit i = true := by
  unfold sqL
  rw [List.mem_filter, List.mem_range]
  exact ⟨fun h1 => h1.2, fun h1 => ⟨tb_in h h1, h1⟩⟩
theorem sq_len (x : Nat) : (sqL x).length = pc x := cnt_filter 64 _
theorem sq_zero : sqL 0 = [] := by
  unfold sqL
  rw [List.filter_eq_nil_iff]
  intro a _
  rw [Nat.zero_testBit]; decide
theorem filter_first : ∀ (l : List Nat) (f : Nat → Bool) (s : Nat), l.Pairwise (· < ·) → s ∈ l → f s = true → (∀ i, i < s → f i = false) → l.filter f = s :: l.filter (fun i => f i && !decide (i = s))
  | [], _, _, _, h, _, _ => by cases h
  | a :: l, f, s, hp, h, hs, hm => by
    rw [List.pairwise_cons] at hp
    by_cases ha : a = s
    · subst ha
      rw [List.filter_cons, if_pos hs, List.filter_cons, if_neg (by simp)]
      congr 1
      refine List.filter_congr fun i hi => ?_
      have := hp.1 i hi
      rw [decide_eq_false (by omega)]; simp
    · have h1 : s ∈ l := by
        rcases List.mem_cons.1 h with h2 | h2
        · exact absurd h2.symm ha
        · exact h2
      have h2 := hm a (hp.1 s h1)
      rw [List.filter_cons, if_neg (by rw [h2]; decide), List.filter_cons, if_neg (by rw [h2]; simp)]
      exact filter_first l f s hp.2 h1 hs hm
theorem range_asc (n : Nat) : (List.range n).Pairwise (· < ·) := List.pairwise_lt_range
theorem sq_cons {x : Nat} (h0 : x ≠ 0) (h : x < 2 ^ 64) : sqL x = Lib.ctz 64 x :: sqL (x &&& (x - 1)) := by
  have h1 := filter_first (List.range 64) x.testBit (Lib.ctz 64 x) (range_asc 64) (List.mem_range.2 (tb_in h (low_t h0 h))) (low_t h0 h) fun i hi => low_min h0 h hi
  unfold sqL
  rw [h1]
  congr 1
  exact List.filter_congr fun i _ => (drop_low h0 h i).symm
end Go.Mo
