/- The text of a meadow. -/
import Derived.Test.YtaeobkgogipceaaDoorPe
import Derived.Lib.AtoiAll
import Derived.Lib.Split
import Derived.Lib.ItoaNum
set_option linter.unusedVariables false
set_option linter.unusedSimpArgs false
namespace Go.Mo

def dg (k : Nat) : UInt8 := UInt8.ofNat (48 + k)
def hd0 (m : Md) : List UInt8 := [109, 101, 97, 100, 111, 119, 32, dg m.R, 32, dg m.C, 32, dg m.K]
def hdr (m : Md) : List UInt8 := hd0 m ++ [10]
def mk (S s : Nat) : UInt8 := if S.testBit s = true then 35 else 46
def bf (m : Md) (S i : Nat) : UInt8 := if i % (m.C + 1) = m.C then 10 else mk S (i / (m.C + 1) * m.C + i % (m.C + 1))
def bd (m : Md) (S k : Nat) : List UInt8 := (List.range k).map (bf m S)
def fmt (m : Md) (S : Nat) : List UInt8 := hdr m ++ bd m S (m.R * (m.C + 1))

theorem dec_dg {k : Nat} (h : k < 10) : Lib.decDigits k = [dg k] := by unfold Lib.decDigits; rw [dif_pos h]; rfl
theorem bd_zero (m : Md) (S : Nat) : bd m S 0 = [] := rfl
theorem bd_len (m : Md) (S k : Nat) : (bd m S k).length = k := by simp [bd]
theorem bd_succ (m : Md) (S k : Nat) : bd m S (k + 1) = bd m S k ++ [bf m S k] := by unfold bd; rw [List.range_succ, List.map_append]; rfl
theorem bd_get {m : Md} {S k i : Nat} (h : i < k) : (bd m S k).getD i 0 = bf m S i := by
  unfold bd; rw [List.getD_eq_getElem?_getD, List.getElem?_map, List.getElem?_range h]; rfl
theorem hdr_len (m : Md) : (hdr m).length = 13 := rfl
theorem fmt_len (m : Md) (S : Nat) : (fmt m S).length = 13 + m.R * (m.C + 1) := by unfold fmt; rw [List.length_append, hdr_len, bd_len]
theorem fmt_get {m : Md} {S k : Nat} (h : k < m.R * (m.C + 1)) : (fmt m S).getD (13 + k) 0 = bf m S k := by
  unfold fmt
  rw [List.getD_eq_getElem?_getD, List.getElem?_append_right (by rw [hdr_len]; omega), hdr_len, Nat.add_sub_cancel_left, ← List.getD_eq_getElem?_getD, bd_get h]
theorem row_mod {r c C : Nat} (h : c < C + 1) : (r * (C + 1) + c) % (C + 1) = c ∧ (r * (C + 1) + c) / (C + 1) = r := by
  constructor
  · rw [Nat.add_comm, Nat.add_mul_mod_self_right, Nat.mod_eq_of_lt h]
  · rw [Nat.add_comm, Nat.add_mul_div_right _ _ (by omega), Nat.div_eq_of_lt h, Nat.zero_add]
theorem bf_nl (m : Md) (S r : Nat) : bf m S (r * (m.C + 1) + m.C) = 10 := by
  unfold bf; rw [if_pos (row_mod (by omega)).1]
theorem bf_sq {m : Md} {S r c : Nat} (h : c < m.C) : bf m S (r * (m.C + 1) + c) = mk S (r * m.C + c) := by
  unfold bf; rw [(row_mod (by omega)).1, (row_mod (by omega)).2, if_neg (by omega)]

theorem at_fin : ∀ C, C < 7 → ∀ s, s < 36 → 0 < C → (s + s / C) % (C + 1) ≠ C ∧ (s + s / C) / (C + 1) * C + (s + s / C) % (C + 1) = s := by decide +kernel
theorem in_fin : ∀ R, R < 7 → ∀ C, C < 7 → ∀ s, s < 36 → 0 < C → s < R * C → s + s / C < R * (C + 1) := by decide +kernel
theorem st_fin : ∀ C, C < 7 → ∀ s, s < 36 → 0 < C → (s % C = C - 1 → (s + 1) + (s + 1) / C = s + s / C + 2 ∧ (s + s / C + 1) % (C + 1) = C) ∧ (s % C ≠ C - 1 → (s + 1) + (s + 1) / C = s + s / C + 1) := by decide +kernel
theorem sc_fin : ∀ C, C < 7 → ∀ k, k < 42 → 0 < C → (k % (C + 1) = C → (k + 1) / (C + 1) * C + (k + 1) % (C + 1) = k / (C + 1) * C + k % (C + 1)) ∧ (k % (C + 1) ≠ C → (k + 1) / (C + 1) * C + (k + 1) % (C + 1) = k / (C + 1) * C + k % (C + 1) + 1) := by decide +kernel
theorem se_fin : ∀ R, R < 7 → ∀ C, C < 7 → 0 < C → R * (C + 1) / (C + 1) * C + R * (C + 1) % (C + 1) = R * C := by decide +kernel
theorem total {m : Md} (ho : Ok m) : m.R * (m.C + 1) ≤ 42 := by
  have h1 := ho.R6; have h2 := ho.C6
  calc m.R * (m.C + 1) ≤ 6 * 7 := Nat.mul_le_mul h1 (by omega)
    _ = 42 := rfl
theorem bf_at {m : Md} (ho : Ok m) {S s : Nat} (hs : s < m.N) : bf m S (s + s / m.C) = mk S s ∧ s + s / m.C < m.R * (m.C + 1) := by
  have h36 := ho.N36
  have h1 := at_fin m.C (by have := ho.C6; omega) s (by omega) (by have := ho.C1; omega)
  have h2 := in_fin m.R (by have := ho.R6; omega) m.C (by have := ho.C6; omega) s (by omega) (by have := ho.C1; omega) hs
  refine ⟨?_, h2⟩
  unfold bf; rw [if_neg h1.1, h1.2]
theorem mk_35 {S s : Nat} : mk S s = 35 ↔ S.testBit s = true := by
  unfold mk; split
  · rename_i h; exact ⟨fun _ => h, fun _ => rfl⟩
  · rename_i h; exact ⟨fun h1 => absurd h1 (by decide), fun h1 => absurd h1 h⟩
theorem mk_10 {S s : Nat} : mk S s ≠ 10 := by unfold mk; split <;> decide
theorem bf_10 {m : Md} {S k : Nat} : bf m S k = 10 ↔ k % (m.C + 1) = m.C := by
  unfold bf; split
  · rename_i h; exact ⟨fun _ => h, fun _ => rfl⟩
  · rename_i h; exact ⟨fun h1 => absurd h1 mk_10, fun h1 => absurd h1 h⟩
theorem bf_35 {m : Md} {S k : Nat} : bf m S k = 35 ↔ (k % (m.C + 1) ≠ m.C ∧ S.testBit (k / (m.C + 1) * m.C + k % (m.C + 1)) = true) := by
  unfold bf; split
  · rename_i h; exact ⟨fun h1 => absurd h1 (by decide), fun h1 => absurd h h1.1⟩
  · rename_i h; exact ⟨fun h1 => ⟨h, mk_35.1 h1⟩, fun h1 => mk_35.2 h1.2⟩
theorem mod_up {S s : Nat} : S % 2 ^ (s + 1) = if S.testBit s = true then S % 2 ^ s ||| 2 ^ s else S % 2 ^ s := by
  apply Nat.eq_of_testBit_eq
  intro i
  cases h : S.testBit s
  · rw [if_neg (by decide), Nat.testBit_mod_two_pow, Nat.testBit_mod_two_pow]
    by_cases e : i = s
    · subst e; rw [h]; simp
    · by_cases e2 : i < s
      · rw [decide_eq_true (show i < s + 1 by omega), decide_eq_true e2]
      · rw [decide_eq_false (show ¬ i < s + 1 by omega), decide_eq_false e2]
  · rw [if_pos rfl, Nat.testBit_or, Nat.testBit_mod_two_pow, Nat.testBit_mod_two_pow, one_t]
    by_cases e : i = s
    · subst e; rw [h]; simp
    · rw [decide_eq_false e, Bool.or_false]
      by_cases e2 : i < s
      · rw [decide_eq_true (show i < s + 1 by omega), decide_eq_true e2]
      · rw [decide_eq_false (show ¬ i < s + 1 by omega), decide_eq_false e2]
theorem dg_inj : ∀ a, a < 10 → ∀ b, b < 10 → dg a = dg b → a = b := by decide +kernel
theorem dg_no : ∀ a, a < 10 → dg a ≠ 10 ∧ dg a ≠ 32 := by decide +kernel
theorem fmt_inj {m m' : Md} (ho : Ok m) (ho' : Ok m') {S S' : Nat} (hS : S < 2 ^ m.N) (hS' : S' < 2 ^ m'.N) (h : fmt m S = fmt m' S') : m = m' ∧ S = S' := by
  have hg : ∀ i, i < 13 → (hdr m).getD i 0 = (hdr m').getD i 0 := fun i hi => by
    have := congrArg (fun l : List UInt8 => l.getD i 0) h
    simp only [fmt, List.getD_eq_getElem?_getD] at this ⊢
    rw [List.getElem?_append_left (by rw [hdr_len]; omega), List.getElem?_append_left (by rw [hdr_len]; omega)] at this
    exact this
  have h7 : m.R = m'.R := dg_inj _ (by have := ho.R6; omega) _ (by have := ho'.R6; omega) (hg 7 (by omega))
  have h9 : m.C = m'.C := dg_inj _ (by have := ho.C6; omega) _ (by have := ho'.C6; omega) (hg 9 (by omega))
  have h11 : m.K = m'.K := dg_inj _ (by have := ho.K3; omega) _ (by have := ho'.K3; omega) (hg 11 (by omega))
  have hm : m = m' := by cases m; cases m'; simp only at h7 h9 h11; subst h7; subst h9; subst h11; rfl
  subst hm
  refine ⟨rfl, Nat.eq_of_testBit_eq fun i => ?_⟩
  by_cases hi : i < m.N
  · have h1 := bf_at (S := S) ho hi
    have h2 := bf_at (S := S') ho hi
    have h3 := congrArg (fun l : List UInt8 => l.getD (13 + (i + i / m.C)) 0) h
    skip
    rw [fmt_get h1.2, fmt_get h2.2, h1.1, h2.1] at h3
    rw [Bool.eq_iff_iff, ← mk_35, ← mk_35, h3]
  · rw [Nat.testBit_lt_two_pow (Nat.lt_of_lt_of_le hS (Nat.pow_le_pow_right (by decide) (by omega))), Nat.testBit_lt_two_pow (Nat.lt_of_lt_of_le hS' (Nat.pow_le_pow_right (by decide) (by omega)))]

theorem index_nl : ∀ (a b : List UInt8), (∀ x ∈ a, x ≠ 10) → Lib.index (a ++ 10 :: b) [10] = a.length
  | [], b, _ => by simp [Lib.index, List.isPrefixOf]
  | x :: a, b, h => by
    have ih := index_nl a b fun y hy => h y (List.mem_cons_of_mem _ hy)
    have hx := h x List.mem_cons_self
    have hp : ¬ ([10] : List UInt8).isPrefixOf (x :: (a ++ 10 :: b)) = true := by
      simp [List.isPrefixOf]; exact fun e => hx e.symm
    have hn : ¬ ((a.length : Int) == -1) = true := fun e => by have := beq_iff_eq.1 e; omega
    rw [List.cons_append, Lib.index, if_neg hp, ih, if_neg hn]
    simp
theorem cut_nl {a b : List UInt8} (h : ∀ x ∈ a, x ≠ 10) : Lib.cut (a ++ 10 :: b) [10] = (a, b, true) := by
  unfold Lib.cut
  rw [index_nl a b h, if_pos (Int.natCast_nonneg _), Int.toNat_natCast]
  simp
theorem hd0_no {m : Md} (ho : Ok m) : ∀ x ∈ hd0 m, x ≠ 10 := by
  have h1 := (dg_no m.R (by have := ho.R6; omega)).1
  have h2 := (dg_no m.C (by have := ho.C6; omega)).1
  have h3 := (dg_no m.K (by have := ho.K3; omega)).1
  intro x hx
  simp only [hd0, List.mem_cons, List.not_mem_nil, or_false] at hx
  rcases hx with rfl | rfl | rfl | rfl | rfl | rfl | rfl | rfl | rfl | rfl | rfl | rfl <;> first | assumption | decide
theorem cut_fmt {m : Md} (ho : Ok m) (S : Nat) : Lib.cut (fmt m S) [10] = (hd0 m, bd m S (m.R * (m.C + 1)), true) := by
  have := cut_nl (b := bd m S (m.R * (m.C + 1))) (hd0_no ho)
  have he : fmt m S = hd0 m ++ 10 :: bd m S (m.R * (m.C + 1)) := rfl
  rw [he]; exact this
def wds (m : Md) : List ByteArray := [⟨#[109, 101, 97, 100, 111, 119]⟩, ⟨#[dg m.R]⟩, ⟨#[dg m.C]⟩, ⟨#[dg m.K]⟩]
theorem split_fin : ∀ R, R < 7 → ∀ C, C < 7 → ∀ K, K < 4 → Lib.splitB ⟨#[32]⟩ 0 3 ⟨(hd0 ⟨R, C, K⟩).toArray⟩ = wds ⟨R, C, K⟩ := by decide +kernel
theorem split_fmt {m : Md} (ho : Ok m) : Lib.splitB ⟨#[32]⟩ 0 3 ⟨(hd0 m).toArray⟩ = wds m :=
  split_fin m.R (by have := ho.R6; omega) m.C (by have := ho.C6; omega) m.K (by have := ho.K3; omega)
theorem atoi_dg : ∀ k, k < 10 → Lib.atoiAll [dg k] = .ok (k : Int)
  | 0, _ => rfl
  | 1, _ => rfl
  | 2, _ => rfl
  | 3, _ => rfl
  | 4, _ => rfl
  | 5, _ => rfl
  | 6, _ => rfl
  | 7, _ => rfl
  | 8, _ => rfl
  | 9, _ => rfl
  | k + 10, h => absurd h (by omega)
end Go.Mo
