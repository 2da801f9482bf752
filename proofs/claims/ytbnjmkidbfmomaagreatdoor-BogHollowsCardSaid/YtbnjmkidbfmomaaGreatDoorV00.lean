/- Px -/
import Derived.Lib.ItoaMem
import Derived.Lib.AtoiTie
import Derived.Lib.Split
import Derived.Lib.SplitLaws
set_option linter.unusedVariables false
set_option linter.unusedSimpArgs false
set_option maxRecDepth 100000
namespace Go.Bt
open Go.Lib
/-! Numerals. -/
def isDg (c : UInt8) : Prop := 48 ≤ c.toNat ∧ c.toNat ≤ 57
theorem ofNat_toNat {k : Nat} (h : k < 256) : (UInt8.ofNat k).toNat = k := by
  show k % 256 = k
  omega
theorem dec_dg : ∀ (u : Nat), ∀ c ∈ decDigits u, isDg c := fun u => by
  induction u using Nat.strongRecOn with
  | _ u ih =>
    intro c hc
    rw [decDigits] at hc
    split at hc
    · rw [List.mem_singleton] at hc
      subst hc
      unfold isDg
      rw [ofNat_toNat (by omega)]; omega
    · rcases List.mem_append.1 hc with h | h
      · exact ih (u / 10) (by omega) c h
      · rw [List.mem_singleton] at h
        subst h
        unfold isDg
        rw [ofNat_toNat (by omega)]; omega
def valL (l : List UInt8) : Nat := l.foldl (fun a c => a * 10 + (c.toNat - 48)) 0
theorem val_app (l : List UInt8) (c : UInt8) : valL (l ++ [c]) = valL l * 10 + (c.toNat - 48) := by
  unfold valL; rw [List.foldl_append]; rfl
theorem val_dec : ∀ u : Nat, valL (decDigits u) = u := fun u => by
  induction u using Nat.strongRecOn with
  | _ u ih =>
    rw [decDigits]
    split
    · unfold valL
      simp only [List.foldl_cons, List.foldl_nil]
      rw [ofNat_toNat (by omega)]; omega
    · rw [val_app, ih (u / 10) (by omega), ofNat_toNat (by omega)]; omega
theorem dec_inj {u v : Nat} (h : decDigits u = decDigits v) : u = v := by rw [← val_dec u, h, val_dec]
theorem dec_ne (u : Nat) : decDigits u ≠ [] := fun h => by
  have := decDigits_length u
  have h2 := nDigits_pos u
  rw [h] at this
  simp at this
  omega
theorem dec_len : ∀ (k u : Nat), 1 ≤ k → u < 10 ^ k → (decDigits u).length ≤ k
  | 0, u, h, _ => by omega
  | k + 1, u, _, h => by
    rw [decDigits]
    split
    · simp
    · rename_i h9
      rw [List.length_append]
      rw [Nat.pow_succ] at h
      by_cases hk : 1 ≤ k
      · have := dec_len k (u / 10) hk (by omega)
        simp; omega
      · have : k = 0 := by omega
        subst this
        simp at h; omega
theorem dec_no {u : Nat} {c : UInt8} (h : c.toNat < 48 ∨ 57 < c.toNat) : c ∉ decDigits u := fun hc => by
  have := dec_dg u c hc
  unfold isDg at this
  omega
theorem decFrom_dg : ∀ (l : List UInt8) (a : Nat), (∀ c ∈ l, isDg c) → decFrom a l = some (l.foldl (fun a c => a * 10 + (c.toNat - 48)) a)
  | [], a, _ => rfl
  | c :: r, a, h => by
    have hc : 48 ≤ c.toNat ∧ c.toNat ≤ 57 := h c (by simp)
    simp only [decFrom, digitVal, if_pos hc]
    exact decFrom_dg r _ fun d hd => h d (by simp [hd])
theorem atoi_dec {u : Nat} (h : u < 1000) : atoiAll (decDigits u) = .ok (u : Int) := by
  rw [atoiAll_short _ (by have := dec_len 3 u (by decide) (by omega); omega)]
  have hd := dec_dg u
  have hv := val_dec u
  cases hl : decDigits u with
  | nil => exact absurd hl (dec_ne u)
  | cons c r =>
    rw [hl] at hd hv
    have hc : isDg c := hd c (by simp)
    unfold isDg at hc
    have h45 : c ≠ 45 := fun e => by subst e; exact absurd hc.1 (by decide)
    have h43 : c ≠ 43 := fun e => by subst e; exact absurd hc.1 (by decide)
    have : atoi (c :: r) = some (u : Int) := by
      have hn : decNat (c :: r) = some u := by
        unfold decNat
        rw [if_neg (by simp), decFrom_dg _ _ hd]
        exact congrArg some hv
      simp [atoi, h45, h43, hn]
    rw [this]; rfl
theorem itoa_nat (u : Nat) : itoa (u : Int) = decDigits u := itoa_nonneg u
theorem itoa_no {i : Int} (h : 0 ≤ i) {c : UInt8} (hc : c.toNat < 48 ∨ 57 < c.toNat) : c ∉ itoa i := by
  obtain ⟨u, rfl⟩ := Int.eq_ofNat_of_zero_le h
  rw [itoa_nat]; exact dec_no hc
theorem itoa_len {i : Int} (h : 0 ≤ i) (h2 : i < 1000003) : (itoa i).length ≤ 7 := by
  obtain ⟨u, rfl⟩ := Int.eq_ofNat_of_zero_le h
  rw [itoa_nat]; exact dec_len 7 u (by decide) (by omega)
/-! Cutting at a byte. -/
def brk (c : UInt8) : List UInt8 → List UInt8 × Option (List UInt8)
  | [] => ([], none)
  | b :: l => if b = c then ([], some l) else (b :: (brk c l).1, (brk c l).2)
theorem brk_hit {c : UInt8} : ∀ {a r : List UInt8}, c ∉ a → brk c (a ++ c :: r) = (a, some r)
  | [], r, _ => by simp [brk]
  | b :: a, r, h => by
    have hb : ¬ b = c := fun e => h (e ▸ List.mem_cons_self)
    have ih := brk_hit (a := a) (r := r) (fun e => h (List.mem_cons_of_mem _ e))
    simp only [List.cons_append, brk, if_neg hb, ih]
theorem brk_miss {c : UInt8} : ∀ {a : List UInt8}, c ∉ a → brk c a = (a, none)
  | [], _ => rfl
  | b :: a, h => by
    have hb : ¬ b = c := fun e => h (e ▸ List.mem_cons_self)
    have ih := brk_miss (a := a) (fun e => h (List.mem_cons_of_mem _ e))
    simp only [List.cons_append, brk, if_neg hb, ih]
theorem brk_some {c : UInt8} : ∀ {l r : List UInt8}, (brk c l).2 = some r → l = (brk c l).1 ++ c :: r
  | [], r, h => by cases h
  | b :: l, r, h => by
    by_cases hb : b = c
    · simp only [brk, if_pos hb] at h ⊢
      injection h with h
      rw [hb, h]; rfl
    · simp only [brk, if_neg hb] at h ⊢
      have ih := brk_some h
      rw [List.cons_append, ← ih]
theorem brk_none {c : UInt8} : ∀ {l : List UInt8}, (brk c l).2 = none → l = (brk c l).1
  | [], h => rfl
  | b :: l, h => by
    by_cases hb : b = c
    · simp [brk, hb] at h
    · simp only [brk, if_neg hb] at h ⊢
      have ih := brk_none h
      rw [← ih]
theorem index_brk (c : UInt8) : ∀ l : List UInt8, index l [c] = match (brk c l).2 with | none => -1 | some _ => ((brk c l).1.length : Int)
  | [] => rfl
  | b :: l => by
    by_cases hb : b = c
    · subst hb
      simp [brk, index, List.isPrefixOf]
    · have hp : [c].isPrefixOf (b :: l) = false := by
        simp [List.isPrefixOf]
        exact fun e => hb e.symm
      have ih := index_brk c l
      unfold index
      rw [hp, ih]
      simp only [brk, if_neg hb]
      cases h2 : (brk c l).2 with
      | none => rfl
      | some r =>
        have : ¬ (((brk c l).1.length : Int) == -1) = true := by rw [beq_iff_eq]; omega
        simp [this]
theorem brk_le {c : UInt8} {l r : List UInt8} (h : (brk c l).2 = some r) : r.length + (brk c l).1.length + 1 = l.length := by
  have := congrArg List.length (brk_some h)
  simp at this
  omega
theorem pre_take (a r : List UInt8) (c : UInt8) : (a ++ c :: r).take a.length = a := by simp
theorem pre_drop (a r : List UInt8) (c : UInt8) : (a ++ c :: r).drop (a.length + [c].length) = r := by
  rw [show [c].length = 1 from rfl, ← List.drop_drop, List.drop_left]; rfl
theorem brk_take {c : UInt8} {l r : List UInt8} (h : (brk c l).2 = some r) : l.take (brk c l).1.length = (brk c l).1 := by
  have := pre_take (brk c l).1 r c
  rwa [← brk_some h] at this
theorem brk_drop {c : UInt8} {l r : List UInt8} (h : (brk c l).2 = some r) : l.drop ((brk c l).1.length + [c].length) = r := by
  have := pre_drop (brk c l).1 r c
  rwa [← brk_some h] at this
theorem cut_brk (c : UInt8) (l : List UInt8) : cut l [c] = ((brk c l).1, (brk c l).2.getD [], (brk c l).2.isSome) := by
  unfold cut
  rw [index_brk]
  cases h : (brk c l).2 with
  | none =>
    rw [if_neg (by simp)]
    rw [← brk_none h]; rfl
  | some r =>
    simp only
    rw [if_pos (by omega), Int.toNat_natCast]
    have hs := brk_some h
    have h1 := brk_take h
    have h2 := brk_drop h
    rw [h1, h2]; rfl
/-! Splitting at a byte. -/
def spl (c : UInt8) : List UInt8 → List (List UInt8)
  | [] => [[]]
  | b :: l => if b = c then [] :: spl c l else match spl c l with | [] => [[b]] | h :: t => (b :: h) :: t
theorem spl_brk (c : UInt8) : ∀ l : List UInt8, spl c l = match (brk c l).2 with | none => [(brk c l).1] | some r => (brk c l).1 :: spl c r
  | [] => rfl
  | b :: l => by
    by_cases hb : b = c
    · simp [spl, brk, hb]
    · have ih := spl_brk c l
      simp only [spl, brk, if_neg hb]
      cases h : (brk c l).2 with
      | none => rw [h] at ih; simp only [ih]
      | some r => rw [h] at ih; simp only [ih]
theorem spl_pos (c : UInt8) (l : List UInt8) : 1 ≤ (spl c l).length := by
  rw [spl_brk]
  cases (brk c l).2 <;> simp
theorem splitK_spl (c : UInt8) : ∀ (k : Nat) (l : List UInt8), (spl c l).length ≤ k + 1 → splitK [c] 0 k l = spl c l
  | 0, l, h => by
    have h2 := spl_brk c l
    cases hb : (brk c l).2 with
    | none => rw [hb] at h2; simp only at h2; rw [h2, ← brk_none hb]; rfl
    | some r =>
      rw [hb] at h2; simp only at h2
      rw [h2] at h
      have := spl_pos c r
      rw [List.length_cons] at h; omega
  | k + 1, l, h => by
    have h2 := spl_brk c l
    have hc := cut_brk c l
    unfold splitK
    rw [index_brk]
    cases hb : (brk c l).2 with
    | none => rw [hb] at h2; simp only at h2; rw [h2]; simp [← brk_none hb]
    | some r =>
      rw [hb] at h2; simp only at h2
      have : ¬ (((brk c l).1.length : Int) == -1) = true := by rw [beq_iff_eq]; omega
      simp only [this]
      rw [if_neg (by simp), Int.toNat_natCast, h2]
      have hs := brk_some hb
      have h1 : l.take ((brk c l).1.length + 0) = (brk c l).1 := brk_take hb
      have h3 := brk_drop hb
      rw [h1, h3, splitK_spl c k r (by rw [h2] at h; simp at h; omega)]
theorem count_spl (c : UInt8) : ∀ (f : Nat) (l : List UInt8), l.length < f → countFrom [c] f l + 1 = (spl c l).length
  | 0, l, h => by omega
  | f + 1, l, h => by
    have h2 := spl_brk c l
    unfold countFrom
    rw [index_brk]
    cases hb : (brk c l).2 with
    | none => rw [hb] at h2; simp only at h2; rw [h2]; simp
    | some r =>
      rw [hb] at h2; simp only at h2
      have : ¬ (((brk c l).1.length : Int) == -1) = true := by rw [beq_iff_eq]; omega
      simp only [this]
      rw [if_neg (by simp), Int.toNat_natCast, h2]
      have hs := brk_some hb
      have h3 := brk_drop hb
      have hl := brk_le hb
      have ih := count_spl c f r (by omega)
      rw [h3]; simp; omega
theorem spl_data (c : UInt8) (L : List UInt8) : (splitB ⟨#[c]⟩ 0 (countB ⟨L.toArray⟩ ⟨#[c]⟩) ⟨L.toArray⟩).map (·.data.toList) = spl c L ∧ countB ⟨L.toArray⟩ ⟨#[c]⟩ + 1 = (spl c L).length := by
  have h : countB ⟨L.toArray⟩ ⟨#[c]⟩ + 1 = (spl c L).length := count_spl c (L.length + 1) L (by omega)
  refine ⟨?_, h⟩
  rw [splitB_data]
  exact splitK_spl c _ L (by omega)
end Go.Bt
