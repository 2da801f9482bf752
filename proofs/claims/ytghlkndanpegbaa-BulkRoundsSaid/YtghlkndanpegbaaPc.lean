/- Labels that are lowered: prices, or a round along which the cost falls. -/
import Derived.Test.YtghlkndanpegbaaPb
set_option linter.unusedVariables false
set_option linter.unusedSimpArgs false
namespace Go.Tp
open Go.Sand

/-- Labels of stores and buyers: the cost, where from, and the round in which it was lowered last. -/
structure LS where
  a : Nat → Int
  pa : Nat → Int
  ta : Nat → Nat
  b : Nat → Int
  pb : Nat → Int
  tb : Nat → Nat
def put {α : Type} (f : Nat → α) (k : Nat) (v : α) : Nat → α := fun i => if i = k then v else f i
theorem put_k {α : Type} (f : Nat → α) (k : Nat) (v : α) : put f k v k = v := if_pos rfl
theorem put_ne {α : Type} (f : Nat → α) {k i : Nat} (v : α) (h : i ≠ k) : put f k v i = f i := if_neg h
structure Inv (S B : Nat) (c x : Mat) (s : LS) : Prop where
  hs : ∀ i, i < S → 0 < s.ta i → ∃ j : Nat, s.pa i = j ∧ j < B ∧ 0 < x i j ∧ s.ta i ≤ s.tb j ∧ s.b j - c i j ≤ s.a i ∧ (s.tb j = s.ta i ∨ s.b j - c i j < s.a i)
  hb : ∀ j, j < B → 0 < s.tb j → ∃ i : Nat, s.pb j = i ∧ i < S ∧ s.tb j ≤ s.ta i + 1 ∧ s.a i + c i j ≤ s.b j ∧ (s.tb j = s.ta i + 1 ∨ s.a i + c i j < s.b j)
/-- What has been gone through. -/
def lex (i j : Nat) : Nat → Nat → Prop := fun p q => p < i ∨ p = i ∧ q < j
structure PhB (S B : Nat) (c x : Mat) (k : Nat) (dn : Nat → Nat → Prop) (s : LS) : Prop extends Inv S B c x s where
  tA : ∀ i, i < S → s.ta i ≤ k
  tB : ∀ j, j < B → s.tb j ≤ k + 1
  k1 : ∀ i j, i < S → j < B → 0 < x i j → s.tb j = k + 1 ∨ s.a i ≤ s.b j - c i j
  k2 : ∀ i j, i < S → j < B → s.ta i = k ∨ s.b j ≤ s.a i + c i j
  dn : ∀ i j, i < S → j < B → dn i j → s.b j ≤ s.a i + c i j
  aB : ∀ i, i < S → -(99 * (k : Int)) ≤ s.a i ∧ s.a i ≤ 0
  bB : ∀ j, j < B → -(99 * (k : Int)) ≤ s.b j ∧ s.b j ≤ 100
structure PhS (S B : Nat) (c x : Mat) (k : Nat) (dn : Nat → Nat → Prop) (low : Int) (s : LS) : Prop extends Inv S B c x s where
  tA : ∀ i, i < S → s.ta i ≤ k + 1
  tB : ∀ j, j < B → s.tb j ≤ k + 1
  k1 : ∀ i j, i < S → j < B → 0 < x i j → s.tb j = k + 1 ∨ s.a i ≤ s.b j - c i j
  k3 : ∀ i j, i < S → j < B → s.ta i = k + 1 ∨ s.b j ≤ s.a i + c i j
  dn : ∀ i j, i < S → j < B → dn i j → 0 < x i j → s.a i ≤ s.b j - c i j
  aB : ∀ i, i < S → -(99 * ((k : Int) + 1)) ≤ s.a i ∧ s.a i ≤ 0
  bB : ∀ j, j < B → -(99 * (k : Int)) ≤ s.b j ∧ s.b j ≤ 100
  lw : (low = -1 ∧ ∀ i j, i < S → j < B → s.b j ≤ s.a i + c i j) ∨ ∃ i : Nat, low = i ∧ i < S ∧ s.ta i = k + 1
variable {S B k : Nat} {c x : Mat} {s : LS}
def lowB (s : LS) (k i j : Nat) (v : Int) : LS := { s with b := put s.b j v, pb := put s.pb j i, tb := put s.tb j (k + 1) }
def lowS (s : LS) (k i j : Nat) (v : Int) : LS := { s with a := put s.a i v, pa := put s.pa i j, ta := put s.ta i (k + 1) }
theorem PhB.zero (hc : ∀ i j, i < S → j < B → 0 ≤ c i j ∧ c i j ≤ 99) (pa pb : Nat → Int) : PhB S B c x 0 (lex 0 0) ⟨fun _ => 0, pa, fun _ => 0, fun _ => 100, pb, fun _ => 0⟩ :=
  ⟨⟨fun i hi h => absurd h (Nat.lt_irrefl _), fun j hj h => absurd h (Nat.lt_irrefl _)⟩, fun _ _ => Nat.le_refl _, fun _ _ => Nat.zero_le _, fun i j hi hj _ => .inr (by have := hc i j hi hj; show 0 ≤ 100 - c i j; omega), fun _ _ _ _ => .inl rfl,
   fun i j _ _ h => by unfold lex at h; omega, fun _ _ => by show -(99 * ((0 : Nat) : Int)) ≤ (0 : Int) ∧ (0 : Int) ≤ 0; decide, fun _ _ => by show -(99 * ((0 : Nat) : Int)) ≤ (100 : Int) ∧ (100 : Int) ≤ 100; decide⟩
theorem PhB.step (hc : ∀ i j, i < S → j < B → 0 ≤ c i j ∧ c i j ≤ 99) {i j : Nat} (h : PhB S B c x k (lex i j) s) (hi : i < S) (hj : j < B) (hl : s.a i + c i j < s.b j) : PhB S B c x k (lex i (j + 1)) (lowB s k i j (s.a i + c i j)) := by
  have hk : s.ta i = k := by
    rcases h.k2 i j hi hj with h1 | h1
    · exact h1
    · omega
  have hbl : ∀ q, q < B → (lowB s k i j (s.a i + c i j)).b q ≤ s.b q := fun q _ => by
    show put s.b j _ q ≤ s.b q
    by_cases e : q = j
    · subst e; rw [put_k]; omega
    · rw [put_ne _ _ e]; exact Int.le_refl _
  have htb : ∀ q, q < B → s.tb q ≤ (lowB s k i j (s.a i + c i j)).tb q := fun q hq => by
    show s.tb q ≤ put s.tb j _ q
    by_cases e : q = j
    · subst e; rw [put_k]; exact h.tB _ hq
    · rw [put_ne _ _ e]; exact Nat.le_refl _
  refine ⟨⟨fun p hp ht => ?_, fun q hq ht => ?_⟩, h.tA, fun q hq => ?_, fun p q hp hq hx => ?_, fun p q hp hq => ?_, fun p q hp hq hd => ?_, h.aB, fun q hq => ?_⟩
  · obtain ⟨q, h1, h2, h3, h4, h5, h6⟩ := h.hs p hp ht
    refine ⟨q, h1, h2, h3, Nat.le_trans h4 (htb q h2), ?_, ?_⟩
    · have := hbl q h2
      show _ ≤ s.a p
      omega
    · by_cases e : q = j
      · subst e
        refine .inr ?_
        show put s.b q _ q - c p q < s.a p
        rw [put_k]; omega
      · show put s.tb j _ q = s.ta p ∨ put s.b j _ q - c p q < s.a p
        rw [put_ne _ _ e, put_ne _ _ e]; exact h6
  · by_cases e : q = j
    · subst e
      refine ⟨i, put_k _ _ _, hi, ?_, ?_, .inl ?_⟩
      · show put s.tb q _ q ≤ s.ta i + 1; rw [put_k]; omega
      · show s.a i + c i q ≤ put s.b q _ q; rw [put_k]; exact Int.le_refl _
      · show put s.tb q _ q = s.ta i + 1; rw [put_k]; omega
    · have ht' : 0 < s.tb q := by have h9 : 0 < put s.tb j (k + 1) q := ht; rwa [put_ne _ _ e] at h9
      obtain ⟨p, h1, h2, h3, h4, h5⟩ := h.hb q hq ht'
      refine ⟨p, (put_ne _ _ e).trans h1, h2, ?_, ?_, ?_⟩
      · show put s.tb j _ q ≤ s.ta p + 1; rw [put_ne _ _ e]; exact h3
      · show s.a p + c p q ≤ put s.b j _ q; rw [put_ne _ _ e]; exact h4
      · show put s.tb j _ q = s.ta p + 1 ∨ s.a p + c p q < put s.b j _ q; rw [put_ne _ _ e, put_ne _ _ e]; exact h5
  · show put s.tb j _ q ≤ k + 1
    by_cases e : q = j
    · subst e; rw [put_k]; exact Nat.le_refl _
    · rw [put_ne _ _ e]; exact h.tB q hq
  · by_cases e : q = j
    · subst e; exact .inl (put_k _ _ _)
    · show put s.tb j _ q = k + 1 ∨ s.a p ≤ put s.b j _ q - c p q
      rw [put_ne _ _ e, put_ne _ _ e]; exact h.k1 p q hp hq hx
  · rcases h.k2 p q hp hq with h1 | h1
    · exact .inl h1
    · have := hbl q hq
      exact .inr (by show _ ≤ s.a p + c p q; omega)
  · have := hbl q hq
    show _ ≤ s.a p + c p q
    unfold lex at hd
    by_cases e : p = i ∧ q = j
    · obtain ⟨rfl, rfl⟩ := e
      show put s.b q _ q ≤ _
      rw [put_k]; exact Int.le_refl _
    · have := h.dn p q hp hq (by unfold lex; omega)
      omega
  · show -(99 * (k : Int)) ≤ put s.b j _ q ∧ put s.b j _ q ≤ 100
    by_cases e : q = j
    · subst e
      have h1 := h.aB i hi
      have h2 := hc i q hi hj
      rw [put_k]; omega
    · rw [put_ne _ _ e]; exact h.bB q hq
theorem PhB.skip {i j : Nat} (h : PhB S B c x k (lex i j) s) (hl : ¬ s.a i + c i j < s.b j) : PhB S B c x k (lex i (j + 1)) s :=
  ⟨h.toInv, h.tA, h.tB, h.k1, h.k2, fun p q hp hq hd => by
    unfold lex at hd
    by_cases e : p = i ∧ q = j
    · obtain ⟨rfl, rfl⟩ := e; omega
    · exact h.dn p q hp hq (by unfold lex; omega), h.aB, h.bB⟩
theorem PhB.next {i j : Nat} (h : PhB S B c x k (lex i j) s) (hj : B ≤ j) : PhB S B c x k (lex (i + 1) 0) s :=
  ⟨h.toInv, h.tA, h.tB, h.k1, h.k2, fun p q hp hq hd => h.dn p q hp hq (by unfold lex at hd ⊢; omega), h.aB, h.bB⟩
theorem PhB.fin {i : Nat} (h : PhB S B c x k (lex i 0) s) (hi : S ≤ i) : PhS S B c x k (lex 0 0) (-1) s := by
  have hd : ∀ p q, p < S → q < B → s.b q ≤ s.a p + c p q := fun p q hp hq => h.dn p q hp hq (by unfold lex; omega)
  exact ⟨h.toInv, fun p hp => Nat.le_succ_of_le (h.tA p hp), h.tB, h.k1, fun p q hp hq => .inr (hd p q hp hq), fun p q _ _ h => by unfold lex at h; omega, fun p hp => by have := h.aB p hp; omega, h.bB, .inl ⟨rfl, hd⟩⟩
theorem PhS.step (hc : ∀ i j, i < S → j < B → 0 ≤ c i j ∧ c i j ≤ 99) {i j : Nat} {low : Int} (h : PhS S B c x k (lex i j) low s) (hi : i < S) (hj : j < B) (hx : 0 < x i j) (hl : s.b j - c i j < s.a i) : PhS S B c x k (lex i (j + 1)) i (lowS s k i j (s.b j - c i j)) := by
  have hk : s.tb j = k + 1 := by
    rcases h.k1 i j hi hj hx with h1 | h1
    · exact h1
    · omega
  have hal : ∀ p, p < S → (lowS s k i j (s.b j - c i j)).a p ≤ s.a p := fun p _ => by
    show put s.a i _ p ≤ s.a p
    by_cases e : p = i
    · subst e; rw [put_k]; omega
    · rw [put_ne _ _ e]; exact Int.le_refl _
  have hta : ∀ p, p < S → s.ta p ≤ (lowS s k i j (s.b j - c i j)).ta p := fun p hp => by
    show s.ta p ≤ put s.ta i _ p
    by_cases e : p = i
    · subst e; rw [put_k]; exact h.tA _ hp
    · rw [put_ne _ _ e]; exact Nat.le_refl _
  refine ⟨⟨fun p hp ht => ?_, fun q hq ht => ?_⟩, fun p hp => ?_, h.tB, fun p q hp hq hx => ?_, fun p q hp hq => ?_, fun p q hp hq hd hx2 => ?_, fun p hp => ?_, h.bB, .inr ⟨i, rfl, hi, put_k _ _ _⟩⟩
  · by_cases e : p = i
    · subst e
      refine ⟨j, put_k _ _ _, hj, hx, ?_, ?_, .inl ?_⟩
      · show put s.ta p _ p ≤ s.tb j; rw [put_k]; omega
      · show s.b j - c p j ≤ put s.a p _ p; rw [put_k]; exact Int.le_refl _
      · show s.tb j = put s.ta p _ p; rw [put_k]; omega
    · have ht' : 0 < s.ta p := by have h9 : 0 < put s.ta i (k + 1) p := ht; rwa [put_ne _ _ e] at h9
      obtain ⟨q, h1, h2, h3, h4, h5, h6⟩ := h.hs p hp ht'
      refine ⟨q, (put_ne _ _ e).trans h1, h2, h3, ?_, ?_, ?_⟩
      · show put s.ta i _ p ≤ s.tb q; rw [put_ne _ _ e]; exact h4
      · show s.b q - c p q ≤ put s.a i _ p; rw [put_ne _ _ e]; exact h5
      · show s.tb q = put s.ta i _ p ∨ s.b q - c p q < put s.a i _ p; rw [put_ne _ _ e, put_ne _ _ e]; exact h6
  · obtain ⟨p, h1, h2, h3, h4, h5⟩ := h.hb q hq ht
    refine ⟨p, h1, h2, ?_, ?_, ?_⟩
    · have := hta p h2
      show s.tb q ≤ _
      omega
    · have := hal p h2
      show _ ≤ s.b q
      omega
    · by_cases e : p = i
      · subst e
        refine .inr ?_
        show put s.a p _ p + c p q < s.b q
        rw [put_k]; omega
      · show s.tb q = put s.ta i _ p + 1 ∨ put s.a i _ p + c p q < s.b q
        rw [put_ne _ _ e, put_ne _ _ e]; exact h5
  · show put s.ta i _ p ≤ k + 1
    by_cases e : p = i
    · subst e; rw [put_k]; exact Nat.le_refl _
    · rw [put_ne _ _ e]; exact h.tA p hp
  · rcases h.k1 p q hp hq hx with h1 | h1
    · exact .inl h1
    · have := hal p hp
      exact .inr (by show _ ≤ s.b q - c p q; omega)
  · by_cases e : p = i
    · subst e; exact .inl (put_k _ _ _)
    · show put s.ta i _ p = k + 1 ∨ s.b q ≤ put s.a i _ p + c p q
      rw [put_ne _ _ e, put_ne _ _ e]; exact h.k3 p q hp hq
  · have := hal p hp
    show _ ≤ s.b q - c p q
    unfold lex at hd
    by_cases e : p = i ∧ q = j
    · obtain ⟨rfl, rfl⟩ := e
      show put s.a p _ p ≤ _
      rw [put_k]; exact Int.le_refl _
    · have := h.dn p q hp hq (by unfold lex; omega) hx2
      omega
  · show -(99 * ((k : Int) + 1)) ≤ put s.a i _ p ∧ put s.a i _ p ≤ 0
    by_cases e : p = i
    · subst e
      have h1 := h.bB j hj
      have h2 := hc p j hi hj
      have h3 := h.aB p hi
      rw [put_k]; omega
    · rw [put_ne _ _ e]; exact h.aB p hp
theorem PhS.skip {i j : Nat} {low : Int} (h : PhS S B c x k (lex i j) low s) (hl : ¬ (0 < x i j ∧ s.b j - c i j < s.a i)) : PhS S B c x k (lex i (j + 1)) low s :=
  ⟨h.toInv, h.tA, h.tB, h.k1, h.k3, fun p q hp hq hd hx => by
    unfold lex at hd
    by_cases e : p = i ∧ q = j
    · obtain ⟨rfl, rfl⟩ := e; omega
    · exact h.dn p q hp hq (by unfold lex; omega) hx, h.aB, h.bB, h.lw⟩
theorem PhS.next {i j : Nat} {low : Int} (h : PhS S B c x k (lex i j) low s) (hj : B ≤ j) : PhS S B c x k (lex (i + 1) 0) low s :=
  ⟨h.toInv, h.tA, h.tB, h.k1, h.k3, fun p q hp hq hd => h.dn p q hp hq (by unfold lex at hd ⊢; omega), h.aB, h.bB, h.lw⟩
theorem PhS.fin {i : Nat} {low : Int} (h : PhS S B c x k (lex i 0) low s) (hi : S ≤ i) : PhB S B c x (k + 1) (lex 0 0) s :=
  ⟨h.toInv, h.tA, fun q hq => Nat.le_succ_of_le (h.tB q hq), fun p q hp hq hx => .inr (h.dn p q hp hq (by unfold lex; omega) hx), h.k3, fun p q _ _ h => by unfold lex at h; omega, h.aB, fun q hq => by have := h.bB q hq; omega⟩
theorem PhS.prices {i : Nat} {low : Int} (h : PhS S B c x k (lex i 0) low s) (hi : S ≤ i) (hl : low < 0) : Hon S B c (fun i => -s.a i) s.b ∧ Tight S B c x (fun i => -s.a i) s.b := by
  rcases h.lw with ⟨_, h1⟩ | ⟨p, rfl, _⟩
  · refine ⟨fun p q hp hq => by have := h1 p q hp hq; show -s.a p + s.b q ≤ c p q; omega, fun p q hp hq hx => ?_⟩
    have h2 := h1 p q hp hq
    have h3 := h.dn p q hp hq (by unfold lex; omega) hx
    show -s.a p + s.b q = c p q
    omega
  · omega
end Go.Tp
