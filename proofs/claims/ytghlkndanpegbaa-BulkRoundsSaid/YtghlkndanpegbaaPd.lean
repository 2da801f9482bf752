/- Going back along labels: a round on which the cost falls. -/
import Derived.Test.YtghlkndanpegbaaPc
set_option linter.unusedVariables false
set_option linter.unusedSimpArgs false
namespace Go.Tp
open Go.Sand

variable {S B : Nat} {c x : Mat} {s : LS}
/-- The buyer before a store, and the store before that one. -/
def jb (s : LS) (i : Nat) : Nat := (s.pa i).toNat
def sb (s : LS) (i : Nat) : Nat := (s.pb (jb s i)).toNat
def it (f : Nat → Nat) : Nat → Nat → Nat
  | 0, i => i
  | m + 1, i => f (it f m i)
theorem it_add (f : Nat → Nat) (a b i : Nat) : it f (a + b) i = it f b (it f a i) := by
  induction b with
  | zero => rfl
  | succ b ih => show f (it f (a + b) i) = f (it f b (it f a i)); rw [ih]
/-- What is known of a store that has been lowered. -/
theorem Inv.back (h : Inv S B c x s) {i : Nat} (hi : i < S) (ht : 0 < s.ta i) :
    s.pa i = jb s i ∧ jb s i < B ∧ 0 < x i (jb s i) ∧ s.pb (jb s i) = sb s i ∧ sb s i < S ∧ s.ta i ≤ s.ta (sb s i) + 1 ∧ c (sb s i) (jb s i) - c i (jb s i) ≤ s.a i - s.a (sb s i) ∧ (s.ta i = s.ta (sb s i) + 1 ∨ c (sb s i) (jb s i) - c i (jb s i) < s.a i - s.a (sb s i)) := by
  obtain ⟨j, h1, h2, h3, h4, h5, h6⟩ := h.hs i hi ht
  obtain ⟨p, g1, g2, g3, g4, g5⟩ := h.hb j h2 (by omega)
  have ej : jb s i = j := by unfold jb; rw [h1]; rfl
  have es : sb s i = p := by unfold sb; rw [ej, g1]; rfl
  rw [es, ej]
  refine ⟨h1, h2, h3, g1, g2, by omega, by omega, ?_⟩
  rcases h6 with h6 | h6
  · rcases g5 with g5 | g5
    · exact .inl (by omega)
    · exact .inr (by omega)
  · exact .inr (by omega)
theorem Inv.walk (h : Inv S B c x s) {i : Nat} (hi : i < S) : ∀ m, m ≤ s.ta i → it (sb s) m i < S ∧ s.ta i ≤ s.ta (it (sb s) m i) + m
  | 0, _ => ⟨hi, by show s.ta i ≤ s.ta i + 0; omega⟩
  | m + 1, hm => by
    have ih := h.walk hi m (by omega)
    have hb := h.back ih.1 (by omega)
    exact ⟨hb.2.2.2.2.1, by show _ ≤ s.ta (sb s (it (sb s) m i)) + (m + 1); omega⟩
theorem least {P : Nat → Prop} : ∀ n, P n → ∃ m, m ≤ n ∧ P m ∧ ∀ k, k < m → ¬ P k := by
  intro n
  induction n using Nat.strongRecOn with
  | _ n ih =>
    intro hn
    by_cases h : ∃ k, k < n ∧ P k
    · obtain ⟨k, hk, hp⟩ := h
      obtain ⟨m, h1, h2, h3⟩ := ih k hk hp
      exact ⟨m, by omega, h2, h3⟩
    · exact ⟨n, Nat.le_refl _, hn, fun k hk hp => h ⟨k, hk, hp⟩⟩
theorem pigeon {z : Nat → Nat} {S : Nat} (h : ∀ m, m ≤ S → z m < S) : ∃ p q, p < q ∧ q ≤ S ∧ z p = z q := by
  refine Classical.byContradiction fun hn => ?_
  have hnd : ((List.range (S + 1)).map z).Nodup := by
    rw [List.Nodup, List.pairwise_map]
    refine List.Pairwise.imp_of_mem ?_ (List.pairwise_lt_range (n := S + 1))
    intro a b _ hb hab e
    exact hn ⟨a, b, hab, by have := List.mem_range.1 hb; omega, e⟩
  have := List.Nodup.length_le_of_subset (l₂ := List.range S) hnd (fun y hy => by
    obtain ⟨m, hm, rfl⟩ := List.mem_map.1 hy
    exact List.mem_range.2 (h m (by have := List.mem_range.1 hm; omega)))
  rw [List.length_map, List.length_range, List.length_range] at this
  omega
/-- A store on a round: how long the round is. -/
structure Cyc (S B : Nat) (c x : Mat) (s : LS) (y L : Nat) : Prop where
  inv : Inv S B c x s
  ok : ∀ m, it (sb s) m y < S ∧ 0 < s.ta (it (sb s) m y)
  pos : 1 ≤ L
  le : L ≤ S
  cl : it (sb s) L y = y
  min : ∀ m, 1 ≤ m → m < L → it (sb s) m y ≠ y
theorem Inv.cyc (h : Inv S B c x s) {i : Nat} (hi : i < S) (ht : S ≤ s.ta i) : ∃ L, Cyc S B c x s (it (sb s) S i) L := by
  have hw : ∀ m, m ≤ S → it (sb s) m i < S ∧ s.ta i ≤ s.ta (it (sb s) m i) + m := fun m hm => h.walk hi m (by omega)
  obtain ⟨p, q, hpq, hq, e⟩ := pigeon (z := fun m => it (sb s) m i) fun m hm => (hw m hm).1
  have hper : ∀ m, it (sb s) (p + m) i = it (sb s) (q + m) i := fun m => by rw [it_add, it_add]; rw [show it (sb s) p i = it (sb s) q i from e]
  have hred : ∀ n, ∃ n', n' < S ∧ it (sb s) n i = it (sb s) n' i := fun n => by
    induction n using Nat.strongRecOn with
    | _ n ih =>
      by_cases h1 : n < S
      · exact ⟨n, h1, rfl⟩
      · obtain ⟨n', h2, h3⟩ := ih (n - (q - p)) (by omega)
        refine ⟨n', h2, ?_⟩
        rw [← h3]
        have := hper (n - q)
        rw [show q + (n - q) = n by omega, show p + (n - q) = n - (q - p) by omega] at this
        exact this.symm
  have hok : ∀ m, it (sb s) m (it (sb s) S i) < S ∧ 0 < s.ta (it (sb s) m (it (sb s) S i)) := fun m => by
    rw [← it_add]
    obtain ⟨n', h2, h3⟩ := hred (S + m)
    have := hw n' (by omega)
    rw [h3]
    exact ⟨this.1, by omega⟩
  have hcl : it (sb s) (q - p) (it (sb s) S i) = it (sb s) S i := by
    rw [← it_add]
    have := hper (S - p)
    rw [show p + (S - p) = S by omega, show q + (S - p) = S + (q - p) by omega] at this
    exact this.symm
  obtain ⟨L, h1, ⟨h2, h3⟩, h4⟩ := least (P := fun m => 1 ≤ m ∧ it (sb s) m (it (sb s) S i) = it (sb s) S i) (q - p) ⟨by omega, hcl⟩
  exact ⟨L, h, hok, h2, by omega, h3, fun m hm hm2 he => h4 m hm2 ⟨hm, he⟩⟩
variable {y L : Nat}
abbrev ys (s : LS) (y m : Nat) : Nat := it (sb s) m y
/-- The pairs of the round. -/
def gy (s : LS) (y : Nat) (t : Nat) : Nat × Nat := (ys s y (t / 2 + 1), jb s (ys s y ((t + 1) / 2)))
theorem Cyc.per (h : Cyc S B c x s y L) (m : Nat) : ys s y (L + m) = ys s y m := by
  show it (sb s) (L + m) y = _
  rw [it_add, h.cl]
theorem Cyc.bk (h : Cyc S B c x s y L) (m : Nat) : s.pa (ys s y m) = jb s (ys s y m) ∧ jb s (ys s y m) < B ∧ 0 < x (ys s y m) (jb s (ys s y m)) ∧ s.pb (jb s (ys s y m)) = sb s (ys s y m) ∧ sb s (ys s y m) < S ∧ s.ta (ys s y m) ≤ s.ta (sb s (ys s y m)) + 1 ∧ c (sb s (ys s y m)) (jb s (ys s y m)) - c (ys s y m) (jb s (ys s y m)) ≤ s.a (ys s y m) - s.a (sb s (ys s y m)) ∧
    (s.ta (ys s y m) = s.ta (sb s (ys s y m)) + 1 ∨ c (sb s (ys s y m)) (jb s (ys s y m)) - c (ys s y m) (jb s (ys s y m)) < s.a (ys s y m) - s.a (sb s (ys s y m))) := h.inv.back (h.ok m).1 (h.ok m).2
theorem Cyc.inj (h : Cyc S B c x s y L) {a b : Nat} (hab : a < b) (hb : b < L) : ys s y a ≠ ys s y b := fun e => by
  refine h.min (L - b + a) (by omega) (by omega) ?_
  have e1 : it (sb s) (L - b) (ys s y b) = y := by
    show it (sb s) (L - b) (it (sb s) b y) = y
    rw [← it_add, show b + (L - b) = L by omega, h.cl]
  rw [← e] at e1
  have e2 : it (sb s) (L - b) (it (sb s) a y) = it (sb s) (L - b + a) y := by rw [← it_add, Nat.add_comm]
  rw [← e2]
  exact e1
theorem Cyc.inj1 (h : Cyc S B c x s y L) {a b : Nat} (hab : a < b) (hb : b < L) : ys s y (a + 1) ≠ ys s y (b + 1) := fun e => by
  by_cases h1 : b + 1 = L
  · rw [h1] at e
    exact h.min (a + 1) (by omega) (by omega) (e.trans h.cl)
  · exact h.inj (a := a + 1) (b := b + 1) (by omega) (by omega) e
theorem Cyc.jne (h : Cyc S B c x s y L) {a b : Nat} (hab : a < b) (hb : b < L) : jb s (ys s y a) ≠ jb s (ys s y b) := fun e => by
  refine h.inj1 hab hb ?_
  show sb s (ys s y a) = sb s (ys s y b)
  unfold sb
  rw [e]
theorem sm_tel (f : Nat → Int) : ∀ n, (sm n fun m => f m - f (m + 1)) = f 0 - f n
  | 0 => by show (0 : Int) = f 0 - f 0; omega
  | n + 1 => by show (sm n fun m => f m - f (m + 1)) + (f n - f (n + 1)) = f 0 - f (n + 1); rw [sm_tel f n]; omega
theorem sm_lt {f g : Nat → Int} : ∀ {n : Nat}, (∀ i, i < n → f i ≤ g i) → (∃ i, i < n ∧ f i < g i) → sm n f < sm n g
  | 0, _, ⟨i, h, _⟩ => absurd h (Nat.not_lt_zero _)
  | n + 1, h, ⟨i, h1, h2⟩ => by
    show sm n f + f n < sm n g + g n
    have h3 := sm_le (f := f) (h := g) (n := n) fun i hi => h i (by omega)
    have h4 := h n (by omega)
    by_cases e : i = n
    · subst e; omega
    · have := sm_lt (f := f) (g := g) (n := n) (fun i hi => h i (by omega)) ⟨i, by omega, h2⟩
      omega
/-- Somewhere on the round a label has been lowered since. -/
theorem Cyc.strict (h : Cyc S B c x s y L) : ∃ m, m < L ∧ c (ys s y (m + 1)) (jb s (ys s y m)) - c (ys s y m) (jb s (ys s y m)) < s.a (ys s y m) - s.a (ys s y (m + 1)) := by
  refine Classical.byContradiction fun hn => ?_
  have key : ∀ m, m ≤ L → s.ta y = s.ta (ys s y m) + m := fun m => by
    induction m with
    | zero => intro _; rfl
    | succ m ih =>
      intro hm
      have h1 := ih (by omega)
      rcases (h.bk m).2.2.2.2.2.2.2 with h2 | h2
      · show _ = s.ta (sb s (ys s y m)) + (m + 1)
        have h3 : s.ta (ys s y m) = s.ta (sb s (ys s y m)) + 1 := h2
        omega
      · exact absurd ⟨m, by omega, h2⟩ hn
  have h1 := key L (Nat.le_refl _)
  have h2 : ys s y L = y := h.cl
  rw [h2] at h1
  have := h.pos
  omega
theorem Cyc.two (h : Cyc S B c x s y L) : 2 ≤ L := by
  have hp := h.pos
  by_cases e : L = 1
  · exfalso
    obtain ⟨m, hm, hs⟩ := h.strict
    have e0 : m = 0 := by omega
    subst e0
    have h2 : ys s y 1 = y := by have := h.cl; rw [e] at this; exact this
    rw [h2] at hs
    have e1 : ys s y 0 = y := rfl
    rw [e1] at hs
    omega
  · omega
theorem gy_e (s : LS) (y m : Nat) : gy s y (2 * m) = (ys s y (m + 1), jb s (ys s y m)) := by
  unfold gy
  rw [show 2 * m / 2 + 1 = m + 1 by omega, show (2 * m + 1) / 2 = m by omega]
theorem gy_o (s : LS) (y m : Nat) : gy s y (2 * m + 1) = (ys s y (m + 1), jb s (ys s y (m + 1))) := by
  unfold gy
  rw [show (2 * m + 1) / 2 + 1 = m + 1 by omega, show (2 * m + 1 + 1) / 2 = m + 1 by omega]
theorem Cyc.rnd (h : Cyc S B c x s y L) : Rnd S B (2 * L) (gy s y) := by
  have h2 := h.two
  have hL : ys s y L = y := h.cl
  have hodd : ∀ t, t < L → ∃ u, u < L ∧ jb s (ys s y (t + 1)) = jb s (ys s y u) ∧ (u = t + 1 ∨ (t + 1 = L ∧ u = 0)) := fun t ht => by
    by_cases e : t + 1 = L
    · exact ⟨0, by omega, by rw [e, hL]; rfl, .inr ⟨e, rfl⟩⟩
    · exact ⟨t + 1, by omega, rfl, .inl rfl⟩
  refine ⟨by omega, by omega, fun t ht => ⟨(h.ok _).1, (h.bk _).2.1⟩, fun m hm => by rw [gy_e, gy_o], fun m hm => by rw [gy_o, show 2 * m + 2 = 2 * (m + 1) by omega, gy_e], ?_, fun a b hab hb => ?_⟩
  · rw [show 2 * L - 1 = 2 * (L - 1) + 1 by omega, gy_o, show 0 = 2 * 0 from rfl, gy_e]
    show jb s (ys s y (L - 1 + 1)) = jb s y
    rw [show L - 1 + 1 = L by omega, hL]
  · intro e
    have e1 : ys s y (a / 2 + 1) = ys s y (b / 2 + 1) := congrArg Prod.fst e
    have e2 : jb s (ys s y ((a + 1) / 2)) = jb s (ys s y ((b + 1) / 2)) := congrArg Prod.snd e
    by_cases h3 : a / 2 = b / 2
    · rw [show (a + 1) / 2 = a / 2 by omega, show (b + 1) / 2 = a / 2 + 1 by omega] at e2
      obtain ⟨u, h4, h5, h6⟩ := hodd (a / 2) (by omega)
      rw [h5] at e2
      rcases Nat.lt_trichotomy (a / 2) u with h7 | h7 | h7
      · exact h.jne h7 h4 e2
      · omega
      · exact h.jne h7 (by omega) e2.symm
    · exact h.inj1 (a := a / 2) (b := b / 2) (by omega) (by omega) e1
theorem Cyc.odd (h : Cyc S B c x s y L) (m : Nat) : 0 < x (gy s y (2 * m + 1)).1 (gy s y (2 * m + 1)).2 := by
  rw [gy_o]
  exact (h.bk (m + 1)).2.2.1
theorem Cyc.cost (h : Cyc S B c x s y L) : rcst c (2 * L) (gy s y) < 0 := by
  have hL : ys s y L = y := h.cl
  unfold rcst
  rw [sm_pair]
  have e1 : (sm L fun t => sgn (2 * t) * c (gy s y (2 * t)).1 (gy s y (2 * t)).2 + sgn (2 * t + 1) * c (gy s y (2 * t + 1)).1 (gy s y (2 * t + 1)).2)
      = (sm L fun t => c (ys s y (t + 1)) (jb s (ys s y t))) - sm L fun t => c (ys s y (t + 1)) (jb s (ys s y (t + 1))) := by
    rw [← sm_sub]
    exact sm_congr fun t _ => by rw [gy_e, gy_o, sgn_e, sgn_o]; simp only; omega
  have e2 : (sm L fun t => c (ys s y (t + 1)) (jb s (ys s y (t + 1)))) = sm L fun t => c (ys s y t) (jb s (ys s y t)) := by
    have h1 := sm_tel (fun t => c (ys s y t) (jb s (ys s y t))) L
    rw [sm_sub, hL] at h1
    have h0 : ys s y 0 = y := rfl
    rw [h0] at h1
    omega
  rw [e1, e2, ← sm_sub]
  have e3 := sm_lt (n := L) (f := fun t => c (ys s y (t + 1)) (jb s (ys s y t)) - c (ys s y t) (jb s (ys s y t))) (g := fun t => s.a (ys s y t) - s.a (ys s y (t + 1))) (fun t _ => (h.bk t).2.2.2.2.2.2.1) h.strict
  rw [sm_tel (fun t => s.a (ys s y t)), hL] at e3
  have h0 : ys s y 0 = y := rfl
  rw [h0] at e3
  omega
end Go.Tp
