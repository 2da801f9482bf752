/- Successive shortest ways, as the reference finds a best plan: the labels of a round, with stamps, settle. -/
import Derived.Test.YtghlkndanpegbaaPa
set_option linter.unusedVariables false
namespace Go.Tp
open Go.Sand
/-- So many values below K need so many places. -/
theorem pigeonV : ∀ (N K : Nat) (ρ : Nat → Nat), (∀ m, m < K → ∃ n, n < N ∧ ρ n = m) → K ≤ N
  | 0, K, ρ, h => by
    by_cases hK : K = 0
    · omega
    · obtain ⟨n, hn, _⟩ := h 0 (by omega)
      omega
  | N + 1, K, ρ, h => by
    by_cases hv : ρ N < K
    · have h2 := pigeonV N (K - 1) (fun n => if ρ n > ρ N then ρ n - 1 else ρ n) fun m hm => by
        by_cases h3 : m < ρ N
        · obtain ⟨n, hn, e⟩ := h m (by omega)
          refine ⟨n, ?_, by rw [if_neg (by omega)]; exact e⟩
          by_cases e2 : n = N
          · subst e2; omega
          · omega
        · obtain ⟨n, hn, e⟩ := h (m + 1) (by omega)
          refine ⟨n, ?_, by rw [if_pos (by omega)]; omega⟩
          by_cases e2 : n = N
          · subst e2; omega
          · omega
      omega
    · have h2 := pigeonV N K ρ fun m hm => by
        obtain ⟨n, hn, e⟩ := h m hm
        refine ⟨n, ?_, e⟩
        by_cases e2 : n = N
        · subst e2; omega
        · omega
      omega
abbrev inf : Int := 1073741824
/-- The labels of the stores and of the buyers, from where each came, and when it came. -/
structure RS where
  L : Nat → Int
  M : Nat → Int
  pi : Nat → Int
  pb : Nat → Int
  tL : Nat → Nat
  tM : Nat → Nat
/-- What a label stands on. K: the steps of a round. -/
structure RI (S B K : Nat) (c x : Mat) (left u v : Nat → Int) (s : RS) (now : Nat) : Prop where
  hL : ∀ i, i < S → s.L i = inf ∨ (0 < left i ∧ s.L i = 0 ∧ s.pi i = -1 ∧ s.tL i = 0) ∨ ∃ j : Nat, j < B ∧ s.pi i = (j : Int) ∧ 0 < x i j ∧ s.M j < inf ∧ s.L i < inf ∧ s.M j - c i j ≤ s.L i ∧ (s.M j - c i j = s.L i → s.tM j < s.tL i) ∧ s.tL i / K ≤ s.tM j / K + 1
  hM : ∀ j, j < B → s.M j = inf ∨ ∃ i : Nat, i < S ∧ s.pb j = (i : Int) ∧ s.L i < inf ∧ s.M j < inf ∧ s.L i + c i j ≤ s.M j ∧ (s.L i + c i j = s.M j → s.tL i < s.tM j) ∧ s.tM j / K ≤ s.tL i / K + 1
  src : ∀ i, i < S → 0 < left i → s.L i = 0 ∧ s.pi i = -1 ∧ s.tL i = 0
  nL : ∀ i, i < S → s.L i < inf → 0 ≤ s.L i + u i
  nM : ∀ j, j < B → s.M j < inf → 0 ≤ s.M j - v j
  bL : ∀ i, i < S → s.L i ≤ inf
  bM : ∀ j, j < B → s.M j ≤ inf
  lt : (∀ i, i < S → s.tL i < now) ∧ ∀ j, j < B → s.tM j < now
/-- What the potentials of a partial plan keep. -/
structure PI (S B : Nat) (c x : Mat) (left u v : Nat → Int) : Prop where
  hon : Hon S B c u v
  ti : Tight S B c x u v
  u0 : ∀ i, i < S → u i ≤ 0
  v0 : ∀ j, j < B → 0 ≤ v j
  us : ∀ i, i < S → 0 < left i → u i = 0
  c0 : ∀ i j, i < S → j < B → 0 ≤ c i j ∧ c i j ≤ 99
variable {S B K : Nat} {c x : Mat} {left u v : Nat → Int}
theorem RI.nnL {s : RS} {now : Nat} (p : PI S B c x left u v) (h : RI S B K c x left u v s now) {i : Nat} (hi : i < S) : 0 ≤ s.L i := by
  by_cases h1 : s.L i < inf
  · have := h.nL i hi h1
    have := p.u0 i hi
    omega
  · have := h.bL i hi
    have e : (inf : Int) = 1073741824 := rfl
    omega
theorem RI.nnM {s : RS} {now : Nat} (p : PI S B c x left u v) (h : RI S B K c x left u v s now) {j : Nat} (hj : j < B) : 0 ≤ s.M j := by
  by_cases h1 : s.M j < inf
  · have := h.nM j hj h1
    have := p.v0 j hj
    omega
  · have := h.bM j hj
    have e : (inf : Int) = 1073741824 := rfl
    omega
/-- Does a way from a store to a buyer stand, or has the store's label come since b? -/
def RelB (c : Mat) (s : RS) (b i j : Nat) : Prop := s.L i < inf → s.M j ≤ s.L i + c i j ∨ b ≤ s.tL i
def RelS (c x : Mat) (s : RS) (b i j : Nat) : Prop := s.M j < inf → 0 < x i j → s.L i ≤ s.M j - c i j ∨ b ≤ s.tM j
def putB (s : RS) (c : Mat) (i j now : Nat) : RS := { s with M := fun q => if q = j then s.L i + c i j else s.M q, pb := fun q => if q = j then (i : Int) else s.pb q, tM := fun q => if q = j then now else s.tM q }
def putS (s : RS) (c : Mat) (i j now : Nat) : RS := { s with L := fun p => if p = i then s.M j - c i j else s.L p, pi := fun p => if p = i then (j : Int) else s.pi p, tL := fun p => if p = i then now else s.tL p }
/-- A store's label gives a buyer's. -/
theorem RI.stepB {s : RS} {now b r i j : Nat} (p : PI S B c x left u v) (h : RI S B K c x left u v s now) (hK : 0 < K) (hi : i < S) (hj : j < B) (h1 : s.L i < inf) (h2 : s.L i + c i j < s.M j) (hr : RelB c s ((r - 1) * K) i j) (hb : now / K = r) (hr1 : 1 ≤ r) : RI S B K c x left u v (putB s c i j now) (now + 1) := by
  have hbM := h.bM j hj
  have hc := p.c0 i j hi hj
  have ht := h.lt
  have hrl : (r - 1) * K ≤ s.tL i := by
    rcases hr h1 with h3 | h3
    · omega
    · exact h3
  have hdv : r - 1 ≤ s.tL i / K := (Nat.le_div_iff_mul_le hK).2 hrl
  refine ⟨fun q hq => ?_, fun q hq => ?_, h.src, h.nL, fun q hq hf => ?_, h.bL, fun q hq => ?_, fun q hq => by have := ht.1 q hq; simp only [putB]; omega, fun q hq => by have := ht.2 q hq; simp only [putB]; split <;> omega⟩
  · rcases h.hL q hq with h3 | h3 | ⟨j', a1, a2, a3, a4, a5, a6, a7, a8⟩
    · exact .inl h3
    · exact .inr (.inl h3)
    · refine .inr (.inr ⟨j', a1, a2, a3, ?_⟩)
      simp only [putB]
      by_cases e : j' = j
      · subst e
        rw [if_pos rfl, if_pos rfl]
        have h9 := ht.1 q hq
        have : s.tL q / K ≤ now / K := Nat.div_le_div_right (by omega)
        exact ⟨by omega, a5, by omega, fun e2 => by omega, by omega⟩
      · rw [if_neg e, if_neg e]
        exact ⟨a4, a5, a6, a7, a8⟩
  · simp only [putB]
    by_cases e : q = j
    · subst e
      rw [if_pos rfl, if_pos rfl, if_pos rfl]
      exact .inr ⟨i, hi, rfl, h1, by omega, Int.le_refl _, fun _ => ht.1 i hi, by omega⟩
    · rw [if_neg e, if_neg e, if_neg e]
      exact h.hM q hq
  · simp only [putB] at hf ⊢
    by_cases e : q = j
    · subst e
      rw [if_pos rfl]
      have h3 := h.nL i hi h1
      have h4 := p.hon i q hi hj
      omega
    · rw [if_neg e] at hf ⊢
      exact h.nM q hq hf
  · simp only [putB]
    by_cases e : q = j
    · subst e; rw [if_pos rfl]; omega
    · rw [if_neg e]; exact h.bM q hq
/-- A buyer's label gives a store's. -/
theorem RI.stepS {s : RS} {now r i j : Nat} (p : PI S B c x left u v) (h : RI S B K c x left u v s now) (hK : 0 < K) (hi : i < S) (hj : j < B) (h1 : s.M j < inf) (hx : 0 < x i j) (h2 : s.M j - c i j < s.L i) (hr : RelS c x s ((r - 1) * K) i j) (hb : now / K = r) (hr1 : 1 ≤ r) : RI S B K c x left u v (putS s c i j now) (now + 1) := by
  have hbL := h.bL i hi
  have hc := p.c0 i j hi hj
  have ht := h.lt
  have hti := p.ti i j hi hj hx
  have hnM := h.nM j hj h1
  have hrl : (r - 1) * K ≤ s.tM j := by
    rcases hr h1 hx with h3 | h3
    · omega
    · exact h3
  have hdv : r - 1 ≤ s.tM j / K := (Nat.le_div_iff_mul_le hK).2 hrl
  have hns : ¬ 0 < left i := fun hl => by
    have h3 := (h.src i hi hl).1
    have h4 := p.us i hi hl
    omega
  refine ⟨fun q hq => ?_, fun q hq => ?_, fun q hq hl => ?_, fun q hq hf => ?_, h.nM, fun q hq => ?_, h.bM, fun q hq => by have := ht.1 q hq; simp only [putS]; split <;> omega, fun q hq => by have := ht.2 q hq; simp only [putS]; omega⟩
  · simp only [putS]
    by_cases e : q = i
    · subst e
      rw [if_pos rfl, if_pos rfl, if_pos rfl]
      exact .inr (.inr ⟨j, hj, rfl, hx, h1, by omega, Int.le_refl _, fun _ => ht.2 j hj, by omega⟩)
    · rw [if_neg e, if_neg e, if_neg e]
      exact h.hL q hq
  · rcases h.hM q hq with h3 | ⟨i', a1, a2, a3, a4, a5, a6, a7⟩
    · exact .inl h3
    · refine .inr ⟨i', a1, a2, ?_⟩
      simp only [putS]
      by_cases e : i' = i
      · subst e
        rw [if_pos rfl, if_pos rfl]
        have h9 := ht.2 q hq
        have : s.tM q / K ≤ now / K := Nat.div_le_div_right (by omega)
        exact ⟨by omega, a4, by omega, fun e2 => by omega, by omega⟩
      · rw [if_neg e, if_neg e]
        exact ⟨a3, a4, a5, a6, a7⟩
  · have e : ¬ q = i := fun e => by subst e; exact hns hl
    simp only [putS]
    rw [if_neg e, if_neg e, if_neg e]
    exact h.src q hq hl
  · simp only [putS] at hf ⊢
    by_cases e : q = i
    · subst e
      rw [if_pos rfl]
      omega
    · rw [if_neg e] at hf ⊢
      exact h.nL q hq hf
  · simp only [putS]
    by_cases e : q = i
    · subst e; rw [if_pos rfl]; omega
    · rw [if_neg e]; exact h.bL q hq
theorem RI.later {s : RS} {now now' : Nat} (h : RI S B K c x left u v s now) (hn : now ≤ now') : RI S B K c x left u v s now' :=
  { h with lt := ⟨fun i hi => by have := h.lt.1 i hi; omega, fun j hj => by have := h.lt.2 j hj; omega⟩ }
theorem RelB.setB {s : RS} {b now i j p q : Nat} (h : RelB c s b p q) (h2 : s.L i + c i j < s.M j) : RelB c (putB s c i j now) b p q := fun hf => by
  simp only [putB] at hf ⊢
  rcases h hf with h3 | h3
  · left
    by_cases e : q = j
    · subst e; rw [if_pos rfl]; omega
    · rw [if_neg e]; exact h3
  · exact .inr h3
theorem RelB.setB0 {s : RS} {b now i j : Nat} : RelB c (putB s c i j now) b i j := fun hf => by
  left
  show (if j = j then _ else _) ≤ _
  rw [if_pos rfl]
  exact Int.le_refl _
theorem RelS.setB {s : RS} {b now i j p q : Nat} (h : RelS c x s b p q) (hb : b ≤ now) : RelS c x (putB s c i j now) b p q := fun hf hx => by
  simp only [putB] at hf ⊢
  by_cases e : q = j
  · subst e; rw [if_pos rfl, if_pos rfl]; exact .inr hb
  · rw [if_neg e] at hf
    rw [if_neg e, if_neg e]
    exact h hf hx
theorem RelS.setS {s : RS} {b now i j p q : Nat} (h : RelS c x s b p q) (h2 : s.M j - c i j < s.L i) : RelS c x (putS s c i j now) b p q := fun hf hx => by
  simp only [putS] at hf ⊢
  rcases h hf hx with h3 | h3
  · left
    by_cases e : p = i
    · subst e; rw [if_pos rfl]; omega
    · rw [if_neg e]; exact h3
  · exact .inr h3
theorem RelS.setS0 {s : RS} {b now i j : Nat} : RelS c x (putS s c i j now) b i j := fun hf hx => by
  left
  show (if i = i then _ else _) ≤ _
  rw [if_pos rfl]
  exact Int.le_refl _
theorem RelB.setS {s : RS} {b now i j p q : Nat} (h : RelB c s b p q) (hb : b ≤ now) : RelB c (putS s c i j now) b p q := fun hf => by
  simp only [putS] at hf ⊢
  by_cases e : p = i
  · subst e; rw [if_pos rfl, if_pos rfl]; exact .inr hb
  · rw [if_neg e] at hf
    rw [if_neg e, if_neg e]
    exact h hf
theorem lex_lt {a a' t t' W : Nat} (h : a' < a ∨ (a' = a ∧ t' < t)) (ht : t' < W) : a' * W + t' < a * W + t := by
  rcases h with h | ⟨rfl, h⟩
  · have : (a' + 1) * W ≤ a * W := Nat.mul_le_mul_right W h
    rw [Nat.add_mul] at this
    omega
  · omega
def muL (u : Nat → Int) (s : RS) (W i : Nat) : Nat := (s.L i + u i).toNat * W + s.tL i
def muM (v : Nat → Int) (s : RS) (W j : Nat) : Nat := (s.M j - v j).toNat * W + s.tM j
/-- From a store's label to the buyer's that it stands on. -/
theorem RI.downL {s : RS} {now i : Nat} (p : PI S B c x left u v) (h : RI S B K c x left u v s now) (hi : i < S) (hf : s.L i < inf) : (0 < left i ∧ s.L i = 0 ∧ s.pi i = -1 ∧ s.tL i = 0) ∨ ∃ j : Nat, j < B ∧ s.pi i = (j : Int) ∧ 0 < x i j ∧ s.M j < inf ∧ s.M j - c i j ≤ s.L i ∧ muM v s now j < muL u s now i ∧ s.tL i / K ≤ s.tM j / K + 1 := by
  rcases h.hL i hi with h3 | h3 | ⟨j, a1, a2, a3, a4, a5, a6, a7, a8⟩
  · omega
  · exact .inl h3
  · refine .inr ⟨j, a1, a2, a3, a4, a6, ?_, a8⟩
    have h4 := p.ti i j hi a1 a3
    have h5 := h.nM j a1 a4
    have h6 := h.nL i hi a5
    refine lex_lt ?_ (h.lt.2 j a1)
    by_cases e : s.M j - c i j = s.L i
    · exact .inr ⟨by omega, a7 e⟩
    · exact .inl (by omega)
theorem RI.downM {s : RS} {now j : Nat} (p : PI S B c x left u v) (h : RI S B K c x left u v s now) (hj : j < B) (hf : s.M j < inf) : ∃ i : Nat, i < S ∧ s.pb j = (i : Int) ∧ s.L i < inf ∧ s.L i + c i j ≤ s.M j ∧ muL u s now i < muM v s now j ∧ s.tM j / K ≤ s.tL i / K + 1 := by
  rcases h.hM j hj with h3 | ⟨i, a1, a2, a3, a4, a5, a6, a7⟩
  · omega
  · refine ⟨i, a1, a2, a3, a5, ?_, a7⟩
    have h4 := p.hon i j a1 hj
    have h5 := h.nM j hj a4
    have h6 := h.nL i a1 a3
    refine lex_lt ?_ (h.lt.1 i a1)
    by_cases e : s.L i + c i j = s.M j
    · by_cases e2 : u i + v j = c i j
      · exact .inr ⟨by omega, a6 e⟩
      · exact .inl (by omega)
    · exact .inl (by omega)
def rho (s : RS) (S K n : Nat) : Nat := if n < S then s.tL n / K else s.tM (n - S) / K
theorem RI.walk {s : RS} {now : Nat} (p : PI S B c x left u v) (h : RI S B K c x left u v s now) : ∀ (w : Nat), (∀ i, i < S → s.L i < inf → muL u s now i < w → ∀ m, m ≤ s.tL i / K → ∃ n, n < S + B ∧ rho s S K n = m) ∧ ∀ j, j < B → s.M j < inf → muM v s now j < w → ∀ m, m ≤ s.tM j / K → ∃ n, n < S + B ∧ rho s S K n = m
  | 0 => ⟨fun i _ _ h3 => absurd h3 (Nat.not_lt_zero _), fun j _ _ h3 => absurd h3 (Nat.not_lt_zero _)⟩
  | w + 1 => by
    obtain ⟨ih1, ih2⟩ := RI.walk p h w
    refine ⟨fun i hi hf hw m hm => ?_, fun j hj hf hw m hm => ?_⟩
    · by_cases e : m = s.tL i / K
      · exact ⟨i, by omega, by unfold rho; rw [if_pos hi, e]⟩
      · rcases h.downL p hi hf with ⟨_, _, _, h4⟩ | ⟨j, a1, a2, a3, a4, a5, a6, a7⟩
        · rw [h4, Nat.zero_div] at hm e; omega
        · exact ih2 j a1 a4 (by omega) m (by omega)
    · by_cases e : m = s.tM j / K
      · exact ⟨S + j, by omega, by unfold rho; rw [if_neg (by omega), e]; congr 2; omega⟩
      · obtain ⟨i, a1, a2, a3, a4, a5, a6⟩ := h.downM p hj hf
        exact ih1 i a1 a3 (by omega) m (by omega)
/-- Behind so many rounds the labels are settled. -/
theorem RI.settled {s : RS} {now R : Nat} (p : PI S B c x left u v) (h : RI S B K c x left u v s now) (hK : 0 < K) (hR : S + B ≤ R) (hB : ∀ i j, i < S → j < B → RelB c s (R * K) i j) (hS : ∀ i j, i < S → j < B → RelS c x s (R * K) i j) :
    (∀ i j, i < S → j < B → s.L i < inf → s.M j ≤ s.L i + c i j) ∧ ∀ i j, i < S → j < B → s.M j < inf → 0 < x i j → s.L i ≤ s.M j - c i j := by
  refine ⟨fun i j hi hj hf => ?_, fun i j hi hj hf hx => ?_⟩
  · rcases hB i j hi hj hf with h1 | h1
    · exact h1
    · have h2 : R ≤ s.tL i / K := (Nat.le_div_iff_mul_le hK).2 h1
      have h3 := pigeonV (S + B) (R + 1) (rho s S K) fun m hm => (h.walk p (muL u s now i + 1)).1 i hi hf (by omega) m (by omega)
      omega
  · rcases hS i j hi hj hf hx with h1 | h1
    · exact h1
    · have h2 : R ≤ s.tM j / K := (Nat.le_div_iff_mul_le hK).2 h1
      have h3 := pigeonV (S + B) (R + 1) (rho s S K) fun m hm => (h.walk p (muM v s now j + 1)).2 j hj hf (by omega) m (by omega)
      omega
end Go.Tp
