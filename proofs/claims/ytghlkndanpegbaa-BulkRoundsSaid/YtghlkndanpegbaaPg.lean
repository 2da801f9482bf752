/- Successive shortest ways, as the reference finds a best plan: a ton more along the way back. -/
import Derived.Test.YtghlkndanpegbaaPe
import Derived.Test.YtghlkndanpegbaaPf
set_option linter.unusedVariables false
namespace Go.Tp
open Go.Sand
/-- A plan of a part: what is left at the stores, what the buyers still need. -/
structure PP (S B : Nat) (s d : Nat → Int) (x : Mat) (left need : Nat → Int) : Prop where
  nn : ∀ i j, i < S → j < B → 0 ≤ x i j
  row : ∀ i, i < S → sm B (x i) + left i = s i
  col : ∀ j, j < B → (sm S fun i => x i j) + need j = d j
  l0 : ∀ i, i < S → 0 ≤ left i
  n0 : ∀ j, j < B → 0 ≤ need j
variable {S B K : Nat} {c x y : Mat} {s d left need l u v : Nat → Int} {st : RS} {now : Nat} {cur : Int}
theorem PP.sum (h : PP S B s d x left need) (e : sm S s = sm B d) : sm S left = sm B need := by
  have h1 : (sm S fun i => sm B (x i) + left i) = sm S s := sm_congr fun i hi => h.row i hi
  have h2 : (sm B fun j => (sm S fun i => x i j) + need j) = sm B d := sm_congr fun j hj => h.col j hj
  rw [sm_add] at h1 h2
  have h3 := sm_swap (f := x) S B
  have h4 : (sm S fun i => sm B (x i)) = sm S fun i => sm B fun j => x i j := rfl
  rw [h4] at h1
  omega
theorem sm_pos {f : Nat → Int} : ∀ {n : Nat}, 0 < sm n f → ∃ i, i < n ∧ 0 < f i
  | 0, h => absurd h (Int.lt_irrefl 0)
  | n + 1, h => by
    have h1 : 0 < sm n f + f n := h
    by_cases h2 : 0 < f n
    · exact ⟨n, by omega, h2⟩
    · obtain ⟨i, hi, h3⟩ := sm_pos (n := n) (f := f) (by omega)
      exact ⟨i, by omega, h3⟩
theorem PP.fin (h : PP S B s d x left need) (e : sm S s = sm B d) (h0 : ¬ 0 < sm S left) : Pl S B s d x := by
  have h1 := h.sum e
  have hl : sm S left = 0 := by have := sm_nonneg h.l0; omega
  have hn : sm B need = 0 := by omega
  have zl := sm_zero_of h.l0 hl
  have zn := sm_zero_of h.n0 hn
  exact ⟨h.nn, fun i hi => by rw [← h.row i hi, zl i hi, Int.add_zero], fun j hj => by rw [← h.col j hj, zn j hj, Int.add_zero]⟩
/-- The labels are settled. -/
structure ST (S B K : Nat) (c x : Mat) (left u v : Nat → Int) (st : RS) (now : Nat) : Prop where
  p : PI S B c x left u v
  r : RI S B K c x left u v st now
  fB : ∀ i j, i < S → j < B → st.L i < inf → st.M j ≤ st.L i + c i j
  fS : ∀ i j, i < S → j < B → st.M j < inf → 0 < x i j → st.L i ≤ st.M j - c i j
  any : ∃ i, i < S ∧ 0 < left i
theorem ST.m99 (h : ST S B K c x left u v st now) {j : Nat} (hj : j < B) : st.M j ≤ 99 := by
  obtain ⟨i, hi, h1⟩ := h.any
  have h2 := (h.r.src i hi h1).1
  have h3 := h.fB i j hi hj (by rw [h2]; decide)
  have h4 := h.p.c0 i j hi hj
  omega
theorem ST.mf (h : ST S B K c x left u v st now) {j : Nat} (hj : j < B) : st.M j < inf := by
  have := h.m99 hj
  have e : (inf : Int) = 1073741824 := rfl
  omega
theorem ST.tight (h : ST S B K c x left u v st now) {i j : Nat} (hi : i < S) (hj : j < B) (hx : 0 < x i j) : st.L i < inf ∧ st.L i + c i j = st.M j := by
  have h1 := h.fS i j hi hj (h.mf hj) hx
  have h2 := h.p.c0 i j hi hj
  have h3 := h.mf hj
  have h4 : st.L i < inf := by omega
  have h5 := h.fB i j hi hj h4
  exact ⟨h4, by omega⟩
/-- The way back, as far as it is walked. -/
structure WK (S B : Nat) (c : Mat) (s d : Nat → Int) (x : Mat) (left need u v : Nat → Int) (st : RS) (W : Nat) (y : Mat) (l : Nat → Int) (cur : Int) : Prop where
  nn : ∀ i j, i < S → j < B → 0 ≤ y i j
  row : ∀ i, i < S → sm B (y i) + l i = s i
  col : ∀ j, j < B → (sm S fun i => y i j) + need j + (if cur = (j : Int) then 1 else 0) = d j
  l0 : ∀ i, i < S → 0 ≤ l i ∧ l i ≤ left i
  ti : ∀ i j, i < S → j < B → 0 < y i j → st.L i < inf ∧ st.L i + c i j = st.M j
  un : ∀ j : Nat, cur = (j : Int) → ∀ i, i < S → muL u st W i < muM v st W j → (∀ q, q < B → y i q = x i q) ∧ l i = left i
  cb : cur = -1 ∨ ∃ j : Nat, j < B ∧ cur = (j : Int)
theorem WK.start {j : Nat} (h : ST S B K c x left u v st now) (hp : PP S B s d x left need) (hj : j < B) : WK S B c s d x left (fun q => if q = j then need q - 1 else need q) u v st now x left (j : Int) := by
  refine ⟨hp.nn, hp.row, fun q hq => ?_, fun i hi => ⟨hp.l0 i hi, Int.le_refl _⟩, fun i q hi hq hx => h.tight hi hq hx, fun _ _ i hi _ => ⟨fun _ _ => rfl, rfl⟩, .inr ⟨j, hj, rfl⟩⟩
  have h1 := hp.col q hq
  show _ + (if q = j then need q - 1 else need q) + _ = _
  by_cases e : q = j
  · subst e; rw [if_pos rfl, if_pos rfl]; omega
  · rw [if_neg e, if_neg (by omega)]; omega
/-- What a step of the walk finds. -/
theorem WK.at {j : Nat} (h : ST S B K c x left u v st now) (w : WK S B c s d x left need u v st now y l (j : Int)) (hj : j < B) : ∃ i : Nat, i < S ∧ st.pb j = (i : Int) ∧ st.L i < inf ∧ st.L i + c i j = st.M j ∧ muL u st now i < muM v st now j ∧ (∀ q, q < B → y i q = x i q) ∧ l i = left i ∧
    ((0 < left i ∧ st.pi i = -1) ∨ ∃ k : Nat, k < B ∧ st.pi i = (k : Int) ∧ k ≠ j ∧ 0 < y i k ∧ muM v st now k < muL u st now i) := by
  obtain ⟨i, a1, a2, a3, a4, a5, _⟩ := h.r.downM h.p hj (h.mf hj)
  obtain ⟨b1, b2⟩ := w.un j rfl i a1 a5
  have h2 := h.fB i j a1 hj a3
  refine ⟨i, a1, a2, a3, by omega, a5, b1, b2, ?_⟩
  rcases h.r.downL h.p a1 a3 with ⟨e1, _, e2, _⟩ | ⟨k, e1, e2, e3, _, _, e4, _⟩
  · exact .inl ⟨e1, e2⟩
  · exact .inr ⟨k, e1, e2, fun e => by subst e; omega, by rw [b1 k e1]; exact e3, e4⟩
/-- A ton more from the store; the walk ends there. -/
theorem WK.endS {i j : Nat} (h : ST S B K c x left u v st now) (w : WK S B c s d x left need u v st now y l (j : Int)) (hj : j < B) (hi : i < S) (h1 : st.L i < inf) (h2 : st.L i + c i j = st.M j) (hl : l i = left i) (h3 : 0 < left i) :
    WK S B c s d x left need u v st now (put2 y i j (y i j + 1)) (fun p => if p = i then l p - 1 else l p) (-1) := by
  refine ⟨fun p q hp hq => ?_, fun p hp => ?_, fun q hq => ?_, fun p hp => ?_, fun p q hp hq hy => ?_, fun k hk => by omega, .inl rfl⟩
  · by_cases e : p = i ∧ q = j
    · obtain ⟨rfl, rfl⟩ := e
      rw [put2_k]; have := w.nn p q hp hq; omega
    · rw [put2_ne _ _ e]; exact w.nn p q hp hq
  · rw [sm_put2_row hj]
    have h4 := w.row p hp
    show _ + (if p = i then l p - 1 else l p) = _
    by_cases e : p = i
    · rw [if_pos e, if_pos e]; subst e; omega
    · rw [if_neg e, if_neg e]; omega
  · rw [sm_put2_col hi]
    have h4 := w.col q hq
    by_cases e : q = j
    · subst e; rw [if_pos rfl] at h4 ⊢; rw [if_neg (by omega)]; omega
    · rw [if_neg (by omega)] at h4; rw [if_neg e, if_neg (by omega)]; omega
  · have h4 := w.l0 p hp
    show 0 ≤ (if p = i then l p - 1 else l p) ∧ (if p = i then l p - 1 else l p) ≤ left p
    by_cases e : p = i
    · subst e; rw [if_pos rfl]; omega
    · rw [if_neg e]; exact h4
  · by_cases e : p = i ∧ q = j
    · obtain ⟨rfl, rfl⟩ := e
      exact ⟨h1, h2⟩
    · rw [put2_ne _ _ e] at hy; exact w.ti p q hp hq hy
/-- A ton more from the store, and one less to another buyer; the walk goes on there. -/
theorem WK.next {i j k : Nat} (h : ST S B K c x left u v st now) (w : WK S B c s d x left need u v st now y l (j : Int)) (hj : j < B) (hi : i < S) (h1 : st.L i < inf) (h2 : st.L i + c i j = st.M j) (hk : k < B) (hkj : k ≠ j) (hy : 0 < y i k) (hm : muL u st now i < muM v st now j) (hm2 : muM v st now k < muL u st now i) :
    WK S B c s d x left need u v st now (put2 (put2 y i j (y i j + 1)) i k (y i k - 1)) l (k : Int) := by
  have e0 : put2 y i j (y i j + 1) i k = y i k := put2_ne _ _ (fun e => hkj e.2)
  refine ⟨fun p q hp hq => ?_, fun p hp => ?_, fun q hq => ?_, w.l0, fun p q hp hq hy2 => ?_, fun k' hk' p hp hm3 => ?_, .inr ⟨k, hk, rfl⟩⟩
  · by_cases e : p = i ∧ q = k
    · obtain ⟨rfl, rfl⟩ := e
      rw [put2_k]; omega
    · rw [put2_ne _ _ e]
      by_cases e2 : p = i ∧ q = j
      · obtain ⟨rfl, rfl⟩ := e2
        rw [put2_k]; have := w.nn p q hp hq; omega
      · rw [put2_ne _ _ e2]; exact w.nn p q hp hq
  · rw [sm_put2_row hk, sm_put2_row hj, e0]
    have h4 := w.row p hp
    by_cases e : p = i
    · rw [if_pos e, if_pos e]; omega
    · rw [if_neg e, if_neg e]; omega
  · rw [sm_put2_col hi, sm_put2_col hi, e0]
    have h4 := w.col q hq
    by_cases e : q = j
    · subst e; rw [if_pos rfl] at h4 ⊢; rw [if_neg (by omega), if_neg (by omega)]; omega
    · rw [if_neg (by omega)] at h4
      rw [if_neg e]
      by_cases e2 : q = k
      · rw [if_pos e2, if_pos (by omega)]; omega
      · rw [if_neg e2, if_neg (by omega)]; omega
  · by_cases e : p = i ∧ q = k
    · obtain ⟨rfl, rfl⟩ := e
      exact w.ti p q hp hq hy
    · rw [put2_ne _ _ e] at hy2
      by_cases e2 : p = i ∧ q = j
      · obtain ⟨rfl, rfl⟩ := e2
        exact ⟨h1, h2⟩
      · rw [put2_ne _ _ e2] at hy2; exact w.ti p q hp hq hy2
  · have e : k' = k := by omega
    subst e
    have hpi : p ≠ i := fun e => by subst e; omega
    obtain ⟨b1, b2⟩ := w.un j rfl p hp (by omega)
    exact ⟨fun q hq => by rw [put2_ne _ _ (fun e => hpi e.1), put2_ne _ _ (fun e => hpi e.1)]; exact b1 q hq, b2⟩
/-- The potentials behind a walk. -/
def newU (st : RS) : Nat → Int := fun i => if st.L i < inf then -st.L i else -inf
theorem WK.done (h : ST S B K c x left u v st now) (w : WK S B c s d x left need u v st now y l (-1)) (hn : ∀ j, j < B → 0 ≤ need j) : PP S B s d y l need ∧ PI S B c y l (newU st) st.M := by
  have e : (inf : Int) = 1073741824 := rfl
  refine ⟨⟨w.nn, w.row, fun j hj => by have := w.col j hj; rw [if_neg (by omega)] at this; omega, fun i hi => (w.l0 i hi).1, hn⟩, ?_⟩
  refine ⟨fun i j hi hj => ?_, fun i j hi hj hy => ?_, fun i hi => ?_, fun j hj => h.r.nnM h.p hj, fun i hi hl => ?_, h.p.c0⟩
  · unfold newU
    by_cases h1 : st.L i < inf
    · rw [if_pos h1]; have := h.fB i j hi hj h1; omega
    · rw [if_neg h1]; have := h.m99 hj; have := h.p.c0 i j hi hj; omega
  · obtain ⟨h1, h2⟩ := w.ti i j hi hj hy
    unfold newU
    rw [if_pos h1]; omega
  · unfold newU
    have := h.r.nnL h.p hi
    split <;> omega
  · have h1 := w.l0 i hi
    have h2 := (h.r.src i hi (by omega)).1
    unfold newU
    rw [h2, if_pos (by decide)]; rfl
theorem need_sum {j : Nat} (hj : j < B) : (sm B fun q => if q = j then need q - 1 else need q) = sm B need - 1 := by
  have e1 : (sm B fun q => if q = j then need q - 1 else need q) = sm B fun q => need q + if q = j then -1 else 0 := sm_congr fun q _ => by
    by_cases e : q = j
    · rw [if_pos e, if_pos e]; omega
    · rw [if_neg e, if_neg e]; omega
  rw [e1, sm_add, sm_at (k := j) hj fun t _ hne => if_neg hne, if_pos rfl]
  omega
/-- Labels at the begin of a round of ways. -/
def rs0 (left : Nat → Int) : RS := ⟨fun i => if left i = 0 then inf else 0, fun _ => inf, fun _ => -1, fun _ => 0, fun _ => 0, fun _ => 0⟩
theorem RI.start (p : PI S B c x left u v) (hp : ∀ i, i < S → 0 ≤ left i) : RI S B K c x left u v (rs0 left) 1 := by
  have e : (inf : Int) = 1073741824 := rfl
  refine ⟨fun i hi => ?_, fun j hj => .inl rfl, fun i hi hl => ⟨if_neg (by omega), rfl, rfl⟩, fun i hi hf => ?_, fun j hj hf => absurd hf (Int.lt_irrefl _), fun i hi => ?_, fun j hj => Int.le_refl _, fun i hi => Nat.one_pos, fun j hj => Nat.one_pos⟩
  · by_cases h : left i = 0
    · exact .inl (if_pos h)
    · exact .inr (.inl ⟨by have := hp i hi; omega, if_neg h, rfl, rfl⟩)
  · simp only [rs0] at hf ⊢
    by_cases h : left i = 0
    · rw [if_pos h] at hf; omega
    · rw [if_neg h]
      have := p.us i hi (by have := hp i hi; omega)
      omega
  · simp only [rs0]
    split <;> omega
end Go.Tp
