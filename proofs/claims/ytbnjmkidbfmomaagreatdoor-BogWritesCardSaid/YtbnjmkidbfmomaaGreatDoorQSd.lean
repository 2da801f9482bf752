/- Heaps that topple: the mathematics. -/
set_option linter.unusedVariables false
set_option linter.unusedSimpArgs false
namespace Go.Sand

def sm : Nat → (Nat → Int) → Int
  | 0, _ => 0
  | n + 1, f => sm n f + f n
theorem sm_congr {f h : Nat → Int} : ∀ {n : Nat}, (∀ i, i < n → f i = h i) → sm n f = sm n h
  | 0, _ => rfl
  | n + 1, e => by
    show sm n f + f n = sm n h + h n
    rw [sm_congr fun i hi => e i (by omega), e n (by omega)]
theorem sm_add {f h : Nat → Int} : ∀ n : Nat, sm n (fun i => f i + h i) = sm n f + sm n h
  | 0 => rfl
  | n + 1 => by
    show sm n _ + (f n + h n) = sm n f + f n + (sm n h + h n)
    rw [sm_add n]; omega
theorem sm_mul {f : Nat → Int} (k : Int) : ∀ n : Nat, sm n (fun i => k * f i) = k * sm n f
  | 0 => by simp [sm]
  | n + 1 => by
    show sm n _ + k * f n = k * (sm n f + f n)
    rw [sm_mul k n, Int.mul_add]
theorem sm_neg {f : Nat → Int} : ∀ n : Nat, sm n (fun i => - f i) = - sm n f
  | 0 => rfl
  | n + 1 => by
    show sm n _ + - f n = - (sm n f + f n)
    rw [sm_neg n]; omega
theorem sm_zero : ∀ n : Nat, sm n (fun _ => 0) = 0
  | 0 => rfl
  | n + 1 => by show sm n _ + 0 = 0; rw [sm_zero n]; rfl
theorem sm_nonneg {f : Nat → Int} : ∀ {n : Nat}, (∀ i, i < n → 0 ≤ f i) → 0 ≤ sm n f
  | 0, _ => Int.le_refl _
  | n + 1, e => by
    have := sm_nonneg (f := f) (n := n) fun i hi => e i (by omega)
    have := e n (by omega)
    show 0 ≤ sm n f + f n
    omega
theorem sm_le {f h : Nat → Int} : ∀ {n : Nat}, (∀ i, i < n → f i ≤ h i) → sm n f ≤ sm n h
  | 0, _ => Int.le_refl _
  | n + 1, e => by
    have := sm_le (f := f) (h := h) (n := n) fun i hi => e i (by omega)
    have := e n (by omega)
    show sm n f + f n ≤ sm n h + h n
    omega
theorem sm_one {f : Nat → Int} : ∀ {n : Nat}, (∀ i, i < n → 0 ≤ f i) → ∀ k, k < n → f k ≤ sm n f
  | 0, _, k, hk => by omega
  | n + 1, e, k, hk => by
    have h1 := sm_nonneg (f := f) (n := n) fun i hi => e i (by omega)
    show f k ≤ sm n f + f n
    by_cases hkn : k = n
    · subst hkn; omega
    · have := sm_one (f := f) (n := n) (fun i hi => e i (by omega)) k (by omega)
      have := e n (by omega)
      omega
theorem sm_swap {f : Nat → Nat → Int} : ∀ n k : Nat, sm n (fun i => sm k (fun j => f i j)) = sm k (fun j => sm n (fun i => f i j))
  | 0, k => by rw [show (fun j => sm 0 (fun i => f i j)) = fun _ => 0 from rfl, sm_zero]; rfl
  | n + 1, k => by
    show sm n _ + sm k (fun j => f n j) = sm k (fun j => sm n (fun i => f i j) + f n j)
    rw [sm_add, sm_swap n k]
/-- One term turned. -/
theorem sm_pt {f : Nat → Int} (k : Int) (i : Nat) : ∀ n : Nat, sm n (fun j => f j * (if j = i then k else 0)) = if i < n then f i * k else 0
  | 0 => by simp [sm]
  | n + 1 => by
    show sm n _ + f n * _ = _
    rw [sm_pt k i n]
    by_cases h : n = i
    · subst h; simp
    · rw [if_neg h]
      by_cases h2 : i < n
      · rw [if_pos h2, if_pos (by omega)]; omega
      · rw [if_neg h2, if_neg (by omega)]; omega

section
variable (n : Nat) (l : Nat → Nat → Int) (g : Nat → Int)
inductive Rch : Nat → Prop
  | gr (i : Nat) (hi : i < n) (h : 0 < g i) : Rch i
  | st (i j : Nat) (hi : i < n) (hj : j < n) (h : 0 < l i j) (r : Rch j) : Rch i
structure Gr : Prop where
  l0 : ∀ i j, i < n → j < n → 0 ≤ l i j
  sy : ∀ i j, i < n → j < n → l i j = l j i
  g0 : ∀ i, i < n → 0 ≤ g i
  rch : ∀ i, i < n → Rch n l g i
def lim (i : Nat) : Int := g i + sm n (l i)
def dl (m : Nat → Int) (i : Nat) : Int := lim n l g i * m i - sm n (fun j => l i j * m j)
end
section
variable {n : Nat} {l : Nat → Nat → Int} {g : Nat → Int}
theorem dl_eq (m : Nat → Int) (i : Nat) : dl n l g m i = g i * m i + sm n (fun j => l i j * (m i - m j)) := by
  have e : sm n (fun j => l i j * (m i - m j)) = m i * sm n (l i) - sm n (fun j => l i j * m j) := by
    rw [← sm_mul, Int.sub_eq_add_neg, ← sm_neg, ← sm_add]
    refine sm_congr fun j _ => ?_
    grind
  rw [e]
  unfold dl lim
  grind
theorem dl_add (m k : Nat → Int) (i : Nat) : dl n l g (fun j => m j + k j) i = dl n l g m i + dl n l g k i := by
  unfold dl
  have e : sm n (fun j => l i j * (m j + k j)) = sm n (fun j => l i j * m j) + sm n (fun j => l i j * k j) := by
    rw [← sm_add]
    exact sm_congr fun j _ => Int.mul_add _ _ _
  rw [e]
  grind
theorem dl_neg (m : Nat → Int) (i : Nat) : dl n l g (fun j => - m j) i = - dl n l g m i := by
  unfold dl
  have e : sm n (fun j => l i j * - m j) = - sm n (fun j => l i j * m j) := by
    rw [← sm_neg]
    exact sm_congr fun j _ => by grind
  rw [e]
  grind
theorem dl_sub (m k : Nat → Int) (i : Nat) : dl n l g (fun j => m j - k j) i = dl n l g m i - dl n l g k i := by
  have h1 := dl_add (n := n) (l := l) (g := g) m (fun j => - k j) i
  have h2 := dl_neg (n := n) (l := l) (g := g) k i
  have e : (fun j => m j - k j) = (fun j => m j + - k j) := by funext j; omega
  rw [e, h1, h2]; omega
theorem dl_zero (i : Nat) : dl n l g (fun _ => 0) i = 0 := by
  unfold dl
  rw [show (fun j => l i j * 0) = fun _ => (0 : Int) by funext j; simp, sm_zero]; simp
theorem dl_congr {m k : Nat → Int} (h : ∀ i, i < n → m i = k i) {i : Nat} (hi : i < n) : dl n l g m i = dl n l g k i := by
  unfold dl
  rw [h i hi, sm_congr (fun j hj => show l i j * m j = l i j * k j by rw [h j hj])]
theorem dl_pt (k : Int) {i : Nat} (hi : i < n) (j : Nat) : dl n l g (fun q => if q = i then k else 0) j = (if j = i then lim n l g i * k else 0) - l j i * k := by
  unfold dl
  rw [sm_pt, if_pos hi]
  by_cases e : j = i
  · subst e; simp
  · simp [e]
theorem sm_anti {f : Nat → Nat → Int} (h : ∀ i j, i < n → j < n → f i j = - f j i) : sm n (fun i => sm n (fun j => f i j)) = 0 := by
  have h1 := sm_swap (f := f) n n
  have h2 : sm n (fun j => sm n (fun i => f i j)) = - sm n (fun j => sm n (fun i => f j i)) := by
    rw [← sm_neg]
    refine sm_congr fun j hj => ?_
    rw [← sm_neg]
    exact sm_congr fun i hi => h i j hi hj
  omega
/-- What flows out of a set. -/
theorem out_sum (G : Gr n l g) (A : Nat → Bool) (m : Nat → Int) : sm n (fun i => if A i then dl n l g m i else 0) =
    sm n (fun i => if A i then g i * m i else 0) + sm n (fun i => sm n (fun j => if A i && !A j then l i j * (m i - m j) else 0)) := by
  have h0 := sm_anti (n := n) (f := fun i j => if A i && A j then l i j * (m i - m j) else 0) (fun i j hi hj => by
    simp only [Bool.and_comm (A j) (A i)]
    split
    · rw [G.sy i j hi hj]; grind
    · rfl)
  have e : sm n (fun i => if A i then dl n l g m i else 0) = sm n (fun i => (if A i then g i * m i else 0) + (sm n (fun j => if A i && A j then l i j * (m i - m j) else 0) + sm n (fun j => if A i && !A j then l i j * (m i - m j) else 0))) := by
    refine sm_congr fun i _ => ?_
    rw [← sm_add]
    cases hA : A i with
    | true =>
      simp only [if_true, Bool.true_and, dl_eq]
      congr 1
      refine sm_congr fun j _ => ?_
      cases A j <;> simp
    | false => simp [sm_zero]
  rw [e, sm_add, sm_add, h0]; omega
/-- Each set that is not empty has a way out. -/
theorem way_out (A : Nat → Bool) {i : Nat} (h : Rch n l g i) (hi : A i = true) : ∃ j, j < n ∧ A j = true ∧ (0 < g j ∨ ∃ k, k < n ∧ A k = false ∧ 0 < l j k) := by
  induction h with
  | gr i hin h => exact ⟨i, hin, hi, .inl h⟩
  | st i j hin hj h r ih =>
    cases hA : A j with
    | true => exact ih hA
    | false => exact ⟨i, hin, hi, .inr ⟨j, hj, hA, h⟩⟩
theorem lim_pos (G : Gr n l g) {i : Nat} (hi : i < n) : 1 ≤ lim n l g i := by
  have h1 := G.g0 i hi
  have h2 := sm_nonneg (f := l i) (n := n) fun j hj => G.l0 i j hi hj
  unfold lim
  cases G.rch i hi with
  | gr _ _ h => omega
  | st _ j _ hj h _ =>
    have := sm_one (f := l i) (n := n) (fun j hj => G.l0 i j hi hj) j hj
    omega
def cnt : Nat → (Nat → Bool) → Nat
  | 0, _ => 0
  | n + 1, p => cnt n p + (if p n then 1 else 0)
theorem cnt_le (p : Nat → Bool) : ∀ n, cnt n p ≤ n
  | 0 => Nat.le_refl _
  | n + 1 => by have := cnt_le p n; show cnt n p + _ ≤ _; split <;> omega
theorem cnt_mono {p q : Nat → Bool} : ∀ {n : Nat}, (∀ i, i < n → q i = true → p i = true) → cnt n q ≤ cnt n p
  | 0, _ => Nat.le_refl _
  | n + 1, h => by
    have h1 := cnt_mono (p := p) (q := q) (n := n) fun i hi => h i (by omega)
    have h2 := h n (by omega)
    show cnt n q + _ ≤ cnt n p + _
    cases hq : q n
    · simp; omega
    · rw [h2 hq]; omega
theorem cnt_lt {p q : Nat → Bool} : ∀ {n : Nat}, (∀ i, i < n → q i = true → p i = true) → ∀ k, k < n → p k = true → q k = false → cnt n q < cnt n p
  | 0, _, k, hk, _, _ => by omega
  | n + 1, h, k, hk, h1, h2 => by
    have h3 := h n (by omega)
    show cnt n q + _ < cnt n p + _
    by_cases e : k = n
    · subst e
      have := cnt_mono (p := p) (q := q) (n := k) fun i hi => h i (by omega)
      simp [h1, h2]; omega
    · have := cnt_lt (p := p) (q := q) (n := n) (fun i hi => h i (by omega)) k (by omega) h1 h2
      cases hq : q n
      · simp; omega
      · rw [h3 hq]; omega
theorem cnt_none : ∀ n : Nat, cnt n (fun _ => false) = 0
  | 0 => rfl
  | n + 1 => by show cnt n _ + _ = 0; rw [cnt_none n]; rfl
theorem cnt_zero {p : Nat → Bool} {n : Nat} (h : cnt n p = 0) : ∀ i, i < n → p i = false := fun i hi => by
  cases hp : p i with
  | false => rfl
  | true =>
    have := cnt_lt (p := p) (q := fun _ => false) (n := n) (fun _ _ h => by cases h) i hi hp rfl
    omega
/-- Where the turves that are left are no fewer than none, no heap topples too often. -/
theorem bound (G : Gr n l g) {t m : Nat → Int} (ht : ∀ i, i < n → 0 ≤ t i) (hm : ∀ i, i < n → 0 ≤ m i) (hc : ∀ i, i < n → 0 ≤ t i - dl n l g m i) : ∀ i, i < n → m i ≤ n * sm n t := by
  have hT : 0 ≤ sm n t := sm_nonneg ht
  generalize hTe : sm n t = T at hT
  have key : ∀ k : Nat, k ≤ n → cnt n (fun i => decide ((k : Int) * T < m i)) ≤ n - k := by
    intro k
    induction k with
    | zero => intro _; exact cnt_le _ _
    | succ k ih =>
      intro hk
      have ih := ih (by omega)
      by_cases h0 : cnt n (fun i => decide ((k : Int) * T < m i)) = 0
      · have h1 := cnt_mono (p := fun i => decide ((k : Int) * T < m i)) (q := fun i => decide (((k + 1 : Nat) : Int) * T < m i)) (n := n) (fun i _ h => by
          simp only [decide_eq_true_eq] at h ⊢
          have : ((k + 1 : Nat) : Int) * T = (k : Int) * T + T := by grind
          omega)
        omega
      · have hex : ∃ i, i < n ∧ (k : Int) * T < m i := by
          refine Classical.byContradiction fun hno => h0 ?_
          have := cnt_mono (p := fun _ => false) (q := fun i => decide ((k : Int) * T < m i)) (n := n) (fun i hi h => by
            exact absurd ⟨i, hi, of_decide_eq_true h⟩ hno)
          have e := cnt_none n
          omega
        obtain ⟨i0, hi0, hmi0⟩ := hex
        obtain ⟨i, hi, hA, hw⟩ := way_out (fun i => decide ((k : Int) * T < m i)) (G.rch i0 hi0) (decide_eq_true hmi0)
        have hkT : 0 ≤ (k : Int) * T := Int.mul_nonneg (by omega) hT
        have hos := out_sum G (fun i => decide ((k : Int) * T < m i)) m
        have hle : sm n (fun i => if decide ((k : Int) * T < m i) = true then dl n l g m i else 0) ≤ T := by
          rw [← hTe]
          refine sm_le fun j hj => ?_
          have := hc j hj
          have := ht j hj
          split <;> omega
        have hn1 : ∀ j, j < n → 0 ≤ (if decide ((k : Int) * T < m j) = true then g j * m j else 0) := fun j hj => by
          split
          · exact Int.mul_nonneg (G.g0 j hj) (hm j hj)
          · omega
        have hn2 : ∀ p q, p < n → q < n → 0 ≤ (if (decide ((k : Int) * T < m p) && !decide ((k : Int) * T < m q)) = true then l p q * (m p - m q) else 0) := fun p q hp hq => by
          split
          · rename_i h
            simp only [Bool.and_eq_true, Bool.not_eq_true', decide_eq_true_eq, decide_eq_false_iff_not] at h
            exact Int.mul_nonneg (G.l0 p q hp hq) (by omega)
          · omega
        have hs1 := sm_nonneg hn1
        have hs2 := sm_nonneg (n := n) (fun p hp => sm_nonneg (n := n) (fun q hq => hn2 p q hp hq))
        have hmi : m i ≤ ((k + 1 : Nat) : Int) * T := by
          have e1 : ((k + 1 : Nat) : Int) * T = (k : Int) * T + T := by grind
          rw [e1]
          simp only [decide_eq_true_eq] at hA
          rcases hw with hg | ⟨j, hj, hAj, hl⟩
          · have h1 := sm_one hn1 i hi
            rw [if_pos (decide_eq_true hA)] at h1
            have h2 : 1 * m i ≤ g i * m i := Int.mul_le_mul_of_nonneg_right (by omega) (hm i hi)
            omega
          · simp only [decide_eq_false_iff_not] at hAj
            have h1 := sm_one (n := n) (fun p hp => sm_nonneg (n := n) (fun q hq => hn2 p q hp hq)) i hi
            have h3 := sm_one (n := n) (fun q hq => hn2 i q hi hq) j hj
            rw [if_pos (by simp [hA, hAj])] at h3
            have h2 : 1 * (m i - m j) ≤ l i j * (m i - m j) := Int.mul_le_mul_of_nonneg_right (by omega) (by omega)
            omega
        have := cnt_lt (p := fun i => decide ((k : Int) * T < m i)) (q := fun i => decide (((k + 1 : Nat) : Int) * T < m i)) (n := n) (fun i _ h => by
          simp only [decide_eq_true_eq] at h ⊢
          have : ((k + 1 : Nat) : Int) * T = (k : Int) * T + T := by grind
          omega) i hi hA (decide_eq_false (by omega))
        omega
  have h := key n (Nat.le_refl _)
  rw [Nat.sub_self] at h
  intro i hi
  have := cnt_zero (Nat.le_zero.1 h) i hi
  simp only [decide_eq_false_iff_not] at this
  omega

/-- On the way: no fewer than none are left, and no heap has toppled more often than any script that calms has it. -/
structure Run (n : Nat) (l : Nat → Nat → Int) (g : Nat → Int) (t c m : Nat → Int) : Prop where
  m0 : ∀ i, i < n → 0 ≤ m i
  eq : ∀ i, i < n → c i = t i - dl n l g m i
  c0 : ∀ i, i < n → 0 ≤ c i
  min : ∀ k : Nat → Int, (∀ i, i < n → 0 ≤ k i) → (∀ i, i < n → t i - dl n l g k i < lim n l g i) → ∀ i, i < n → m i ≤ k i
structure Stb (n : Nat) (l : Nat → Nat → Int) (g : Nat → Int) (t c m : Nat → Int) : Prop extends Run n l g t c m where
  calm : ∀ i, i < n → c i < lim n l g i
theorem Run.zero {t : Nat → Int} (ht : ∀ i, i < n → 0 ≤ t i) : Run n l g t t (fun _ => 0) :=
  ⟨fun _ _ => Int.le_refl _, fun i _ => by rw [dl_zero]; omega, ht, fun k hk _ i hi => hk i hi⟩
theorem Run.congr {t t' c c' m m' : Nat → Int} (h : Run n l g t c m) (ht : ∀ i, i < n → t' i = t i) (hc : ∀ i, i < n → c' i = c i) (hm : ∀ i, i < n → m' i = m i) : Run n l g t' c' m' where
  m0 i hi := by rw [hm i hi]; exact h.m0 i hi
  eq i hi := by rw [hc i hi, ht i hi, dl_congr hm hi]; exact h.eq i hi
  c0 i hi := by rw [hc i hi]; exact h.c0 i hi
  min k hk hk2 i hi := by rw [hm i hi]; exact h.min k hk (fun j hj => by rw [← ht j hj]; exact hk2 j hj) i hi
theorem Stb.congr {t t' c c' m m' : Nat → Int} (h : Stb n l g t c m) (ht : ∀ i, i < n → t' i = t i) (hc : ∀ i, i < n → c' i = c i) (hm : ∀ i, i < n → m' i = m i) : Stb n l g t' c' m' :=
  ⟨h.toRun.congr ht hc hm, fun i hi => by rw [hc i hi]; exact h.calm i hi⟩
/-- A heap topples k times, as often as it can or less. -/
theorem Run.step (G : Gr n l g) {t c m : Nat → Int} (h : Run n l g t c m) {i : Nat} (hi : i < n) (hd : l i i = 0) {k : Int} (hk : 0 ≤ k) (hle : k * lim n l g i ≤ c i) :
    Run n l g t (fun j => if j = i then c j - k * lim n l g i else c j + k * l i j) (fun j => if j = i then m j + k else m j) where
  m0 j hj := by
    have := h.m0 j hj
    split <;> omega
  eq j hj := by
    have e : dl n l g (fun j => if j = i then m j + k else m j) j = dl n l g m j + dl n l g (fun q => if q = i then k else 0) j := by
      rw [← dl_add]
      refine dl_congr (fun q _ => ?_) hj
      split <;> omega
    rw [e, dl_pt k hi]
    have := h.eq j hj
    by_cases hji : j = i
    · subst hji
      rw [if_pos rfl, if_pos rfl, hd]
      have : lim n l g j * k = k * lim n l g j := Int.mul_comm _ _
      omega
    · rw [if_neg hji, if_neg hji, G.sy j i hj hi]
      have : l i j * k = k * l i j := Int.mul_comm _ _
      omega
  c0 j hj := by
    have := h.c0 j hj
    by_cases hji : j = i
    · subst hji
      rw [if_pos rfl]; omega
    · rw [if_neg hji]
      have := Int.mul_nonneg hk (G.l0 i j hi hj)
      omega
  min s hs hs2 j hj := by
    have hmin := h.min s hs hs2
    by_cases hji : j = i
    · subst hji
      rw [if_pos rfl]
      refine Classical.byContradiction fun hno => ?_
      have h1 := hs2 j hi
      have h2 := h.eq j hi
      have h3 : dl n l g (fun q => s q - m q) j = dl n l g s j - dl n l g m j := dl_sub s m j
      have h4 : dl n l g (fun q => s q - m q) j ≤ lim n l g j * (s j - m j) := by
        unfold dl
        have := sm_nonneg (n := n) (f := fun q => l j q * (s q - m q)) fun q hq => Int.mul_nonneg (G.l0 j q hi hq) (by have := hmin q hq; omega)
        dsimp only
        omega
      have h5 : lim n l g j * (s j - m j) ≤ lim n l g j * (k - 1) := Int.mul_le_mul_of_nonneg_left (by omega) (by have := lim_pos G hi; omega)
      have h6 : lim n l g j * (k - 1) = k * lim n l g j - lim n l g j := by grind
      omega
    · rw [if_neg hji]
      exact hmin j hj
theorem Stb.unique {t c m c' m' : Nat → Int} (h : Stb n l g t c m) (h' : Stb n l g t c' m') : (∀ i, i < n → m i = m' i) ∧ ∀ i, i < n → c i = c' i := by
  have hm : ∀ i, i < n → m i = m' i := fun i hi => by
    have h1 := h.min m' h'.m0 (fun j hj => by rw [← h'.eq j hj]; exact h'.calm j hj) i hi
    have h2 := h'.min m h.m0 (fun j hj => by rw [← h.eq j hj]; exact h.calm j hj) i hi
    omega
  exact ⟨hm, fun i hi => by rw [h.eq i hi, h'.eq i hi, dl_congr hm hi]⟩
/-- No set of heaps has less than its own links say: what fire takes. -/
def NF (n : Nat) (l : Nat → Nat → Int) (c : Nat → Int) : Prop := ∀ A : Nat → Bool, (∃ i, i < n ∧ A i = true) → ∃ i, i < n ∧ A i = true ∧ sm n (fun j => if A j then l i j else 0) ≤ c i
theorem NF.congr {c c' : Nat → Int} (h : NF n l c) (hc : ∀ i, i < n → c' i = c i) : NF n l c' := fun A hA => by
  obtain ⟨i, hi, h1, h2⟩ := h A hA
  exact ⟨i, hi, h1, by rw [hc i hi]; exact h2⟩
theorem sm_ind (G : Gr n l g) (A : Nat → Bool) {i : Nat} : sm n (fun j => l i j * (if A j then 1 else 0)) = sm n (fun j => if A j then l i j else 0) :=
  sm_congr fun j _ => by split <;> simp
/-- Where each heap has its limit, what is left lasts. -/
theorem Stb.nf (G : Gr n l g) {t c m : Nat → Int} (h : Stb n l g t c m) (ht : ∀ i, i < n → lim n l g i ≤ t i) : NF n l c := fun A ⟨a, ha, hAa⟩ => by
  refine Classical.byContradiction fun hno => ?_
  have hno' : ∀ i, i < n → A i = true → c i < sm n (fun j => if A j then l i j else 0) := fun i hi hAi => by
    refine Classical.byContradiction fun hlt => hno ⟨i, hi, hAi, by omega⟩
  have hm1 : ∀ i, i < n → 1 ≤ m i := fun i hi => by
    refine Classical.byContradiction fun hlt => ?_
    have h0 := h.m0 i hi
    have e : m i = 0 := by omega
    have h1 := h.eq i hi
    have h2 : dl n l g m i ≤ 0 := by
      unfold dl
      rw [e]
      have := sm_nonneg (n := n) (f := fun q => l i q * m q) fun q hq => Int.mul_nonneg (G.l0 i q hi hq) (h.m0 q hq)
      omega
    have := h.calm i hi
    have := ht i hi
    omega
  have := h.min (fun i => m i - (if A i then 1 else 0)) (fun i hi => by have := hm1 i hi; split <;> omega) (fun i hi => by
    rw [dl_sub]
    have h1 := h.eq i hi
    have h2 : dl n l g (fun j => if A j then 1 else 0) i = lim n l g i * (if A i then 1 else 0) - sm n (fun j => if A j then l i j else 0) := by
      unfold dl
      rw [sm_ind G A]
    rw [h2]
    have h3 := h.calm i hi
    cases hAi : A i with
    | true =>
      have := hno' i hi hAi
      simp
      omega
    | false =>
      have := sm_nonneg (n := n) (f := fun j => if A j then l i j else 0) fun q hq => by
        split
        · exact G.l0 i q hi hq
        · omega
      simp
      omega) a ha
  rw [hAa] at this
  simp at this
  omega
/-- Two alike heapings, the one calm, the other lasting: the script is at most 0. -/
theorem script_le (G : Gr n l g) {a b s : Nat → Int} (ha : ∀ i, i < n → a i < lim n l g i) (hb : NF n l b) (he : ∀ i, i < n → b i = a i - dl n l g s i) : ∀ i, i < n → s i ≤ 0 := by
  refine Classical.byContradiction fun hno => ?_
  have hex : ∃ i, i < n ∧ 0 < s i := Classical.byContradiction fun h => hno fun i hi => Classical.byContradiction fun h2 => h ⟨i, hi, by omega⟩
  have hmax : ∀ k, (∃ i, i < k ∧ 0 < s i) → ∃ i, i < k ∧ 0 < s i ∧ ∀ j, j < k → s j ≤ s i := by
    intro k
    induction k with
    | zero => rintro ⟨i, hi, _⟩; omega
    | succ k ih =>
      rintro ⟨i, hi, hs⟩
      by_cases h : ∃ i, i < k ∧ 0 < s i
      · obtain ⟨q, hq, hq0, hqm⟩ := ih h
        by_cases h2 : s k ≤ s q
        · exact ⟨q, by omega, hq0, fun j hj => by
            by_cases e : j = k
            · subst e; exact h2
            · exact hqm j (by omega)⟩
        · exact ⟨k, by omega, by omega, fun j hj => by
            by_cases e : j = k
            · subst e; omega
            · have := hqm j (by omega); omega⟩
      · have hik : i = k := Classical.byContradiction fun e => h ⟨i, by omega, hs⟩
        subst hik
        exact ⟨i, by omega, hs, fun j hj => by
          by_cases e : j = i
          · subst e; omega
          · have : ¬ 0 < s j := fun h3 => h ⟨j, by omega, h3⟩
            omega⟩
  obtain ⟨q, hq, hq0, hqm⟩ := hmax n hex
  obtain ⟨i, hi, hAi, hle⟩ := hb (fun j => decide (s j = s q)) ⟨q, hq, by simp⟩
  have hsi : s i = s q := of_decide_eq_true hAi
  have h1 := he i hi
  have h2 := ha i hi
  rw [dl_eq] at h1
  have h3 : sm n (l i) - sm n (fun j => if decide (s j = s q) = true then l i j else 0) ≤ sm n (fun j => l i j * (s i - s j)) := by
    rw [Int.sub_eq_add_neg, ← sm_neg, ← sm_add]
    refine sm_le fun j hj => ?_
    have hl := G.l0 i j hi hj
    have hj2 := hqm j hj
    by_cases e : s j = s q
    · rw [if_pos (decide_eq_true e), hsi, e]; simp; omega
    · rw [if_neg (by simp [e])]
      have : l i j * 1 ≤ l i j * (s i - s j) := Int.mul_le_mul_of_nonneg_left (by omega) hl
      omega
  have h4 : g i * 1 ≤ g i * s i := Int.mul_le_mul_of_nonneg_left (by omega) (G.g0 i hi)
  unfold lim at h2
  omega
theorem script_eq (G : Gr n l g) {a b s : Nat → Int} (ha : ∀ i, i < n → a i < lim n l g i) (hb : ∀ i, i < n → b i < lim n l g i) (ha2 : NF n l a) (hb2 : NF n l b) (he : ∀ i, i < n → b i = a i - dl n l g s i) :
    (∀ i, i < n → s i = 0) ∧ ∀ i, i < n → b i = a i := by
  have h1 := script_le G ha hb2 he
  have h2 := script_le G (s := fun i => - s i) hb ha2 (fun i hi => by rw [dl_neg]; have := he i hi; omega)
  have h3 : ∀ i, i < n → s i = 0 := fun i hi => by have := h1 i hi; have := h2 i hi; omega
  refine ⟨h3, fun i hi => ?_⟩
  rw [he i hi, dl_congr (k := fun _ => 0) h3 hi, dl_zero]; omega
def Alk (n : Nat) (l : Nat → Nat → Int) (g : Nat → Int) (a b : Nat → Int) : Prop := ∃ s : Nat → Int, ∀ i, i < n → b i = a i - dl n l g s i
theorem Alk.refl (a : Nat → Int) : Alk n l g a a := ⟨fun _ => 0, fun i _ => by rw [dl_zero]; omega⟩
theorem Alk.symm {a b : Nat → Int} (h : Alk n l g a b) : Alk n l g b a := by
  obtain ⟨s, h⟩ := h
  exact ⟨fun i => - s i, fun i hi => by rw [dl_neg]; have := h i hi; omega⟩
theorem Alk.trans {a b c : Nat → Int} (h : Alk n l g a b) (k : Alk n l g b c) : Alk n l g a c := by
  obtain ⟨s, h⟩ := h
  obtain ⟨u, k⟩ := k
  exact ⟨fun i => s i + u i, fun i hi => by have := h i hi; have := k i hi; (try dsimp only); rw [dl_add]; omega⟩
theorem Alk.add {a b c d : Nat → Int} (h : Alk n l g a b) (k : Alk n l g c d) : Alk n l g (fun i => a i + c i) (fun i => b i + d i) := by
  obtain ⟨s, h⟩ := h
  obtain ⟨u, k⟩ := k
  exact ⟨fun i => s i + u i, fun i hi => by have := h i hi; have := k i hi; (try dsimp only); rw [dl_add]; omega⟩
theorem Alk.sub {a b c d : Nat → Int} (h : Alk n l g a b) (k : Alk n l g c d) : Alk n l g (fun i => a i - c i) (fun i => b i - d i) := by
  obtain ⟨s, h⟩ := h
  obtain ⟨u, k⟩ := k
  exact ⟨fun i => s i - u i, fun i hi => by have := h i hi; have := k i hi; (try dsimp only); rw [dl_sub]; omega⟩
/-- What lasts: calm, and nothing that fire leaves. -/
structure Lst (n : Nat) (l : Nat → Nat → Int) (g : Nat → Int) (c : Nat → Int) : Prop where
  c0 : ∀ i, i < n → 0 ≤ c i
  calm : ∀ i, i < n → c i < lim n l g i
  nf : NF n l c
theorem Lst.congr {c c' : Nat → Int} (h : Lst n l g c) (hc : ∀ i, i < n → c' i = c i) : Lst n l g c' :=
  ⟨fun i hi => by rw [hc i hi]; exact h.c0 i hi, fun i hi => by rw [hc i hi]; exact h.calm i hi, h.nf.congr hc⟩
theorem Lst.unique (G : Gr n l g) {a b : Nat → Int} (ha : Lst n l g a) (hb : Lst n l g b) (h : Alk n l g a b) : ∀ i, i < n → b i = a i := by
  obtain ⟨s, h⟩ := h
  exact (script_eq G ha.calm hb.calm ha.nf hb.nf h).2
theorem Alk.congr {a b a' b' : Nat → Int} (h : Alk n l g a b) (ha : ∀ i, i < n → a' i = a i) (hb : ∀ i, i < n → b' i = b i) : Alk n l g a' b' := by
  obtain ⟨s, h⟩ := h
  exact ⟨s, fun i hi => by rw [ha i hi, hb i hi]; exact h i hi⟩
theorem NF.mono {c c' : Nat → Int} (h : NF n l c) (hc : ∀ i, i < n → c i ≤ c' i) : NF n l c' := fun A hA => by
  obtain ⟨i, hi, h1, h2⟩ := h A hA
  exact ⟨i, hi, h1, by have := hc i hi; omega⟩
/-- Each heaping settles. -/
theorem stb_ex (G : Gr n l g) (hd : ∀ i, i < n → l i i = 0) {t : Nat → Int} (ht : ∀ i, i < n → 0 ≤ t i) : ∃ c m, Stb n l g t c m := by
  have key : ∀ (f : Nat) (c m : Nat → Int), Run n l g t c m → (n : Int) * (n * sm n t) - sm n m < (f : Int) → ∃ c m, Stb n l g t c m := by
    intro f
    induction f with
    | zero =>
      intro c m h hf
      exfalso
      have hb := bound G ht h.m0 (fun i hi => by rw [← h.eq i hi]; exact h.c0 i hi)
      have : sm n m ≤ (n : Int) * (n * sm n t) := by
        have h1 := sm_le (n := n) (f := m) (h := fun _ => n * sm n t) hb
        have h2 : ∀ k : Nat, sm k (fun _ => (n : Int) * sm n t) = (k : Int) * (n * sm n t) := by
          intro k
          induction k with
          | zero => simp [sm]
          | succ k ih => show sm k _ + _ = _; rw [ih]; grind
        rw [h2] at h1
        exact h1
      omega
    | succ f ih =>
      intro c m h hf
      by_cases hc : ∀ i, i < n → c i < lim n l g i
      · exact ⟨c, m, h, hc⟩
      · have : ∃ i, i < n ∧ lim n l g i ≤ c i := Classical.byContradiction fun h2 => hc fun i hi => Classical.byContradiction fun h3 => h2 ⟨i, hi, by omega⟩
        obtain ⟨i, hi, hle⟩ := this
        refine ih _ _ (h.step G hi (hd i hi) (k := 1) (by omega) (by omega)) ?_
        have e : sm n (fun j => if j = i then m j + 1 else m j) = sm n m + 1 := by
          have e2 := sm_add (f := m) (h := fun j => 1 * (if j = i then (1 : Int) else 0)) n
          rw [sm_pt (f := fun _ => 1) 1 i n, if_pos hi] at e2
          have e3 : sm n (fun j => if j = i then m j + 1 else m j) = sm n (fun j => m j + 1 * (if j = i then (1 : Int) else 0)) := sm_congr fun j _ => by split <;> omega
          omega
        rw [e]; omega
  have h0 : sm n (fun _ => 0) = 0 := sm_zero n
  have hn0 : 0 ≤ (n : Int) * (n * sm n t) := Int.mul_nonneg (by omega) (Int.mul_nonneg (by omega) (sm_nonneg ht))
  exact key ((n : Int) * (n * sm n t) + 1).toNat _ _ (Run.zero ht) (by rw [h0]; omega)
end
end Go.Sand
