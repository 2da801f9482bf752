/- Sums. -/
set_option linter.unusedVariables false
set_option linter.unusedSimpArgs false
namespace Go.Sand

def sm : Nat → (Nat → Int) → Int
  | 0, _ => 0
  | n + 1, f => sm n f + f n
theorem sm_congr {f h : Nat → Int} : ∀ {n : Nat}, (∀ i, i < n → f i = h i) → sm n f = sm n h
  | 0, _ => rfl
  | n + 1, e => by
    show sm n f + f n = sm n h + h n
    rw [sm_congr fun i hi => e i (by omega), e n (by omega)]
theorem sm_add {f h : Nat → Int} : ∀ n : Nat, sm n (fun i => f i + h i) = sm n f + sm n h
  | 0 => rfl
  | n + 1 => by
    show sm n _ + (f n + h n) = sm n f + f n + (sm n h + h n)
    rw [sm_add n]; omega
theorem sm_mul {f : Nat → Int} (k : Int) : ∀ n : Nat, sm n (fun i => k * f i) = k * sm n f
  | 0 => by simp [sm]
  | n + 1 => by
    show sm n _ + k * f n = k * (sm n f + f n)
    rw [sm_mul k n, Int.mul_add]
theorem sm_neg {f : Nat → Int} : ∀ n : Nat, sm n (fun i => - f i) = - sm n f
  | 0 => rfl
  | n + 1 => by
    show sm n _ + - f n = - (sm n f + f n)
    rw [sm_neg n]; omega
theorem sm_zero : ∀ n : Nat, sm n (fun _ => 0) = 0
  | 0 => rfl
  | n + 1 => by show sm n _ + 0 = 0; rw [sm_zero n]; rfl
theorem sm_nonneg {f : Nat → Int} : ∀ {n : Nat}, (∀ i, i < n → 0 ≤ f i) → 0 ≤ sm n f
  | 0, _ => Int.le_refl _
  | n + 1, e => by
    have := sm_nonneg (f := f) (n := n) fun i hi => e i (by omega)
    have := e n (by omega)
    show 0 ≤ sm n f + f n
    omega
theorem sm_le {f h : Nat → Int} : ∀ {n : Nat}, (∀ i, i < n → f i ≤ h i) → sm n f ≤ sm n h
  | 0, _ => Int.le_refl _
  | n + 1, e => by
    have := sm_le (f := f) (h := h) (n := n) fun i hi => e i (by omega)
    have := e n (by omega)
    show sm n f + f n ≤ sm n h + h n
    omega
theorem sm_one {f : Nat → Int} : ∀ {n : Nat}, (∀ i, i < n → 0 ≤ f i) → ∀ k, k < n → f k ≤ sm n f
  | 0, _, k, hk => by omega
  | n + 1, e, k, hk => by
    have h1 := sm_nonneg (f := f) (n := n) fun i hi => e i (by omega)
    show f k ≤ sm n f + f n
    by_cases hkn : k = n
    · subst hkn; omega
    · have := sm_one (f := f) (n := n) (fun i hi => e i (by omega)) k (by omega)
      have := e n (by omega)
      omega
theorem sm_swap {f : Nat → Nat → Int} : ∀ n k : Nat, sm n (fun i => sm k (fun j => f i j)) = sm k (fun j => sm n (fun i => f i j))
  | 0, k => by rw [show (fun j => sm 0 (fun i => f i j)) = fun _ => 0 from rfl, sm_zero]; rfl
  | n + 1, k => by
    show sm n _ + sm k (fun j => f n j) = sm k (fun j => sm n (fun i => f i j) + f n j)
    rw [sm_add, sm_swap n k]
/-- One term turned. -/
theorem sm_pt {f : Nat → Int} (k : Int) (i : Nat) : ∀ n : Nat, sm n (fun j => f j * (if j = i then k else 0)) = if i < n then f i * k else 0
  | 0 => by simp [sm]
  | n + 1 => by
    show sm n _ + f n * _ = _
    rw [sm_pt k i n]
    by_cases h : n = i
    · subst h; simp
    · rw [if_neg h]
      by_cases h2 : i < n
      · rw [if_pos h2, if_pos (by omega)]; omega
      · rw [if_neg h2, if_neg (by omega)]; omega

end Go.Sand
