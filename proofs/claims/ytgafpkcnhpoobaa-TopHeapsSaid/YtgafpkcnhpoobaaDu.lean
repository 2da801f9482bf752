/- Determinants of heaps are above 0; elimination without fractions finds them; bounds. -/
import Derived.Test.YtgafpkcnhpoobaaDt
set_option linter.unusedVariables false
set_option linter.unusedSimpArgs false
namespace Go.Sand

/-- The column of the last one replaced by a unit: the determinant without the last row and column. -/
theorem det_last {K : Nat} (hK : K ≤ 4) (f : Nat → Nat → Int) : detF (K + 1) (repF f K (fun i => if i = K then 1 else 0)) = detF K f := by
  obtain rfl | rfl | rfl | rfl | rfl : K = 0 ∨ K = 1 ∨ K = 2 ∨ K = 3 ∨ K = 4 := by omega
  · rw [det1]; simp [repF, detF]
  · simp [det2, det1, repF]
  · simp [det3, det2, repF, d3]
  · simp [det4, det3, repF, d4, d3]; try grind
  · simp [det5, det4, repF, d5, d4, d3]; try grind
def mat (n : Nat) (l : Nat → Nat → Int) (g : Nat → Int) (i j : Nat) : Int := (if j = i then lim n l g i else 0) - l i j
theorem dl_mat {n : Nat} {l : Nat → Nat → Int} {g : Nat → Int} (m : Nat → Int) {i : Nat} (hi : i < n) : dl n l g m i = sm n (fun j => mat n l g i j * m j) := by
  have h1 := sm_pt (f := m) (lim n l g i) i n
  rw [if_pos hi] at h1
  have h2 : sm n (fun j => mat n l g i j * m j) = sm n (fun j => m j * (if j = i then lim n l g i else 0)) + - sm n (fun j => l i j * m j) := by
    rw [← sm_neg, ← sm_add]
    refine sm_congr fun j _ => ?_
    unfold mat
    grind
  rw [h2, h1]
  unfold dl
  grind
/-- The first k heaps, with the others as their ground. -/
def gR (n : Nat) (l : Nat → Nat → Int) (g : Nat → Int) (k : Nat) (i : Nat) : Int := lim n l g i - sm k (l i)
theorem sm_part {f : Nat → Int} : ∀ {n k : Nat}, k ≤ n → (∀ i, i < n → 0 ≤ f i) → sm k f ≤ sm n f
  | 0, k, h, _ => by
    obtain rfl : k = 0 := by omega
    exact Int.le_refl _
  | n + 1, k, h, h0 => by
    by_cases e : k = n + 1
    · subst e; exact Int.le_refl _
    · have h1 := sm_part (f := f) (n := n) (k := k) (by omega) fun i hi => h0 i (by omega)
      have h2 := h0 n (by omega)
      show _ ≤ sm n f + f n
      omega
theorem sm_part1 {f : Nat → Int} {n k j : Nat} (hk : k ≤ n) (hj : j < n) (hkj : k ≤ j) (h0 : ∀ i, i < n → 0 ≤ f i) : sm k f + f j ≤ sm n f := by
  have h1 : sm (j + 1) f ≤ sm n f := sm_part (by omega) h0
  have h2 : sm k f ≤ sm j f := sm_part hkj fun i hi => h0 i (by omega)
  have e : sm (j + 1) f = sm j f + f j := rfl
  omega
theorem Gr.part {n : Nat} {l : Nat → Nat → Int} {g : Nat → Int} (G : Gr n l g) {k : Nat} (hk : k ≤ n) : Gr k l (gR n l g k) where
  l0 i j hi hj := G.l0 i j (by omega) (by omega)
  sy i j hi hj := G.sy i j (by omega) (by omega)
  g0 i hi := by
    have h1 := sm_part (f := l i) hk fun j hj => G.l0 i j (by omega) hj
    have h2 := G.g0 i (by omega)
    unfold gR lim
    omega
  rch i hi := by
    have key : ∀ i, Rch n l g i → i < k → Rch k l (gR n l g k) i := by
      intro i h
      induction h with
      | gr i hin hg =>
        intro hi
        refine .gr i hi ?_
        have h1 := sm_part (f := l i) hk fun j hj => G.l0 i j hin hj
        unfold gR lim
        omega
      | st i j hin hj hl r ih =>
        intro hi
        by_cases hjk : j < k
        · exact .st i j hi hjk hl (ih hjk)
        · refine .gr i hi ?_
          have h1 := sm_part1 (f := l i) hk hj (by omega) fun q hq => G.l0 i q hin hq
          have h2 := G.g0 i hin
          unfold gR lim
          omega
    exact key i (G.rch i (by omega)) hi
theorem mat_part {n : Nat} {l : Nat → Nat → Int} {g : Nat → Int} (k i j : Nat) : mat k l (gR n l g k) i j = mat n l g i j := by
  have e : lim k l (gR n l g k) i = lim n l g i := by
    show gR n l g k i + sm k (l i) = _
    unfold gR
    omega
  unfold mat
  rw [e]
theorem det_pos {l : Nat → Nat → Int} : ∀ {n : Nat} {g : Nat → Int}, n ≤ 5 → Gr n l g → 0 < detF n (mat n l g)
  | 0, g, _, _ => by show (0 : Int) < 1; decide
  | n + 1, g, hn, G => by
    have ih := det_pos (l := l) (n := n) (g := gR (n + 1) l g n) (by omega) (G.part (by omega))
    rw [detF_congr n (fun i j _ _ => mat_part (n := n + 1) (l := l) (g := g) n i j)] at ih
    have ih : 0 < detF n (mat (n + 1) l g) := ih
    refine Classical.byContradiction fun hno => ?_
    have hle := max_le G (s := fun k => detF (n + 1) (repF (mat (n + 1) l g) k (fun i => if i = n then 1 else 0))) (fun i hi => by
      rw [dl_mat _ hi, cramer hn _ _ hi]
      split <;> omega) n (by omega)
    rw [det_last (by omega)] at hle
    omega
/-- What moves these turves. -/
theorem script_det {n : Nat} {l : Nat → Nat → Int} {g : Nat → Int} (hn : n ≤ 5) (G : Gr n l g) {s v : Nat → Int} (h : ∀ i, i < n → dl n l g s i = v i) : ∀ k, k < n → detF n (repF (mat n l g) k v) = detF n (mat n l g) * s k := by
  have h1 := dl_inj G (s := fun k => detF n (repF (mat n l g) k v) - detF n (mat n l g) * s k) (fun i hi => by
    rw [dl_sub (fun k => detF n (repF (mat n l g) k v)) (fun k => detF n (mat n l g) * s k), dl_mat _ hi, cramer hn _ _ hi]
    have e : dl n l g (fun k => detF n (mat n l g) * s k) i = detF n (mat n l g) * dl n l g s i := by
      unfold dl
      rw [show (fun j => l i j * (detF n (mat n l g) * s j)) = fun j => detF n (mat n l g) * (l i j * s j) by funext j; grind, sm_mul]
      grind
    rw [e, h i hi]; omega)
  intro k hk
  have := h1 k hk
  omega
theorem det_script {n : Nat} {l : Nat → Nat → Int} {g : Nat → Int} (hn : n ≤ 5) (v : Nat → Int) {i : Nat} (hi : i < n) : dl n l g (fun k => detF n (repF (mat n l g) k v)) i = detF n (mat n l g) * v i := by
  rw [dl_mat _ hi, cramer hn _ _ hi]
/-! Elimination without fractions. -/
def Fk (f : Nat → Nat → Int) (k i j : Nat) : Int := detF (k + 1) (fun a b => f (if a < k then a else i) (if b < k then b else j))
def Pk (f : Nat → Nat → Int) : Nat → Int
  | 0 => 1
  | k + 1 => Fk f k k k
theorem pk_det (f : Nat → Nat → Int) (k : Nat) : Pk f k = detF k f := by
  cases k with
  | zero => rfl
  | succ k =>
    show Fk f k k k = _
    unfold Fk
    refine detF_congr (k + 1) fun a b ha hb => ?_
    congr 1
    · split <;> omega
    · split <;> omega
theorem fk0 (f : Nat → Nat → Int) (i j : Nat) : Fk f 0 i j = f i j := by
  show detF 1 _ = _
  rw [det1]; rfl
theorem fk1 (f : Nat → Nat → Int) (i j : Nat) : Fk f 1 i j = f 0 0 * f i j - f 0 j * f i 0 := by
  show detF 2 _ = _
  rw [det2]; rfl
theorem fk2 (f : Nat → Nat → Int) (i j : Nat) : Fk f 2 i j = d3 (f 0 0) (f 0 1) (f 0 j) (f 1 0) (f 1 1) (f 1 j) (f i 0) (f i 1) (f i j) := by
  show detF 3 _ = _
  rw [det3]; rfl
theorem fk3 (f : Nat → Nat → Int) (i j : Nat) : Fk f 3 i j = d4 (f 0 0) (f 0 1) (f 0 2) (f 0 j) (f 1 0) (f 1 1) (f 1 2) (f 1 j) (f 2 0) (f 2 1) (f 2 2) (f 2 j) (f i 0) (f i 1) (f i 2) (f i j) := by
  show detF 4 _ = _
  rw [det4]; rfl
theorem fk4 (f : Nat → Nat → Int) (i j : Nat) : Fk f 4 i j = d5 (f 0 0) (f 0 1) (f 0 2) (f 0 3) (f 0 j) (f 1 0) (f 1 1) (f 1 2) (f 1 3) (f 1 j) (f 2 0) (f 2 1) (f 2 2) (f 2 3) (f 2 j) (f 3 0) (f 3 1) (f 3 2) (f 3 3) (f 3 j) (f i 0) (f i 1) (f i 2) (f i 3) (f i j) := by
  show detF 5 _ = _
  rw [det5]; rfl
theorem fk_step (f : Nat → Nat → Int) {k : Nat} (hk : k ≤ 3) (i j : Nat) : Fk f k k k * Fk f k i j - Fk f k i k * Fk f k k j = Pk f k * Fk f (k + 1) i j := by
  obtain rfl | rfl | rfl | rfl : k = 0 ∨ k = 1 ∨ k = 2 ∨ k = 3 := by omega
  · show _ = 1 * Fk f 1 i j
    rw [fk0, fk0, fk0, fk0, fk1]; grind
  · show _ = Fk f 0 0 0 * Fk f 2 i j
    rw [fk0, fk1, fk1, fk1, fk1, fk2]; unfold d3; grind
  · show _ = Fk f 1 1 1 * Fk f 3 i j
    rw [fk1, fk2, fk2, fk2, fk2, fk3]
    have h := sylv3 (f 0 0) (f 0 1) (f 0 2) (f 0 j) (f 1 0) (f 1 1) (f 1 2) (f 1 j) (f 2 0) (f 2 1) (f 2 2) (f 2 j) (f i 0) (f i 1) (f i 2) (f i j)
    rw [h]
  · show _ = Fk f 2 2 2 * Fk f 4 i j
    rw [fk2, fk3, fk3, fk3, fk3, fk4]
    exact sylv4 _ _ _ _ _ _ _ _ _ _ _ _ _ _ _ _ _ _ _ _ _ _ _ _ _
/-! Bounds. -/
def Bn (a B : Int) : Prop := -B ≤ a ∧ a ≤ B
theorem Bn.mono {a B C : Int} (h : Bn a B) (hc : B ≤ C) : Bn a C := ⟨by have := h.1; omega, by have := h.2; omega⟩
theorem Bn.add {a b A B : Int} (h : Bn a A) (k : Bn b B) : Bn (a + b) (A + B) := ⟨by have := h.1; have := k.1; omega, by have := h.2; have := k.2; omega⟩
theorem Bn.neg {a B : Int} (h : Bn a B) : Bn (-a) B := ⟨by have := h.2; omega, by have := h.1; omega⟩
theorem Bn.mul {a b A B : Int} (h : Bn a A) (k : Bn b B) : Bn (a * b) (A * B) := by
  have hA : 0 ≤ A := by have := h.1; have := h.2; omega
  have hB : 0 ≤ B := by have := k.1; have := k.2; omega
  have h1 : a.natAbs * b.natAbs ≤ A.natAbs * B.natAbs := Nat.mul_le_mul (by have := h.1; have := h.2; omega) (by have := k.1; have := k.2; omega)
  have e1 : (a * b).natAbs = a.natAbs * b.natAbs := Int.natAbs_mul a b
  have e2 : A * B = ((A.natAbs * B.natAbs : Nat) : Int) := by
    rw [Int.natCast_mul, Int.natAbs_of_nonneg hA, Int.natAbs_of_nonneg hB]
  unfold Bn
  rw [e2]
  omega
theorem sm_bn {g : Nat → Int} {B : Int} : ∀ n : Nat, (∀ j, j < n → Bn (g j) B) → Bn (sm n g) (n * B)
  | 0, _ => by simp [sm, Bn]
  | n + 1, h => by
    have h1 := sm_bn n (fun j hj => h j (by omega))
    have h2 := h n (by omega)
    refine (h1.add h2).mono ?_
    rw [show ((n + 1 : Nat) : Int) = n + 1 by omega, Int.add_mul]; omega
theorem sgn_bn {a B : Int} (h : Bn a B) (j : Nat) : Bn (sgn j * a) B := by
  unfold sgn
  split
  · rw [Int.one_mul]; exact h
  · rw [Int.neg_one_mul]; exact h.neg
def dterm (k : Nat) (f : Nat → Nat → Int) (j : Nat) : Int := sgn j * f 0 j * detF k (minorF f j)
/-- No number on the way is too large. -/
def DSafe : Nat → (Nat → Nat → Int) → Prop
  | 0, _ => True
  | k + 1, f => ∀ j, j < k + 1 → Bn (f 0 j) 1000000000000000000 ∧ Bn (f 0 j * detF k (minorF f j)) 1000000000000000000 ∧ DSafe k (minorF f j)
theorem DSafe.congr : ∀ {k : Nat} {f g : Nat → Nat → Int}, (∀ a b, a < k → b < k → f a b = g a b) → DSafe k f → DSafe k g
  | 0, _, _, _, _ => trivial
  | k + 1, f, g, h, hs => fun j hj => by
    have h1 : ∀ a b, a < k → b < k → minorF f j a b = minorF g j a b := fun a b ha hb => by
      unfold minorF
      exact h _ _ (by omega) (by split <;> omega)
    obtain ⟨e1, e2, e3⟩ := hs j hj
    rw [h 0 j (by omega) hj] at e1 e2
    rw [detF_congr k h1] at e2
    exact ⟨e1, e2, DSafe.congr h1 e3⟩
theorem dterm_bn {k : Nat} {f : Nat → Nat → Int} (h : DSafe (k + 1) f) {j : Nat} (hj : j < k + 1) : Bn (dterm k f j) 1000000000000000000 := by
  have := sgn_bn (h j hj).2.1 j
  unfold dterm
  rw [Int.mul_assoc]; exact this
theorem dsum_bn {k : Nat} {f : Nat → Nat → Int} (h : DSafe (k + 1) f) : ∀ m, m ≤ k + 1 → Bn (sm m (dterm k f)) (1000000000000000000 * m)
  | 0, _ => by simp [sm, Bn]
  | m + 1, hm => ((dsum_bn h m (by omega)).add (dterm_bn h (j := m) (by omega))).mono (by omega)
def tabB : Nat → Int
  | 0 => 1
  | 1 => 30
  | 2 => 1800
  | 3 => 162000
  | 4 => 19440000
  | _ => 2916000000
/-- Tables whose numbers are at most 30. -/
theorem dbound : ∀ (K : Nat) (T : Int) {f : Nat → Nat → Int}, (∀ a b, a < K → b < K → Bn (f a b) 30) → K ≤ 5 → tabB K = T → DSafe K f ∧ Bn (detF K f) T
  | 0, T, f, _, _, e => by subst e; exact ⟨trivial, by simp [detF, Bn, tabB]⟩
  | K + 1, T, f, hf, hK, e => by
    have ih := fun j (hj : j < K + 1) => dbound K _ (f := minorF f j) (fun a b ha hb => hf _ _ (by omega) (by split <;> omega)) (by omega) rfl
    have hm : ∀ j, j < K + 1 → Bn (f 0 j * detF K (minorF f j)) (30 * tabB K) := fun j hj => (hf 0 j (by omega) hj).mul (ih j hj).2
    have hs := sm_bn (K + 1) (g := fun j => sgn j * f 0 j * detF K (minorF f j)) (fun j hj => by
      have h3 := sgn_bn (hm j hj) j
      rw [← Int.mul_assoc] at h3
      exact h3)
    have hT : ((K + 1 : Nat) : Int) * (30 * tabB K) ≤ T ∧ 30 * tabB K ≤ 1000000000000000000 := by
      subst e
      obtain rfl | rfl | rfl | rfl | rfl : K = 0 ∨ K = 1 ∨ K = 2 ∨ K = 3 ∨ K = 4 := by omega
      all_goals decide
    exact ⟨fun j hj => ⟨(hf 0 j (by omega) hj).mono (by omega), (hm j hj).mono hT.2, (ih j hj).1⟩, hs.mono hT.1⟩
theorem det_bn {K : Nat} (hK : K ≤ 5) {f : Nat → Nat → Int} (hf : ∀ a b, a < K → b < K → Bn (f a b) 30) : DSafe K f ∧ Bn (detF K f) 2916000000 := by
  have h := dbound K _ hf hK rfl
  refine ⟨h.1, h.2.mono ?_⟩
  obtain rfl | rfl | rfl | rfl | rfl | rfl : K = 0 ∨ K = 1 ∨ K = 2 ∨ K = 3 ∨ K = 4 ∨ K = 5 := by omega
  all_goals decide
theorem det_bn4 {K : Nat} (hK : K ≤ 4) {f : Nat → Nat → Int} (hf : ∀ a b, a < K → b < K → Bn (f a b) 30) : Bn (detF K f) 19440000 := by
  have h := dbound K _ hf (by omega) rfl
  refine h.2.mono ?_
  obtain rfl | rfl | rfl | rfl | rfl : K = 0 ∨ K = 1 ∨ K = 2 ∨ K = 3 ∨ K = 4 := by omega
  all_goals decide
end Go.Sand
