/- Bounds of the elimination, and what its solution solves. -/
import Derived.Test.YtmmgcajegokkoaaMc
namespace Go.Proofs.Ytmmgcajegokkoaa
open Go.Sx Go.RowKit

/-! Bounds, and what the solution is. -/
def Bn (a A : Int) : Prop := -A ≤ a ∧ a ≤ A
theorem Bn.nn {a A : Int} (h : Bn a A) : 0 ≤ A := by unfold Bn at h; omega
theorem Bn.neg {a A : Int} (h : Bn a A) : Bn (-a) A := by unfold Bn at *; omega
theorem Bn.add {a A b B : Int} (h : Bn a A) (k : Bn b B) : Bn (a + b) (A + B) := by unfold Bn at *; omega
theorem Bn.sub {a A b B : Int} (h : Bn a A) (k : Bn b B) : Bn (a - b) (A + B) := by unfold Bn at *; omega
theorem Bn.mono {a A B : Int} (h : Bn a A) (k : A ≤ B) : Bn a B := by unfold Bn at *; omega
theorem Bn.mul {a A b B : Int} (h : Bn a A) (k : Bn b B) : Bn (a * b) (A * B) := by
  have hA := h.nn
  have hB := k.nn
  have key : ∀ c : Int, 0 ≤ c → c ≤ B → Bn (a * c) (A * B) := fun c h0 h1 => by
    have e1 : a * c ≤ A * c := Int.mul_le_mul_of_nonneg_right h.2 h0
    have e2 : -A * c ≤ a * c := Int.mul_le_mul_of_nonneg_right h.1 h0
    have e3 : A * c ≤ A * B := Int.mul_le_mul_of_nonneg_left h1 hA
    rw [Int.neg_mul] at e2
    unfold Bn; omega
  rcases Int.le_total 0 b with h0 | h0
  · exact key b h0 k.2
  · have := (key (-b) (by omega) (by unfold Bn at k; omega)).neg
    rwa [Int.mul_neg, Int.neg_neg] at this
theorem Bn.zero {A : Int} (h : 0 ≤ A) : Bn 0 A := by unfold Bn; omega
theorem d3_bn {a1 a2 a3 b1 b2 b3 c1 c2 c3 A B C : Int} (h1 : Bn a1 A) (h2 : Bn a2 A) (h3 : Bn a3 A) (k1 : Bn b1 B) (k2 : Bn b2 B) (k3 : Bn b3 B) (l1 : Bn c1 C) (l2 : Bn c2 C) (l3 : Bn c3 C) :
    Bn (d3 a1 a2 a3 b1 b2 b3 c1 c2 c3) (6 * (A * B * C)) := by
  refine (((h1.mul ((k2.mul l3).sub (k3.mul l2))).sub (k1.mul ((h2.mul l3).sub (h3.mul l2)))).add (l1.mul ((h2.mul k3).sub (h3.mul k2)))).mono ?_
  grind
theorem d4_bn {a1 a2 a3 a4 b1 b2 b3 b4 c1 c2 c3 c4 e1 e2 e3 e4 A B C D : Int} (h1 : Bn a1 A) (h2 : Bn a2 A) (h3 : Bn a3 A) (h4 : Bn a4 A) (k1 : Bn b1 B) (k2 : Bn b2 B) (k3 : Bn b3 B) (k4 : Bn b4 B)
    (l1 : Bn c1 C) (l2 : Bn c2 C) (l3 : Bn c3 C) (l4 : Bn c4 C) (m1 : Bn e1 D) (m2 : Bn e2 D) (m3 : Bn e3 D) (m4 : Bn e4 D) :
    Bn (d4 a1 a2 a3 a4 b1 b2 b3 b4 c1 c2 c3 c4 e1 e2 e3 e4) (24 * (A * B * C * D)) := by
  refine ((((m4.mul (d3_bn h1 h2 h3 k1 k2 k3 l1 l2 l3)).sub (l4.mul (d3_bn h1 h2 h3 k1 k2 k3 m1 m2 m3))).add (k4.mul (d3_bn h1 h2 h3 l1 l2 l3 m1 m2 m3))).sub (h4.mul (d3_bn k1 k2 k3 l1 l2 l3 m1 m2 m3))).mono ?_
  grind
/-- Bounds of the numbers behind k rounds. -/
theorem fk_bn {f : Nat → Nat → Int} {N k i : Nat} (hk : k < N) (hN : N ≤ 5) (h1 : 1 ≤ i) (hi : i < N) (hf : ∀ i j, 1 ≤ i → i < N → 1 ≤ j → j < N → Bn (f i j) 24) {x : Nat → Int} {X : Int} (hx : ∀ i, 1 ≤ i → i < N → Bn (x i) X) :
    Bn (Fk f k i x) (331776 * X) := by
  have hX := (hx i h1 hi).nn
  obtain rfl | rfl | rfl | rfl | rfl : k = 0 ∨ k = 1 ∨ k = 2 ∨ k = 3 ∨ k = 4 := by omega
  · exact (hx i h1 hi).mono (by omega)
  · have a11 := hf 1 1 (by omega) (by omega) (by omega) (by omega)
    have ai1 := hf i 1 h1 hi (by omega) (by omega)
    have x1 := hx 1 (by omega) (by omega)
    have xi := hx i h1 hi
    simp only [Fk]
    split
    · exact x1.mono (by omega)
    · exact ((a11.mul xi).sub (ai1.mul x1)).mono (by omega)
  · have A : ∀ p q, 1 ≤ p → p ≤ 2 → 1 ≤ q → q ≤ 2 → Bn (f p q) 24 := fun p q _ _ _ _ => hf p q (by omega) (by omega) (by omega) (by omega)
    have x1 := hx 1 (by omega) (by omega)
    have x2 := hx 2 (by omega) (by omega)
    have xi := hx i h1 hi
    simp only [Fk]
    split
    · exact ((x1.mul (A 2 2 (by omega) (by omega) (by omega) (by omega))).sub (x2.mul (A 1 2 (by omega) (by omega) (by omega) (by omega)))).mono (by omega)
    · split
      · exact (((A 1 1 (by omega) (by omega) (by omega) (by omega)).mul x2).sub ((A 2 1 (by omega) (by omega) (by omega) (by omega)).mul x1)).mono (by omega)
      · exact (d3_bn (A 1 1 (by omega) (by omega) (by omega) (by omega)) (A 2 1 (by omega) (by omega) (by omega) (by omega)) (hf i 1 h1 hi (by omega) (by omega)) (A 1 2 (by omega) (by omega) (by omega) (by omega)) (A 2 2 (by omega) (by omega) (by omega) (by omega)) (hf i 2 h1 hi (by omega) (by omega)) x1 x2 xi).mono (by omega)
  · have A : ∀ p q, 1 ≤ p → p ≤ 3 → 1 ≤ q → q ≤ 3 → Bn (f p q) 24 := fun p q _ _ _ _ => hf p q (by omega) (by omega) (by omega) (by omega)
    have Ai : ∀ q, 1 ≤ q → q ≤ 3 → Bn (f i q) 24 := fun q _ _ => hf i q h1 hi (by omega) (by omega)
    have x1 := hx 1 (by omega) (by omega)
    have x2 := hx 2 (by omega) (by omega)
    have x3 := hx 3 (by omega) (by omega)
    have xi := hx i h1 hi
    have a11 := A 1 1 (by omega) (by omega) (by omega) (by omega)
    have a12 := A 1 2 (by omega) (by omega) (by omega) (by omega)
    have a13 := A 1 3 (by omega) (by omega) (by omega) (by omega)
    have a21 := A 2 1 (by omega) (by omega) (by omega) (by omega)
    have a22 := A 2 2 (by omega) (by omega) (by omega) (by omega)
    have a23 := A 2 3 (by omega) (by omega) (by omega) (by omega)
    have a31 := A 3 1 (by omega) (by omega) (by omega) (by omega)
    have a32 := A 3 2 (by omega) (by omega) (by omega) (by omega)
    have a33 := A 3 3 (by omega) (by omega) (by omega) (by omega)
    simp only [Fk]
    split
    · exact (d3_bn x1 x2 x3 a12 a22 a32 a13 a23 a33).mono (by omega)
    · split
      · exact (d3_bn a11 a21 a31 x1 x2 x3 a13 a23 a33).mono (by omega)
      · split
        · exact (d3_bn a11 a21 a31 a12 a22 a32 x1 x2 x3).mono (by omega)
        · exact (d4_bn a11 a21 a31 (Ai 1 (by omega) (by omega)) a12 a22 a32 (Ai 2 (by omega) (by omega)) a13 a23 a33 (Ai 3 (by omega) (by omega)) x1 x2 x3 xi).mono (by omega)
  · have A : ∀ p q, 1 ≤ p → p ≤ 4 → 1 ≤ q → q ≤ 4 → Bn (f p q) 24 := fun p q _ _ _ _ => hf p q (by omega) (by omega) (by omega) (by omega)
    have x1 := hx 1 (by omega) (by omega)
    have x2 := hx 2 (by omega) (by omega)
    have x3 := hx 3 (by omega) (by omega)
    have x4 := hx 4 (by omega) (by omega)
    have a11 := A 1 1 (by omega) (by omega) (by omega) (by omega)
    have a12 := A 1 2 (by omega) (by omega) (by omega) (by omega)
    have a13 := A 1 3 (by omega) (by omega) (by omega) (by omega)
    have a14 := A 1 4 (by omega) (by omega) (by omega) (by omega)
    have a21 := A 2 1 (by omega) (by omega) (by omega) (by omega)
    have a22 := A 2 2 (by omega) (by omega) (by omega) (by omega)
    have a23 := A 2 3 (by omega) (by omega) (by omega) (by omega)
    have a24 := A 2 4 (by omega) (by omega) (by omega) (by omega)
    have a31 := A 3 1 (by omega) (by omega) (by omega) (by omega)
    have a32 := A 3 2 (by omega) (by omega) (by omega) (by omega)
    have a33 := A 3 3 (by omega) (by omega) (by omega) (by omega)
    have a34 := A 3 4 (by omega) (by omega) (by omega) (by omega)
    have a41 := A 4 1 (by omega) (by omega) (by omega) (by omega)
    have a42 := A 4 2 (by omega) (by omega) (by omega) (by omega)
    have a43 := A 4 3 (by omega) (by omega) (by omega) (by omega)
    have a44 := A 4 4 (by omega) (by omega) (by omega) (by omega)
    simp only [Fk]
    split
    · exact (d4_bn x1 x2 x3 x4 a12 a22 a32 a42 a13 a23 a33 a43 a14 a24 a34 a44).mono (by omega)
    · split
      · exact (d4_bn a11 a21 a31 a41 x1 x2 x3 x4 a13 a23 a33 a43 a14 a24 a34 a44).mono (by omega)
      · split
        · exact (d4_bn a11 a21 a31 a41 a12 a22 a32 a42 x1 x2 x3 x4 a14 a24 a34 a44).mono (by omega)
        · exact (d4_bn a11 a21 a31 a41 a12 a22 a32 a42 a13 a23 a33 a43 x1 x2 x3 x4).mono (by omega)
theorem rsum_bn {g : Rd → Int} {c : Int} : ∀ {rs : List Rd}, (∀ r ∈ rs, Bn (g r) c) → Bn (rsum rs g) (rs.length * c)
  | [], _ => by simp [Bn, rsum]
  | r :: rs, h => by
    have h1 := h r (by simp)
    have h2 := rsum_bn (fun q hq => h q (List.mem_cons_of_mem _ hq) : ∀ q ∈ rs, Bn (g q) c)
    refine (h1.add h2).mono ?_
    rw [List.length_cons, show ((rs.length + 1 : Nat) : Int) = rs.length + 1 by omega, Int.add_mul]; omega
theorem eqG_bn {N : Nat} {rs : List Rd} {loads : List Int} (hv : Valid (N : Int) rs) {p q : Nat} (hp : p < N) (hq : q < N) : Bn (eqG N rs loads p q) 24 := by
  by_cases hR : Root N rs p
  · rw [eqG_root hv hp hq hR]; unfold Bn; split <;> omega
  · rw [eqG_entry hv hp hq hR]
    have hl := hv.len
    refine (rsum_bn (c := 3) fun r hr => ?_).mono (by omega)
    have hw := hv.wt r hr
    have hne := (reading_spec (List.all_eq_true.1 hv.all r hr))
    have hft : r.f ≠ r.t := by unfold Rd.f Rd.t; omega
    unfold term dlt Bn
    by_cases h1 : r.t = p <;> by_cases h2 : r.f = p <;> by_cases h3 : r.t = q <;> by_cases h4 : r.f = q <;> simp [h1, h2, h3, h4] <;> (try split) <;> (try split) <;> omega
/-- The state behind k + 1 rounds. -/
theorem st_of {N : Nat} {rs : List Rd} {loads : List Int} (hv : Valid (N : Int) rs) : ∀ k, k < N → St (eqG N rs loads) k
  | 0, h => St.zero fun j => by
    by_cases hj : j < N
    · rw [eqG_root hv h hj (root_zero hv h)]
      by_cases h0 : j = 0
      · subst h0; simp
      · simp [h0, show ¬ 0 = j from fun e => h0 e.symm]
    · rw [if_neg (by omega)]
      by_cases hj2 : j = N
      · subst hj2
        have := (eqG_row (loads := loads) hv.ends h (fun _ => 0)).2
        rw [if_pos (root_zero hv h)] at this
        exact this
      · have := (eqM_sh N rs loads).2 0 h
        unfold eqG getM
        rw [List.getD_eq_getElem?_getD, List.getElem?_eq_none (by omega)]
        rfl
  | k + 1, h => by
    have hp := hv.pts
    exact (st_of hv k (by omega)).succ (by omega) (by have := (piv loads hv k (by omega)).1; omega)
theorem pow24 {k : Nat} (h : k ≤ 4) : (24 : Int) ^ k ≤ 331776 := by
  obtain rfl | rfl | rfl | rfl | rfl : k = 0 ∨ k = 1 ∨ k = 2 ∨ k = 3 ∨ k = 4 := by omega
  all_goals decide
theorem rhs_bn {N : Nat} {rs : List Rd} {loads : List Int} (hv : Valid (N : Int) rs) (hB : Bd loads 48000) {p : Nat} (hp : p < N) : Bn (eqG N rs loads p N) 48000 := by
  rw [(eqG_row (loads := loads) hv.ends hp (fun _ => 0)).2]
  have := hB p
  unfold Bn
  split <;> omega
theorem st_bn {N : Nat} {rs : List Rd} {loads : List Int} (hv : Valid (N : Int) rs) (hB : Bd loads 48000) {k : Nat} (hk : k < N) {i j : Nat} (hi : i < N) (hj : j ≤ N) :
    Bn ((eS (eqG N rs loads) (k + 1)).2 i j) (if j < N then 7962624 else 15925248000) := by
  have hp := hv.pts
  have hS := st_of (loads := loads) hv k hk
  have hP := piv loads hv k hk
  have hP2 := pow24 (k := k) (by omega)
  have hnn : (0 : Int) ≤ if j < N then 7962624 else 15925248000 := by split <;> omega
  by_cases hi0 : i = 0
  · subst hi0
    rw [hS.top]
    split
    · next h0 => rw [if_pos (by omega)]; unfold Bn; omega
    · exact Bn.zero hnn
  · by_cases hj0 : j = 0
    · subst hj0
      rw [hS.left i (by omega) (by omega)]
      exact Bn.zero hnn
    · rw [hS.core i j (by omega) (by omega) (by omega)]
      have hf : ∀ i j, 1 ≤ i → i < N → 1 ≤ j → j < N → Bn (eqG N rs loads i j) 24 := fun i j _ h _ h2 => eqG_bn hv h h2
      split
      · next hjN => exact fk_bn hk (by omega) (by omega) hi hf (X := 24) fun p h1 h2 => eqG_bn hv h2 hjN
      · next hjN =>
        have : j = N := by omega
        subst this
        exact fk_bn hk (by omega) (by omega) hi hf (X := 48000) fun p h1 h2 => rhs_bn hv hB h2
theorem safe_of {N : Nat} {rs : List Rd} {loads : List Int} (hv : Valid (N : Int) rs) (hB : Bd loads 48000) : eSafe N (N + 1) (eqG N rs loads) := by
  intro k hk
  have hp := hv.pts
  have hbig : ∀ {a b : Int} {i j : Nat}, Bn a 7962624 → Bn b (if j < N then 7962624 else 15925248000) → -4000000000000000000 ≤ a * b ∧ a * b ≤ 4000000000000000000 := fun {a b i j} h1 h2 =>
    (h1.mul (h2.mono (B := 15925248000) (by split <;> omega))).mono (by omega)
  cases k with
  | zero =>
    refine ⟨show (1 : Int) ≠ 0 by decide, fun i hi hne j hj => ?_⟩
    have b1 : Bn (eqG N rs loads i j) (if j < N then 7962624 else 15925248000) := by
      split
      · next h => exact (eqG_bn hv hi h).mono (by omega)
      · have : j = N := by omega
        subst this
        exact (rhs_bn hv hB hi).mono (by omega)
    have b2 : Bn (eqG N rs loads 0 j) (if j < N then 7962624 else 15925248000) := by
      split
      · next h => exact (eqG_bn hv (by omega) h).mono (by omega)
      · have : j = N := by omega
        subst this
        exact (rhs_bn hv hB (by omega)).mono (by omega)
    exact ⟨hbig (i := i) ((eqG_bn hv (by omega) (by omega)).mono (by omega)) b1, hbig (i := i) ((eqG_bn hv hi (by omega)).mono (by omega)) b2⟩
  | succ k =>
    refine ⟨?_, fun i hi hne j hj => ?_⟩
    · rw [(st_of (loads := loads) hv k (by omega)).den]
      have := (piv loads hv k (by omega)).1
      omega
    · have c1 := st_bn hv hB (k := k) (by omega) hk (show k + 1 ≤ N by omega)
      have c2 := st_bn hv hB (k := k) (by omega) hi (show k + 1 ≤ N by omega)
      rw [if_pos hk] at c1 c2
      exact ⟨hbig (i := i) c1 (st_bn hv hB (by omega) hi (by omega)), hbig (i := i) c2 (st_bn hv hB (by omega) hk (by omega))⟩
/-- The common denominator, whatever the loads. -/
def denI (N : Nat) (rs : List Rd) : Int := solD N rs []
structure Solved (N : Nat) (rs : List Rd) (loads : List Int) : Prop where
  sound : Sound N rs loads
  den : 1 ≤ solD N rs loads ∧ solD N rs loads ≤ 331776
  root : ∀ p, p < N → Root N rs p → solV N rs loads p = 0
  eq : ∀ p, p < N → ¬ Root N rs p → lapl rs (solV N rs loads) p = solD N rs loads * loads.getD p 0
theorem solved {N : Nat} {rs : List Rd} {loads : List Int} (hv : Valid (N : Int) rs) (hB : Bd loads 48000) : Solved N rs loads := by
  have hp := hv.pts
  obtain ⟨k, rfl⟩ : ∃ k, N = k + 1 := ⟨N - 1, by omega⟩
  have hS := st_of (loads := loads) hv k (by omega)
  have hP := piv loads hv k (by omega)
  have hP2 := pow24 (k := k) (by omega)
  have hD : solD (k + 1) rs loads = Pk (eqG (k + 1) rs loads) k := hS.den
  have hV : ∀ p, 1 ≤ p → p < k + 1 → solV (k + 1) rs loads p = Fk (eqG (k + 1) rs loads) k p (colF (eqG (k + 1) rs loads) (k + 1)) := fun p h1 h2 => hS.core p (k + 1) h1 (by omega) (by omega)
  have hV0 : solV (k + 1) rs loads 0 = 0 := by
    have := hS.top (k + 1)
    rw [if_neg (by omega)] at this
    exact this
  have hrow : ∀ p, 1 ≤ p → p < k + 1 → sumN (k + 1) (fun q => eqG (k + 1) rs loads p q * solV (k + 1) rs loads q) = Pk (eqG (k + 1) rs loads) k * eqG (k + 1) rs loads p (k + 1) := fun p h1 h2 => by
    refine Eq.trans ?_ (sF_in (eqG (k + 1) rs loads) (by omega) h1 (show p ≤ k by omega) (colF (eqG (k + 1) rs loads) (k + 1)))
    unfold sF
    refine sumN_congr fun q hq => ?_
    by_cases h0 : q = 0
    · subst h0; rw [hV0]; simp
    · rw [if_neg h0, hV q (by omega) hq]
  have hboth : ∀ p, p < k + 1 → (Root (k + 1) rs p → solV (k + 1) rs loads p = 0) ∧ (¬ Root (k + 1) rs p → lapl rs (solV (k + 1) rs loads) p = solD (k + 1) rs loads * loads.getD p 0) := fun p hpN => by
    by_cases h0 : p = 0
    · subst h0
      exact ⟨fun _ => hV0, fun h => absurd (root_zero hv hpN) h⟩
    · have e := hrow p (by omega) hpN
      have e2 := eqG_row (loads := loads) hv.ends hpN (solV (k + 1) rs loads)
      rw [e2.1, e2.2] at e
      refine ⟨fun hR => ?_, fun hR => ?_⟩
      · rw [if_pos hR, if_pos hR] at e
        rw [e]; simp
      · rw [if_neg hR, if_neg hR] at e
        rw [e, hD]
  refine ⟨⟨safe_of hv hB, by rw [hD]; omega, fun j => ?_⟩, by rw [hD]; omega, fun p hpN => (hboth p hpN).1, fun p hpN => (hboth p hpN).2⟩
  by_cases hj : j < k + 1
  · rw [solZ_get _ _ _ hj]
    have := st_bn hv hB (k := k) (by omega) hj (Nat.le_refl (k + 1))
    rw [if_neg (by omega)] at this
    exact this.mono (by omega)
  · have : (solN (k + 1) rs loads).getD j 0 = 0 := by simp [solN, List.getD, hj]
    rw [this]; omega

end Go.Proofs.Ytmmgcajegokkoaa
