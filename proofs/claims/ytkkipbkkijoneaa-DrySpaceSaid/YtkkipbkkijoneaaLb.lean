/- Elimination without fractions: its numbers are determinants, and how far it comes is the rank. -/
import Derived.Test.YtkkipbkkijoneaaLa
set_option linter.unusedVariables false
set_option linter.unusedSimpArgs false
namespace Go.Proofs.Ytkkipbkkijoneaa
open Go.Sand

theorem sm_front (f : Nat → Int) : ∀ n, sm (n + 1) f = f 0 + sm n (fun i => f (i + 1))
  | 0 => by show (0 : Int) + f 0 = f 0 + 0; omega
  | n + 1 => by
    show sm (n + 1) f + f (n + 1) = f 0 + (sm n (fun i => f (i + 1)) + f (n + 1))
    rw [sm_front f n]; omega
theorem dt_congr2 {x x' : Row} : ∀ (A : List Row) (k : Nat) (x x' : Row) (B : List Row), (∀ q, q < k → x q = x' q) → dt k (A ++ x :: B) = dt k (A ++ x' :: B)
  | [], 0, x, x', B, h => rfl
  | [], k + 1, x, x', B, h => by
    simp only [List.nil_append, dt_cons]
    exact sm_congr fun j hj => by rw [h j hj]
  | r :: A, 0, x, x', B, h => rfl
  | r :: A, k + 1, x, x', B, h => by
    simp only [List.cons_append, dt_cons]
    refine sm_congr fun j hj => ?_
    simp only [List.map_append, List.map_cons]
    rw [dt_congr2 (x := x) (x' := x') (A.map (del j)) k (del j x) (del j x') (B.map (del j)) fun q hq => h _ (by unfold sk; split <;> omega)]
def span (a : Int) (x : Row) (n : Nat) (b : Nat → Int) (y : Nat → Row) : Row := fun q => a * x q + sm n fun t => b t * y t q
theorem dt_span (a : Int) (x : Row) (b : Nat → Int) (y : Nat → Row) (A B : List Row) (k : Nat) (hk : k = A.length + 1 + B.length) : ∀ n,
    dt k (A ++ span a x n b y :: B) = a * dt k (A ++ x :: B) + sm n fun t => b t * dt k (A ++ y t :: B)
  | 0 => by
    have h := dt_lin a 0 A k x x B hk
    rw [show span a x 0 b y = lin a 0 x x from funext fun q => by show a * x q + 0 = a * x q + 0 * x q; omega, h]
    show _ = _ + (0 : Int)
    omega
  | n + 1 => by
    have h := dt_lin 1 (b n) A k (span a x n b y) (y n) B hk
    rw [show span a x (n + 1) b y = lin 1 (b n) (span a x n b y) (y n) from funext fun q => by
      show a * x q + (sm n _ + b n * y n q) = 1 * (a * x q + sm n _) + b n * y n q
      omega, h, dt_span a x b y A B k hk n]
    show _ = _ + (sm n _ + b n * _)
    omega
def sub (M : Nat → Row) (I J : List Nat) : List Row := I.map fun i q => M i (J.getD q 0)
theorem sbm_len (M : Nat → Row) (I J : List Nat) : (sub M I J).length = I.length := List.length_map _
theorem sub_del (M : Nat → Row) (I J : List Nat) (j : Nat) : (sub M I J).map (del j) = sub M I (J.eraseIdx j) := by
  unfold sub
  rw [List.map_map]
  refine List.map_congr_left fun i _ => funext fun q => ?_
  show M i (J.getD (sk j q) 0) = M i ((J.eraseIdx j).getD q 0)
  congr 1
  rw [List.getD_eq_getElem?_getD, List.getD_eq_getElem?_getD, List.getElem?_eraseIdx]
  unfold sk
  split <;> rfl
theorem sub_del0 (M : Nat → Row) (I J : List Nat) (j : Nat) : (sub M I (j :: J)).map (del 0) = sub M I J := sub_del M I (j :: J) 0
/-- Two columns changed. -/
def swc (c : Nat) (r : Row) : Row := fun q => r (if q = c then c + 1 else if q = c + 1 then c else q)
theorem sm_swap2 {t t' : Nat → Int} {c : Nat} (h1 : t' c = - t (c + 1)) (h2 : t' (c + 1) = - t c) : ∀ n, c + 1 < n → (∀ j, j < n → j ≠ c → j ≠ c + 1 → t' j = - t j) → sm n t' = - sm n t
  | n + 1, hn, h => by
    by_cases e : c + 1 = n
    · subst e
      show sm c t' + t' c + t' (c + 1) = - (sm c t + t c + t (c + 1))
      rw [sm_congr (f := t') (h := fun j => - t j) fun j hj => h j (by omega) (by omega) (by omega), sm_neg, h1, h2]
      omega
    · show sm n t' + t' n = - (sm n t + t n)
      rw [sm_swap2 h1 h2 n (by omega) fun j hj => h j (by omega), h n (by omega) (by omega) (by omega)]
      omega
theorem dt_col : ∀ (k : Nat) (l : List Row) (c : Nat), l.length = k → c + 1 < k → dt k (l.map (swc c)) = - dt k l
  | k + 1, [], c, hl, hc => by simp at hl
  | k + 1, r :: rs, c, hl, hc => by
    have hl : rs.length = k := by simpa using hl
    rw [List.map_cons, dt_cons, dt_cons]
    refine sm_swap2 (c := c) ?_ ?_ (k + 1) hc fun j hj h1 h2 => ?_
    · have e : (rs.map (swc c)).map (del c) = rs.map (del (c + 1)) := by
        rw [List.map_map]
        refine List.map_congr_left fun x _ => funext fun q => ?_
        show x _ = x _
        congr 1
        unfold sk
        repeat' split
        all_goals omega
      rw [e, sg_succ]
      show sg c * r (if c = c then c + 1 else _) * _ = _
      rw [if_pos rfl]; grind
    · have e : (rs.map (swc c)).map (del (c + 1)) = rs.map (del c) := by
        rw [List.map_map]
        refine List.map_congr_left fun x _ => funext fun q => ?_
        show x _ = x _
        congr 1
        unfold sk
        repeat' split
        all_goals omega
      rw [e, sg_succ]
      show - sg c * r (if c + 1 = c then c + 1 else if c + 1 = c + 1 then c else _) * _ = _
      rw [if_neg (by omega), if_pos rfl]; grind
    · have e : ∃ c', c' + 1 < k ∧ (rs.map (swc c)).map (del j) = (rs.map (del j)).map (swc c') := by
        by_cases hj2 : j < c
        · refine ⟨c - 1, by omega, ?_⟩
          rw [List.map_map, List.map_map]
          refine List.map_congr_left fun x _ => funext fun q => ?_
          show x _ = x _
          congr 1
          unfold sk
          repeat' split
          all_goals omega
        · refine ⟨c, by omega, ?_⟩
          rw [List.map_map, List.map_map]
          refine List.map_congr_left fun x _ => funext fun q => ?_
          show x _ = x _
          congr 1
          unfold sk
          repeat' split
          all_goals omega
      obtain ⟨c', hc', e⟩ := e
      rw [e, dt_col k _ c' (by simpa using hl) hc']
      show sg j * r (if j = c then c + 1 else if j = c + 1 then c else j) * _ = _
      rw [if_neg h1, if_neg h2]; grind
theorem sub_swap (M : Nat → Row) (I J1 J2 : List Nat) (a b : Nat) : sub M I (J1 ++ a :: b :: J2) = (sub M I (J1 ++ b :: a :: J2)).map (swc J1.length) := by
  unfold sub
  rw [List.map_map]
  refine List.map_congr_left fun i _ => funext fun q => ?_
  show M i _ = M i _
  congr 1
  simp only [List.getD_eq_getElem?_getD]
  by_cases h1 : q = J1.length
  · subst h1
    rw [if_pos rfl, List.getElem?_append_right (Nat.le_refl _), List.getElem?_append_right (by omega)]
    simp
  · by_cases h2 : q = J1.length + 1
    · subst h2
      rw [if_neg h1, if_pos rfl, List.getElem?_append_right (by omega), List.getElem?_append_right (Nat.le_refl _)]
      simp
    · rw [if_neg h1, if_neg h2]
      by_cases h3 : q < J1.length
      · rw [List.getElem?_append_left h3, List.getElem?_append_left h3]
      · obtain ⟨d, rfl⟩ : ∃ d, q = J1.length + (d + 2) := ⟨q - J1.length - 2, by omega⟩
        rw [List.getElem?_append_right (by omega), List.getElem?_append_right (by omega), Nat.add_sub_cancel_left]
        rfl
theorem dt_cperm {M : Nat → Row} {I J J' : List Nat} (hp : List.Perm J J') : ∀ (J1 : List Nat) (k : Nat), k = I.length → k = J1.length + J.length → (dt k (sub M I (J1 ++ J)) = 0 ↔ dt k (sub M I (J1 ++ J')) = 0) := by
  induction hp with
  | nil => intro J1 k _ _; exact Iff.rfl
  | cons x hp ih =>
    intro J1 k h0 h
    have := ih (J1 ++ [x]) k h0 (by simp at h ⊢; omega)
    simpa using this
  | swap x y l =>
    intro J1 k h0 h
    rw [sub_swap, dt_col k _ _ (by rw [sbm_len]; exact h0.symm) (by simp at h; omega)]
    omega
  | trans h1 h2 ih1 ih2 =>
    intro J1 k h0 h
    rw [ih1 J1 k h0 h, ih2 J1 k h0 (by rw [← h1.length_eq]; exact h)]
theorem dt_perms {M : Nat → Row} {I I' J J' : List Nat} (hI : List.Perm I I') (hJ : List.Perm J J') {k : Nat} (h1 : k = I.length) (h2 : k = J.length) : dt k (sub M I J) = 0 ↔ dt k (sub M I' J') = 0 := by
  have a := dt_cperm (M := M) (I := I) hJ [] k h1 (by simpa using h2)
  have b := dt_perm (hI.map fun i q => M i (J'.getD q 0)) [] k (by simpa using h1)
  simp only [List.nil_append] at a b
  exact a.trans b
def Ab (M : Nat → Row) (R C : List Nat) (i j : Nat) : Int := dt (R.length + 1) (sub M (i :: R) (j :: C))
def Dn (M : Nat → Row) (R C : List Nat) : Int := dt R.length (sub M R C)
def cmb (M : Nat → Row) (R : List Nat) (b : Nat → Int) (j : Nat) : Int := sm R.length fun t => b t * M (R.getD t 0) j
/-- How far the elimination has come: the rows and columns of the pivots, the rows that remain, and the next column. -/
structure El (M : Nat → Row) (R C rem : List Nat) (c : Nat) : Prop where
  len : C.length = R.length
  d : Dn M R C ≠ 0
  z : ∀ i ∈ rem, ∀ j, j < c → Ab M R C i j = 0
  rel : ∀ i ∈ rem, ∃ e : Int, e ≠ 0 ∧ ∃ b : Nat → Int, ∀ j, e * Ab M R C i j = e * Dn M R C * M i j + cmb M R b j
  cl : ∀ x ∈ C, x < c
  cd : C.Pairwise (· > ·)
theorem El.zero (M : Nat → Row) (rem : List Nat) : El M [] [] rem 0 where
  len := rfl
  d := by show (1 : Int) ≠ 0; decide
  z := fun i _ j hj => by omega
  rel := fun i _ => ⟨1, by decide, fun _ => 0, fun j => by
    show 1 * ((0 : Int) + sg 0 * M i j * 1) = 1 * 1 * M i j + 0
    rw [sg_zero]; omega⟩
  cl := fun x hx => by cases hx
  cd := List.Pairwise.nil
theorem Ab_nil (M : Nat → Row) (i j : Nat) : Ab M [] [] i j = M i j := by
  show (0 : Int) + sg 0 * M i j * 1 = M i j
  rw [sg_zero]; omega
theorem El.skip {M : Nat → Row} {R C rem : List Nat} {c : Nat} (h : El M R C rem c) (h0 : ∀ i ∈ rem, Ab M R C i c = 0) : El M R C rem (c + 1) :=
  ⟨h.len, h.d, fun i hi j hj => by
    by_cases e : j = c
    · subst e; exact h0 i hi
    · exact h.z i hi j (by omega), h.rel, fun x hx => by have := h.cl x hx; omega, h.cd⟩
def bt (g : Int) (b : Nat → Int) (t : Nat) : Int := if t = 0 then g else b (t - 1)
theorem cmb_cons (M : Nat → Row) (p : Nat) (R : List Nat) (g : Int) (b : Nat → Int) (j : Nat) : cmb M (p :: R) (bt g b) j = g * M p j + cmb M R b j := by
  unfold cmb
  rw [List.length_cons, sm_front]
  rfl
/-- The row that the next step makes, before the division. -/
def uR (M : Nat → Row) (R C : List Nat) (p c i j : Nat) : Int := Ab M R C p c * Ab M R C i j - Ab M R C i c * Ab M R C p j
theorem El.u {M : Nat → Row} {R C rem : List Nat} {c : Nat} (h : El M R C rem c) {p i : Nat} (hp : p ∈ rem) (hi : i ∈ rem) :
    ∃ e : Int, e ≠ 0 ∧ ∃ b : Nat → Int, ∀ j, e * uR M R C p c i j = e * Dn M R C * Ab M R C p c * M i j + cmb M (p :: R) b j := by
  obtain ⟨ei, hei, bi, h1⟩ := h.rel i hi
  obtain ⟨ep, hep, bp, h2⟩ := h.rel p hp
  refine ⟨ei * ep, Int.mul_ne_zero hei hep, bt (- (Ab M R C i c * (ei * ep) * Dn M R C)) (fun t => Ab M R C p c * ep * bi t + (- (Ab M R C i c * ei)) * bp t), fun j => ?_⟩
  have h3 := h1 j
  have h4 := h2 j
  have h5 : cmb M R (fun t => Ab M R C p c * ep * bi t + (- (Ab M R C i c * ei)) * bp t) j = Ab M R C p c * ep * cmb M R bi j + (- (Ab M R C i c * ei)) * cmb M R bp j := by
    unfold cmb
    rw [← sm_mul, ← sm_mul, ← sm_add]
    exact sm_congr fun t _ => by grind
  rw [cmb_cons, h5]
  unfold uR
  grind
theorem El.zC {M : Nat → Row} {R C rem : List Nat} {c : Nat} (h : El M R C rem c) {i : Nat} (hi : i ∈ rem) {t : Nat} (ht : t < C.length) : Ab M R C i (C.getD t 0) = 0 :=
  h.z i hi _ (h.cl _ (by simp [List.getD, ht]))
theorem El.ex {M : Nat → Row} {R C rem : List Nat} {c : Nat} (h : El M R C rem c) {p i : Nat} (hp : p ∈ rem) (hi : i ∈ rem) (hpc : Ab M R C p c ≠ 0) (j : Nat) :
    Dn M R C * Ab M (p :: R) (c :: C) i j = uR M R C p c i j := by
  obtain ⟨e, he, b, hu⟩ := h.u hp hi
  have hlen := h.len
  have hkk : (p :: R).length + 1 = ([] : List Row).length + 1 + (sub M (p :: R) (j :: c :: C)).length := by rw [sbm_len]; simp; omega
  have h1 := dt_span (e * Dn M R C * Ab M R C p c) (fun q => M i ((j :: c :: C).getD q 0)) b (fun t q => M ((p :: R).getD t 0) ((j :: c :: C).getD q 0)) [] (sub M (p :: R) (j :: c :: C)) ((p :: R).length + 1) hkk (p :: R).length
  simp only [List.nil_append] at h1
  have h2 : sm (p :: R).length (fun t => b t * dt ((p :: R).length + 1) ((fun q => M ((p :: R).getD t 0) ((j :: c :: C).getD q 0)) :: sub M (p :: R) (j :: c :: C))) = 0 := by
    rw [sm_congr (h := fun _ => 0) fun t ht => ?_, sm_zero]
    have hm : (fun q => M ((p :: R).getD t 0) ((j :: c :: C).getD q 0)) ∈ sub M (p :: R) (j :: c :: C) := List.mem_map.2 ⟨(p :: R).getD t 0, by simp only [List.getD_eq_getElem?_getD, List.getElem?_eq_getElem ht, Option.getD_some]; exact List.getElem_mem ht, rfl⟩
    rw [dt_mem hm (by rw [sbm_len])]
    simp
  rw [h2, Int.add_zero] at h1
  have h3 : span (e * Dn M R C * Ab M R C p c) (fun q => M i ((j :: c :: C).getD q 0)) (p :: R).length b (fun t q => M ((p :: R).getD t 0) ((j :: c :: C).getD q 0)) = fun q => e * uR M R C p c i ((j :: c :: C).getD q 0) := funext fun q => (hu _).symm
  have h4 := dt_one (k := (p :: R).length) (r := fun q => e * uR M R C p c i ((j :: c :: C).getD q 0)) (rs := sub M (p :: R) (j :: c :: C)) (fun q h0 hq => by
    obtain ⟨q, rfl⟩ : ∃ m, q = m + 1 := ⟨q - 1, by omega⟩
    rw [List.getD_cons_succ]
    have : uR M R C p c i ((c :: C).getD q 0) = 0 := by
      cases q with
      | zero => show Ab M R C p c * Ab M R C i c - Ab M R C i c * Ab M R C p c = 0; grind
      | succ q =>
        rw [List.getD_cons_succ]
        have hq2 : q < C.length := by rw [List.length_cons] at hq; omega
        unfold uR
        rw [h.zC hi hq2, h.zC hp hq2]
        simp
    rw [this]; simp)
  rw [h3, h4, sub_del0] at h1
  have h5 : e * uR M R C p c i j * Ab M R C p c = e * Dn M R C * Ab M R C p c * Ab M (p :: R) (c :: C) i j := h1
  have h6 : (e * Ab M R C p c) * (Dn M R C * Ab M (p :: R) (c :: C) i j) = (e * Ab M R C p c) * uR M R C p c i j := by grind
  exact Int.eq_of_mul_eq_mul_left (Int.mul_ne_zero he hpc) h6
theorem El.step {M : Nat → Row} {R C rem rem' : List Nat} {c : Nat} (h : El M R C rem c) {p : Nat} (hp : p ∈ rem) (hpc : Ab M R C p c ≠ 0) (hr : ∀ i ∈ rem', i ∈ rem) : El M (p :: R) (c :: C) rem' (c + 1) where
  len := by simp [h.len]
  d := hpc
  z := fun i hi j hj => by
    have h1 := h.ex hp (hr i hi) hpc j
    have h2 : uR M R C p c i j = 0 := by
      unfold uR
      by_cases e : j = c
      · subst e; grind
      · rw [h.z i (hr i hi) j (by omega), h.z p hp j (by omega)]; simp
    rw [h2] at h1
    exact (Int.mul_eq_zero.1 h1).resolve_left h.d
  rel := fun i hi => by
    obtain ⟨e, he, b, hu⟩ := h.u hp (hr i hi)
    refine ⟨e * Dn M R C, Int.mul_ne_zero he h.d, b, fun j => ?_⟩
    have h1 := h.ex hp (hr i hi) hpc j
    have h2 := hu j
    show _ = e * Dn M R C * Ab M R C p c * M i j + _
    rw [← h2, ← h1]; grind
  cl := fun x hx => by
    rcases List.mem_cons.1 hx with rfl | hx
    · omega
    · have := h.cl x hx; omega
  cd := List.Pairwise.cons (fun x hx => h.cl x hx) h.cd
/-- The rank: there is a part of so many rows and columns with a determinant, and none of one more. -/
structure IsRk (M : Nat → Row) (S n r : Nat) : Prop where
  yes : ∃ I J : List Nat, I.length = r ∧ J.length = r ∧ I.Nodup ∧ J.Nodup ∧ (∀ x ∈ I, x < S) ∧ (∀ x ∈ J, x < n) ∧ dt r (sub M I J) ≠ 0
  no : ∀ I J : List Nat, I.length = r + 1 → J.length = r + 1 → (∀ x ∈ I, x < S) → (∀ x ∈ J, x < n) → dt (r + 1) (sub M I J) = 0
theorem zero_up {M : Nat → Row} {S n k : Nat} (h : ∀ I J : List Nat, I.length = k → J.length = k → (∀ x ∈ I, x < S) → (∀ x ∈ J, x < n) → dt k (sub M I J) = 0) :
    ∀ I J : List Nat, I.length = k + 1 → J.length = k + 1 → (∀ x ∈ I, x < S) → (∀ x ∈ J, x < n) → dt (k + 1) (sub M I J) = 0
  | [], J, hI, _, _, _ => by simp at hI
  | i :: I, J, hI, hJ, hi, hj => by
    show dt (k + 1) ((fun q => M i (J.getD q 0)) :: sub M I J) = 0
    rw [dt_cons, sm_congr (h := fun _ => 0) fun j hjk => ?_, sm_zero]
    rw [sub_del, h I (J.eraseIdx j) (by simpa using hI) (by rw [List.length_eraseIdx, if_pos (by omega)]; omega) (fun x hx => hi x (List.mem_cons_of_mem _ hx)) (fun x hx => hj x (List.mem_of_mem_eraseIdx hx))]
    simp
theorem IsRk.up {M : Nat → Row} {S n r : Nat} (h : IsRk M S n r) : ∀ d : Nat, ∀ I J : List Nat, I.length = r + 1 + d → J.length = r + 1 + d → (∀ x ∈ I, x < S) → (∀ x ∈ J, x < n) → dt (r + 1 + d) (sub M I J) = 0
  | 0 => h.no
  | d + 1 => zero_up (h.up d)
theorem dt_neg : ∀ (k : Nat) (l : List Row), dt k (l.map fun r q => - r q) = sg k * dt k l
  | 0, l => by show (1 : Int) = 1 * 1; decide
  | k + 1, [] => by show (0 : Int) = _ * 0; simp
  | k + 1, r :: rs => by
    rw [List.map_cons, dt_cons, dt_cons, ← sm_mul]
    refine sm_congr fun j _ => ?_
    have e : (rs.map fun r q => - r q).map (del j) = (rs.map (del j)).map fun r q => - r q := by rw [List.map_map, List.map_map]; rfl
    rw [e, dt_neg k, sg_succ]
    grind
theorem sg_ne (k : Nat) : sg k ≠ 0 := by unfold sg; split <;> decide
theorem dt_neg_sub {M M' : Nat → Row} (hM : ∀ i j, M' i j = - M i j) (k : Nat) (I J : List Nat) : dt k (sub M' I J) = 0 ↔ dt k (sub M I J) = 0 := by
  have e : sub M' I J = (sub M I J).map fun r q => - r q := by
    unfold sub
    rw [List.map_map]
    exact List.map_congr_left fun i _ => funext fun q => hM i _
  rw [e, dt_neg]
  constructor
  · intro h; exact (Int.mul_eq_zero.1 h).resolve_left (sg_ne k)
  · intro h; rw [h, Int.mul_zero]
theorem IsRk.uniq {M M' : Nat → Row} {S n r r' : Nat} (h : IsRk M S n r) (h' : IsRk M' S n r') (he : ∀ k I J, dt k (sub M' I J) = 0 ↔ dt k (sub M I J) = 0) : r = r' := by
  obtain ⟨I, J, a1, a2, _, _, a3, a4, a5⟩ := h.yes
  obtain ⟨I', J', b1, b2, _, _, b3, b4, b5⟩ := h'.yes
  rcases Nat.lt_trichotomy r r' with hl | hl | hl
  · obtain ⟨d, rfl⟩ : ∃ d, r' = r + 1 + d := ⟨r' - r - 1, by omega⟩
    exact absurd ((he _ _ _).2 (h.up d I' J' b1 b2 b3 b4)) b5
  · exact hl
  · obtain ⟨d, rfl⟩ : ∃ d, r = r' + 1 + d := ⟨r - r' - 1, by omega⟩
    exact absurd ((he _ _ _).1 (h'.up d I J a1 a2 a3 a4)) a5
theorem not_nodup {l : List Nat} : ¬ l.Nodup → ∃ a x b c, l = a ++ x :: (b ++ x :: c) := by
  induction l with
  | nil => intro h; exact absurd List.nodup_nil h
  | cons x l ih =>
    intro h
    by_cases hx : x ∈ l
    · obtain ⟨b, c, rfl⟩ := List.append_of_mem hx
      exact ⟨[], x, b, c, rfl⟩
    · obtain ⟨a, y, b, c, rfl⟩ := ih fun h2 => h (List.nodup_cons.2 ⟨hx, h2⟩)
      exact ⟨x :: a, y, b, c, rfl⟩
theorem El.dep {M : Nat → Row} {S n : Nat} {R C rem : List Nat} (h : El M R C rem n) (hS : ∀ i, i < S → i ∈ R ∨ i ∈ rem) (J : List Nat) (hJ : J.length = R.length + 1) (hJn : ∀ x ∈ J, x < n) :
    ∀ (l1 l2 : List Nat), (∀ x ∈ l1, x < S) → (∀ x ∈ l2, x ∈ R) → l2.length + l1.length = R.length + 1 → dt (R.length + 1) (sub M (l2 ++ l1) J) = 0
  | [], l2, _, h2, hl => by
    rw [List.append_nil]
    have hn : ¬ l2.Nodup := fun hn => by
      have := hn.length_le_of_subset (fun x hx => h2 x hx)
      simp at hl
      omega
    obtain ⟨a, x, b, c, rfl⟩ := not_nodup hn
    unfold sub
    simp only [List.map_append, List.map_cons]
    exact dt_rep _ _ _ _ _ (by simp at hl ⊢; omega)
  | i :: l1, l2, h1, h2, hl => by
    by_cases hR : i ∈ R
    · have := El.dep h hS J hJ hJn l1 (l2 ++ [i]) (fun x hx => h1 x (List.mem_cons_of_mem _ hx)) (fun x hx => by
        rcases List.mem_append.1 hx with hx | hx
        · exact h2 x hx
        · rw [List.mem_singleton.1 hx]; exact hR) (by simp at hl ⊢; omega)
      simpa using this
    · have hi := (hS i (h1 i List.mem_cons_self)).resolve_left hR
      obtain ⟨e, he, b, hu⟩ := h.rel i hi
      have hk : R.length + 1 = (sub M l2 J).length + 1 + (sub M l1 J).length := by rw [sbm_len, sbm_len]; simp at hl; omega
      have hs := dt_span (e * Dn M R C) (fun q => M i (J.getD q 0)) b (fun t q => M (R.getD t 0) (J.getD q 0)) (sub M l2 J) (sub M l1 J) (R.length + 1) hk R.length
      have hz : dt (R.length + 1) (sub M l2 J ++ span (e * Dn M R C) (fun q => M i (J.getD q 0)) R.length b (fun t q => M (R.getD t 0) (J.getD q 0)) :: sub M l1 J) = 0 := by
        have hl0 := dt_lin 0 0 (sub M l2 J) (R.length + 1) (fun _ => 0) (fun _ => 0) (sub M l1 J) hk
        rw [dt_congr2 (x := fun _ => 0) (x' := fun _ => 0) (sub M l2 J) (R.length + 1) _ (lin 0 0 (fun _ => 0) (fun _ => 0)) (sub M l1 J) fun q hq => ?_, hl0]
        · simp
        · have hq2 : J.getD q 0 < n := hJn _ (by simp [List.getD, show q < J.length by omega])
          have h9 := hu (J.getD q 0)
          rw [h.z i hi _ hq2] at h9
          show e * Dn M R C * M i (J.getD q 0) + cmb M R b (J.getD q 0) = 0 * 0 + 0 * 0
          omega
      rw [hz] at hs
      have h0 : sm R.length (fun t => b t * dt (R.length + 1) (sub M l2 J ++ (fun q => M (R.getD t 0) (J.getD q 0)) :: sub M l1 J)) = 0 := by
        rw [sm_congr (h := fun _ => 0) fun t ht => ?_, sm_zero]
        have := El.dep h hS J hJ hJn l1 (l2 ++ [R.getD t 0]) (fun x hx => h1 x (List.mem_cons_of_mem _ hx)) (fun x hx => by
          rcases List.mem_append.1 hx with hx | hx
          · exact h2 x hx
          · rw [List.mem_singleton.1 hx]; simp [List.getD, ht]) (by simp at hl ⊢; omega)
        unfold sub at this ⊢
        simp only [List.map_append, List.map_cons, List.map_nil, List.append_assoc, List.singleton_append] at this
        rw [this]; simp
      rw [h0, Int.add_zero] at hs
      have h5 := (Int.mul_eq_zero.1 hs.symm).resolve_left (Int.mul_ne_zero he h.d)
      unfold sub at h5 ⊢
      simpa using h5
theorem El.rank {M : Nat → Row} {S n : Nat} {R C rem : List Nat} (h : El M R C rem n) (hp : List.Perm (R ++ rem) (List.range S)) : IsRk M S n R.length where
  yes := ⟨R, C, rfl, h.len, ((List.nodup_append.1 (hp.nodup_iff.2 List.nodup_range)).1), h.cd.imp fun h => by omega, fun x hx => List.mem_range.1 (hp.subset (List.mem_append_left _ hx)), h.cl, h.d⟩
  no := fun I J hI hJ hi hj => by
    have := h.dep (S := S) (fun i hi => List.mem_append.1 (hp.symm.subset (List.mem_range.2 hi))) J hJ hj I [] hi (fun x hx => by cases hx) (by simpa using hI)
    simpa using this
end Go.Proofs.Ytkkipbkkijoneaa
