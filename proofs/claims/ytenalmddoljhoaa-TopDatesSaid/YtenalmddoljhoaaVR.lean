/- What lowering the dates comes to: dates that keep all bounds, or a round below 0. -/
import Derived.Test.YtenalmddoljhoaaVL
set_option linter.unusedVariables false
set_option linter.unusedSimpArgs false
namespace Go.Proofs.Ytenalmddoljhoaa
open Go.Sx Go.RowKit

abbrev eA (rs : List Bd) (j : Nat) : Nat := (rs.getD j default).a.toNat
abbrev eB (rs : List Bd) (j : Nat) : Nat := (rs.getD j default).b.toNat
abbrev eM (rs : List Bd) (j : Nat) : Int := (rs.getD j default).m
/-- What is known in pass i, behind k bounds: lev is the pass that lowered a date last, tau the time. -/
structure Gh (rs : List Bd) (N i k T : Nat) (s : LSt) (lev tau : Nat → Nat) : Prop where
  dl : s.ds.length = N
  bl : s.by_.length = N
  ln : ∀ b, lev b ≤ i
  tn : ∀ b, tau b ≤ T
  tch : ∀ b, 1 ≤ lev b → ∃ j : Nat, j < rs.length ∧ s.by_.getD b 0 = (j : Int) ∧ eB rs j = b ∧ b < N ∧ s.ds.getD (eA rs j) 0 + eM rs j + (if tau b ≤ tau (eA rs j) then 1 else 0) ≤ s.ds.getD b 0 ∧ lev b ≤ lev (eA rs j) + 1
  kp : ∀ j, j < rs.length → s.ds.getD (eB rs j) 0 ≤ s.ds.getD (eA rs j) 0 + eM rs j ∨ (if j < k then i else i - 1) ≤ lev (eA rs j)
  ip : 1 ≤ i
  un : ∀ b, lev b = 0 → s.ds.getD b 0 = 0
  la : (s.last = -1 ∧ ∀ b, lev b < i) ∨ (∃ b : Nat, s.last = (b : Int) ∧ b < N ∧ lev b = i)
theorem getD_set_ne {xs : List Int} {j p : Nat} (v : Int) (h : j ≠ p) : (xs.set j v).getD p 0 = xs.getD p 0 := by
  rw [getD_set, if_neg (fun e => h e.1)]
theorem getD_set_eq {xs : List Int} {j : Nat} (v : Int) (h : j < xs.length) : (xs.set j v).getD j 0 = v := by
  rw [getD_set, if_pos ⟨rfl, h⟩]
theorem lstep_y {rs : List Bd} {s : LSt} {k : Nat} (h : s.ds.getD (eA rs k) 0 + eM rs k < s.ds.getD (eB rs k) 0) : lstep rs s k = ⟨s.ds.set (eB rs k) (s.ds.getD (eA rs k) 0 + eM rs k), s.by_.set (eB rs k) (k : Int), (rs.getD k default).b⟩ := lstep_yes h
theorem Gh.step {rs : List Bd} {N i k T : Nat} {s : LSt} {lev tau : Nat → Nat} (hv : Valid (N : Int) rs) (h : Gh rs N i k T s lev tau) (hk : k < rs.length) : ∃ lev' tau', Gh rs N i (k + 1) (T + 1) (lstep rs s k) lev' tau' := by
  have hat := hv.at hk
  have hdl := h.dl
  have hbl := h.bl
  by_cases hless : s.ds.getD (eA rs k) 0 + eM rs k < s.ds.getD (eB rs k) 0
  · have hB : eB rs k < N := by show (rs.getD k default).b.toNat < N; omega
    have hAB : eA rs k ≠ eB rs k := by show (rs.getD k default).a.toNat ≠ (rs.getD k default).b.toNat; omega
    have hBe : (rs.getD k default).b = ((eB rs k : Nat) : Int) := by show _ = (((rs.getD k default).b.toNat : Nat) : Int); omega
    have hlA : i - 1 ≤ lev (eA rs k) := by
      rcases h.kp k hk with h1 | h1
      · omega
      · rw [if_neg (by omega)] at h1; exact h1
    rw [lstep_y hless]
    refine ⟨fun b => if b = eB rs k then i else lev b, fun b => if b = eB rs k then T + 1 else tau b, by simp only [List.length_set]; exact hdl, by simp only [List.length_set]; exact hbl, ?_, ?_, ?_, ?_, ?_, ?_, ?_⟩
    · intro b
      have := h.ln b
      split <;> omega
    · intro b
      have := h.tn b
      split <;> omega
    · intro b hb
      try simp only at hb ⊢
      by_cases hbB : b = eB rs k
      · subst hbB
        refine ⟨k, hk, getD_set_eq _ (by omega), rfl, hB, ?_, ?_⟩
        · rw [getD_set_eq _ (by omega), getD_set_ne _ (Ne.symm hAB), if_pos rfl, if_neg hAB, if_neg (by have := h.tn (eA rs k); omega)]
          omega
        · rw [if_pos rfl, if_neg hAB]; omega
      · rw [if_neg hbB] at hb
        obtain ⟨j, hj, e1, e2, hbN, h3, h4⟩ := h.tch b hb
        refine ⟨j, hj, by rw [getD_set_ne _ (Ne.symm hbB)]; exact e1, e2, hbN, ?_, ?_⟩
        · rw [getD_set_ne _ (Ne.symm hbB), if_neg hbB]
          by_cases hA : eA rs j = eB rs k
          · rw [if_pos hA, hA, getD_set_eq _ (by omega)]
            rw [hA] at h3
            have : (0 : Int) ≤ (if tau b ≤ tau (eB rs k) then 1 else 0) := by split <;> decide
            have h5 : (if tau b ≤ T + 1 then 1 else 0) ≤ (1 : Int) := by split <;> decide
            omega
          · rw [if_neg hA, getD_set_ne _ (Ne.symm hA)]
            exact h3
        · rw [if_neg hbB]
          split
          · have := h.ln b; omega
          · exact h4
    · intro j hj
      try simp only
      by_cases hA : eA rs j = eB rs k
      · right
        rw [if_pos hA]
        split <;> omega
      · rw [if_neg hA, getD_set_ne _ (Ne.symm hA)]
        by_cases hjk : j = k
        · subst hjk
          left
          rw [getD_set_eq _ (by omega)]
          exact Int.le_refl _
        · rcases h.kp j hj with h1 | h1
          · left
            by_cases hBB : eB rs k = eB rs j
            · rw [hBB, getD_set_eq _ (by omega)]
              rw [hBB] at hless
              omega
            · rw [getD_set_ne _ hBB]; exact h1
          · right
            by_cases hjk2 : j < k
            · rw [if_pos hjk2] at h1; rw [if_pos (by omega)]; exact h1
            · rw [if_neg hjk2] at h1; rw [if_neg (by omega)]; exact h1
    · exact h.ip
    · intro b hb
      have hip := h.ip
      by_cases hbB : b = eB rs k
      · rw [if_pos hbB] at hb; omega
      · rw [if_neg hbB] at hb
        rw [getD_set_ne _ (Ne.symm hbB)]
        exact h.un b hb
    · right
      exact ⟨eB rs k, hBe, hB, by simp⟩
  · rw [lstep_no hless]
    refine ⟨lev, tau, hdl, hbl, h.ln, fun b => Nat.le_succ_of_le (h.tn b), h.tch, fun j hj => ?_, h.ip, h.un, h.la⟩
    by_cases hjk : j = k
    · subst hjk
      left
      omega
    · rcases h.kp j hj with h1 | h1
      · exact .inl h1
      · right
        by_cases hjk2 : j < k
        · rw [if_pos hjk2] at h1; rw [if_pos (by omega)]; exact h1
        · rw [if_neg hjk2] at h1; rw [if_neg (by omega)]; exact h1
theorem Gh.pass {rs : List Bd} {N i T : Nat} {s : LSt} {lev tau : Nat → Nat} (hv : Valid (N : Int) rs) (h : Gh rs N i 0 T ⟨s.ds, s.by_, -1⟩ lev tau) : ∀ k, k ≤ rs.length → ∃ T' lev' tau', Gh rs N i k T' (lpass rs s k) lev' tau'
  | 0, _ => ⟨T, lev, tau, h⟩
  | k + 1, hk => by
    obtain ⟨T', lev', tau', h'⟩ := Gh.pass hv h k (by omega)
    obtain ⟨l2, t2, h2⟩ := h'.step hv (by omega)
    exact ⟨T' + 1, l2, t2, h2⟩
theorem Gh.low {rs : List Bd} {N : Nat} (hv : Valid (N : Int) rs) : ∀ i, ∃ T lev tau, Gh rs N (i + 1) rs.length T (lowN N rs (i + 1)) lev tau
  | 0 => by
    have h0 : Gh rs N 1 0 0 ⟨(lowN N rs 0).ds, (lowN N rs 0).by_, -1⟩ (fun _ => 0) (fun _ => 0) :=
      ⟨List.length_replicate, List.length_replicate, fun _ => Nat.zero_le _, fun _ => Nat.le_refl _, fun b hb => absurd hb (by simp), fun j _ => .inr (by simp), Nat.le_refl _, fun b _ => by show (List.replicate N (0 : Int)).getD b 0 = 0; by_cases hb : b < N <;> simp [List.getD, List.getElem?_replicate, hb], .inl ⟨rfl, fun _ => Nat.one_pos⟩⟩
    exact h0.pass hv rs.length (Nat.le_refl _)
  | i + 1 => by
    obtain ⟨T, lev, tau, h⟩ := Gh.low hv i
    have h0 : Gh rs N (i + 2) 0 T ⟨(lowN N rs (i + 1)).ds, (lowN N rs (i + 1)).by_, -1⟩ lev tau :=
      ⟨h.dl, h.bl, fun b => Nat.le_succ_of_le (h.ln b), h.tn, h.tch, fun j hj => (h.kp j hj).imp_right (fun h1 => by rw [if_pos hj] at h1; rw [if_neg (by omega)]; omega), by omega, h.un, .inl ⟨rfl, fun b => Nat.lt_succ_of_le (h.ln b)⟩⟩
    exact h0.pass hv rs.length (Nat.le_refl _)
/-- Where nothing was lowered the last time, the dates keep all bounds. -/
theorem low_keeps {rs : List Bd} {N : Nat} (hv : Valid (N : Int) rs) (hN : 1 ≤ N) (h : (lowN N rs N).last = -1) : ∀ j, j < rs.length → (lowN N rs N).ds.getD (eB rs j) 0 ≤ (lowN N rs N).ds.getD (eA rs j) 0 + eM rs j := by
  intro j hj
  obtain ⟨i, rfl⟩ : ∃ i, N = i + 1 := ⟨N - 1, by omega⟩
  obtain ⟨T, lev, tau, g⟩ := Gh.low hv i
  have hl : ∀ b, lev b < i + 1 := by
    rcases g.la with h1 | ⟨b, h1, _⟩
    · exact h1.2
    · omega
  rcases g.kp j hj with h1 | h1
  · exact h1
  · rw [if_pos hj] at h1
    have := hl (eA rs j)
    omega
/-- The way back. -/
def bk (s : LSt) (x : Nat) : Nat := (s.by_.getD x 0).toNat
def nxt (rs : List Bd) (s : LSt) (x : Nat) : Nat := eA rs (bk s x)
def itr (rs : List Bd) (s : LSt) (x : Nat) : Nat → Nat
  | 0 => x
  | t + 1 => nxt rs s (itr rs s x t)
def sumR (rs : List Bd) (s : LSt) (x : Nat) : Nat → Int
  | 0 => 0
  | t + 1 => sumR rs s x t + eM rs (bk s (itr rs s x t))
theorem itr_add (rs : List Bd) (s : LSt) (x a : Nat) : ∀ b, itr rs s x (a + b) = itr rs s (itr rs s x a) b
  | 0 => rfl
  | b + 1 => by
    show nxt rs s (itr rs s x (a + b)) = _
    rw [itr_add rs s x a b]
    rfl
theorem Gh.edge {rs : List Bd} {N i k T : Nat} {s : LSt} {lev tau : Nat → Nat} (h : Gh rs N i k T s lev tau) {b : Nat} (hb : 1 ≤ lev b) :
    bk s b < rs.length ∧ eB rs (bk s b) = b ∧ b < N ∧ s.ds.getD (nxt rs s b) 0 + eM rs (bk s b) + (if tau b ≤ tau (nxt rs s b) then 1 else 0) ≤ s.ds.getD b 0 ∧ lev b ≤ lev (nxt rs s b) + 1 := by
  obtain ⟨j, hj, e1, e2, hbN, h3, h4⟩ := h.tch b hb
  have e : bk s b = j := by unfold bk; rw [e1]; rfl
  unfold nxt
  rw [e]
  exact ⟨hj, e2, hbN, h3, h4⟩
theorem Gh.along {rs : List Bd} {N i k T : Nat} {s : LSt} {lev tau : Nat → Nat} (h : Gh rs N i k T s lev tau) (x : Nat) : ∀ t, (∀ q, q ≤ t → 1 ≤ lev (itr rs s x q)) →
    s.ds.getD (itr rs s x (t + 1)) 0 + sumR rs s x (t + 1) + (if tau x ≤ tau (itr rs s x (t + 1)) then 1 else 0) ≤ s.ds.getD x 0
  | 0, hq => by
    have h1 := (h.edge (hq 0 (Nat.le_refl _))).2.2.2.1
    simp only [itr, sumR, Int.zero_add] at h1 ⊢
    exact h1
  | t + 1, hq => by
    have ih := h.along x t (fun q hh => hq q (by omega))
    have h1 := (h.edge (hq (t + 1) (Nat.le_refl _))).2.2.2.1
    have e1 : itr rs s x (t + 1 + 1) = nxt rs s (itr rs s x (t + 1)) := rfl
    have e2 : sumR rs s x (t + 1 + 1) = sumR rs s x (t + 1) + eM rs (bk s (itr rs s x (t + 1))) := rfl
    rw [e1, e2]
    generalize nxt rs s (itr rs s x (t + 1)) = z at h1 ⊢
    generalize itr rs s x (t + 1) = y at h1 ih ⊢
    by_cases c1 : tau x ≤ tau y <;> by_cases c2 : tau y ≤ tau z <;> by_cases c3 : tau x ≤ tau z <;> simp only [c1, c2, c3, if_true, if_false] at h1 ih ⊢ <;> omega
/-- A round of the way back is below 0. -/
theorem Gh.round {rs : List Bd} {N i k T : Nat} {s : LSt} {lev tau : Nat → Nat} (h : Gh rs N i k T s lev tau) (x t : Nat) (ht : 1 ≤ t) (hq : ∀ q, q < t → 1 ≤ lev (itr rs s x q)) (hx : itr rs s x t = x) : sumR rs s x t < 0 := by
  obtain ⟨u, rfl⟩ : ∃ u, t = u + 1 := ⟨t - 1, by omega⟩
  have h1 := h.along x u (fun q hh => hq q (by omega))
  rw [hx, if_pos (Nat.le_refl _)] at h1
  omega
theorem Gh.chain {rs : List Bd} {N i k T : Nat} {s : LSt} {lev tau : Nat → Nat} (h : Gh rs N i k T s lev tau) (x : Nat) : ∀ t, t ≤ lev x → lev x ≤ lev (itr rs s x t) + t
  | 0, _ => Nat.le_refl _
  | t + 1, ht => by
    have ih := h.chain x t (by omega)
    have h1 := (h.edge (b := itr rs s x t) (by omega)).2.2.2.2
    show lev x ≤ lev (nxt rs s (itr rs s x t)) + (t + 1)
    omega
theorem pigeon : ∀ (N : Nat) (f : Nat → Nat), (∀ t, t ≤ N → f t < N) → ∃ i j, i < j ∧ j ≤ N ∧ f i = f j
  | 0, f, h => absurd (h 0 (Nat.le_refl _)) (Nat.not_lt_zero _)
  | N + 1, f, h => by
    by_cases hc : ∃ t, t ≤ N ∧ f t = f (N + 1)
    · obtain ⟨t, ht, e⟩ := hc
      exact ⟨t, N + 1, by omega, Nat.le_refl _, e⟩
    · have hn : ∀ t, t ≤ N → f t ≠ f (N + 1) := fun t ht e => hc ⟨t, ht, e⟩
      have hv := h (N + 1) (Nat.le_refl _)
      obtain ⟨i, j, hij, hj, e⟩ := pigeon N (fun t => if f t = N then f (N + 1) else f t) (fun t ht => by
        have h1 := h t (by omega)
        have h2 := hn t ht
        show (if f t = N then f (N + 1) else f t) < N
        split <;> omega)
      refine ⟨i, j, hij, by omega, ?_⟩
      have h1 := hn i (by omega)
      have h2 := hn j hj
      try simp only at e
      by_cases c1 : f i = N <;> by_cases c2 : f j = N <;> simp only [c1, c2, if_true, if_false] at e <;> omega
theorem least {P : Nat → Prop} : ∀ p, P p → ∃ q, q ≤ p ∧ P q ∧ ∀ t, t < q → ¬ P t := by
  intro p
  induction p using Nat.strongRecOn with
  | _ p ih =>
    intro hp
    by_cases hc : ∃ t, t < p ∧ P t
    · obtain ⟨t, ht, h⟩ := hc
      obtain ⟨q, hq, h1, h2⟩ := ih t ht h
      exact ⟨q, by omega, h1, h2⟩
    · exact ⟨p, Nat.le_refl _, hp, fun t ht h => hc ⟨t, ht, h⟩⟩
/-- A round below 0 of the way back. -/
structure Rnd (rs : List Bd) (N : Nat) (s : LSt) (y q : Nat) : Prop where
  q1 : 1 ≤ q
  qN : q ≤ N
  back : itr rs s y q = y
  first : ∀ t, 1 ≤ t → t < q → itr rs s y t ≠ y
  ok : ∀ t, bk s (itr rs s y t) < rs.length ∧ eB rs (bk s (itr rs s y t)) = itr rs s y t ∧ itr rs s y t < N
  neg : sumR rs s y q < 0
theorem Gh.found {rs : List Bd} {N T : Nat} {s : LSt} {lev tau : Nat → Nat} (hv : Valid (N : Int) rs) (h : Gh rs N N rs.length T s lev tau) (x : Nat) (hx : lev x = N) (hN : 1 ≤ N) :
    (∀ t, bk s (itr rs s x t) < rs.length ∧ eB rs (bk s (itr rs s x t)) = itr rs s x t ∧ itr rs s x t < N) ∧ ∃ q, Rnd rs N s (itr rs s x N) q := by
  have hch := h.chain x
  have ht : ∀ t, t < N → 1 ≤ lev (itr rs s x t) := fun t ht => by have := hch t (by omega); omega
  have hlt : ∀ t, t ≤ N → itr rs s x t < N := by
    intro t htN
    by_cases h0 : t < N
    · exact (h.edge (ht t h0)).2.2.1
    · obtain ⟨u, rfl⟩ : ∃ u, t = u + 1 := ⟨t - 1, by omega⟩
      have h1 := h.edge (ht u (by omega))
      have h2 := hv.at h1.1
      show (rs.getD (bk s (itr rs s x u)) default).a.toNat < N
      omega
  obtain ⟨i, j, hij, hj, e⟩ := pigeon N (fun t => itr rs s x t) hlt
  try simp only at e
  have hper : ∀ m, i ≤ m → itr rs s x (m + (j - i)) = itr rs s x m := by
    intro m hm
    have e1 : m + (j - i) = j + (m - i) := by omega
    have e2 : m = i + (m - i) := by omega
    rw [e1, itr_add, ← e, ← itr_add, ← e2]
  have hall : ∀ m, 1 ≤ lev (itr rs s x m) := by
    intro m
    induction m using Nat.strongRecOn with
    | _ m ih =>
      by_cases hm : m < N
      · exact ht m hm
      · have h1 := hper (m - (j - i)) (by omega)
        rw [show m - (j - i) + (j - i) = m by omega] at h1
        rw [h1]
        exact ih _ (by omega)
  have hok : ∀ t, bk s (itr rs s x t) < rs.length ∧ eB rs (bk s (itr rs s x t)) = itr rs s x t ∧ itr rs s x t < N := fun t => by
    have h1 := h.edge (hall t)
    exact ⟨h1.1, h1.2.1, h1.2.2.1⟩
  refine ⟨hok, ?_⟩
  obtain ⟨q, hq, ⟨hq1, hq2⟩, hmin⟩ := least (P := fun q => 1 ≤ q ∧ itr rs s (itr rs s x N) q = itr rs s x N) (j - i) ⟨by omega, by rw [← itr_add]; exact hper N (by omega)⟩
  refine ⟨q, hq1, by omega, hq2, fun t h1 h2 h3 => hmin t h2 ⟨h1, h3⟩, fun t => by rw [← itr_add]; exact hok _, ?_⟩
  exact h.round _ q hq1 (fun t _ => by rw [← itr_add]; exact hall _) hq2
/-- Where some date was lowered the last time, the way back from it comes to a round below 0. -/
theorem low_round {rs : List Bd} {N : Nat} (hv : Valid (N : Int) rs) (hN : 1 ≤ N) (h : (lowN N rs N).last ≠ -1) :
    ∃ x : Nat, (lowN N rs N).last = (x : Int) ∧ (∀ t, bk (lowN N rs N) (itr rs (lowN N rs N) x t) < rs.length ∧ eB rs (bk (lowN N rs N) (itr rs (lowN N rs N) x t)) = itr rs (lowN N rs N) x t ∧ itr rs (lowN N rs N) x t < N) ∧ ∃ q, Rnd rs N (lowN N rs N) (itr rs (lowN N rs N) x N) q := by
  obtain ⟨i, hi⟩ : ∃ i, N = i + 1 := ⟨N - 1, by omega⟩
  obtain ⟨T, lev, tau, g⟩ := Gh.low hv i
  rw [← hi] at g
  rcases g.la with ⟨h1, _⟩ | ⟨b, h1, h2, h3⟩
  · exact absurd h1 h
  · exact ⟨b, h1, g.found hv b h3 hN⟩
/-- Dates that keep all bounds keep the sum of any way. -/
theorem keep_way {rs : List Bd} {s : LSt} {d : Nat → Int} (hd : ∀ j, j < rs.length → d (eB rs j) ≤ d (eA rs j) + eM rs j) {y : Nat} (hok : ∀ t, bk s (itr rs s y t) < rs.length ∧ eB rs (bk s (itr rs s y t)) = itr rs s y t) : ∀ t, d y ≤ d (itr rs s y t) + sumR rs s y t
  | 0 => by simp [itr, sumR]
  | t + 1 => by
    have ih := keep_way hd hok t
    obtain ⟨h1, h2⟩ := hok t
    have h3 := hd _ h1
    rw [h2] at h3
    show d y ≤ d (eA rs (bk s (itr rs s y t))) + (sumR rs s y t + eM rs (bk s (itr rs s y t)))
    omega
/-- Where some dates keep all bounds, nothing is lowered the last time. -/
theorem keep_low {rs : List Bd} {N : Nat} (hv : Valid (N : Int) rs) (hN : 1 ≤ N) {d : Nat → Int} (hd : ∀ j, j < rs.length → d (eB rs j) ≤ d (eA rs j) + eM rs j) : (lowN N rs N).last = -1 := by
  by_cases h : (lowN N rs N).last = -1
  · exact h
  · obtain ⟨x, _, _, q, r⟩ := low_round hv hN h
    have h1 := keep_way hd (fun t => ⟨(r.ok t).1, (r.ok t).2.1⟩) q
    have h2 := r.neg
    rw [r.back] at h1
    omega
theorem Gh.sum_low {rs : List Bd} {N i k T : Nat} {s : LSt} {lev tau : Nat → Nat} (hv : Valid (N : Int) rs) (h : Gh rs N i k T s lev tau) (x : Nat) : ∀ t, (∀ q, q < t → 1 ≤ lev (itr rs s x q)) → -10000 * (t : Int) ≤ sumR rs s x t
  | 0, _ => by simp [sumR]
  | t + 1, hq => by
    have ih := h.sum_low hv x t (fun q hh => hq q (by omega))
    have h1 := hv.at (h.edge (hq t (Nat.lt_succ_self _))).1
    show _ ≤ sumR rs s x t + (rs.getD (bk s (itr rs s x t)) default).m
    omega
/-- Where nothing was lowered the last time, no date is far from 0. -/
theorem low_range {rs : List Bd} {N : Nat} (hv : Valid (N : Int) rs) (hN : 1 ≤ N) (h : (lowN N rs N).last = -1) (b : Nat) : -80000 ≤ (lowN N rs N).ds.getD b 0 := by
  obtain ⟨i, hi⟩ : ∃ i, N = i + 1 := ⟨N - 1, by omega⟩
  obtain ⟨T, lev, tau, g⟩ := Gh.low hv i
  rw [← hi] at g
  have hk := low_keeps hv hN h
  have hpt := hv.pts
  have hlow : ∀ t, (∀ q, q < t → 1 ≤ lev (itr rs (lowN N rs N) b q)) → lev (itr rs (lowN N rs N) b t) = 0 → t ≤ N → -80000 ≤ (lowN N rs N).ds.getD b 0 := by
    intro t hq h0 htN
    have h1 := g.un _ h0
    have h2 := g.sum_low hv b t hq
    obtain _ | u := t
    · simp only [itr] at h1
      omega
    · have h3 := g.along b u (fun q hh => hq q (by omega))
      rw [h1] at h3
      have h4 : (0 : Int) ≤ (if tau b ≤ tau (itr rs (lowN N rs N) b (u + 1)) then 1 else 0) := by split <;> decide
      omega
  by_cases hall : ∀ t, t ≤ N → 1 ≤ lev (itr rs (lowN N rs N) b t)
  · exfalso
    obtain ⟨p, q, hpq, hqN, e⟩ := pigeon N (fun t => itr rs (lowN N rs N) b t) (fun t ht => (g.edge (hall t ht)).2.2.1)
    try simp only at e
    have e2 : itr rs (lowN N rs N) (itr rs (lowN N rs N) b p) (q - p) = itr rs (lowN N rs N) b p := by
      rw [← itr_add, show p + (q - p) = q by omega, ← e]
    have hr := g.round (itr rs (lowN N rs N) b p) (q - p) (by omega) (fun t ht => by rw [← itr_add]; exact hall _ (by omega)) e2
    have hw : ∀ t, t ≤ q - p → (lowN N rs N).ds.getD (itr rs (lowN N rs N) b p) 0 ≤ (lowN N rs N).ds.getD (itr rs (lowN N rs N) (itr rs (lowN N rs N) b p) t) 0 + sumR rs (lowN N rs N) (itr rs (lowN N rs N) b p) t := by
      intro t
      induction t with
      | zero => intro _; simp [itr, sumR]
      | succ t ih =>
        intro ht
        have h1 := ih (by omega)
        have hl : 1 ≤ lev (itr rs (lowN N rs N) (itr rs (lowN N rs N) b p) t) := by rw [← itr_add]; exact hall _ (by omega)
        have h2 := g.edge hl
        have h3 := hk _ h2.1
        rw [h2.2.1] at h3
        show _ ≤ (lowN N rs N).ds.getD (eA rs (bk (lowN N rs N) (itr rs (lowN N rs N) (itr rs (lowN N rs N) b p) t))) 0 + (sumR rs (lowN N rs N) (itr rs (lowN N rs N) b p) t + eM rs (bk (lowN N rs N) (itr rs (lowN N rs N) (itr rs (lowN N rs N) b p) t)))
        omega
    have h9 := hw (q - p) (Nat.le_refl _)
    rw [e2] at h9
    omega
  · have hex : ∃ t, t ≤ N ∧ lev (itr rs (lowN N rs N) b t) = 0 := by
      apply Classical.byContradiction
      intro hc
      exact hall fun t ht => by
        have : lev (itr rs (lowN N rs N) b t) ≠ 0 := fun e => hc ⟨t, ht, e⟩
        omega
    obtain ⟨t, ht, h0⟩ := hex
    obtain ⟨q, hq, h1, h2⟩ := least (P := fun t => lev (itr rs (lowN N rs N) b t) = 0) t h0
    exact hlow q (fun u hu => by have := h2 u hu; omega) h1 (by omega)
end Go.Proofs.Ytenalmddoljhoaa
