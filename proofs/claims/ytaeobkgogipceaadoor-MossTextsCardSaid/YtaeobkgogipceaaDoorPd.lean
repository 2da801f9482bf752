/- Mathematics of moss, fourth part: turning and mirroring, the mask of neighbors, counting bits by masks. -/
import Derived.Test.YtaeobkgogipceaaDoorPc
set_option linter.unusedVariables false
set_option linter.unusedSimpArgs false
namespace Go.Mo
/-! ## Turning -/
theorem nodup_map {α β : Type} {f : α → β} : ∀ {l : List α}, l.Nodup → (∀ a, a ∈ l → ∀ b, b ∈ l → f a = f b → a = b) → (l.map f).Nodup
  | [], _, _ => List.nodup_nil
  | a :: l, h, hf => by
    rw [List.nodup_cons] at h
    rw [List.map_cons, List.nodup_cons]
    refine ⟨fun hm => ?_, nodup_map h.2 fun x hx y hy => hf x (List.mem_cons_of_mem _ hx) y (List.mem_cons_of_mem _ hy)⟩
    obtain ⟨b, hb, he⟩ := List.mem_map.1 hm
    have := hf b (List.mem_cons_of_mem _ hb) a List.mem_cons_self he
    rw [this] at hb; exact h.1 hb
theorem cnt_inj {n n' : Nat} {f g : Nat → Bool} (σ : Nat → Nat) (h : ∀ i, i < n → f i = true → σ i < n' ∧ g (σ i) = true) (hi : ∀ i j, i < n → j < n → σ i = σ j → i = j) : cnt n f ≤ cnt n' g := by
  rw [← cnt_filter, ← cnt_filter, ← List.length_map (f := σ)]
  refine List.Nodup.length_le_of_subset (nodup_map ((List.nodup_range).sublist List.filter_sublist) fun a ha b hb e => ?_) fun x hx => ?_
  · exact hi a b (List.mem_range.1 (List.mem_filter.1 ha).1) (List.mem_range.1 (List.mem_filter.1 hb).1) e
  · obtain ⟨a, ha, rfl⟩ := List.mem_map.1 hx
    have h1 := List.mem_filter.1 ha
    have h2 := h a (List.mem_range.1 h1.1) h1.2
    exact List.mem_filter.2 ⟨List.mem_range.2 h2.1, h2.2⟩
def img (τ : Nat → Nat) (S : Nat) : Nat → Nat
  | 0 => 0
  | k + 1 => if S.testBit k = true then img τ S k ||| 2 ^ τ k else img τ S k
theorem img_t (τ : Nat → Nat) (S : Nat) (j : Nat) : ∀ k, (img τ S k).testBit j = true ↔ ∃ s, s < k ∧ S.testBit s = true ∧ τ s = j
  | 0 => by simp [img]
  | k + 1 => by
    have ih := img_t τ S j k
    unfold img
    by_cases h : S.testBit k = true
    · rw [if_pos h, Nat.testBit_or, one_t, Bool.or_eq_true, ih, decide_eq_true_iff]
      constructor
      · rintro (⟨s, h1, h2⟩ | h1)
        · exact ⟨s, by omega, h2⟩
        · exact ⟨k, Nat.lt_succ_self _, h, h1.symm⟩
      · rintro ⟨s, h1, h2, h3⟩
        by_cases e : s = k
        · subst e; exact .inr h3.symm
        · exact .inl ⟨s, by omega, h2, h3⟩
    · rw [if_neg h, ih]
      constructor
      · rintro ⟨s, h1, h2⟩; exact ⟨s, by omega, h2⟩
      · rintro ⟨s, h1, h2, h3⟩
        by_cases e : s = k
        · subst e; exact absurd h2 h
        · exact ⟨s, by omega, h2, h3⟩
/-- A renumbering of the squares of a meadow that keeps neighbors. -/
structure Ren (m m' : Md) (τ σ : Nat → Nat) : Prop where
  N : m'.N = m.N
  K : m'.K = m.K
  lt : ∀ s, s < m.N → τ s < m.N
  ltb : ∀ s, s < m.N → σ s < m.N
  back : ∀ s, s < m.N → σ (τ s) = s
  forth : ∀ s, s < m.N → τ (σ s) = s
  adj : ∀ s t, s < m.N → t < m.N → Mo.adj m'.C (τ s) (τ t) = Mo.adj m.C s t
def im (m : Md) (τ : Nat → Nat) (S : Nat) : Nat := img τ S m.N
section
variable {m m' : Md} {τ σ : Nat → Nat}
theorem Ren.inj (h : Ren m m' τ σ) {s t : Nat} (hs : s < m.N) (ht : t < m.N) (e : τ s = τ t) : s = t := by
  rw [← h.back s hs, e, h.back t ht]
theorem Ren.im_t (h : Ren m m' τ σ) (S : Nat) {s : Nat} (hs : s < m.N) : (im m τ S).testBit (τ s) = S.testBit s := by
  cases hb : S.testBit s
  · cases he : (im m τ S).testBit (τ s)
    · rfl
    · obtain ⟨t, h1, h2, h3⟩ := (img_t τ S (τ s) m.N).1 he
      rw [h.inj h1 hs h3, hb] at h2; cases h2
  · exact (img_t τ S (τ s) m.N).2 ⟨s, hs, hb, rfl⟩
theorem Ren.im_lt (h : Ren m m' τ σ) (S : Nat) : im m τ S < 2 ^ m.N := Nat.lt_pow_two_of_testBit _ fun i hi => by
  cases he : (im m τ S).testBit i
  · rfl
  · obtain ⟨t, h1, h2, h3⟩ := (img_t τ S i m.N).1 he
    have := h.lt t h1
    omega
theorem Ren.ar (h : Ren m m' τ σ) (S : Nat) {s : Nat} (hs : s < m.N) : Mo.ar m' (im m τ S) (τ s) = Mo.ar m S s := by
  unfold Mo.ar
  rw [h.N]
  refine Nat.le_antisymm (cnt_inj σ (fun i hi hf => ?_) fun i j hi hj e => ?_) (cnt_inj τ (fun i hi hf => ?_) fun i j hi hj e => h.inj hi hj e)
  · refine ⟨h.ltb i hi, ?_⟩
    rw [← h.adj s (σ i) hs (h.ltb i hi), h.forth i hi]
    have h1 := h.im_t S (h.ltb i hi)
    rw [h.forth i hi] at h1
    rw [← h1]; exact hf
  · rw [← h.forth i hi, e, h.forth j hj]
  · exact ⟨h.lt i hi, by rw [h.adj s i hs hi, h.im_t S hi]; exact hf⟩
/-- They go along with a step. -/
theorem Ren.stp (h : Ren m m' τ σ) {S : Nat} (hS : S < 2 ^ m.N) : Mo.stp m' (im m τ S) = im m τ (Mo.stp m S) := by
  have h1 : Mo.stp m' (im m τ S) < 2 ^ m.N := Nat.or_lt_two_pow (h.im_lt S) (by rw [← h.N]; exact rdy_lt _ _)
  refine bext h1 (h.im_lt _) fun j hj => ?_
  obtain ⟨s, hs, rfl⟩ : ∃ s, s < m.N ∧ τ s = j := ⟨σ j, h.ltb j hj, h.forth j hj⟩
  rw [h.im_t _ hs]
  unfold Mo.stp
  rw [Nat.testBit_or, Nat.testBit_or, rdy_t, rdy_t, h.im_t S hs, h.N, decide_eq_true hj, decide_eq_true hs]
  unfold rdB
  rw [h.im_t S hs, h.ar S hs, h.K]
end
def tu (m : Md) (s : Nat) : Nat := (s % m.C) * m.R + (m.R - 1 - s / m.C)
def tb (m : Md) (s : Nat) : Nat := (m.R - 1 - s % m.R) * m.C + s / m.R
def mi (m : Md) (s : Nat) : Nat := (s / m.C) * m.C + (m.C - 1 - s % m.C)
def turnTab : Bool := (List.range 6).all fun r => (List.range 6).all fun c =>
  let m : Md := ⟨r + 1, c + 1, 1⟩
  let N := (r + 1) * (c + 1)
  (List.range N).all fun s => decide (tu m s < N) && decide (tb m s < N) && decide (mi m s < N) && decide (tb m (tu m s) = s) && decide (tu m (tb m s) = s) && decide (mi m (mi m s) = s) &&
    (List.range N).all fun t => (adj (r + 1) (tu m s) (tu m t) == adj (c + 1) s t) && (adj (c + 1) (mi m s) (mi m t) == adj (c + 1) s t)
theorem turnTab_ok : turnTab = true := by decide +kernel
theorem tab_at {m : Md} (ho : Ok m) {s : Nat} (hs : s < m.N) : (tu m s < m.N ∧ tb m s < m.N ∧ mi m s < m.N ∧ tb m (tu m s) = s ∧ tu m (tb m s) = s ∧ mi m (mi m s) = s) ∧ ∀ t, t < m.N → adj m.R (tu m s) (tu m t) = adj m.C s t ∧ adj m.C (mi m s) (mi m t) = adj m.C s t := by
  have h := turnTab_ok
  unfold turnTab at h
  have h1 := List.all_eq_true.1 (List.all_eq_true.1 h (m.R - 1) (List.mem_range.2 (by have := ho.R6; have := ho.R1; omega))) (m.C - 1) (List.mem_range.2 (by have := ho.C6; have := ho.C1; omega))
  have eR : m.R - 1 + 1 = m.R := by have := ho.R1; omega
  have eC : m.C - 1 + 1 = m.C := by have := ho.C1; omega
  simp only [eR, eC] at h1
  have h2 := List.all_eq_true.1 h1 s (List.mem_range.2 hs)
  simp only [Bool.and_eq_true, decide_eq_true_eq] at h2
  obtain ⟨⟨⟨⟨⟨⟨a1, a2⟩, a3⟩, a4⟩, a5⟩, a6⟩, a7⟩ := h2
  refine ⟨⟨a1, a2, a3, a4, a5, a6⟩, fun t ht => ?_⟩
  have h3 := List.all_eq_true.1 a7 t (List.mem_range.2 ht)
  simp only [Bool.and_eq_true, beq_iff_eq] at h3
  exact h3
def tm (m : Md) : Md := ⟨m.C, m.R, m.K⟩
theorem ren_turn {m : Md} (ho : Ok m) : Ren m (tm m) (tu m) (tb m) :=
  ⟨Nat.mul_comm _ _, rfl, fun s hs => (tab_at ho hs).1.1, fun s hs => (tab_at ho hs).1.2.1, fun s hs => (tab_at ho hs).1.2.2.2.1, fun s hs => (tab_at ho hs).1.2.2.2.2.1, fun s t hs ht => ((tab_at ho hs).2 t ht).1⟩
theorem ren_mirror {m : Md} (ho : Ok m) : Ren m m (mi m) (mi m) :=
  ⟨rfl, rfl, fun s hs => (tab_at ho hs).1.2.2.1, fun s hs => (tab_at ho hs).1.2.2.1, fun s hs => (tab_at ho hs).1.2.2.2.2.2, fun s hs => (tab_at ho hs).1.2.2.2.2.2, fun s t hs ht => ((tab_at ho hs).2 t ht).2⟩
theorem ok_turn {m : Md} (ho : Ok m) : Ok (tm m) := ⟨ho.C1, ho.C6, ho.R1, ho.R6, ho.K1, ho.K3⟩
/-! ## The mask of the neighbors -/
def nb (m : Md) (s : Nat) : Nat :=
  let row := s / m.C
  let col := s % m.C
  let a := if 0 < row then 0 ||| 2 ^ ((row - 1) * m.C + col) else 0
  let b := if 0 < col then a ||| 2 ^ (row * m.C + (col - 1)) else a
  let c := if col < m.C - 1 then b ||| 2 ^ (row * m.C + (col + 1)) else b
  if row < m.R - 1 then c ||| 2 ^ ((row + 1) * m.C + col) else c
def nbTab : Bool := (List.range 6).all fun r => (List.range 6).all fun c => (List.range ((r + 1) * (c + 1))).all fun s => decide (nb ⟨r + 1, c + 1, 1⟩ s = msk ((r + 1) * (c + 1)) (adj (c + 1) s))
theorem nbTab_ok : nbTab = true := by decide +kernel
theorem nb_eq {m : Md} (ho : Ok m) {s : Nat} (hs : s < m.N) : nb m s = msk m.N (adj m.C s) := by
  have h := nbTab_ok
  unfold nbTab at h
  have h1 := List.all_eq_true.1 (List.all_eq_true.1 h (m.R - 1) (List.mem_range.2 (by have := ho.R6; have := ho.R1; omega))) (m.C - 1) (List.mem_range.2 (by have := ho.C6; have := ho.C1; omega))
  have eR : m.R - 1 + 1 = m.R := by have := ho.R1; omega
  have eC : m.C - 1 + 1 = m.C := by have := ho.C1; omega
  simp only [eR, eC] at h1
  exact of_decide_eq_true (List.all_eq_true.1 h1 s (List.mem_range.2 hs))
theorem pc_nb {m : Md} (ho : Ok m) {s : Nat} (hs : s < m.N) (S : Nat) : pc (nb m s &&& S) = ar m S s := by
  have hl : nb m s &&& S < 2 ^ m.N := Nat.lt_of_le_of_lt Nat.and_le_left (by rw [nb_eq ho hs]; exact msk_lt _ _)
  rw [pc_eq hl (by have := ho.N36; omega)]
  refine cnt_congr fun i hi => ?_
  rw [Nat.testBit_and, nb_eq ho hs, msk_t, decide_eq_true hi, Bool.true_and]
theorem sq_nb {m : Md} (ho : Ok m) {s : Nat} (hs : s < m.N) : sqL (nb m s) = (List.range m.N).filter (adj m.C s) := by
  rw [nb_eq ho hs]
  unfold sqL
  obtain ⟨d, hd⟩ := Nat.le.dest (show m.N ≤ 64 by have := ho.N36; omega)
  rw [← hd, List.range_add, List.filter_append]
  have h1 : (List.map (fun x => m.N + x) (List.range d)).filter (msk m.N (adj m.C s)).testBit = [] := by
    rw [List.filter_eq_nil_iff]
    intro a ha
    obtain ⟨x, _, rfl⟩ := List.mem_map.1 ha
    rw [msk_t, decide_eq_false (by omega)]; simp
  rw [h1, List.append_nil]
  refine List.filter_congr fun i hi => ?_
  rw [msk_t, decide_eq_true (List.mem_range.1 hi), Bool.true_and]
theorem ar_le4 {m : Md} (ho : Ok m) {S s : Nat} (hs : s < m.N) : ar m S s ≤ 36 := Nat.le_trans (cnt_le _ _) ho.N36
end Go.Mo
