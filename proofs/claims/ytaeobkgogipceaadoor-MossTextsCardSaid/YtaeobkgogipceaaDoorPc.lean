/- Mathematics of moss, third part: cores, orders, thinning, the fewest squares, turning. -/
import Derived.Test.YtaeobkgogipceaaDoorPb
set_option linter.unusedVariables false
set_option linter.unusedSimpArgs false
namespace Go.Mo
/-! ## Cores -/
def isC (m : Md) (core : Nat) : Prop := ∀ s, s < m.N → core.testBit s = true → ar m (dif (full m) core) s < m.K
theorem co_t (m : Md) (core i : Nat) : (dif (full m) core).testBit i = (decide (i < m.N) && !core.testBit i) := by rw [dif_t, full_t]
theorem co_lt (m : Md) (core : Nat) : dif (full m) core < 2 ^ m.N := dif_lt (full_lt m)
theorem isC_cl {m : Md} {core : Nat} : isC m core ↔ Cl m (dif (full m) core) := by
  constructor
  · intro h s hs hd
    rw [co_t, decide_eq_true hs, Bool.true_and] at hd
    exact h s hs (by simpa using hd)
  · intro h s hs hd
    exact h s hs (by rw [co_t, hd]; simp)
theorem core_dry {m : Md} {core S : Nat} (hS : S < 2 ^ m.N) (hc : isC m core) (h : core &&& S = 0) : core &&& en m S = 0 := by
  have h1 : Sub S (dif (full m) core) := fun i hi => by
    have h2 : (core &&& S).testBit i = false := by rw [h, Nat.zero_testBit]
    rw [Nat.testBit_and, hi, Bool.and_true] at h2
    rw [co_t, h2, decide_eq_true (tb_in hS hi)]; rfl
  have h3 := en_in h1 (isC_cl.1 hc)
  refine Nat.eq_of_testBit_eq fun i => ?_
  rw [Nat.testBit_and, Nat.zero_testBit]
  cases he : (en m S).testBit i
  · rw [Bool.and_false]
  · have := h3 i he
    rw [co_t] at this
    have := ((Bool.and_eq_true _ _).mp this).2
    rw [Bool.and_true]; simpa using this
/-- The greatest core without wet squares. -/
def cor (m : Md) (S : Nat) : Nat := dif (full m) (en m S)
theorem cor_lt (m : Md) (S : Nat) : cor m S < 2 ^ m.N := co_lt _ _
theorem co_co {m : Md} {A : Nat} (h : A < 2 ^ m.N) : dif (full m) (dif (full m) A) = A := Nat.eq_of_testBit_eq fun i => by
  rw [co_t, co_t]
  cases ha : A.testBit i
  · cases decide (i < m.N) <;> rfl
  · rw [decide_eq_true (tb_in h ha)]; rfl
theorem cor_isC {m : Md} (ho : Ok m) {S : Nat} (hS : S < 2 ^ m.N) : isC m (cor m S) := by
  rw [isC_cl]; unfold cor; rw [co_co (en_lt hS)]; exact en_cl ho hS
theorem cor_and {m : Md} (S : Nat) : cor m S &&& en m S = 0 := Nat.eq_of_testBit_eq fun i => by
  unfold cor
  rw [Nat.testBit_and, co_t, Nat.zero_testBit]
  cases (en m S).testBit i <;> simp
theorem cor_or {m : Md} {S : Nat} (hS : S < 2 ^ m.N) : cor m S ||| en m S = full m := Nat.eq_of_testBit_eq fun i => by
  unfold cor
  rw [Nat.testBit_or, co_t, full_t]
  cases h : (en m S).testBit i
  · simp
  · rw [decide_eq_true (tb_in (en_lt hS) h)]; rfl
structure CI (m : Md) (S core : Nat) : Prop where
  lt : core < 2 ^ m.N
  dry : ∀ i, S.testBit i = true → core.testBit i = false
  most : ∀ i, i < m.N → (en m S).testBit i = false → core.testBit i = true
theorem CI.start {m : Md} {S : Nat} : CI m S (dif (full m) S) :=
  ⟨co_lt _ _, fun i h => by rw [co_t, h]; simp, fun i hi h => by
    rw [co_t, decide_eq_true hi]
    cases hs : S.testBit i
    · rfl
    · rw [sub_en m S i hs] at h; cases h⟩
theorem CI.sub {m : Md} {S core : Nat} (h : CI m S core) : Sub (dif (full m) core) (en m S) := fun i hi => by
  rw [co_t] at hi
  have h1 := (Bool.and_eq_true _ _).mp hi
  cases he : (en m S).testBit i
  · have := h.most i (of_decide_eq_true h1.1) he
    rw [this] at h1; cases h1.2
  · rfl
theorem CI.rem {m : Md} (ho : Ok m) {S core s : Nat} (hS : S < 2 ^ m.N) (h : CI m S core) (hs : s < m.N) (ha : m.K ≤ ar m (dif (full m) core) s) : CI m S (dif core (2 ^ s)) :=
  ⟨dif_lt h.lt, fun i hi => by rw [dif_t, h.dry i hi]; rfl, fun i hi he => by
    rw [dif_t, h.most i hi he, one_t]
    by_cases e : i = s
    · subst e
      have h1 := ar_mono (m := m) h.sub i
      have h2 := en_cl ho hS i hi he
      omega
    · rw [decide_eq_false e]; rfl⟩
theorem CI.done {m : Md} (ho : Ok m) {S core : Nat} (hS : S < 2 ^ m.N) (h : CI m S core) (hc : isC m core) : core = cor m S := by
  have h1 : Sub S (dif (full m) core) := fun i hi => by rw [co_t, h.dry i hi, decide_eq_true (tb_in hS hi)]; rfl
  have h2 := Sub.anti h.sub (en_in h1 (isC_cl.1 hc))
  unfold cor; rw [← h2, co_co h.lt]
/-- What a round of leaving out has come to before the square k. -/
structure CR (m : Md) (S c0 : Nat) (k c : Nat) : Prop where
  ci : CI m S c
  sub : Sub c c0
  same : c = c0 → ∀ s, s < k → c0.testBit s = true → ar m (dif (full m) c0) s < m.K
theorem CR.zero {m : Md} {S c0 : Nat} (h : CI m S c0) : CR m S c0 0 c0 := ⟨h, Sub.refl _, fun _ s hs => absurd hs (Nat.not_lt_zero _)⟩
theorem CR.skip {m : Md} {S c0 k c : Nat} (h : CR m S c0 k c) (hn : ¬ (c.testBit k = true ∧ m.K ≤ ar m (dif (full m) c) k)) : CR m S c0 (k + 1) c :=
  ⟨h.ci, h.sub, fun e s hs hb => by
    by_cases h1 : s = k
    · subst h1; subst e
      exact Nat.lt_of_not_le fun h2 => hn ⟨hb, h2⟩
    · exact h.same e s (by omega) hb⟩
theorem CR.rem {m : Md} (ho : Ok m) {S c0 k c : Nat} (hS : S < 2 ^ m.N) (h : CR m S c0 k c) (hk : k < m.N) (hb : c.testBit k = true) (ha : m.K ≤ ar m (dif (full m) c) k) : CR m S c0 (k + 1) (dif c (2 ^ k)) :=
  ⟨h.ci.rem ho hS hk ha, (dif_sub _ _).trans h.sub, fun e => by
    have h1 := h.sub k hb
    rw [← e, dif_t, one_t, decide_eq_true rfl] at h1
    simp at h1⟩
theorem pc_lt {A B : Nat} (h : Sub A B) (hB : B < 2 ^ 64) (hne : A ≠ B) : pc A < pc B := by
  have : ∃ i, A.testBit i = false ∧ B.testBit i = true := by
    rcases Classical.em (∃ i, A.testBit i = false ∧ B.testBit i = true) with h1 | h1
    · exact h1
    · refine absurd (Sub.anti h fun i hi => ?_) hne
      cases ha : A.testBit i
      · exact absurd ⟨i, ha, hi⟩ h1
      · rfl
  obtain ⟨i, h1, h2⟩ := this
  exact cnt_strict (fun j _ hj => h j hj) (tb_in hB h2) h1 h2
theorem CR.less {m : Md} (ho : Ok m) {S c0 c : Nat} (h : CR m S c0 m.N c) (h0 : c0 < 2 ^ m.N) (hn : ¬ isC m c0) : pc c < pc c0 := by
  refine pc_lt h.sub (Nat.lt_of_lt_of_le h0 (Nat.pow_le_pow_right (by decide) (by have := ho.N36; omega))) fun e => ?_
  exact hn fun s hs hb => h.same e s hs hb
/-! ## Orders -/
def adds (S : Nat) (l : List Nat) : Nat := l.foldl (fun a s => a ||| 2 ^ s) S
def okO (m : Md) : Nat → List Nat → Bool
  | _, [] => true
  | S, s :: l => (decide (s < m.N) && rdB m S s) && okO m (S ||| 2 ^ s) l
theorem one_lt {m : Md} {s : Nat} (h : s < m.N) : 2 ^ s < 2 ^ m.N := Nat.pow_lt_pow_right (by decide) h
theorem add_lt {m : Md} {S s : Nat} (hS : S < 2 ^ m.N) (hs : s < m.N) : S ||| 2 ^ s < 2 ^ m.N := Nat.or_lt_two_pow hS (one_lt hs)
theorem rd_in {m : Md} (ho : Ok m) {S A s : Nat} (hS : S < 2 ^ m.N) (h : Sub A (en m S)) (hs : s < m.N) (hr : rdB m A s = true) : Sub (A ||| 2 ^ s) (en m S) := or_sub h fun i hi => by
  rw [one_t] at hi
  have := of_decide_eq_true hi; subst this
  cases he : (en m S).testBit i
  · have h1 := en_cl ho hS i hs he
    have h2 := ar_mono (m := m) h i
    have h3 := of_decide_eq_true ((Bool.and_eq_true _ _).mp hr).2
    omega
  · rfl
theorem adds_ok {m : Md} (ho : Ok m) {S : Nat} (hS : S < 2 ^ m.N) : ∀ (l : List Nat) (A : Nat), Sub S A → Sub A (en m S) → okO m A l = true → Sub S (adds A l) ∧ Sub (adds A l) (en m S)
  | [], A, h1, h2, _ => ⟨h1, h2⟩
  | s :: l, A, h1, h2, h3 => by
    have h4 := (Bool.and_eq_true _ _).mp h3
    have h5 := (Bool.and_eq_true _ _).mp h4.1
    exact adds_ok ho hS l (A ||| 2 ^ s) (h1.trans (or_left _ _)) (rd_in ho hS h2 (of_decide_eq_true h5.1) h5.2) h4.2
def ordF (m : Md) : Nat → Nat → List Nat
  | 0, _ => []
  | f + 1, S => if rdy m S = 0 then [] else Lib.ctz 64 (rdy m S) :: ordF m f (S ||| 2 ^ Lib.ctz 64 (rdy m S))
def ordL (m : Md) (S : Nat) : List Nat := ordF m 64 S
theorem p64 {m : Md} (ho : Ok m) {S : Nat} (h : S < 2 ^ m.N) : S < 2 ^ 64 := Nat.lt_of_lt_of_le h (Nat.pow_le_pow_right (by decide) (by have := ho.N36; omega))
theorem next_rd {m : Md} (ho : Ok m) {S : Nat} (hr : rdy m S ≠ 0) : Lib.ctz 64 (rdy m S) < m.N ∧ rdB m S (Lib.ctz 64 (rdy m S)) = true := by
  have h1 := low_t hr (p64 ho (rdy_lt m S))
  rw [rdy_t] at h1
  have h2 := (Bool.and_eq_true _ _).mp h1
  exact ⟨of_decide_eq_true h2.1, h2.2⟩
theorem rd_dry {m : Md} {S s : Nat} (h : rdB m S s = true) : S.testBit s = false := by
  have := ((Bool.and_eq_true _ _).mp h).1; simpa using this
theorem pc_add {m : Md} (ho : Ok m) {S s : Nat} (hs : s < m.N) (hd : S.testBit s = false) : pc (S ||| 2 ^ s) = pc S + 1 := by
  unfold pc
  rw [← cnt_ins (t := s) (by have := ho.N36; omega) hd]
  exact cnt_congr fun i _ => by rw [Nat.testBit_or, one_t]
theorem ordF_fuel {m : Md} (ho : Ok m) : ∀ (f g S : Nat), S < 2 ^ m.N → m.N < pc S + f → m.N < pc S + g → ordF m f S = ordF m g S
  | 0, g, S, h, h1, _ => by have := pc_le h (by have := ho.N36; omega); omega
  | f + 1, 0, S, h, _, h1 => by have := pc_le h (by have := ho.N36; omega); omega
  | f + 1, g + 1, S, h, h1, h2 => by
    unfold ordF
    by_cases hr : rdy m S = 0
    · rw [if_pos hr, if_pos hr]
    · rw [if_neg hr, if_neg hr]
      obtain ⟨h3, h4⟩ := next_rd ho hr
      have h5 := pc_add ho h3 (rd_dry h4)
      rw [ordF_fuel ho f g _ (add_lt h h3) (by omega) (by omega)]
theorem ordL_nil {m : Md} {S : Nat} (h : rdy m S = 0) : ordL m S = [] := if_pos h
theorem ordL_cons {m : Md} (ho : Ok m) {S : Nat} (hS : S < 2 ^ m.N) (h : rdy m S ≠ 0) : ordL m S = Lib.ctz 64 (rdy m S) :: ordL m (S ||| 2 ^ Lib.ctz 64 (rdy m S)) := by
  obtain ⟨h3, h4⟩ := next_rd ho h
  have h6 := ho.N36
  refine (if_neg h).trans ?_
  congr 1
  exact ordF_fuel ho 63 64 _ (add_lt hS h3) (by omega) (by omega)
theorem ord_ok {m : Md} (ho : Ok m) : ∀ (n S : Nat), S < 2 ^ m.N → m.N ≤ pc S + n → okO m S (ordL m S) = true ∧ adds S (ordL m S) = en m S ∧ (ordL m S).length ≤ n
  | 0, S, hS, hn => by
    have hr : rdy m S = 0 := by
      rcases Classical.em (rdy m S = 0) with h | h
      · exact h
      · have h1 := pc_step ho hS h
        have h2 := pc_le (stp_lt hS) (by have := ho.N36; omega)
        omega
    rw [ordL_nil hr]
    exact ⟨rfl, (cl_en ho hS (rdy_zero.1 hr)).1.symm, Nat.le_refl _⟩
  | n + 1, S, hS, hn => by
    by_cases hr : rdy m S = 0
    · rw [ordL_nil hr]
      exact ⟨rfl, (cl_en ho hS (rdy_zero.1 hr)).1.symm, Nat.zero_le _⟩
    · obtain ⟨h3, h4⟩ := next_rd ho hr
      have h5 := pc_add ho h3 (rd_dry h4)
      have h6 := ord_ok ho n _ (add_lt hS h3) (by omega)
      rw [ordL_cons ho hS hr]
      refine ⟨?_, ?_, by rw [List.length_cons]; omega⟩
      · show ((decide _ && _) && _) = true
        rw [decide_eq_true h3, h4, h6.1]; rfl
      · show adds (S ||| _) _ = _
        rw [h6.2.1]
        exact en_eq ho hS (or_left _ _) (rd_in ho hS (sub_en m S) h3 h4)
theorem ord_all {m : Md} (ho : Ok m) {S : Nat} (hS : S < 2 ^ m.N) : okO m S (ordL m S) = true ∧ adds S (ordL m S) = en m S ∧ (ordL m S).length ≤ m.N := ord_ok ho m.N S hS (Nat.le_add_left _ _)
/-! ## Thinning -/
def thn (m : Md) (E : Nat) : Nat → Nat → Nat
  | 0, T => T
  | k + 1, T => thn m E k (if en m (dif T (2 ^ k)) = E then dif T (2 ^ k) else T)
def thin (m : Md) (S : Nat) : Nat := thn m (en m S) m.N S
theorem dif_out {T k : Nat} (h : T.testBit k = false) : dif T (2 ^ k) = T := Nat.eq_of_testBit_eq fun i => by
  rw [dif_t, one_t]
  by_cases e : i = k
  · subst e; rw [h]; rfl
  · rw [decide_eq_false e]; simp
theorem thn_skip {m : Md} {E k T : Nat} (h : T.testBit k = false) : thn m E (k + 1) T = thn m E k T := by
  show thn m E k (if en m (dif T (2 ^ k)) = E then dif T (2 ^ k) else T) = _
  rw [dif_out h, ite_self]
theorem thn_down {m : Md} {E T : Nat} : ∀ {k k' : Nat}, k' ≤ k → (∀ i, k' ≤ i → i < k → T.testBit i = false) → thn m E k T = thn m E k' T
  | 0, k', h, _ => by rw [show k' = 0 by omega]
  | k + 1, k', h, hh => by
    by_cases e : k' = k + 1
    · rw [e]
    · rw [thn_skip (hh k (by omega) (by omega)), thn_down (by omega : k' ≤ k) fun i h1 h2 => hh i h1 (by omega)]
theorem thn_sub (m : Md) (E : Nat) : ∀ k T, Sub (thn m E k T) T
  | 0, T => Sub.refl T
  | k + 1, T => by
    unfold thn
    refine (thn_sub m E k _).trans ?_
    split
    · exact dif_sub _ _
    · exact Sub.refl _
theorem thn_en (m : Md) (E : Nat) : ∀ k T, en m T = E → en m (thn m E k T) = E
  | 0, T, h => h
  | k + 1, T, h => by
    unfold thn
    refine thn_en m E k _ ?_
    split
    · assumption
    · exact h
/-- A square that is left is wanted. -/
theorem thn_kept {m : Md} (ho : Ok m) {E : Nat} : ∀ k T, T < 2 ^ m.N → en m T = E → ∀ s, s < k → (thn m E k T).testBit s = true → en m (dif (thn m E k T) (2 ^ s)) ≠ E
  | 0, T, _, _, s, hs, _ => absurd hs (Nat.not_lt_zero _)
  | k + 1, T, hT, hE, s, hs, hb => by
    unfold thn at hb ⊢
    by_cases hc : en m (dif T (2 ^ k)) = E
    · rw [if_pos hc] at hb ⊢
      by_cases e : s = k
      · subst e
        have := thn_sub m E s _ s hb
        rw [dif_t, one_t, decide_eq_true rfl] at this
        simp at this
      · exact thn_kept ho k _ (dif_lt hT) hc s (by omega) hb
    · rw [if_neg hc] at hb ⊢
      by_cases e : s = k
      · subst e
        intro h
        refine hc ?_
        have h1 : Sub (dif (thn m E s T) (2 ^ s)) (dif T (2 ^ s)) := fun i hi => by
          rw [dif_t] at hi ⊢
          have h2 := (Bool.and_eq_true _ _).mp hi
          rw [thn_sub m E s T i h2.1, h2.2]; rfl
        have h3 := en_mono ho (dif_lt (b := 2 ^ s) hT) h1
        have h4 := en_mono ho hT (dif_sub T (2 ^ s))
        rw [h] at h3; rw [hE] at h4
        exact Sub.anti h4 h3
      · exact thn_kept ho k T hT hE s (by omega) hb
theorem thin_sub (m : Md) (S : Nat) : Sub (thin m S) S := thn_sub _ _ _ _
theorem thin_en (m : Md) (S : Nat) : en m (thin m S) = en m S := thn_en _ _ _ _ rfl
theorem thn_stay {m : Md} {E T : Nat} : ∀ k, (∀ s, s < k → T.testBit s = true → en m (dif T (2 ^ s)) ≠ E) → thn m E k T = T
  | 0, _ => rfl
  | k + 1, h => by
    cases hb : T.testBit k
    · rw [thn_skip hb]; exact thn_stay k fun s hs => h s (by omega)
    · unfold thn; rw [if_neg (h k (by omega) hb)]; exact thn_stay k fun s hs => h s (by omega)
theorem thin_thin {m : Md} (ho : Ok m) {S : Nat} (hS : S < 2 ^ m.N) : thin m (thin m S) = thin m S := by
  show thn m (en m (thin m S)) m.N (thin m S) = thin m S
  rw [thin_en]
  exact thn_stay _ fun s hs hb => thn_kept ho m.N S hS rfl s hs hb
def ndd (m : Md) (S : Nat) : Nat := msk m.N fun s => S.testBit s && !decide (en m (dif S (2 ^ s)) = en m S)
theorem ndd_thin {m : Md} (ho : Ok m) {S : Nat} (hS : S < 2 ^ m.N) : Sub (ndd m S) (thin m S) := fun s hs => by
  unfold ndd at hs
  rw [msk_t] at hs
  have h1 := (Bool.and_eq_true _ _).mp hs
  have h2 := (Bool.and_eq_true _ _).mp h1.2
  have h3 : ¬ en m (dif S (2 ^ s)) = en m S := by simpa using h2.2
  cases hb : (thin m S).testBit s
  · refine absurd ?_ h3
    have h4 : Sub (thin m S) (dif S (2 ^ s)) := fun i hi => by
      rw [dif_t, one_t, thin_sub m S i hi]
      by_cases e : i = s
      · rw [e, hb] at hi; cases hi
      · rw [decide_eq_false e]; rfl
    have h5 := en_mono ho (dif_lt (b := 2 ^ s) hS) h4
    rw [thin_en] at h5
    exact Sub.anti (en_mono ho hS (dif_sub _ _)) h5
  · rfl
/-! ## The fewest squares -/
structure Few (m : Md) (p : Nat → Prop) (F : Nat) : Prop where
  lt : F < 2 ^ m.N
  fill : en m F = full m
  best : ∀ y, y < 2 ^ m.N → en m y = full m → p y → pc F < pc y ∨ (pc F = pc y ∧ F ≤ y)
theorem Few.uniq {m : Md} {F G : Nat} (h : Few m (fun _ => True) F) (g : Few m (fun _ => True) G) : F = G := by
  have h1 := h.best G g.lt g.fill trivial
  have h2 := g.best F h.lt h.fill trivial
  omega
theorem en_full {m : Md} (ho : Ok m) : en m (full m) = full m := Sub.anti (full_sub (en_lt (full_lt m))) (sub_en m _)
theorem pc_full {m : Md} (ho : Ok m) {y : Nat} (hy : y < 2 ^ m.N) (h : pc (full m) ≤ pc y) : y = full m := by
  rcases Classical.em (y = full m) with h1 | h1
  · exact h1
  · have := pc_lt (full_sub hy) (p64 ho (full_lt m)) h1; omega
theorem Few.up0 {m : Md} (ho : Ok m) : Few m (fun y => y < 0 ∨ y = full m) (full m) := ⟨full_lt m, en_full ho, fun y _ _ hp => by
  rcases hp with h | h
  · omega
  · rw [h]; exact .inr ⟨rfl, Nat.le_refl _⟩⟩
theorem Few.up {m : Md} {k F : Nat} (h : Few m (fun y => y < k ∨ y = full m) F) (hn : ¬ (pc k < pc F ∧ en m k = full m)) (hF : F < k ∨ F = full m) (ho : Ok m) : Few m (fun y => y < k + 1 ∨ y = full m) F := ⟨h.lt, h.fill, fun y hy he hp => by
  by_cases e : y = k
  · subst e
    have h1 : ¬ pc y < pc F := fun h2 => hn ⟨h2, he⟩
    rcases Nat.lt_or_ge (pc F) (pc y) with h2 | h2
    · exact .inl h2
    · refine .inr ⟨by omega, ?_⟩
      rcases hF with h3 | h3
      · omega
      · have := pc_full ho hy (by rw [← h3]; omega)
        omega
  · exact h.best y hy he (by omega)⟩
theorem Few.take {m : Md} {k F : Nat} (h : Few m (fun y => y < k ∨ y = full m) F) (hk : k < 2 ^ m.N) (hc : pc k < pc F) (he : en m k = full m) : Few m (fun y => y < k + 1 ∨ y = full m) k := ⟨hk, he, fun y hy hf hp => by
  by_cases e : y = k
  · rw [e]; exact .inr ⟨rfl, Nat.le_refl _⟩
  · have := h.best y hy hf (by omega); omega⟩
theorem Few.upEnd {m : Md} {F : Nat} (h : Few m (fun y => y < full m ∨ y = full m) F) : Few m (fun _ => True) F := ⟨h.lt, h.fill, fun y hy he _ => h.best y hy he (by unfold full; omega)⟩
theorem Few.dn0 {m : Md} (ho : Ok m) : Few m (fun y => full m < y) (full m) := ⟨full_lt m, en_full ho, fun y hy _ hp => by unfold full at hp; omega⟩
theorem Few.dn {m : Md} {k F : Nat} (h : Few m (fun y => k < y) F) (hn : ¬ (pc k ≤ pc F ∧ en m k = full m)) : Few m (fun y => k ≤ y) F := ⟨h.lt, h.fill, fun y hy he hp => by
  by_cases e : y = k
  · subst e
    have h1 : ¬ pc y ≤ pc F := fun h2 => hn ⟨h2, he⟩
    exact .inl (by omega)
  · exact h.best y hy he (by omega)⟩
theorem Few.dtake {m : Md} {k F : Nat} (h : Few m (fun y => k < y) F) (hk : k < 2 ^ m.N) (hc : pc k ≤ pc F) (he : en m k = full m) : Few m (fun y => k ≤ y) k := ⟨hk, he, fun y hy hf hp => by
  by_cases e : y = k
  · rw [e]; exact .inr ⟨rfl, Nat.le_refl _⟩
  · have := h.best y hy hf (by omega); omega⟩
end Go.Mo
