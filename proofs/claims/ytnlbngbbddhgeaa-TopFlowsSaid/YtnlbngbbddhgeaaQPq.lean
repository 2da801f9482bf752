/- Narrowest cuts: that there are some, what a change of a width, a turn and a join do to their width. -/
import Derived.Test.YtnlbngbbddhgeaaQPz
set_option linter.unusedSimpArgs false
set_option linter.unusedVariables false
namespace Go.Fl

def MinC (s t : Nat) (L : List E) (S : Nat → Bool) : Prop := S s = true ∧ S t = false ∧ ∀ C : Nat → Bool, C s = true → C t = false → cutW S L ≤ cutW C L
/-- The width of a narrowest cut. -/
def MW (s t : Nat) (L : List E) (m : Int) : Prop := (∃ S : Nat → Bool, S s = true ∧ S t = false ∧ m = cutW S L) ∧ ∀ S : Nat → Bool, S s = true → S t = false → m ≤ cutW S L
theorem cutW_nn {S : Nat → Bool} : ∀ {L : List E}, (∀ e ∈ L, 0 ≤ e.w) → 0 ≤ cutW S L
  | [], _ => Int.le_refl _
  | e :: l, h => by
    have h1 := h e List.mem_cons_self
    have h2 := cutW_nn (S := S) (L := l) fun x hx => h x (List.mem_cons_of_mem _ hx)
    simp only [cutW]; split <;> omega
theorem MW.uniq {s t : Nat} {L : List E} {m k : Int} (h : MW s t L m) (h2 : MW s t L k) : m = k := by
  obtain ⟨⟨S, a1, a2, a3⟩, a4⟩ := h
  obtain ⟨⟨T, b1, b2, b3⟩, b4⟩ := h2
  have := a4 T b1 b2
  have := b4 S a1 a2
  omega
theorem minC_ex {s t : Nat} {L : List E} (hst : s ≠ t) (h0 : ∀ e ∈ L, 0 ≤ e.w) : ∃ S, MinC s t L S := by
  have key : ∀ k : Nat, ∀ S : Nat → Bool, S s = true → S t = false → (cutW S L).toNat ≤ k → ∃ S, MinC s t L S := by
    intro k
    induction k with
    | zero => intro S h1 h2 h3; exact ⟨S, h1, h2, fun C _ _ => by have := cutW_nn (S := C) h0; have := cutW_nn (S := S) h0; omega⟩
    | succ k ih =>
      intro S h1 h2 h3
      rcases Classical.em (∃ C : Nat → Bool, C s = true ∧ C t = false ∧ cutW C L < cutW S L) with ⟨C, c1, c2, c3⟩ | hn
      · exact ih C c1 c2 (by have := cutW_nn (S := C) h0; omega)
      · exact ⟨S, h1, h2, fun C c1 c2 => by
          rcases Int.lt_or_le (cutW C L) (cutW S L) with h | h
          · exact absurd ⟨C, c1, c2, h⟩ hn
          · exact h⟩
  exact key _ (fun v => decide (v = s)) (by simp) (by simp; exact fun e => hst e.symm) (Nat.le_refl _)
theorem MinC.isMW {s t : Nat} {L : List E} {S : Nat → Bool} (h : MinC s t L S) : MW s t L (cutW S L) := ⟨⟨S, h.1, h.2.1, rfl⟩, fun C c1 c2 => h.2.2 C c1 c2⟩
theorem MW.minC {s t : Nat} {L : List E} {m : Int} (h : MW s t L m) {S : Nat → Bool} (h1 : S s = true) (h2 : S t = false) : MinC s t L S ↔ cutW S L = m := by
  refine ⟨fun hm => hm.isMW.uniq h, fun he => ⟨h1, h2, fun C c1 c2 => by rw [he]; exact h.2 C c1 c2⟩⟩
open Classical in
noncomputable def mw (s t : Nat) (L : List E) : Int := if h : ∃ m, MW s t L m then h.choose else 0
theorem MW.eq {s t : Nat} {L : List E} {m : Int} (h : MW s t L m) : mw s t L = m := by
  have hx : ∃ m, MW s t L m := ⟨m, h⟩
  unfold mw; rw [dif_pos hx]; exact hx.choose_spec.uniq h
theorem mw_ok {s t : Nat} {L : List E} (hst : s ≠ t) (h0 : ∀ e ∈ L, 0 ≤ e.w) : MW s t L (mw s t L) := by
  obtain ⟨S, hS⟩ := minC_ex hst h0
  rw [hS.isMW.eq]; exact hS.isMW
theorem MinC.eq {s t : Nat} {L : List E} {S : Nat → Bool} (h : MinC s t L S) : cutW S L = Fl.mw s t L := h.isMW.eq.symm
theorem minC_iff {s t : Nat} {L : List E} (hst : s ≠ t) (h0 : ∀ e ∈ L, 0 ≤ e.w) {S : Nat → Bool} (h1 : S s = true) (h2 : S t = false) : MinC s t L S ↔ cutW S L = mw s t L := (mw_ok hst h0).minC h1 h2
theorem mw_le {s t : Nat} {L : List E} (hst : s ≠ t) (h0 : ∀ e ∈ L, 0 ≤ e.w) {S : Nat → Bool} (h1 : S s = true) (h2 : S t = false) : mw s t L ≤ cutW S L := (mw_ok hst h0).2 S h1 h2
theorem mw_nn {s t : Nat} {L : List E} (hst : s ≠ t) (h0 : ∀ e ∈ L, 0 ≤ e.w) : 0 ≤ mw s t L := by
  obtain ⟨S, hS⟩ := minC_ex hst h0
  rw [← hS.eq]; exact cutW_nn h0

/-- Only the nodes that drains have matter. -/
theorem cutW_congr {S T : Nat → Bool} : ∀ {L : List E}, (∀ e ∈ L, S e.f = T e.f ∧ S e.t = T e.t) → cutW S L = cutW T L
  | [], _ => rfl
  | e :: l, h => by
    have h1 := h e List.mem_cons_self
    have h2 := cutW_congr (S := S) (T := T) (L := l) fun x hx => h x (List.mem_cons_of_mem _ hx)
    simp only [cutW, h1.1, h1.2, h2]
theorem cutW_nodes {S T : Nat → Bool} {n : Nat} {L : List E} (hn : ∀ e ∈ L, e.f < n ∧ e.t < n) (h : ∀ v, v < n → S v = T v) : cutW S L = cutW T L :=
  cutW_congr fun e he => ⟨h _ (hn e he).1, h _ (hn e he).2⟩
theorem MinC.nodes {s t n : Nat} {L : List E} {S T : Nat → Bool} (hS : MinC s t L S) (hs : s < n) (ht : t < n) (hn : ∀ e ∈ L, e.f < n ∧ e.t < n) (h : ∀ v, v < n → S v = T v) : MinC s t L T :=
  ⟨by rw [← h s hs]; exact hS.1, by rw [← h t ht]; exact hS.2.1, fun C c1 c2 => by rw [← cutW_nodes hn h]; exact hS.2.2 C c1 c2⟩

/-- A set as a number. -/
def msk : Nat → (Nat → Bool) → Nat
  | 0, _ => 0
  | n + 1, f => msk n f ||| (if f n = true then 2 ^ n else 0)
theorem msk_t (n : Nat) (f : Nat → Bool) (i : Nat) : (msk n f).testBit i = (decide (i < n) && f i) := by
  induction n with
  | zero => simp [msk]
  | succ n ih =>
    rw [msk]
    by_cases e : i = n
    · subst e
      cases hf : f i
      · simp [ih]
      · simp [Nat.testBit_or, ih, Nat.testBit_two_pow]
    · by_cases h9 : f n = true
      · rw [if_pos h9, Nat.testBit_or, ih, Nat.testBit_two_pow, decide_eq_false (fun h => e h.symm : ¬ n = i)]
        have : decide (i < n) = decide (i < n + 1) := decide_eq_decide.2 (by omega)
        rw [this, Bool.or_false]
      · rw [if_neg h9, Nat.or_zero, ih]
        have : decide (i < n) = decide (i < n + 1) := decide_eq_decide.2 (by omega)
        rw [this]
theorem msk_lt (n : Nat) (f : Nat → Bool) : msk n f < 2 ^ n := Nat.lt_pow_two_of_testBit _ fun i hi => by rw [msk_t, decide_eq_false (by omega)]; rfl
theorem msk_in {n : Nat} {f : Nat → Bool} {i : Nat} (h : i < n) : (msk n f).testBit i = f i := by rw [msk_t, decide_eq_true h, Bool.true_and]

/-- Nodes are told apart by the narrowest cuts. -/
def LcP (n s t : Nat) (L : List E) (S : Nat → Bool) : Prop := ∀ v, v < n → (S v = true ↔ ∀ C, MinC s t L C → C v = true)
def GcP (n s t : Nat) (L : List E) (S : Nat → Bool) : Prop := ∀ v, v < n → (S v = true ↔ ∃ C, MinC s t L C ∧ C v = true)
theorem LcP.uniq {n s t : Nat} {L : List E} {S T : Nat → Bool} (h : LcP n s t L S) (h2 : LcP n s t L T) {v : Nat} (hv : v < n) : S v = T v := by
  have := (h v hv).trans (h2 v hv).symm
  cases hS : S v <;> cases hT : T v <;> simp_all
theorem GcP.uniq {n s t : Nat} {L : List E} {S T : Nat → Bool} (h : GcP n s t L S) (h2 : GcP n s t L T) {v : Nat} (hv : v < n) : S v = T v := by
  have := (h v hv).trans (h2 v hv).symm
  cases hS : S v <;> cases hT : T v <;> simp_all

/-- The width of a drain is another. -/
def wid (L : List E) (k : Nat) (w : Int) : List E := match L[k]? with
  | none => L
  | some e => L.set k { e with w := w }
def lv (S : Nat → Bool) (e : E) : Prop := S e.f = true ∧ S e.t = false
instance (S : Nat → Bool) (e : E) : Decidable (lv S e) := by unfold lv; infer_instance
theorem cutW_wid (S : Nat → Bool) (w : Int) : ∀ {L : List E} {k : Nat} (hk : k < L.length), cutW S (wid L k w) = cutW S L + if lv S L[k] then w - L[k].w else 0
  | [], k, hk => absurd hk (Nat.not_lt_zero _)
  | e :: l, 0, hk => by
    simp only [wid, List.getElem?_cons_zero, List.set_cons_zero, cutW, List.getElem_cons_zero, lv]
    by_cases h : S e.f = true ∧ S e.t = false
    · simp only [h, and_self, if_true]; omega
    · simp only [h, if_false]; omega
  | e :: l, k + 1, hk => by
    have ih := cutW_wid S w (L := l) (k := k) (by simpa using hk)
    have hl : k < l.length := by simpa using hk
    have e1 : wid (e :: l) (k + 1) w = e :: wid l k w := by simp [wid, hl]
    rw [e1]
    simp only [cutW, ih, List.getElem_cons_succ]
    omega
theorem wid_nn {L : List E} {k : Nat} {w : Int} (h0 : ∀ e ∈ L, 0 ≤ e.w) (hw : 0 ≤ w) : ∀ e ∈ wid L k w, 0 ≤ e.w := fun e he => by
  unfold wid at he
  split at he
  · exact h0 e he
  · rename_i x hx
    rcases List.mem_or_eq_of_mem_set he with h | rfl
    · exact h0 e h
    · exact hw
section
variable {s t : Nat} {L : List E} {k : Nat} {w : Int}
theorem mw_wid_up (hst : s ≠ t) (h0 : ∀ e ∈ L, 0 ≤ e.w) (hk : k < L.length) (hw : 0 ≤ w) : mw s t (wid L k w) ≤ mw s t L + max (w - L[k].w) 0 ∧ mw s t L + min (w - L[k].w) 0 ≤ mw s t (wid L k w) := by
  obtain ⟨S, hS⟩ := minC_ex hst h0
  obtain ⟨T, hT⟩ := minC_ex hst (wid_nn (k := k) h0 hw)
  have h1 := mw_le hst (wid_nn (k := k) h0 hw) hS.1 hS.2.1
  have h2 := mw_le hst h0 hT.1 hT.2.1
  rw [cutW_wid S w hk, hS.eq] at h1
  have h3 := hT.eq
  rw [cutW_wid T w hk] at h3
  constructor
  · split at h1 <;> omega
  · split at h3 <;> omega
end

/-- The water runs back. -/
def turn (L : List E) : List E := L.map fun e => ⟨e.t, e.f, e.w, e.r⟩
theorem cutW_turn (S : Nat → Bool) : ∀ L : List E, cutW (fun v => !S v) (turn L) = cutW S L
  | [] => rfl
  | e :: l => by
    have ih := cutW_turn S l
    simp only [turn] at ih
    simp only [turn, List.map_cons, cutW, ih, Bool.not_eq_true', Bool.not_eq_false']
    by_cases h : S e.f = true ∧ S e.t = false
    · rw [if_pos h, if_pos h.symm]
    · rw [if_neg h, if_neg (fun x => h x.symm)]
theorem turn_turn (L : List E) : turn (turn L) = L := by
  unfold turn; rw [List.map_map]; exact List.map_id' _ |>.symm ▸ rfl
theorem MinC.turn {s t : Nat} {L : List E} {S : Nat → Bool} (h : MinC s t L S) : MinC t s (turn L) (fun v => !S v) := by
  refine ⟨by simp [h.2.1], by simp [h.1], fun C c1 c2 => ?_⟩
  rw [cutW_turn]
  have h1 := h.2.2 (fun v => !C v) (by simp [c2]) (by simp [c1])
  rw [← cutW_turn (fun v => !C v)] at h1
  simpa using h1
theorem MinC.turn' {s t : Nat} {L : List E} {S : Nat → Bool} (h : MinC t s (Fl.turn L) S) : MinC s t L (fun v => !S v) := by
  have := h.turn; rwa [turn_turn] at this
theorem mw_turn {s t : Nat} {L : List E} (hst : s ≠ t) (h0 : ∀ e ∈ L, 0 ≤ e.w) : mw t s (turn L) = mw s t L := by
  obtain ⟨S, hS⟩ := minC_ex hst h0
  rw [← hS.turn.eq, cutW_turn, hS.eq]
theorem LcP.turn {n s t : Nat} {L : List E} {S : Nat → Bool} (h : LcP n t s (Fl.turn L) S) : GcP n s t L (fun v => !S v) := fun v hv => by
  have h1 := h v hv
  constructor
  · intro h2
    have h3 : ¬ ∀ C, MinC t s (Fl.turn L) C → C v = true := fun h4 => by have h5 : (!S v) = true := h2; rw [h1.2 h4] at h5; cases h5
    obtain ⟨C, hC⟩ := Classical.not_forall.1 h3
    obtain ⟨hC1, hC2⟩ := Classical.not_imp.1 hC
    exact ⟨_, hC1.turn', by simp [hC2]⟩
  · rintro ⟨C, hC, hCv⟩
    show (!S v) = true
    cases hS : S v with
    | false => rfl
    | true => have := h1.1 hS _ hC.turn; simp only [hCv] at this; cases this
/-- Nodes are given other names; drains that then end where they begin fall away. -/
def ren (g : Nat → Nat) (L : List E) : List E := (L.map fun e => ⟨g e.f, g e.t, e.w, e.r⟩).filter fun e => decide (e.f ≠ e.t)
end Go.Fl
