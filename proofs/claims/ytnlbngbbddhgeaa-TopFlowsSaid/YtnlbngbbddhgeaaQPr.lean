/- Rounds of a flow that is kept everywhere: that there is one as long as something runs, and what is left when it is taken out. -/
import Derived.Test.YtnlbngbbddhgeaaQPq
set_option linter.unusedSimpArgs false
set_option linter.unusedVariables false
namespace Go.Fl
instance : Inhabited E := ⟨⟨0, 0, 0, 0⟩⟩
/-- The drains lead from u to v, one after another. -/
def Pt (L : List E) : Nat → List Nat → Nat → Prop
  | u, [], v => u = v
  | u, k :: ks, v => k < L.length ∧ u = (L.getD k default).f ∧ Pt L (L.getD k default).t ks v
theorem Pt.app {L : List E} : ∀ {a b : List Nat} {u v : Nat}, Pt L u (a ++ b) v ↔ ∃ x, Pt L u a x ∧ Pt L x b v
  | [], b, u, v => ⟨fun h => ⟨u, rfl, h⟩, fun ⟨x, h1, h2⟩ => by have : u = x := h1; subst this; exact h2⟩
  | k :: a, b, u, v => by
    show (_ ∧ _ ∧ Pt L _ (a ++ b) v) ↔ _
    rw [Pt.app (a := a)]
    exact ⟨fun ⟨h1, h2, x, h3, h4⟩ => ⟨x, ⟨h1, h2, h3⟩, h4⟩, fun ⟨x, ⟨h1, h2, h3⟩, h4⟩ => ⟨h1, h2, x, h3, h4⟩⟩
theorem Pt.lt {L : List E} : ∀ {ks : List Nat} {u v : Nat}, Pt L u ks v → ∀ k ∈ ks, k < L.length
  | [], _, _, _, _, h => absurd h List.not_mem_nil
  | k :: ks, u, v, ⟨h1, _, h3⟩, j, hj => by
    rcases List.mem_cons.1 hj with rfl | hj
    · exact h1
    · exact h3.lt j hj
theorem Pt.first {L : List E} {ks : List Nat} {u v : Nat} (h : Pt L u ks v) (h0 : 0 < ks.length) : (L.getD (ks.getD 0 0) default).f = u := by
  match ks, h with
  | k :: ks, ⟨_, h2, _⟩ => simpa using h2.symm
theorem Pt.last {L : List E} : ∀ {ks : List Nat} {u v : Nat}, Pt L u ks v → 0 < ks.length → (L.getD (ks.getD (ks.length - 1) 0) default).t = v
  | [k], u, v, ⟨_, _, h3⟩, _ => by have : (L.getD k default).t = v := h3; simpa using this
  | k :: j :: ks, u, v, ⟨_, _, h3⟩, _ => by
    have := h3.last (by simp)
    simpa using this
theorem Pt.next {L : List E} : ∀ {ks : List Nat} {u v : Nat}, Pt L u ks v → ∀ i, i + 1 < ks.length → (L.getD (ks.getD i 0) default).t = (L.getD (ks.getD (i + 1) 0) default).f
  | [], _, _, _, i, hi => absurd hi (by simp)
  | [k], _, _, _, i, hi => absurd hi (by simp)
  | k :: j :: ks, u, v, ⟨_, _, h3⟩, 0, _ => by
    obtain ⟨_, h5, _⟩ := h3
    simpa using h5
  | k :: j :: ks, u, v, ⟨_, _, h3⟩, i + 1, hi => by
    have := h3.next i (by simpa using hi)
    simpa using this
theorem Pt.snoc {L : List E} {ks : List Nat} {u k : Nat} (h : Pt L u ks (L.getD k default).f) (hk : k < L.length) : Pt L u (ks ++ [k]) (L.getD k default).t :=
  Pt.app.2 ⟨_, h, hk, rfl, rfl⟩
/-- The same places. -/
theorem Pt.cast {L M : List E} (hl : M.length = L.length) (hs : ∀ k, (M.getD k default).f = (L.getD k default).f ∧ (M.getD k default).t = (L.getD k default).t) : ∀ {ks : List Nat} {u v : Nat}, Pt L u ks v → Pt M u ks v
  | [], _, _, h => h
  | k :: ks, u, v, ⟨h1, h2, h3⟩ => ⟨by omega, by rw [(hs k).1]; exact h2, by rw [(hs k).2]; exact h3.cast hl hs⟩
def tk1 (a : Int) (L : List E) (k : Nat) : List E := L.set k { L.getD k default with r := (L.getD k default).r - a }
/-- So much is taken out of the drains. -/
def tak (a : Int) (L : List E) (ks : List Nat) : List E := ks.foldl (tk1 a) L
theorem tk1_len (a : Int) (L : List E) (k : Nat) : (tk1 a L k).length = L.length := List.length_set
theorem tak_len (a : Int) : ∀ (ks : List Nat) (L : List E), (tak a L ks).length = L.length
  | [], _ => rfl
  | k :: ks, L => by show (tak a (tk1 a L k) ks).length = _; rw [tak_len a ks, tk1_len]
theorem tk1_get (a : Int) (L : List E) (k j : Nat) : (tk1 a L k).getD j default = if j = k ∧ k < L.length then { L.getD k default with r := (L.getD k default).r - a } else L.getD j default := by
  unfold tk1
  rw [List.getD_eq_getElem?_getD, List.getElem?_set]
  by_cases e : k = j
  · subst e
    by_cases h : k < L.length
    · rw [if_pos rfl, if_pos h, if_pos ⟨rfl, h⟩]; rfl
    · rw [if_pos rfl, if_neg h, if_neg (fun h9 => h h9.2)]; simp [List.getD, h]
  · rw [if_neg e, if_neg (fun h9 => e h9.1.symm), ← List.getD_eq_getElem?_getD]
theorem tk1_same (a : Int) (L : List E) (k j : Nat) : same ((tk1 a L k).getD j default) (L.getD j default) := by
  rw [tk1_get]; split
  · rename_i h; rw [h.1]; exact ⟨rfl, rfl, rfl⟩
  · exact ⟨rfl, rfl, rfl⟩
theorem tak_same (a : Int) : ∀ (ks : List Nat) (L : List E) (j : Nat), same ((tak a L ks).getD j default) (L.getD j default)
  | [], _, _ => ⟨rfl, rfl, rfl⟩
  | k :: ks, L, j => by
    have h1 := tak_same a ks (tk1 a L k) j
    have h2 := tk1_same a L k j
    exact ⟨h1.1.trans h2.1, h1.2.1.trans h2.2.1, h1.2.2.trans h2.2.2⟩
theorem tak_r (a : Int) : ∀ (ks : List Nat) (L : List E) (j : Nat), ks.Nodup → (∀ k ∈ ks, k < L.length) → ((tak a L ks).getD j default).r = (L.getD j default).r - if j ∈ ks then a else 0
  | [], _, _, _, _ => by simp [tak]
  | k :: ks, L, j, hn, hl => by
    have hk := hl k List.mem_cons_self
    have hn2 := List.nodup_cons.1 hn
    have ih := tak_r a ks (tk1 a L k) j hn2.2 (fun x hx => by rw [tk1_len]; exact hl x (List.mem_cons_of_mem _ hx))
    show ((tak a (tk1 a L k) ks).getD j default).r = _
    rw [ih, tk1_get]
    by_cases e : j = k
    · subst e
      rw [if_pos ⟨rfl, hk⟩, if_neg hn2.1, if_pos List.mem_cons_self]; simp
    · rw [if_neg (fun h9 => e h9.1)]
      by_cases h : j ∈ ks
      · rw [if_pos h, if_pos (List.mem_cons_of_mem _ h)]
      · rw [if_neg h, if_neg (fun h9 => (List.mem_cons.1 h9).elim e h)]
theorem out_tk1 (a : Int) (x : Nat) : ∀ {L : List E} {k : Nat}, k < L.length → out x (tk1 a L k) = out x L - (if (L.getD k default).f = x then a else 0) + (if (L.getD k default).t = x then a else 0)
  | [], k, h => absurd h (Nat.not_lt_zero _)
  | e :: l, 0, _ => by
    simp only [tk1, List.getD_cons_zero, List.set_cons_zero, out]
    (repeat' split) <;> omega
  | e :: l, k + 1, h => by
    have ih := out_tk1 a x (L := l) (k := k) (by simpa using h)
    simp only [tk1, List.getD_cons_succ, List.set_cons_succ, out] at ih ⊢
    omega
theorem out_tak (a : Int) (x : Nat) : ∀ {ks : List Nat} {L : List E} {u v : Nat}, Pt L u ks v → out x (tak a L ks) = out x L - (if u = x then a else 0) + (if v = x then a else 0)
  | [], L, u, v, h => by have : u = v := h; subst this; show out x L = _; omega
  | k :: ks, L, u, v, ⟨h1, h2, h3⟩ => by
    show out x (tak a (tk1 a L k) ks) = _
    have h4 : Pt (tk1 a L k) (L.getD k default).t ks v := h3.cast (tk1_len a L k) fun j => ⟨(tk1_same a L k j).1, (tk1_same a L k j).2.1⟩
    rw [out_tak a x h4, out_tk1 a x h1, h2]; omega
/-- A flow that is kept at every node. -/
structure Cir (n : Nat) (L : List E) : Prop where
  nodes : ∀ e ∈ L, e.f < n ∧ e.t < n
  ne : ∀ e ∈ L, e.f ≠ e.t
  pos : ∀ e ∈ L, 0 ≤ e.r
  kp : ∀ u, u < n → out u L = 0
theorem mem_get {L : List E} {k : Nat} (h : k < L.length) : L.getD k default ∈ L := by simp [List.getD, h]
theorem out_neg {u : Nat} : ∀ {L : List E}, (∀ e ∈ L, 0 ≤ e.r) → (∀ e ∈ L, e.f = u → e.r ≤ 0) → out u L ≤ 0 ∧ ∀ e ∈ L, e.t = u → e.f ≠ u → out u L ≤ -e.r
  | [], _, _ => ⟨Int.le_refl _, fun e he => absurd he List.not_mem_nil⟩
  | e :: l, h, h2 => by
    obtain ⟨i1, i2⟩ := out_neg (u := u) (L := l) (fun x hx => h x (List.mem_cons_of_mem _ hx)) (fun x hx => h2 x (List.mem_cons_of_mem _ hx))
    have he := h e List.mem_cons_self
    have he2 := h2 e List.mem_cons_self
    have hr : (if e.f = u then e.r else 0) - (if e.t = u then e.r else 0) ≤ 0 := by
      by_cases e1 : e.f = u
      · have := he2 e1; rw [if_pos e1]; split <;> omega
      · rw [if_neg e1]; split <;> omega
    simp only [out]
    refine ⟨by omega, fun x hx hxt hxf => ?_⟩
    rcases List.mem_cons.1 hx with rfl | hx
    · rw [if_neg hxf, if_pos hxt]; omega
    · have := i2 x hx hxt hxf; omega
/-- What comes in goes on. -/
theorem Cir.go {n : Nat} {L : List E} (h : Cir n L) {k : Nat} (hk : k < L.length) (hr : 0 < (L.getD k default).r) : ∃ j, j < L.length ∧ (L.getD j default).f = (L.getD k default).t ∧ 0 < (L.getD j default).r := by
  rcases Classical.em (∃ j, j < L.length ∧ (L.getD j default).f = (L.getD k default).t ∧ 0 < (L.getD j default).r) with h1 | h1
  · exact h1
  · have hm := mem_get hk
    have h2 := (out_neg (u := (L.getD k default).t) h.pos (fun e he hf => by
      obtain ⟨j, hj, rfl⟩ := List.getElem_of_mem he
      rcases Int.lt_or_le 0 (L[j]).r with h9 | h9
      · exact absurd ⟨j, hj, by simpa [List.getD, hj] using hf, by simpa [List.getD, hj] using h9⟩ h1
      · exact h9)).2 _ hm rfl (h.ne _ hm)
    rw [h.kp _ (h.nodes _ hm).2] at h2
    omega
/-- A walk along drains in which something runs, from new nodes. -/
structure Wk (L : List E) (ks : List Nat) : Prop where
  pt : ∃ u v, Pt L u ks v
  run : ∀ k ∈ ks, 0 < (L.getD k default).r
  new : (ks.map fun k => (L.getD k default).f).Nodup
theorem Wk.nodup {L : List E} {ks : List Nat} (h : Wk L ks) : ks.Nodup := (List.pairwise_map.1 h.new).imp fun hne e => hne (by rw [e])
theorem nodup_lt : ∀ {n : Nat} {l : List Nat}, l.Nodup → (∀ x ∈ l, x < n) → l.length ≤ n := by
  intro n l h1 h2
  have := List.Nodup.length_le_of_subset h1 (l₂ := List.range n) (fun x hx => List.mem_range.2 (h2 x hx))
  simpa using this
theorem Wk.len {n : Nat} {L : List E} {ks : List Nat} (h : Wk L ks) (hc : Cir n L) : ks.length ≤ n := by
  have := nodup_lt (n := n) h.new (fun x hx => by
    obtain ⟨k, hk, rfl⟩ := List.mem_map.1 hx
    obtain ⟨u, v, hp⟩ := h.pt
    exact (hc.nodes _ (mem_get (hp.lt k hk))).1)
  simpa using this
theorem Wk.one {L : List E} {k : Nat} (hk : k < L.length) (hr : 0 < (L.getD k default).r) : Wk L [k] := ⟨⟨_, _, hk, rfl, rfl⟩, fun j hj => by rw [List.mem_singleton.1 hj]; exact hr, by simp⟩
theorem Wk.more {L : List E} {ks : List Nat} (h : Wk L ks) (h0 : 0 < ks.length) {k : Nat} (hk : k < L.length) (hr : 0 < (L.getD k default).r) (hf : (L.getD k default).f = (L.getD (ks.getD (ks.length - 1) 0) default).t)
    (hn : ∀ j ∈ ks, (L.getD j default).f ≠ (L.getD (ks.getD (ks.length - 1) 0) default).t) : Wk L (ks ++ [k]) := by
  obtain ⟨u, v, hp⟩ := h.pt
  have hl := hp.last h0
  refine ⟨⟨u, _, Pt.snoc (by rw [hf, hl]; exact hp) hk⟩, fun j hj => ?_, ?_⟩
  · rcases List.mem_append.1 hj with h1 | h1
    · exact h.run j h1
    · rw [List.mem_singleton.1 h1]; exact hr
  · rw [List.map_append]
    refine List.nodup_append.2 ⟨h.new, by simp, fun a ha b hb => ?_⟩
    obtain ⟨j, hj, rfl⟩ := List.mem_map.1 ha
    simp only [List.map_cons, List.map_nil, List.mem_singleton] at hb
    rw [hb, hf]; exact hn j hj
/-- A round along drains in which something runs. -/
structure Rnd (L : List E) (ks : List Nat) : Prop where
  wk : Wk L ks
  ne : 0 < ks.length
  cl : ∃ u, Pt L u ks u
theorem Wk.round {L : List E} {ks : List Nat} (h : Wk L ks) {i : Nat} (hi : i < ks.length) (hf : (L.getD (ks.getD i 0) default).f = (L.getD (ks.getD (ks.length - 1) 0) default).t) : Rnd L (ks.drop i) := by
  obtain ⟨u, v, hp⟩ := h.pt
  have hl := hp.last (by omega)
  have hd : Pt L (L.getD (ks.getD i 0) default).f (ks.drop i) v := by
    rw [← List.take_append_drop i ks] at hp
    obtain ⟨x, h1, h2⟩ := Pt.app.1 hp
    have := h2.first (by rw [List.length_drop]; omega)
    have e : (ks.drop i).getD 0 0 = ks.getD i 0 := by simp [List.getD]
    rw [e] at this
    rw [this]; exact h2
  refine ⟨⟨⟨_, _, hd⟩, fun k hk => h.run k (List.mem_of_mem_drop hk), ?_⟩, by rw [List.length_drop]; omega, ⟨v, by rw [hf, hl] at hd; exact hd⟩⟩
  rw [List.map_drop]; exact h.new.sublist (List.drop_sublist _ _)
/-- The least that runs in some drains. -/
def mnR (L : List E) (ks : List Nat) : Int := ks.foldl (fun a k => min a (L.getD k default).r) (L.getD (ks.getD 0 0) default).r
theorem fmin_le (L : List E) : ∀ (ks : List Nat) (a : Int), ks.foldl (fun a k => min a (L.getD k default).r) a ≤ a ∧ ∀ k ∈ ks, ks.foldl (fun a k => min a (L.getD k default).r) a ≤ (L.getD k default).r
  | [], a => ⟨Int.le_refl _, fun k hk => absurd hk List.not_mem_nil⟩
  | j :: ks, a => by
    obtain ⟨h1, h2⟩ := fmin_le L ks (min a (L.getD j default).r)
    simp only [List.foldl_cons]
    refine ⟨by omega, fun k hk => ?_⟩
    rcases List.mem_cons.1 hk with rfl | hk
    · omega
    · exact h2 k hk
theorem fmin_is (L : List E) : ∀ (ks : List Nat) (a : Int), ks.foldl (fun a k => min a (L.getD k default).r) a = a ∨ ∃ k ∈ ks, ks.foldl (fun a k => min a (L.getD k default).r) a = (L.getD k default).r
  | [], a => .inl rfl
  | j :: ks, a => by
    simp only [List.foldl_cons]
    rcases fmin_is L ks (min a (L.getD j default).r) with h | ⟨k, hk, h⟩
    · rw [h]
      rcases Int.le_total a (L.getD j default).r with h9 | h9
      · left; omega
      · right; exact ⟨j, List.mem_cons_self, by omega⟩
    · right; exact ⟨k, List.mem_cons_of_mem _ hk, h⟩
theorem mnR_le {L : List E} {ks : List Nat} {k : Nat} (hk : k ∈ ks) : mnR L ks ≤ (L.getD k default).r := (fmin_le L ks _).2 k hk
theorem mnR_is {L : List E} {ks : List Nat} (h0 : 0 < ks.length) : ∃ k ∈ ks, mnR L ks = (L.getD k default).r := by
  rcases fmin_is L ks (L.getD (ks.getD 0 0) default).r with h | h
  · exact ⟨ks.getD 0 0, by simp [List.getD, h0], h⟩
  · exact h
theorem Rnd.mn {L : List E} {ks : List Nat} (h : Rnd L ks) : 0 < mnR L ks := by
  obtain ⟨k, hk, e⟩ := mnR_is (L := L) h.ne
  rw [e]; exact h.wk.run k hk
theorem Rnd.lt {L : List E} {ks : List Nat} (h : Rnd L ks) : ∀ k ∈ ks, k < L.length := by obtain ⟨u, hu⟩ := h.cl; exact hu.lt
theorem Cir.tak {n : Nat} {L : List E} (h : Cir n L) {ks : List Nat} (hr : Rnd L ks) : Cir n (Fl.tak (mnR L ks) L ks) := by
  have hl := tak_len (mnR L ks) ks L
  have hs := tak_same (mnR L ks) ks L
  have hat : ∀ e ∈ Fl.tak (mnR L ks) L ks, ∃ j, j < L.length ∧ e = (Fl.tak (mnR L ks) L ks).getD j default := fun e he => by
    obtain ⟨j, hj, rfl⟩ := List.getElem_of_mem he
    exact ⟨j, by omega, by simp [List.getD, hj]⟩
  obtain ⟨u, hu⟩ := hr.cl
  refine ⟨fun e he => ?_, fun e he => ?_, fun e he => ?_, fun x hx => ?_⟩
  · obtain ⟨j, hj, rfl⟩ := hat e he
    rw [(hs j).1, (hs j).2.1]; exact h.nodes _ (mem_get hj)
  · obtain ⟨j, hj, rfl⟩ := hat e he
    rw [(hs j).1, (hs j).2.1]; exact h.ne _ (mem_get hj)
  · obtain ⟨j, hj, rfl⟩ := hat e he
    rw [tak_r _ _ _ _ hr.wk.nodup hr.lt]
    have := h.pos _ (mem_get hj)
    split
    · rename_i hk; have := mnR_le (L := L) hk; omega
    · omega
  · rw [out_tak _ x hu, h.kp x hx]; omega
/-- How many drains something runs in. -/
def cntR (L : List E) : Nat := (L.filter fun e => decide (0 < e.r)).length
theorem cntR_len (L : List E) : cntR L ≤ L.length := List.length_filter_le _ _
theorem cntR_mono : ∀ {L M : List E}, M.length = L.length → (∀ j, (M.getD j default).r ≤ (L.getD j default).r) → cntR M ≤ cntR L
  | [], [], _, _ => Nat.le_refl _
  | e :: l, x :: m, hl, h => by
    have ih := cntR_mono (L := l) (M := m) (by simpa using hl) fun j => by have := h (j + 1); simpa using this
    have h0 := h 0
    simp only [List.getD_cons_zero] at h0
    unfold cntR at ih ⊢
    simp only [List.filter_cons]
    by_cases e1 : 0 < x.r
    · rw [if_pos (decide_eq_true e1), if_pos (decide_eq_true (show 0 < e.r by omega))]; simpa using ih
    · rw [if_neg (by simpa using e1)]
      split
      · rw [List.length_cons]; omega
      · exact ih
theorem cntR_less : ∀ {L M : List E} {k : Nat}, M.length = L.length → (∀ j, (M.getD j default).r ≤ (L.getD j default).r) → k < L.length → 0 < (L.getD k default).r → (M.getD k default).r ≤ 0 → cntR M < cntR L
  | [], [], _, _, _, h, _, _ => absurd h (Nat.not_lt_zero _)
  | e :: l, x :: m, 0, hl, h, _, h1, h2 => by
    have ih := cntR_mono (L := l) (M := m) (by simpa using hl) fun j => by have := h (j + 1); simpa using this
    simp only [List.getD_cons_zero] at h1 h2
    unfold cntR at ih ⊢
    simp only [List.filter_cons]
    rw [if_pos (decide_eq_true h1), if_neg (by simp; omega), List.length_cons]; omega
  | e :: l, x :: m, k + 1, hl, h, hk, h1, h2 => by
    have ih := cntR_less (L := l) (M := m) (k := k) (by simpa using hl) (fun j => by have := h (j + 1); simpa using this) (by simpa using hk) (by simpa using h1) (by simpa using h2)
    have h0 := h 0
    simp only [List.getD_cons_zero] at h0
    unfold cntR at ih ⊢
    simp only [List.filter_cons]
    by_cases e1 : 0 < x.r
    · rw [if_pos (decide_eq_true e1), if_pos (decide_eq_true (show 0 < e.r by omega))]; simpa using ih
    · rw [if_neg (by simpa using e1)]
      split
      · rw [List.length_cons]; omega
      · exact ih
theorem Rnd.less {L : List E} {ks : List Nat} (h : Rnd L ks) : cntR (Fl.tak (mnR L ks) L ks) < cntR L := by
  obtain ⟨k, hk, e⟩ := mnR_is (L := L) h.ne
  have h0 := h.mn
  refine cntR_less (k := k) (tak_len _ _ _) (fun j => ?_) (h.lt k hk) (h.wk.run k hk) ?_
  · rw [tak_r _ _ _ _ h.wk.nodup h.lt]; split <;> omega
  · rw [tak_r _ _ _ _ h.wk.nodup h.lt, if_pos hk, e]; omega
/-- A round that has a drain m, begun behind it. -/
theorem Rnd.cut {L : List E} {A B : List Nat} {m : Nat} (h : Rnd L (A ++ m :: B)) : Pt L (L.getD m default).t (B ++ A) (L.getD m default).f := by
  obtain ⟨u, hu⟩ := h.cl
  obtain ⟨x, h1, _, h3, h4⟩ := Pt.app.1 hu
  rw [h3] at h1
  exact Pt.app.2 ⟨u, h4, h1⟩
end Go.Fl
