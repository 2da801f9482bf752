/- Flows and cuts: no flow is above a cut, a set that nothing can leave is a cut as wide as the flow, and what a way that is filled changes. -/
set_option linter.unusedSimpArgs false
set_option linter.unusedVariables false
namespace Go.Fl

/-- A drain, and how much runs in it. -/
structure E where
  f : Nat
  t : Nat
  w : Int
  r : Int
/-- What goes out of a node minus what comes in. -/
def out (u : Nat) : List E → Int
  | [] => 0
  | e :: l => ((if e.f = u then e.r else 0) - (if e.t = u then e.r else 0)) + out u l
/-- The same of a set of nodes. -/
def bal (S : Nat → Bool) : List E → Int
  | [] => 0
  | e :: l => ((if S e.f = true then e.r else 0) - (if S e.t = true then e.r else 0)) + bal S l
def cutW (S : Nat → Bool) : List E → Int
  | [] => 0
  | e :: l => (if S e.f = true ∧ S e.t = false then e.w else 0) + cutW S l
def sumN (g : Nat → Int) : Nat → Int
  | 0 => 0
  | n + 1 => sumN g n + g n
theorem sumN_add (g h : Nat → Int) : ∀ n, sumN (fun u => g u + h u) n = sumN g n + sumN h n
  | 0 => rfl
  | n + 1 => by simp only [sumN, sumN_add g h n]; omega
theorem sumN_zero {g : Nat → Int} : ∀ {n}, (∀ u, u < n → g u = 0) → sumN g n = 0
  | 0, _ => rfl
  | n + 1, h => by
    have h1 : sumN g n = 0 := sumN_zero fun u hu => h u (by omega)
    have h2 := h n (by omega)
    simp only [sumN]; omega
theorem sumN_one {g : Nat → Int} {v : Nat} : ∀ {n}, v < n → (∀ u, u < n → u ≠ v → g u = 0) → sumN g n = g v
  | 0, h, _ => absurd h (Nat.not_lt_zero _)
  | n + 1, h, h0 => by
    by_cases e : v = n
    · subst e
      have h1 : sumN g v = 0 := sumN_zero fun u hu => h0 u (by omega) (by omega)
      simp only [sumN]; omega
    · have h1 := sumN_one (g := g) (show v < n by omega) fun u hu hne => h0 u (by omega) hne
      have h2 := h0 n (by omega) (fun e2 => e e2.symm)
      simp only [sumN]; omega
theorem sumN_pick (S : Nat → Bool) (v : Nat) (x : Int) {n : Nat} (h : v < n) : sumN (fun u => if S u = true then (if v = u then x else 0) else 0) n = if S v = true then x else 0 := by
  rw [sumN_one h fun u hu hne => by rw [if_neg (fun e => hne e.symm : ¬ v = u)]; split <;> rfl, if_pos rfl]
theorem sumN_congr {g h : Nat → Int} : ∀ {n}, (∀ u, u < n → g u = h u) → sumN g n = sumN h n
  | 0, _ => rfl
  | n + 1, h0 => by
    have h1 : sumN g n = sumN h n := sumN_congr fun u hu => h0 u (by omega)
    have h2 := h0 n (by omega)
    simp only [sumN]; omega
/-- What goes out of a set is the sum over its nodes. -/
theorem bal_sum (S : Nat → Bool) {n : Nat} : ∀ {L : List E}, (∀ e ∈ L, e.f < n ∧ e.t < n) → sumN (fun u => if S u = true then out u L else 0) n = bal S L
  | [], _ => by simp only [out, bal]; exact sumN_zero fun u _ => by split <;> rfl
  | e :: l, h => by
    have ih := bal_sum S (n := n) fun x hx => h x (List.mem_cons_of_mem _ hx)
    have he := h e List.mem_cons_self
    have h1 := sumN_pick S e.f e.r he.1
    have h2 := sumN_pick S e.t (-e.r) he.2
    have h3 : sumN (fun u => if S u = true then out u (e :: l) else 0) n = sumN (fun u => ((if S u = true then (if e.f = u then e.r else 0) else 0) + (if S u = true then (if e.t = u then -e.r else 0) else 0)) + (if S u = true then out u l else 0)) n :=
      sumN_congr fun u _ => by simp only [out]; split <;> (repeat' split) <;> omega
    rw [h3, sumN_add, sumN_add, h1, h2, ih]
    simp only [bal]
    (repeat' split) <;> omega
structure Fit (L : List E) : Prop where
  bd : ∀ e ∈ L, 0 ≤ e.r ∧ e.r ≤ e.w
theorem bal_le (S : Nat → Bool) : ∀ {L : List E}, (∀ e ∈ L, 0 ≤ e.r ∧ e.r ≤ e.w) → bal S L ≤ cutW S L
  | [], _ => Int.le_refl _
  | e :: l, h => by
    have ih := bal_le S fun x hx => h x (List.mem_cons_of_mem _ hx)
    have he := h e List.mem_cons_self
    simp only [bal, cutW]
    cases hf : S e.f <;> cases ht : S e.t <;> simp <;> omega
/-- Nothing more can leave the set. -/
def shutS (S : Nat → Bool) (L : List E) : Prop := ∀ e ∈ L, (S e.f = true → S e.t = false → e.r = e.w) ∧ (S e.f = false → S e.t = true → e.r = 0)
theorem bal_eq (S : Nat → Bool) : ∀ {L : List E}, shutS S L → bal S L = cutW S L
  | [], _ => rfl
  | e :: l, h => by
    have ih := bal_eq S (L := l) fun x hx => h x (List.mem_cons_of_mem _ hx)
    have he := h e List.mem_cons_self
    simp only [bal, cutW, ih]
    cases hf : S e.f <;> cases ht : S e.t <;> simp
    · have := he.2 hf ht; omega
    · have := he.1 hf ht; omega
/-- A flow from s to t. -/
structure Flow (n s t : Nat) (L : List E) : Prop where
  sn : s < n
  tn : t < n
  nodes : ∀ e ∈ L, e.f < n ∧ e.t < n
  bd : ∀ e ∈ L, 0 ≤ e.r ∧ e.r ≤ e.w
  kp : ∀ u, u < n → u ≠ s → u ≠ t → out u L = 0
theorem Flow.val {n s t : Nat} {L : List E} (h : Flow n s t L) {S : Nat → Bool} (hs : S s = true) (ht : S t = false) : out s L = bal S L := by
  rw [← bal_sum S h.nodes, sumN_one h.sn fun u hu hne => ?_, if_pos hs]
  by_cases e : u = t
  · rw [e, if_neg (by rw [ht]; decide)]
  · rw [h.kp u hu hne e]; split <;> rfl
/-- No flow is above a cut. -/
theorem Flow.le {n s t : Nat} {L : List E} (h : Flow n s t L) {S : Nat → Bool} (hs : S s = true) (ht : S t = false) : out s L ≤ cutW S L := by
  rw [h.val hs ht]; exact bal_le S h.bd
/-- If nothing can leave a set, the flow is as great as it is wide. -/
theorem Flow.top {n s t : Nat} {L : List E} (h : Flow n s t L) {S : Nat → Bool} (hs : S s = true) (ht : S t = false) (hsh : shutS S L) : out s L = cutW S L := by
  rw [h.val hs ht]; exact bal_eq S hsh

/-- The widths do not look at what runs. -/
def same (a b : E) : Prop := a.f = b.f ∧ a.t = b.t ∧ a.w = b.w
theorem cutW_same (S : Nat → Bool) : ∀ {L M : List E}, L.length = M.length → (∀ k (h : k < L.length) (h' : k < M.length), same L[k] M[k]) → cutW S L = cutW S M
  | [], [], _, _ => rfl
  | a :: l, b :: m, hl, h => by
    have h0 := h 0 (by simp) (by simp)
    have ih := cutW_same S (L := l) (M := m) (by simpa using hl) fun k h1 h2 => by
      have := h (k + 1) (by simp; omega) (by simp; omega)
      simpa using this
    simp only [List.getElem_cons_zero] at h0
    simp only [cutW, ih, h0.1, h0.2.1, h0.2.2]

/-- Where a drain leads from a node, and how much more can go there. -/
def onw (e : E) (u : Nat) : Nat × Int := if u = e.f then (e.t, e.w - e.r) else if u = e.t then (e.f, e.r) else (u, 0)
/-- More goes onward from a node. -/
def snd (e : E) (u : Nat) (a : Int) : E := { e with r := if u = e.f then e.r + a else e.r - a }
theorem out_set {u v : Nat} {a : Int} : ∀ {L : List E} {k : Nat} (hk : k < L.length), L[k].f ≠ L[k].t → (u = L[k].f ∨ u = L[k].t) → out v (L.set k (snd L[k] u a)) = out v L + (if v = u then a else 0) - (if v = (onw L[k] u).1 then a else 0)
  | [], k, hk, _, _ => absurd hk (Nat.not_lt_zero _)
  | e :: l, 0, hk, hne, hu => by
    simp only [List.getElem_cons_zero] at hne hu ⊢
    simp only [List.set_cons_zero, out, snd, onw]
    by_cases h1 : u = e.f
    · subst h1
      simp only [if_true]
      by_cases h2 : v = e.f
      · subst h2
        simp only [if_true, if_neg (fun h => hne h.symm : ¬ e.t = e.f), if_neg hne]; omega
      · by_cases h3 : v = e.t
        · subst h3; simp only [if_true, if_neg hne, if_neg (fun h => hne h.symm : ¬ e.t = e.f)]; omega
        · simp only [if_neg h2, if_neg h3, if_neg (fun h => h2 h.symm : ¬ e.f = v), if_neg (fun h => h3 h.symm : ¬ e.t = v)]; omega
    · have h1' : u = e.t := hu.resolve_left h1
      subst h1'
      simp only [if_neg h1, if_true]
      by_cases h2 : v = e.f
      · subst h2
        simp only [if_true, if_neg h1, if_neg hne]; omega
      · by_cases h3 : v = e.t
        · subst h3; simp only [if_true, if_neg h2, if_neg (fun h => h2 h.symm : ¬ e.f = e.t)]; omega
        · simp only [if_neg h2, if_neg h3, if_neg (fun h => h2 h.symm : ¬ e.f = v), if_neg (fun h => h3 h.symm : ¬ e.t = v)]; omega
  | e :: l, k + 1, hk, hne, hu => by
    simp only [List.getElem_cons_succ] at hne hu ⊢
    simp only [List.set_cons_succ, out, out_set (L := l) (k := k) (by simpa using hk) hne hu]; omega
/-- A way from u to v along drains that are all different, in each of which a more can go. -/
def Way (L : List E) (a : Int) : Nat → List Nat → Nat → Prop
  | u, [], v => u = v
  | u, k :: ks, v => k ∉ ks ∧ ∃ h : k < L.length, (u = L[k].f ∨ u = L[k].t) ∧ a ≤ (onw L[k] u).2 ∧ Way L a (onw L[k] u).1 ks v
/-- The way is filled. -/
def fil (a : Int) : List E → Nat → List Nat → List E
  | L, _, [] => L
  | L, u, k :: ks => if h : k < L.length then fil a (L.set k (snd L[k] u a)) (onw L[k] u).1 ks else L
theorem Way.set {a : Int} {L : List E} {j : Nat} {e : E} : ∀ {ks : List Nat} {u v : Nat}, j ∉ ks → Way L a u ks v → Way (L.set j e) a u ks v
  | [], _, _, _, h => h
  | k :: ks, u, v, hj, ⟨h1, h2, h3, h4, h5⟩ => by
    have hjk : j ≠ k := fun e => hj (by simp [e])
    have hg : (L.set j e)[k]'(by rw [List.length_set]; exact h2) = L[k] := by rw [List.getElem_set_ne hjk]
    refine ⟨h1, by rw [List.length_set]; exact h2, ?_⟩
    rw [hg]
    exact ⟨h3, h4, Way.set (fun h => hj (List.mem_cons_of_mem _ h)) h5⟩
theorem fil_ok {a : Int} (ha : 0 ≤ a) {x : Nat} : ∀ {ks : List Nat} {L : List E} {u v : Nat}, (∀ e ∈ L, e.f ≠ e.t) → (∀ e ∈ L, 0 ≤ e.r ∧ e.r ≤ e.w) → Way L a u ks v →
    out x (fil a L u ks) = out x L + (if x = u then a else 0) - (if x = v then a else 0) ∧ (∀ e ∈ fil a L u ks, 0 ≤ e.r ∧ e.r ≤ e.w) ∧ (fil a L u ks).length = L.length ∧
      (∀ k (h : k < L.length) (h' : k < (fil a L u ks).length), same (fil a L u ks)[k] L[k])
  | [], L, u, v, _, hb, hw => by
    have : u = v := hw
    subst this
    exact ⟨by simp only [fil]; omega, hb, rfl, fun k h h' => ⟨rfl, rfl, rfl⟩⟩
  | k :: ks, L, u, v, hne, hb, ⟨h1, h2, h3, h4, h5⟩ => by
    have hm : L[k] ∈ L := List.getElem_mem h2
    have hbk := hb _ hm
    have hn : L[k].f ≠ L[k].t := hne _ hm
    have hset : ∀ e ∈ L.set k (snd L[k] u a), e.f ≠ e.t ∧ 0 ≤ e.r ∧ e.r ≤ e.w := fun e he => by
      rcases List.mem_or_eq_of_mem_set he with h | rfl
      · exact ⟨hne e h, hb e h⟩
      · refine ⟨hn, ?_⟩
        simp only [snd]
        unfold onw at h4
        by_cases e1 : u = L[k].f
        · rw [if_pos e1] at h4 ⊢; simp only at h4; omega
        · rw [if_neg e1, if_pos (h3.resolve_left e1)] at h4
          rw [if_neg e1]; simp only at h4; omega
    have ih := fil_ok ha (x := x) (ks := ks) (L := L.set k (snd L[k] u a)) (u := (onw L[k] u).1) (v := v) (fun e he => (hset e he).1) (fun e he => (hset e he).2) (h5.set h1)
    have hf : fil a L u (k :: ks) = fil a (L.set k (snd L[k] u a)) (onw L[k] u).1 ks := by rw [fil, dif_pos h2]
    rw [hf]
    obtain ⟨i1, i2, i3, i4⟩ := ih
    refine ⟨by rw [i1, out_set h2 hn h3]; omega, i2, by rw [i3, List.length_set], fun j hj hj' => ?_⟩
    have := i4 j (by rw [List.length_set]; exact hj) hj'
    rw [List.getElem_set] at this
    by_cases e : k = j
    · subst e
      rw [if_pos rfl] at this
      exact ⟨this.1, this.2.1, this.2.2⟩
    · rw [if_neg e] at this; exact this
end Go.Fl
