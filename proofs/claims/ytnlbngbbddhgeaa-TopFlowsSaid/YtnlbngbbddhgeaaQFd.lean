/- The search: what it knows. -/
import Derived.Test.YtnlbngbbddhgeaaQFc
import Derived.Test.YtnlbngbbddhgeaaQDk
import Derived.Test.YtnlbngbbddhgeaaQDf
set_option linter.unusedVariables false
set_option linter.unusedSimpArgs false
namespace Go.Proofs.Ytnlbngbbddhgeaa
open Go.Sx Go.RowKit

def vals (ks : List Nat) : List Value := ks.map fun k : Nat => .int .i64 k
theorem vals_len (ks : List Nat) : (vals ks).length = ks.length := by simp [vals]
theorem vals_app (ks : List Nat) (k : Nat) : vals (ks ++ [k]) = vals ks ++ [.int .i64 k] := by simp [vals]
structure Nt (L : List Fl.E) (N : Nat) : Prop where
  len : L.length ≤ 16
  n8 : N ≤ 8
  bd : ∀ e ∈ L, 0 ≤ e.r ∧ e.r ≤ e.w ∧ e.w ≤ 20
  ne : ∀ e ∈ L, e.f ≠ e.t
  nd : ∀ e ∈ L, e.f < N ∧ e.t < N
def sn (seen : List Bool) (v : Nat) : Bool := seen.getD v false
theorem sn_set {seen : List Bool} {u : Nat} (hu : u < seen.length) (v : Nat) : sn (seen.set u true) v = (decide (v = u) || sn seen v) := by
  unfold sn
  by_cases e : v = u
  · subst e; simp [List.getD, hu]
  · simp [List.getD, List.getElem?_set, e, Ne.symm e]
def un (seen : List Bool) : Nat := seen.count false
theorem un_set : ∀ {seen : List Bool} {u : Nat}, u < seen.length → sn seen u = false → un (seen.set u true) + 1 = un seen
  | [], _, h, _ => by simp at h
  | b :: l, 0, _, h => by
    have : b = false := h
    subst this
    simp [un]
  | b :: l, u + 1, h, h2 => by
    have ih := un_set (seen := l) (u := u) (by simpa using h) h2
    simp only [un, List.set_cons_succ, List.count_cons] at ih ⊢
    omega
theorem un_mono : ∀ {a b : List Bool}, a.length = b.length → (∀ v, sn a v = true → sn b v = true) → un b ≤ un a
  | [], [], _, _ => Nat.le_refl _
  | x :: a, y :: b, hl, h => by
    have h0 := h 0
    have ih := un_mono (a := a) (b := b) (by simpa using hl) fun v hv => h (v + 1) hv
    simp only [un, List.count_cons] at ih ⊢
    have : x = true → y = true := h0
    cases x <;> cases y <;> simp_all <;> omega
/-- A way from s to u whose nodes have been seen. -/
structure Pth (L : List Fl.E) (s : Nat) (ks : List Nat) (u : Nat) (am : Int) (seen : List Bool) : Prop where
  way : Fl.Way L am s ks u
  am : 1 ≤ am ∧ am ≤ 20
  ends : ∀ j ∈ ks, ∀ v, (v = (L.getD j default).f ∨ v = (L.getD j default).t) → sn seen v = true ∨ v = u
  cnt : ks.length + un seen ≤ seen.length
theorem Way_mono {L : List Fl.E} {a a' : Int} (h : a' ≤ a) : ∀ {ks : List Nat} {u v : Nat}, Fl.Way L a u ks v → Fl.Way L a' u ks v
  | [], _, _, hw => hw
  | k :: ks, u, v, ⟨h1, h2, h3, h4, h5⟩ => ⟨h1, h2, h3, by omega, Way_mono h h5⟩
theorem Way_snoc {L : List Fl.E} {a : Int} {k : Nat} (hk : k < L.length) : ∀ {ks : List Nat} {s u : Nat}, Fl.Way L a s ks u → k ∉ ks → (u = L[k].f ∨ u = L[k].t) → a ≤ (Fl.onw L[k] u).2 → Fl.Way L a s (ks ++ [k]) (Fl.onw L[k] u).1
  | [], s, u, hw, _, h1, h2 => by
    have : s = u := hw
    subst this
    exact ⟨List.not_mem_nil, hk, h1, h2, rfl⟩
  | j :: ks, s, u, ⟨h1, h2, h3, h4, h5⟩, hn, g1, g2 => by
    refine ⟨?_, h2, h3, h4, Way_snoc hk h5 (fun h => hn (List.mem_cons_of_mem _ h)) g1 g2⟩
    intro hm
    rcases List.mem_append.1 hm with h | h
    · exact h1 h
    · have : j = k := by simpa using h
      exact hn (by rw [this]; exact List.mem_cons_self)
theorem onw_end {e : Fl.E} {u : Nat} (h : 0 < (Fl.onw e u).2) : (u = e.f ∨ u = e.t) ∧ ((Fl.onw e u).1 = e.f ∨ (Fl.onw e u).1 = e.t) ∧ (∀ v, v = e.f ∨ v = e.t → v = u ∨ v = (Fl.onw e u).1) := by
  unfold Fl.onw at h ⊢
  split
  · rename_i h1; exact ⟨.inl h1, .inr rfl, fun v hv => hv.elim (fun e => .inl (e.trans h1.symm)) .inr⟩
  · split
    · rename_i h1 h2; exact ⟨.inr h2, .inl rfl, fun v hv => hv.elim .inr (fun e => .inl (e.trans h2.symm))⟩
    · rename_i h1 h2; rw [if_neg h1, if_neg h2] at h; simp at h
/-- One drain further, to a node that has not been seen. -/
theorem Pth.step {L : List Fl.E} {N s u k : Nat} {ks : List Nat} {am : Int} {seen seen2 : List Bool} (hn : Nt L N) (hl : seen.length = N) (hl2 : seen2.length = N) (h : Pth L s ks u am seen) (hu : u < N) (hus : sn seen u = false) (hk : k < L.length)
    (hm : ∀ v, sn (seen.set u true) v = true → sn seen2 v = true) (hr : 0 < (Fl.onw (L.getD k default) u).2) (hs : sn seen2 (Fl.onw (L.getD k default) u).1 = false) :
    Pth L s (ks ++ [k]) (Fl.onw (L.getD k default) u).1 (min am (Fl.onw (L.getD k default) u).2) seen2 := by
  have hg := getD_get hk
  have he := onw_end hr
  have hset := fun v => sn_set (seen := seen) (u := u) (by omega) v
  have hmem := hn.bd _ (List.getElem_mem hk)
  have hr20 : (Fl.onw (L.getD k default) u).2 ≤ 20 := by
    rw [hg]; unfold Fl.onw; split
    · simp only; omega
    · split <;> simp only <;> omega
  have hold : ∀ j ∈ ks, ∀ v, (v = (L.getD j default).f ∨ v = (L.getD j default).t) → sn seen2 v = true := fun j hj v hv => by
    refine hm v ?_
    rw [hset]
    rcases h.ends j hj v hv with e | e
    · rw [e, Bool.or_true]
    · rw [decide_eq_true e, Bool.true_or]
  have hku : sn seen2 u = true := hm u (by rw [hset, decide_eq_true rfl, Bool.true_or])
  refine ⟨?_, ?_, ?_, ?_⟩
  · have hnk : k ∉ ks := fun hj => by
      have := hold k hj _ he.2.1
      rw [hs] at this; cases this
    rw [hg] at he hr ⊢
    exact Way_snoc hk (Way_mono (Int.min_le_left _ _) h.way) hnk he.1 (Int.min_le_right _ _)
  · have := h.am; omega
  · intro j hj v hv
    rcases List.mem_append.1 hj with hj | hj
    · exact .inl (hold j hj v hv)
    · have : j = k := by simpa using hj
      subst this
      rcases he.2.2 v hv with e | e
      · rw [e]; exact .inl hku
      · exact .inr e
  · have h1 := h.cnt
    have h2 := un_set (seen := seen) (u := u) (by omega) hus
    have h3 := un_mono (a := seen.set u true) (b := seen2) (by rw [List.length_set]; omega) hm
    rw [List.length_append, List.length_singleton]; omega
/-- Nothing leads out of a set. -/
def Cl (L : List Fl.E) (C : Nat → Bool) : Prop := ∀ v, C v = true → ∀ j, j < L.length → 0 < (Fl.onw (L.getD j default) v).2 → C (Fl.onw (L.getD j default) v).1 = true
/-- The search so far from u: what was seen stays so, the goal is not, and each node that is new leads on to seen ones only; of u itself the first k drains. -/
structure Sch (L : List Fl.E) (g u : Nat) (seen seen2 : List Bool) (k : Nat) : Prop where
  len : seen2.length = seen.length
  up : ∀ v, sn (seen.set u true) v = true → sn seen2 v = true
  goal : sn seen2 g = false
  new : ∀ v, sn seen2 v = true → sn (seen.set u true) v = false → ∀ j, j < L.length → 0 < (Fl.onw (L.getD j default) v).2 → sn seen2 (Fl.onw (L.getD j default) v).1 = true
  own : ∀ j, j < k → 0 < (Fl.onw (L.getD j default) u).2 → sn seen2 (Fl.onw (L.getD j default) u).1 = true
  mn : ∀ C, Cl L C → C u = true → ∀ v, sn seen2 v = true → sn seen v = true ∨ C v = true
theorem Sch.zero {L : List Fl.E} {g u : Nat} {seen : List Bool} (hu : u < seen.length) (hg : sn seen g = false) (hne : u ≠ g) : Sch L g u seen (seen.set u true) 0 :=
  ⟨List.length_set, fun _ h => h, by rw [sn_set hu, hg, decide_eq_false (fun h => hne h.symm)]; rfl, fun v h1 h2 => absurd h2 (by rw [h1]; decide), fun j hj => absurd hj (Nat.not_lt_zero _), fun C _ hCu v hv => by
    rw [sn_set hu] at hv
    by_cases e : v = u
    · subst e; exact .inr hCu
    · rw [decide_eq_false e, Bool.false_or] at hv; exact .inl hv⟩
/-- This drain leads nowhere new. -/
theorem Sch.skip {L : List Fl.E} {g u k : Nat} {seen seen2 : List Bool} (h : Sch L g u seen seen2 k) (hk : ¬ (0 < (Fl.onw (L.getD k default) u).2 ∧ sn seen2 (Fl.onw (L.getD k default) u).1 = false)) : Sch L g u seen seen2 (k + 1) :=
  ⟨h.len, h.up, h.goal, h.new, fun j hj hr => by
    by_cases e : j = k
    · subst e
      cases hb : sn seen2 (Fl.onw (L.getD j default) u).1
      · exact absurd ⟨hr, hb⟩ hk
      · rfl
    · exact h.own j (by omega) hr, h.mn⟩
/-- What a search comes back with. -/
structure Bck (L : List Fl.E) (g u : Nat) (seen seen2 : List Bool) : Prop where
  len : seen2.length = seen.length
  up : ∀ v, sn seen v = true → sn seen2 v = true
  at_ : sn seen2 u = true
  goal : sn seen2 g = false
  new : ∀ v, sn seen2 v = true → sn seen v = false → ∀ j, j < L.length → 0 < (Fl.onw (L.getD j default) v).2 → sn seen2 (Fl.onw (L.getD j default) v).1 = true
  mn : ∀ C, Cl L C → C u = true → ∀ v, sn seen2 v = true → sn seen v = true ∨ C v = true
theorem Sch.go {L : List Fl.E} {g u k : Nat} {seen seen2 seen3 : List Bool} (h : Sch L g u seen seen2 k) (hk : k < L.length) (hr : 0 < (Fl.onw (L.getD k default) u).2) (hb : Bck L g (Fl.onw (L.getD k default) u).1 seen2 seen3) : Sch L g u seen seen3 (k + 1) :=
  ⟨hb.len.trans h.len, fun v hv => hb.up v (h.up v hv), hb.goal, fun v h1 h2 j hj hr => by
    cases h3 : sn seen2 v
    · exact hb.new v h1 h3 j hj hr
    · exact hb.up _ (h.new v h3 h2 j hj hr), fun j hj hr => by
    by_cases e : j = k
    · subst e; exact hb.at_
    · exact hb.up _ (h.own j (by omega) hr), fun C hC hCu v hv => by
    rcases hb.mn C hC (hC u hCu k hk hr) v hv with h1 | h1
    · exact h.mn C hC hCu v h1
    · exact .inr h1⟩
theorem Sch.done {L : List Fl.E} {g u k : Nat} {seen seen2 : List Bool} (hu : u < seen.length) (h : Sch L g u seen seen2 k) (hk : L.length ≤ k) : Bck L g u seen seen2 := by
  have hset := fun v => sn_set (seen := seen) (u := u) hu v
  refine ⟨h.len, fun v hv => h.up v (by rw [hset, hv, Bool.or_true]), h.up u (by rw [hset, decide_eq_true rfl, Bool.true_or]), h.goal, fun v h1 h2 j hj hr => ?_, h.mn⟩
  by_cases e : v = u
  · subst e; exact h.own j (by omega) hr
  · exact h.new v h1 (by rw [hset, h2, decide_eq_false e]; rfl) j hj hr


end Go.Proofs.Ytnlbngbbddhgeaa
