/- The plain bounds of a core that does not clash are the sums of walks: plain mathematics. -/
import Derived.Test.YtenalmddoljhoaaVH
import Derived.Test.YtenalmddoljhoaaVKg
set_option linter.unusedVariables false
set_option linter.unusedSimpArgs false
namespace Go.Proofs.Ytenalmddoljhoaa
open Go.Sx Go.RowKit

/-- Bounds between layers below N. -/
def InN (N : Nat) (rs : List Bd) : Prop := ∀ j, j < rs.length → eA rs j < N ∧ eB rs j < N ∧ eA rs j ≠ eB rs j ∧ (rs.getD j default).a = (eA rs j : Nat) ∧ (rs.getD j default).b = (eB rs j : Nat)
/-- k bounds, one after another, from a to b, with their sum. -/
inductive Walk (rs : List Bd) (a : Nat) : Nat → Nat → Int → Prop
  | nil : Walk rs a 0 a 0
  | step {k c : Nat} {s : Int} (j : Nat) (hw : Walk rs a k c s) (hj : j < rs.length) (he : eA rs j = c) : Walk rs a (k + 1) (eB rs j) (s + eM rs j)
theorem Walk.app {rs : List Bd} {a c b k l : Nat} {s t : Int} (h : Walk rs a k c s) (h2 : Walk rs c l b t) : Walk rs a (k + l) b (s + t) := by
  induction h2 with
  | nil => simpa using h
  | step j _ hj he ih => rw [← Nat.add_assoc, ← Int.add_assoc]; exact .step j ih hj he
theorem Walk.feas {rs : List Bd} {d : Nat → Int} (hd : ∀ j, j < rs.length → d (eB rs j) ≤ d (eA rs j) + eM rs j) {a k b : Nat} {s : Int} (h : Walk rs a k b s) : d b ≤ d a + s := by
  induction h with
  | nil => omega
  | step j _ hj he ih => have := hd j hj; rw [he] at this; omega
/-- The sums of walks are right. -/
theorem walkN_sound {N : Nat} {rs : List Bd} (hN : InN N rs) {a : Nat} (ha : a < N) : ∀ t b, (walkN N rs a t).kn.getD b false = true → ∃ k, k ≤ t ∧ Walk rs a k b ((walkN N rs a t).sm.getD b 0)
  | 0, b, h => by
    simp only [walkN, bset] at h ⊢
    split at h
    · rename_i h1
      rw [← h1.1]
      have : (List.replicate N (0 : Int)).getD a 0 = 0 := by simp [List.getD, List.getElem?_replicate, ha]
      rw [this]
      exact ⟨0, Nat.le_refl _, .nil⟩
    · exfalso
      by_cases h2 : b < N <;> simp [List.getD, List.getElem?_replicate, h2] at h
  | t + 1, b, h => by
    have ho := WOk.walk N rs a t
    have hp : ∀ k, k ≤ rs.length → ∀ b, (wpass rs (walkN N rs a t) k).kn.getD b false = true → ∃ l, l ≤ t + 1 ∧ Walk rs a l b ((wpass rs (walkN N rs a t) k).sm.getD b 0) := by
      intro k
      induction k with
      | zero =>
        intro _ b hb
        obtain ⟨l, hl, hw⟩ := walkN_sound hN ha t b hb
        exact ⟨l, by omega, hw⟩
      | succ k ih =>
        intro hk b hb
        have okp := ho.pass (rs := rs) k
        simp only [wpass] at hb ⊢
        unfold wstep at hb ⊢
        split at hb
        · rename_i h1
          rw [if_pos h1]
          simp only [bset, getD_set] at hb ⊢
          have hB := (hN k (by omega)).2.1
          by_cases e : eB rs k = b
          · rw [if_pos ⟨e, by rw [okp.sl]; exact hB⟩]
            obtain ⟨l, hl, hw⟩ := walkN_sound hN ha t _ h1.1
            refine ⟨l + 1, by omega, ?_⟩
            rw [← e]
            exact .step k hw (by omega) rfl
          · rw [if_neg (fun x => e x.1)] at hb
            rw [if_neg (fun x => e x.1)]
            exact ih (by omega) b hb
        · rename_i h1
          rw [if_neg h1]
          exact ih (by omega) b hb
    exact hp rs.length (Nat.le_refl _) b h
theorem walkN_full {N : Nat} {rs : List Bd} (hN : InN N rs) {a : Nat} (ha : a < N) {k b : Nat} {s : Int} (h : Walk rs a k b s) : ∀ t, k ≤ t → (walkN N rs a t).kn.getD b false = true ∧ (walkN N rs a t).sm.getD b 0 ≤ s := by
  have h0 : (walkN N rs a k).kn.getD b false = true ∧ (walkN N rs a k).sm.getD b 0 ≤ s := by
    induction h with
    | nil =>
      have e0 : (List.replicate N (0 : Int)).getD a 0 = 0 := by simp [List.getD, List.getElem?_replicate, ha]
      refine ⟨by show ((List.replicate _ false).set _ true).getD _ false = true; rw [bset, if_pos (And.intro (Eq.refl _) (by simpa using ha))], ?_⟩
      simp only [walkN, e0]
      exact Int.le_refl _
    | step j _ hj he ih =>
      rw [← he] at ih
      obtain ⟨h1, h2⟩ := walk_one (N := N) hj (hN j hj).2.1 ih.1
      exact ⟨h1, by omega⟩
  intro t ht
  obtain ⟨h1, h2⟩ := wle_walk N rs a t ht b h0.1
  exact ⟨h1, Int.le_trans h2 h0.2⟩
/-- A walk that comes to no layer twice. -/
inductive SW (rs : List Bd) (a : Nat) : List Nat → Nat → Int → Prop
  | nil : SW rs a [a] a 0
  | step {vs : List Nat} {c : Nat} {s : Int} (j : Nat) (hw : SW rs a vs c s) (hj : j < rs.length) (he : eA rs j = c) (hn : eB rs j ∉ vs) : SW rs a (eB rs j :: vs) (eB rs j) (s + eM rs j)
theorem SW.walk {rs : List Bd} {a b : Nat} {vs : List Nat} {s : Int} (h : SW rs a vs b s) : ∃ k, k + 1 = vs.length ∧ Walk rs a k b s := by
  induction h with
  | nil => exact ⟨0, rfl, .nil⟩
  | step j _ hj he hn ih =>
    obtain ⟨k, hk, hw⟩ := ih
    exact ⟨k + 1, by simp [hk], .step j hw hj he⟩
theorem SW.nodup {rs : List Bd} {a b : Nat} {vs : List Nat} {s : Int} (h : SW rs a vs b s) : vs.Nodup := by
  induction h with
  | nil => simp
  | step j _ hj he hn ih => exact List.nodup_cons.2 ⟨hn, ih⟩
theorem SW.lt {N : Nat} {rs : List Bd} (hN : InN N rs) {a b : Nat} (ha : a < N) {vs : List Nat} {s : Int} (h : SW rs a vs b s) : ∀ v ∈ vs, v < N := by
  induction h with
  | nil => simpa using ha
  | step j _ hj he hn ih =>
    intro v hv
    rcases List.mem_cons.1 hv with rfl | hv
    · exact (hN j hj).2.1
    · exact ih v hv
theorem SW.cut {rs : List Bd} {a c v : Nat} {vs : List Nat} {s : Int} (h : SW rs a vs c s) (hv : v ∈ vs) : ∃ vs' s' s'' k, SW rs a vs' v s' ∧ Walk rs v k c s'' ∧ s = s' + s'' := by
  induction h with
  | nil =>
    rw [List.mem_singleton.1 hv]
    exact ⟨[a], 0, 0, 0, .nil, .nil, rfl⟩
  | @step vs0 c0 s0 j hw hj he hn ih =>
    rcases List.mem_cons.1 hv with rfl | hv
    · exact ⟨_, _, 0, 0, .step j hw hj he hn, .nil, by omega⟩
    · obtain ⟨vs', s', s'', k, h1, h2, h3⟩ := ih hv
      exact ⟨vs', s', s'' + eM rs j, k + 1, h1, .step j h2 hj he, by omega⟩
theorem Walk.simple {rs : List Bd} {d : Nat → Int} (hd : ∀ j, j < rs.length → d (eB rs j) ≤ d (eA rs j) + eM rs j) {a k b : Nat} {s : Int} (h : Walk rs a k b s) : ∃ vs s', SW rs a vs b s' ∧ s' ≤ s := by
  induction h with
  | nil => exact ⟨[a], 0, .nil, Int.le_refl _⟩
  | @step k c s j hw hj he ih =>
    obtain ⟨vs, s', h1, h2⟩ := ih
    by_cases hv : eB rs j ∈ vs
    · obtain ⟨vs', s1, s2, k2, g1, g2, g3⟩ := h1.cut hv
      have g4 := (Walk.step j g2 hj he).feas hd
      exact ⟨vs', s1, g1, by omega⟩
    · exact ⟨_, _, .step j h1 hj he hv, by omega⟩
theorem nodup_len : ∀ (N : Nat) (l : List Nat), l.Nodup → (∀ x ∈ l, x < N) → l.length ≤ N
  | 0, [], _, _ => Nat.le_refl _
  | 0, x :: l, _, h => absurd (h x (.head _)) (Nat.not_lt_zero _)
  | N + 1, l, hn, h => by
    by_cases hm : N ∈ l
    · have h1 := nodup_len N (l.erase N) (hn.erase N) (fun x hx => by
        have h2 := (hn.mem_erase_iff).1 hx
        have := h x h2.2
        have := h2.1
        omega)
      rw [List.length_erase_of_mem hm] at h1
      omega
    · have h1 := nodup_len N l hn (fun x hx => by
        have := h x hx
        have : x ≠ N := fun e => hm (e ▸ hx)
        omega)
      omega
/-- With dates, walks of so many bounds as there are layers are enough. -/
theorem Walk.short {N : Nat} {rs : List Bd} (hN : InN N rs) {d : Nat → Int} (hd : ∀ j, j < rs.length → d (eB rs j) ≤ d (eA rs j) + eM rs j) {a k b : Nat} {s : Int} (ha : a < N) (h : Walk rs a k b s) : ∃ l s', l < N ∧ Walk rs a l b s' ∧ s' ≤ s := by
  obtain ⟨vs, s', h1, h2⟩ := h.simple hd
  obtain ⟨l, hl, hw⟩ := h1.walk
  have := nodup_len N vs h1.nodup (h1.lt hN ha)
  exact ⟨l, s', by omega, hw, h2⟩
theorem walkN_min {N : Nat} {rs : List Bd} (hN : InN N rs) {d : Nat → Int} (hd : ∀ j, j < rs.length → d (eB rs j) ≤ d (eA rs j) + eM rs j) {a k b : Nat} {s : Int} (ha : a < N) (h : Walk rs a k b s) : (walkN N rs a N).kn.getD b false = true ∧ (walkN N rs a N).sm.getD b 0 ≤ s := by
  obtain ⟨l, s', h1, h2, h3⟩ := h.short hN hd ha
  obtain ⟨g1, g2⟩ := walkN_full hN ha h2 N (by omega)
  exact ⟨g1, by omega⟩
/-- Of bounds beside each other the tightest one stays. -/
theorem ded_has {l : List Bd} (hs : l.Pairwise LeB) : ∀ k, k ≤ l.length → ∀ j, j < k → ∃ r ∈ dedK l k, r.a = (l.getD j default).a ∧ r.b = (l.getD j default).b ∧ r.m ≤ (l.getD j default).m
  | 0, _, j, hj => absurd hj (Nat.not_lt_zero _)
  | k + 1, hk, j, hj => by
    have gt : ∀ i, i < l.length → l.getD i default = l[i]! := fun i hi => by simp [List.getD, hi]
    rw [dedK]
    by_cases hjk : j < k
    · obtain ⟨r, hr, h1⟩ := ded_has hs k (by omega) j hjk
      split
      · exact ⟨r, hr, h1⟩
      · exact ⟨r, List.mem_append_left _ hr, h1⟩
    · have e : j = k := by omega
      subst e
      split
      · rename_i h
        have hb := of_decide_eq_true h.2
        obtain ⟨r, hr, h1, h2, h3⟩ := ded_has hs j (by omega) (j - 1) (by omega)
        refine ⟨r, hr, by rw [h1, hb.1], by rw [h2, hb.2], ?_⟩
        have h4 : LeB (l.getD (j - 1) default) (l.getD j default) := by
          have h5 := List.pairwise_iff_getElem.1 hs (j - 1) j (by omega) (by omega) (by omega)
          have e1 : l.getD (j - 1) default = l[j - 1] := by simp [List.getD, show j - 1 < l.length by omega]
          have e2 : l.getD j default = l[j] := by simp [List.getD, show j < l.length by omega]
          rw [e1, e2]; exact h5
        unfold LeB lexB at h4
        omega
      · exact ⟨_, List.mem_append_right _ (.head _), rfl, rfl, Int.le_refl _⟩
theorem tight_has {l : List Bd} {r : Bd} (h : r ∈ l) : ∃ s ∈ tight l, s.a = r.a ∧ s.b = r.b ∧ s.m ≤ r.m := by
  have h1 := (srtB_perm l).mem_iff.2 h
  obtain ⟨j, hj, rfl⟩ := List.getElem_of_mem h1
  obtain ⟨s, hs, h2⟩ := ded_has (srtB_sorted l) _ (Nat.le_refl _) j hj
  have e : (srtB l).getD j default = (srtB l)[j] := by simp [List.getD, hj]
  rw [e] at h2
  exact ⟨s, hs, h2⟩
theorem sumG_has {r s : Bd} : ∀ {l : List Bd}, s ∈ l → goesB r s = true → addB r s ∈ sumG r l
  | t :: l, h, hg => by
    unfold sumG
    rcases List.mem_cons.1 h with rfl | h
    · rw [if_pos hg]; exact .head _
    · split
      · exact .tail _ (sumG_has h hg)
      · exact sumG_has h hg
theorem sums_has {l1 l2 : List Bd} {r s : Bd} (hr : r ∈ l1) (hs : s ∈ l2) (hg : goesB r s = true) : addB r s ∈ sumsB l1 l2 := List.mem_flatMap.2 ⟨r, hr, sumG_has hs hg⟩
theorem rs_idx {rs : List Bd} {r : Bd} (h : r ∈ rs) : ∃ j, j < rs.length ∧ rs.getD j default = r := by
  obtain ⟨j, hj, rfl⟩ := List.getElem_of_mem h
  exact ⟨j, hj, by simp [List.getD, hj]⟩
theorem idx_mem {rs : List Bd} {j : Nat} (h : j < rs.length) : rs.getD j default ∈ rs := by
  have e : rs.getD j default = rs[j] := by simp [List.getD, h]
  rw [e]; exact List.getElem_mem _
/-- Plain bounds are sums of walks. -/
theorem plainN_sound {N : Nat} {rs : List Bd} (hN : InN N rs) : ∀ i, ∀ r ∈ plainN (tight rs) i, ∃ a b k : Nat, r.a = a ∧ r.b = b ∧ a < N ∧ b < N ∧ a ≠ b ∧ Walk rs a k b r.m
  | 0, r, h => by
    obtain ⟨j, hj, rfl⟩ := rs_idx (tight_mem h)
    obtain ⟨h1, h2, h3, h4, h5⟩ := hN j hj
    refine ⟨_, _, 1, h4, h5, h1, h2, h3, ?_⟩
    have := Walk.step (rs := rs) (a := eA rs j) j .nil hj rfl
    rw [Int.zero_add] at this
    exact this
  | i + 1, r, h => by
    rcases List.mem_append.1 (tight_mem h) with h1 | h1
    · exact plainN_sound hN i r h1
    · obtain ⟨u, hu, v, hv, hgo, rfl⟩ := sums_mem h1
      obtain ⟨a, c, k, e1, e2, ha, hc, _, hw⟩ := plainN_sound hN i u hu
      obtain ⟨j, hj, rfl⟩ := rs_idx (tight_mem hv)
      obtain ⟨h1, h2, h3, h4, h5⟩ := hN j hj
      have hg := of_decide_eq_true hgo
      have hc2 : eA rs j = c := by have := hg.1; omega
      have hab : a ≠ eB rs j := by have := hg.2; omega
      exact ⟨a, eB rs j, k + 1, e1, h5, ha, h2, hab, .step j hw hj hc2⟩
theorem plainN_grow {g : List Bd} {i : Nat} {r : Bd} (h : r ∈ plainN g i) : ∃ s ∈ plainN g (i + 1), s.a = r.a ∧ s.b = r.b ∧ s.m ≤ r.m := tight_has (List.mem_append_left _ h)
/-- Each walk has a plain bound that is at least as tight. -/
theorem plainN_full {N : Nat} {rs : List Bd} (hN : InN N rs) {d : Nat → Int} (hd : ∀ j, j < rs.length → d (eB rs j) ≤ d (eA rs j) + eM rs j) {a k b : Nat} {s : Int} (h : Walk rs a k b s) : ∀ i, k ≤ i + 1 → a ≠ b → ∃ r ∈ plainN (tight rs) i, r.a = (a : Nat) ∧ r.b = (b : Nat) ∧ r.m ≤ s := by
  induction h with
  | nil => intro i _ hab; exact absurd rfl hab
  | @step k c s j hw hj he ih =>
    intro i hi hab
    obtain ⟨h1, h2, h3, h4, h5⟩ := hN j hj
    have one : ∀ i, ∃ r ∈ plainN (tight rs) i, r.a = (eA rs j : Nat) ∧ r.b = (eB rs j : Nat) ∧ r.m ≤ eM rs j := by
      intro i
      induction i with
      | zero =>
        obtain ⟨r, hr, e1, e2, e3⟩ := tight_has (idx_mem hj)
        exact ⟨r, hr, e1.trans h4, e2.trans h5, e3⟩
      | succ i ih2 =>
        obtain ⟨r, hr, e1, e2, e3⟩ := ih2
        obtain ⟨r2, hr2, f1, f2, f3⟩ := plainN_grow hr
        exact ⟨r2, hr2, f1.trans e1, f2.trans e2, by omega⟩
    by_cases hac : a = c
    · obtain ⟨r, hr, e1, e2, e3⟩ := one i
      have h6 := hw.feas hd
      rw [← hac] at h6
      exact ⟨r, hr, by rw [e1, he, ← hac], e2, by omega⟩
    · cases i with
      | zero =>
        have : k = 0 := by omega
        subst this
        cases hw
        exact absurd rfl hac
      | succ i =>
        obtain ⟨r, hr, e1, e2, e3⟩ := ih i (by omega) hac
        obtain ⟨g, hg, f1, f2, f3⟩ := tight_has (idx_mem hj)
        have hgo : goesB r g = true := decide_eq_true ⟨by omega, by omega⟩
        obtain ⟨t, ht, q1, q2, q3⟩ := tight_has (List.mem_append_right (plainN (tight rs) i) (sums_has hr hg hgo))
        simp only [addB] at q1 q2 q3
        exact ⟨t, ht, by omega, by omega, by show t.m ≤ s + (rs.getD j default).m; omega⟩
theorem plainN_asc {rs : List Bd} (hm : ∀ r ∈ rs, Sm 10000 r) : ∀ i, (plainN (tight rs) i).Pairwise (fun r s => key r < key s)
  | 0 => (ded_keys (srtB_sorted rs) (fun r hr => hm r ((srtB_perm rs).mem_iff.1 hr)) _ (Nat.le_refl _)).1
  | i + 1 => by
    have hg : ∀ r ∈ tight rs, Sm 10000 r := fun r hr => hm r (tight_mem hr)
    have h1 : ∀ r ∈ plainN (tight rs) i ++ sumsB (plainN (tight rs) i) (tight rs), Sm (10000 * ((i : Int) + 2)) r := by
      intro r hr
      rcases List.mem_append.1 hr with hr | hr
      · have := plainN_sm hg i r hr
        have h2 := this.m
        exact ⟨this.a, this.b, by omega⟩
      · obtain ⟨u, hu, v, hv, _, rfl⟩ := sums_mem hr
        have a1 := plainN_sm hg i u hu
        have a2 := hg v hv
        have m1 := a1.m; have m2 := a2.m
        exact ⟨a1.a, a2.b, by simp only [addB]; omega⟩
    exact (ded_keys (srtB_sorted _) (fun r hr => h1 r ((srtB_perm _).mem_iff.1 hr)) _ (Nat.le_refl _)).1
theorem asc_eq : ∀ {l m : List Bd}, l.Pairwise (fun r s => key r < key s) → m.Pairwise (fun r s => key r < key s) → (∀ r, r ∈ l ↔ r ∈ m) → l = m := by
  intro l m h1 h2 h
  have n1 : l.Nodup := h1.imp (fun {a b} hab e => by rw [e] at hab; omega)
  have n2 : m.Nodup := h2.imp (fun {a b} hab e => by rw [e] at hab; omega)
  refine List.Perm.eq_of_pairwise (le := fun r s => key r < key s) (fun a b _ _ x y => by omega) h1 h2 ?_
  exact (List.perm_ext_iff_of_nodup n1 n2).2 h
def wS (N : Nat) (rs : List Bd) (a b : Nat) : Int := (walkN N rs a N).sm.getD b 0
def wK (N : Nat) (rs : List Bd) (a b : Nat) : Bool := (walkN N rs a N).kn.getD b false
theorem key_inj {B : Int} {r s : Bd} (hr : Sm B r) (hs : Sm B s) (h : key r = key s) : r.a = s.a ∧ r.b = s.b := by
  have h1 := hr.a; have h2 := hr.b; have h3 := hs.a; have h4 := hs.b
  unfold key at h
  omega
theorem asc_one {l : List Bd} (h : l.Pairwise (fun r s => key r < key s)) {r s : Bd} (hr : r ∈ l) (hs : s ∈ l) (e : key r = key s) : r = s := by
  obtain ⟨i, hi, rfl⟩ := List.getElem_of_mem hr
  obtain ⟨j, hj, rfl⟩ := List.getElem_of_mem hs
  rw [List.pairwise_iff_getElem] at h
  rcases Nat.lt_trichotomy i j with h1 | h1 | h1
  · have := h i j hi hj h1; omega
  · subst h1; rfl
  · have := h j i hj hi h1; omega
theorem plain_iff {N : Nat} {rs : List Bd} (hN8 : N ≤ 8) (hN : InN N rs) (hm : ∀ r ∈ rs, Sm 10000 r) {d : Nat → Int} (hd : ∀ j, j < rs.length → d (eB rs j) ≤ d (eA rs j) + eM rs j) (r : Bd) :
    r ∈ plainB N rs ↔ ∃ a b : Nat, a < N ∧ b < N ∧ a ≠ b ∧ wK N rs a b = true ∧ r = ⟨a, b, wS N rs a b⟩ := by
  have asc := plainN_asc hm N
  have mk : ∀ a b : Nat, a < N → b < N → a ≠ b → wK N rs a b = true → ∃ s ∈ plainB N rs, s.a = (a : Nat) ∧ s.b = (b : Nat) ∧ s.m = wS N rs a b := by
    intro a b ha hb hab hk
    obtain ⟨k, hk1, hw⟩ := walkN_sound hN ha N b hk
    obtain ⟨s, hs, e1, e2, e3⟩ := plainN_full hN hd hw N (by omega) hab
    refine ⟨s, hs, e1, e2, Int.le_antisymm e3 ?_⟩
    obtain ⟨a', b', k', f1, f2, _, _, _, hw'⟩ := plainN_sound hN N s hs
    have ea : a' = a := by omega
    have eb : b' = b := by omega
    subst ea eb
    exact (walkN_min hN hd ha hw').2
  constructor
  · intro hr
    obtain ⟨a, b, k, f1, f2, ha, hb, hab, hw⟩ := plainN_sound hN N r hr
    have h1 := walkN_min hN hd ha hw
    obtain ⟨s, hs, e1, e2, e3⟩ := mk a b ha hb hab h1.1
    have e : r = s := asc_one asc hr hs (by unfold key; rw [f1, f2, e1, e2])
    refine ⟨a, b, ha, hb, hab, h1.1, ?_⟩
    obtain ⟨ra, rb, rm⟩ := r
    simp only at f1 f2
    rw [← e3, ← e, f1, f2]
  · rintro ⟨a, b, ha, hb, hab, hk, rfl⟩
    obtain ⟨s, hs, e1, e2, e3⟩ := mk a b ha hb hab hk
    rw [← e1, ← e2, ← e3]
    exact hs
theorem find_of_mem {l : List Bd} (h : l.Pairwise (fun r s => key r < key s)) : ∀ {r : Bd}, r ∈ l → findB r.a r.b l = some r.m := by
  induction l with
  | nil => intro r hr; cases hr
  | cons s l ih =>
    intro r hr
    unfold findB
    by_cases e : r.a = s.a ∧ r.b = s.b
    · rw [if_pos e, asc_one h hr (.head _) (by unfold key; rw [e.1, e.2])]
    · rw [if_neg e]
      rcases List.mem_cons.1 hr with rfl | hr
      · exact absurd ⟨rfl, rfl⟩ e
      · exact ih (List.pairwise_cons.1 h).2 hr
theorem mem_of_find {a b m : Int} : ∀ {l : List Bd}, findB a b l = some m → (⟨a, b, m⟩ : Bd) ∈ l
  | s :: l, h => by
    unfold findB at h
    split at h
    · rename_i h1
      have h2 : s.m = m := by simpa using h
      obtain ⟨sa, sb, sm⟩ := s
      simp only at h1 h2
      rw [h1.1, h1.2, h2]
      exact .head _
    · exact .tail _ (mem_of_find h)
theorem find_plain {N : Nat} {rs : List Bd} (hN8 : N ≤ 8) (hN : InN N rs) (hm : ∀ r ∈ rs, Sm 10000 r) {d : Nat → Int} (hd : ∀ j, j < rs.length → d (eB rs j) ≤ d (eA rs j) + eM rs j) {a b : Nat} (ha : a < N) (hb : b < N) (hab : a ≠ b) :
    findB a b (plainB N rs) = if wK N rs a b = true then some (wS N rs a b) else none := by
  have asc := plainN_asc hm N
  split
  · rename_i hk
    exact find_of_mem asc ((plain_iff hN8 hN hm hd ⟨a, b, wS N rs a b⟩).2 ⟨a, b, ha, hb, hab, hk, rfl⟩)
  · rename_i hk
    cases h : findB a b (plainB N rs) with
    | none => rfl
    | some m =>
      obtain ⟨a', b', _, _, _, hk', e⟩ := (plain_iff hN8 hN hm hd _).1 (mem_of_find h)
      simp only [Bd.mk.injEq] at e
      have ea : a' = a := by omega
      have eb : b' = b := by omega
      subst ea eb
      exact absurd hk' hk
theorem self_walk {N : Nat} {rs : List Bd} (hN : InN N rs) {d : Nat → Int} (hd : ∀ j, j < rs.length → d (eB rs j) ≤ d (eA rs j) + eM rs j) {a : Nat} (ha : a < N) : wK N rs a a = true ∧ wS N rs a a = 0 := by
  obtain ⟨h1, h2⟩ := walkN_min hN hd ha (.nil (rs := rs) (a := a))
  obtain ⟨k, _, hw⟩ := walkN_sound hN ha N a h1
  have := hw.feas hd
  exact ⟨h1, Int.le_antisymm h2 (by show 0 ≤ (walkN N rs a N).sm.getD a 0; omega)⟩
/-- The plain bounds by the document, row by row. -/
def rowP (N : Nat) (rs : List Bd) (a : Nat) : Nat → List Bd
  | 0 => []
  | b + 1 => if a ≠ b ∧ wK N rs a b = true then rowP N rs a b ++ [⟨a, b, wS N rs a b⟩] else rowP N rs a b
def allP (N : Nat) (rs : List Bd) : Nat → List Bd
  | 0 => []
  | a + 1 => allP N rs a ++ rowP N rs a N
theorem rowP_mem {N : Nat} {rs : List Bd} {a : Nat} : ∀ {t : Nat} {r : Bd}, r ∈ rowP N rs a t ↔ ∃ b : Nat, b < t ∧ a ≠ b ∧ wK N rs a b = true ∧ r = ⟨a, b, wS N rs a b⟩
  | 0, r => by simp [rowP]
  | t + 1, r => by
    have ih := rowP_mem (N := N) (rs := rs) (a := a) (t := t) (r := r)
    unfold rowP
    split
    · rename_i h
      rw [List.mem_append, ih, List.mem_singleton]
      constructor
      · rintro (⟨b, h1, h2⟩ | rfl)
        · exact ⟨b, by omega, h2⟩
        · exact ⟨t, by omega, h.1, h.2, rfl⟩
      · rintro ⟨b, h1, h2, h3, h4⟩
        by_cases e : b = t
        · subst e; exact .inr h4
        · exact .inl ⟨b, by omega, h2, h3, h4⟩
    · rename_i h
      rw [ih]
      constructor
      · rintro ⟨b, h1, h2⟩; exact ⟨b, by omega, h2⟩
      · rintro ⟨b, h1, h2, h3, h4⟩
        by_cases e : b = t
        · subst e; exact absurd ⟨h2, h3⟩ h
        · exact ⟨b, by omega, h2, h3, h4⟩
theorem allP_mem {N : Nat} {rs : List Bd} : ∀ {t : Nat} {r : Bd}, r ∈ allP N rs t ↔ ∃ a b : Nat, a < t ∧ b < N ∧ a ≠ b ∧ wK N rs a b = true ∧ r = ⟨a, b, wS N rs a b⟩
  | 0, r => by simp [allP]
  | t + 1, r => by
    have ih := allP_mem (N := N) (rs := rs) (t := t) (r := r)
    unfold allP
    rw [List.mem_append, ih, rowP_mem]
    constructor
    · rintro (⟨a, b, h1, h2⟩ | ⟨b, h2⟩)
      · exact ⟨a, b, by omega, h2⟩
      · exact ⟨t, b, by omega, h2⟩
    · rintro ⟨a, b, h1, h2⟩
      by_cases e : a = t
      · subst e; exact .inr ⟨b, h2⟩
      · exact .inl ⟨a, b, by omega, h2⟩
theorem rowP_asc {N : Nat} {rs : List Bd} {a : Nat} : ∀ t, (rowP N rs a t).Pairwise (fun r s => key r < key s)
  | 0 => by simp [rowP]
  | t + 1 => by
    unfold rowP
    split
    · refine List.pairwise_append.2 ⟨rowP_asc t, List.pairwise_singleton _ _, fun r hr s hs => ?_⟩
      obtain ⟨b, hb, _, _, rfl⟩ := rowP_mem.1 hr
      rw [List.mem_singleton.1 hs]
      unfold key
      simp only
      omega
    · exact rowP_asc t
theorem allP_asc {N : Nat} {rs : List Bd} (hN8 : N ≤ 8) : ∀ t, (allP N rs t).Pairwise (fun r s => key r < key s)
  | 0 => by simp [allP]
  | t + 1 => by
    unfold allP
    refine List.pairwise_append.2 ⟨allP_asc hN8 t, rowP_asc N, fun r hr s hs => ?_⟩
    obtain ⟨a, b, ha, hb, _, _, rfl⟩ := allP_mem.1 hr
    obtain ⟨b', hb', _, _, rfl⟩ := rowP_mem.1 hs
    unfold key
    simp only
    omega
theorem plain_all {N : Nat} {rs : List Bd} (hN8 : N ≤ 8) (hN : InN N rs) (hm : ∀ r ∈ rs, Sm 10000 r) {d : Nat → Int} (hd : ∀ j, j < rs.length → d (eB rs j) ≤ d (eA rs j) + eM rs j) : plainB N rs = allP N rs N :=
  asc_eq (plainN_asc hm N) (allP_asc hN8 N) fun r => by rw [plain_iff hN8 hN hm hd, allP_mem]
/- What a valid core gives. -/
theorem in_of {n : Int} {rs : List Bd} (hv : Valid n rs) : InN n.toNat rs := fun j hj => by
  have h := hv.at hj
  have hp := hv.pts
  refine ⟨?_, ?_, ?_, ?_, ?_⟩
  · show (rs.getD j default).a.toNat < _; omega
  · show (rs.getD j default).b.toNat < _; omega
  · show (rs.getD j default).a.toNat ≠ (rs.getD j default).b.toNat; omega
  · show (rs.getD j default).a = (((rs.getD j default).a.toNat : Nat) : Int); omega
  · show (rs.getD j default).b = (((rs.getD j default).b.toNat : Nat) : Int); omega
theorem sm_of {n : Int} {rs : List Bd} (hv : Valid n rs) : ∀ r ∈ rs, Sm 10000 r := fun r hr => by
  have := ok_spec (List.all_eq_true.1 hv.all r hr)
  have hp := hv.pts
  exact ⟨by omega, by omega, by omega⟩
theorem feas_of {n : Int} {rs : List Bd} (hd : dOk n rs = true) : ∃ d : Nat → Int, ∀ j, j < rs.length → d (eB rs j) ≤ d (eA rs j) + eM rs j := by
  have hd' := of_decide_eq_true hd
  have hv : Valid n rs := hd'.1
  have hp := hv.pts
  have hN : Valid ((n.toNat : Nat) : Int) rs := by rw [Int.toNat_of_nonneg (by omega)]; exact hv
  exact ⟨fun x => (lowN n.toNat rs n.toNat).ds.getD x 0, low_keeps hN (by omega) hd'.2⟩
theorem find_pl {n : Int} {rs : List Bd} (hd : dOk n rs = true) {a b : Int} (ha : 0 ≤ a ∧ a < n) (hb : 0 ≤ b ∧ b < n) (hab : ¬ a = b) :
    findB a b (plainB n.toNat rs) = if wK n.toNat rs a.toNat b.toNat = true then some (wS n.toNat rs a.toNat b.toNat) else none := by
  have hv : Valid n rs := (of_decide_eq_true hd).1
  have hp := hv.pts
  obtain ⟨d, hf⟩ := feas_of hd
  have h := find_plain (N := n.toNat) (a := a.toNat) (b := b.toNat) (by omega) (in_of hv) (sm_of hv) hf (by omega) (by omega) (by omega)
  rw [Int.toNat_of_nonneg ha.1, Int.toNat_of_nonneg hb.1] at h
  exact h
theorem fnd_pl {n : Int} {rs : List Bd} (hd : dOk n rs = true) {a b : Int} (ha : 0 ≤ a ∧ a < n) (hb : 0 ≤ b ∧ b < n) :
    fndB (plainB n.toNat rs) a b = wK n.toNat rs a.toNat b.toNat ∧ fndM (plainB n.toNat rs) a b = if wK n.toNat rs a.toNat b.toNat = true then wS n.toNat rs a.toNat b.toNat else 0 := by
  have hv : Valid n rs := (of_decide_eq_true hd).1
  have hp := hv.pts
  unfold fndB fndM
  by_cases e : a = b
  · subst e
    obtain ⟨d, hf⟩ := feas_of hd
    obtain ⟨h1, h2⟩ := self_walk (in_of hv) hf (a := a.toNat) (by omega)
    rw [if_pos rfl, if_pos rfl, h1, h2]
    exact ⟨rfl, rfl⟩
  · rw [if_neg e, if_neg e, find_pl hd ha hb e]
    by_cases h : wK n.toNat rs a.toNat b.toNat = true
    · rw [if_pos h, if_pos h, h]; exact ⟨rfl, rfl⟩
    · rw [if_neg h, if_neg h]
      exact ⟨(by simpa using h : wK n.toNat rs a.toNat b.toNat = false).symm, rfl⟩
theorem plain_pl {n : Int} {rs : List Bd} (hd : dOk n rs = true) : plainB n.toNat rs = allP n.toNat rs n.toNat := by
  have hv : Valid n rs := (of_decide_eq_true hd).1
  have hp := hv.pts
  obtain ⟨d, hf⟩ := feas_of hd
  exact plain_all (by omega) (in_of hv) (sm_of hv) hf
end Go.Proofs.Ytenalmddoljhoaa
