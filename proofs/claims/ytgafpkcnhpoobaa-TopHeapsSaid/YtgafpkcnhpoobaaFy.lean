/- No turf is lost: mathematics of settling and dropping. -/
import Derived.Test.YtgafpkcnhpoobaaEn
set_option linter.unusedVariables false
set_option linter.unusedSimpArgs false
namespace Go.Proofs.Ytgafpkcnhpoobaa
open Go.Sx Go.RowKit Go.Sand

theorem sum_dl {n : Nat} {l : Nat → Nat → Int} {g : Nat → Int} (G : Gr n l g) (m : Nat → Int) : sm n (dl n l g m) = sm n (fun i => m i * g i) := by
  have h1 : sm n (dl n l g m) = sm n (fun i => g i * m i) + sm n (fun i => sm n (fun j => l i j * (m i - m j))) := by
    rw [← sm_add]
    exact sm_congr fun i _ => dl_eq m i
  rw [h1, sm_anti fun i j hi hj => by rw [G.sy i j hi hj]; grind, Int.add_zero]
  exact sm_congr fun i _ => Int.mul_comm _ _
/-- No turf is lost. -/
theorem no_loss {ls : List (List Int)} {gs xs c m : List Int} (hB : HB ls gs) (h : StbL ls gs xs c m) : sm gs.length (gd xs) = sm gs.length (gd c) + grI gs m := by
  have h1 : sm gs.length (gd c) = sm gs.length (gd xs) + - sm gs.length (dl gs.length (lk ls) (gd gs) (gd m)) := by
    rw [← sm_neg, ← sm_add]
    refine sm_congr fun i hi => ?_
    have := h.2.2.eq i hi
    omega
  rw [sum_dl hB.G] at h1
  have h2 : grI gs m = sm gs.length (fun i => gd m i * gd gs i) := rfl
  omega
theorem stb_750 {ls : List (List Int)} {gs xs c m : List Int} (hB : HB ls gs) (h : StbL ls gs xs c m) (h0 : ∀ k, 0 ≤ xs.getD k 0 ∧ xs.getD k 0 ≤ 30) : ∀ j, j < gs.length → 0 ≤ m.getD j 0 ∧ m.getD j 0 ≤ 750 := fun j hj => by
  have hn := hB.n
  have hT := mul5 hn.2 (by decide) (sm_bd (f := gd xs) (n := gs.length) (B := 30) fun i _ => (h0 i).2)
  have hb := bound hB.G (t := gd xs) (m := gd m) (fun i _ => (h0 i).1) h.2.2.m0 (fun i hi => by rw [← h.2.2.eq i hi]; exact h.2.2.c0 i hi) j hj
  have hT0 := sm_nonneg (f := gd xs) (n := gs.length) fun i _ => (h0 i).1
  have h1 : m.getD j 0 ≤ sm gs.length (gd xs) * gs.length := by rw [Int.mul_comm] at hb; exact hb
  have h2 := mul5 hn.2 hT0 h1
  exact ⟨h.2.2.m0 j hj, by omega⟩
theorem stb_cs {ls : List (List Int)} {gs xs c m : List Int} (hg : ¬ givI ls gs [xs] ≠ 0) (h : StbL ls gs xs c m) : csI ls gs xs c m = 0 := by
  have hB := (giv_hb hg).1
  obtain ⟨hxl, hx0⟩ := giv_ne hg
  have e1 : givI ls gs [xs, c] = 0 := giv_yes (giv_val hg) (by
    intro x hx
    rcases List.mem_cons.1 hx with rfl | hx
    · exact ⟨hxl, hx0⟩
    · rw [List.mem_singleton.1 hx]; exact stb_30 hB h)
  refine cs_0 (by rw [e1]; decide) (sc_yes h.2.1 fun k hk => by have := stb_750 hB h hx0 k (by have := h.2.1; omega); omega) ?_
  refine ints_ext (by rw [tpS_len, hxl, h.1]) fun j hj => ?_
  rw [tpS_len, hxl] at hj
  rw [tpS_dl hB hxl _ (Nat.le_refl _) j hj]
  have h3 : c.getD j 0 = xs.getD j 0 - dl gs.length (lk ls) (gd gs) (gd m) j := h.2.2.eq j hj
  rw [h3, dl_congr (k := gd m) (fun i hi => if_pos hi) hj]
theorem SetP.unique {ls : List (List Int)} {gs xs c m d k : List Int} (h : SetP ls gs xs c m) (h2 : SetP ls gs xs d k) : c = d ∧ m = k := by
  by_cases h0 : givI ls gs [xs] ≠ 0
  · rw [(h.bad h0).1, (h2.bad h0).1, (h.bad h0).2, (h2.bad h0).2]; exact ⟨rfl, rfl⟩
  · exact (h.ok h0).unique (h2.ok h0)
theorem settles {ls : List (List Int)} {gs xs c m : List Int} (hP : SetP ls gs xs c m) (hg : ¬ givI ls gs [xs] ≠ 0) : sm xs.length (gd xs) = sm c.length (gd c) + setG ls gs xs m ∧ csI ls gs xs c m = 0 := by
  have h := hP.ok hg
  have hB := (giv_hb hg).1
  refine ⟨?_, stb_cs hg h⟩
  rw [setG_0 hg, (giv_ne hg).1, h.1]
  exact no_loss hB h
theorem SetP.bd {ls : List (List Int)} {gs xs c m : List Int} (hP : SetP ls gs xs c m) (hg : ¬ givI ls gs [xs] ≠ 0) : (∀ k, -1000000 ≤ c.getD k 0 ∧ c.getD k 0 ≤ 1000000) ∧ (0 ≤ setG ls gs xs m ∧ setG ls gs xs m ≤ 250000) ∧ -5000000 ≤ sm c.length (gd c) ∧ sm c.length (gd c) ≤ 5000000 := by
  have h := hP.ok hg
  have hB := (giv_hb hg).1
  have hn := hB.n
  obtain ⟨hxl, hx0⟩ := giv_ne hg
  refine ⟨fun k => by have := stb_c hB h k; omega, by rw [setG_0 hg]; exact (stb_m hB h (fun k => by have := hx0 k; omega)).2, ?_⟩
  rw [h.1]
  have h1 := mul5 hn.2 (by decide) (sm_bd (f := gd c) (n := gs.length) (B := 12) fun i _ => (stb_c hB h i).2)
  have h2 := sm_nonneg (f := gd c) (n := gs.length) fun i _ => (stb_c hB h i).1
  omega
theorem dr_at {c : List Int} {q : Nat} (hq : q < c.length) (j : Nat) : (drL c q).getD j 0 = c.getD j 0 + (if q = j then 1 else 0) := by
  rw [set_at hq]
  split
  · next e => subst e; rfl
  · omega
/-- Two turves can be dropped in either order. -/
theorem drops {ls : List (List Int)} {gs xs l p a b : List Int} {i k n1 n2 n3 n4 : Int} (hi : ¬ vhI ls gs xs i ≠ 0) (hk : ¬ vhI ls gs xs k ≠ 0) (h1 : DroP ls gs xs i l n1) (h2 : DroP ls gs xs k p n2) (h3 : DroP ls gs l k a n3) (h4 : DroP ls gs p i b n4) : vhI ls gs l k = 0 ∧ vhI ls gs p i = 0 ∧ a = b := by
  obtain ⟨hg, i1, i2⟩ := vh_of hi
  obtain ⟨_, k1, k2⟩ := vh_of hk
  have hB := (giv_hb hg).1
  obtain ⟨hxl, hx0⟩ := giv_ne hg
  obtain ⟨I, rfl⟩ : ∃ u : Nat, i = u := ⟨i.toNat, by omega⟩
  obtain ⟨K, rfl⟩ : ∃ u : Nat, k = u := ⟨k.toNat, by omega⟩
  obtain ⟨m1, s1, _⟩ := h1.ok hi
  obtain ⟨m2, s2, _⟩ := h2.ok hk
  rw [Int.toNat_natCast] at s1 s2
  have v : ∀ {c m t : List Int}, StbL ls gs t c m → ¬ givI ls gs [c] ≠ 0 := fun {c m t} h => by
    rw [giv_yes (giv_val hg) (by
      intro x hx
      rw [List.mem_singleton.1 hx]; exact stb_30 hB h)]
    decide
  have e1 := vh_0 (i := (K : Int)) (v s1) ⟨k1, k2⟩
  have e2 := vh_0 (i := (I : Int)) (v s2) ⟨i1, i2⟩
  obtain ⟨m3, s3, _⟩ := h3.ok (by rw [e1]; decide)
  obtain ⟨m4, s4, _⟩ := h4.ok (by rw [e2]; decide)
  rw [Int.toNat_natCast] at s3 s4
  have one : ∀ {c : List Int} {q : Nat}, c.length = gs.length → q < gs.length → drL c q = adN c ((List.replicate gs.length 0).set q 1) 1 := fun {c q} hc hq => by
    refine mk_eq (by simp) fun j hj => ?_
    rw [set_at (by omega), set_at (by simpa using hq), rep_at]
    split
    · next e => subst e; omega
    · omega
  have pos : ∀ q : Nat, ∀ k, 0 ≤ ((List.replicate gs.length (0 : Int)).set q 1).getD k 0 := fun q k => by
    by_cases hq : q < gs.length
    · rw [set_at (by simpa using hq), rep_at]; split <;> omega
    · rw [List.set_eq_of_length_le (by simpa using hq), rep_at]; omega
  rw [one s1.1 (by omega)] at s3
  rw [one s2.1 (by omega)] at s4
  have k3 := stbL_comp (t := drL xs I) (by simp [hxl]) (pos K) s1 s3
  have k4 := stbL_comp (t := drL xs K) (by simp [hxl]) (pos I) s2 s4
  rw [← one (c := drL xs I) (by simp [hxl]) (by omega)] at k3
  rw [← one (c := drL xs K) (by simp [hxl]) (by omega)] at k4
  have e5 : drL (drL xs I) K = drL (drL xs K) I := by
    refine ints_ext (by simp) fun j hj => ?_
    rw [dr_at (c := drL xs I) (q := K) (by rw [List.length_set]; omega), dr_at (c := xs) (q := I) (by omega), dr_at (c := drL xs K) (q := I) (by rw [List.length_set]; omega), dr_at (c := xs) (q := K) (by omega)]
    omega
  rw [e5] at k3
  exact ⟨e1, e2, (k3.unique k4).1⟩


end Go.Proofs.Ytgafpkcnhpoobaa
