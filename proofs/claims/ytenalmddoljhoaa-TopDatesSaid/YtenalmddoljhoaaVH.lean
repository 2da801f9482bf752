/- What the sums of walks come to: a core clashes by them exactly if lowering does not end. -/
import Derived.Test.YtenalmddoljhoaaVR
set_option linter.unusedVariables false
set_option linter.unusedSimpArgs false
namespace Go.Proofs.Ytenalmddoljhoaa
open Go.Sx Go.RowKit

structure WSt where
  sm : List Int
  kn : List Bool
def wstep (rs : List Bd) (old new : WSt) (k : Nat) : WSt :=
  if old.kn.getD (eA rs k) false = true ∧ (new.kn.getD (eB rs k) false = false ∨ old.sm.getD (eA rs k) 0 + eM rs k < new.sm.getD (eB rs k) 0) then
    ⟨new.sm.set (eB rs k) (old.sm.getD (eA rs k) 0 + eM rs k), new.kn.set (eB rs k) true⟩
  else new
def wpass (rs : List Bd) (old : WSt) : Nat → WSt
  | 0 => old
  | k + 1 => wstep rs old (wpass rs old k) k
def walkN (N : Nat) (rs : List Bd) (a : Nat) : Nat → WSt
  | 0 => ⟨List.replicate N 0, (List.replicate N false).set a true⟩
  | t + 1 => wpass rs (walkN N rs a t) rs.length
structure WOk (N : Nat) (s : WSt) : Prop where
  sl : s.sm.length = N
  kl : s.kn.length = N
theorem bset (xs : List Bool) (j : Nat) (v : Bool) (p : Nat) : (xs.set j v).getD p false = if j = p ∧ j < xs.length then v else xs.getD p false := by
  by_cases h : j = p
  · subst h
    by_cases h2 : j < xs.length
    · rw [if_pos ⟨rfl, h2⟩]; simp [List.getD, h2]
    · rw [if_neg (fun e => h2 e.2)]; simp [List.getD, h2]
  · rw [if_neg (fun e => h e.1)]; simp [List.getD, List.getElem?_set, h]
theorem WOk.step {N : Nat} {rs : List Bd} {old new : WSt} {k : Nat} (h : WOk N new) : WOk N (wstep rs old new k) := by
  unfold wstep
  split
  · exact ⟨by simp only [List.length_set]; exact h.sl, by simp only [List.length_set]; exact h.kl⟩
  · exact h
theorem WOk.pass {N : Nat} {rs : List Bd} {old : WSt} (h : WOk N old) : ∀ k, WOk N (wpass rs old k)
  | 0 => h
  | k + 1 => (WOk.pass h k).step
theorem WOk.walk (N : Nat) (rs : List Bd) (a : Nat) : ∀ t, WOk N (walkN N rs a t)
  | 0 => ⟨List.length_replicate, by simp [walkN]⟩
  | t + 1 => (WOk.walk N rs a t).pass _
/-- No sum is less than dates allow. -/
def WLow (d : Nat → Int) (a : Nat) (s : WSt) : Prop := ∀ b, s.kn.getD b false = true → d b ≤ d a + s.sm.getD b 0
theorem WLow.step {N : Nat} {rs : List Bd} {d : Nat → Int} {a : Nat} {old new : WSt} {k : Nat} (hd : d (eB rs k) ≤ d (eA rs k) + eM rs k) (ho : WLow d a old) (hn : WLow d a new) (hk : WOk N new) : WLow d a (wstep rs old new k) := by
  unfold wstep
  split
  · rename_i h
    intro b hb
    have h1 := ho _ h.1
    have e1 := hk.sl
    have e2 := hk.kl
    simp only [bset, getD_set] at hb ⊢
    by_cases hB : eB rs k = b ∧ eB rs k < N
    · rw [if_pos (by rw [e1]; exact hB)]
      rw [← hB.1]
      omega
    · rw [if_neg (by rw [e2]; exact hB)] at hb
      rw [if_neg (by rw [e1]; exact hB)]
      exact hn b hb
  · exact hn
theorem WLow.walk {N : Nat} {rs : List Bd} {d : Nat → Int} (hd : ∀ j, j < rs.length → d (eB rs j) ≤ d (eA rs j) + eM rs j) (a : Nat) : ∀ t, WLow d a (walkN N rs a t)
  | 0 => by
    intro b hb
    simp only [walkN, bset] at hb
    split at hb
    · rename_i h
      rw [← h.1]
      have : (List.replicate N (0 : Int)).getD a 0 = 0 := by by_cases h : a < N <;> simp [List.getD, List.getElem?_replicate, h]
      simp only [walkN, this]
      omega
    · by_cases h : b < N <;> simp [List.getD, List.getElem?_replicate, h] at hb
  | t + 1 => by
    have ho := WLow.walk hd a t (N := N)
    have hp : ∀ k, k ≤ rs.length → WLow d a (wpass rs (walkN N rs a t) k) := by
      intro k
      induction k with
      | zero => intro _; exact ho
      | succ k ih => intro hk; exact WLow.step (N := N) (hd k (by omega)) ho (ih (by omega)) ((WOk.walk N rs a t).pass k)
    exact hp rs.length (Nat.le_refl _)
/-- What was known stays known, and no sum grows. -/
def WLe (s s' : WSt) : Prop := ∀ b, s.kn.getD b false = true → s'.kn.getD b false = true ∧ s'.sm.getD b 0 ≤ s.sm.getD b 0
theorem WLe.refl (s : WSt) : WLe s s := fun _ h => ⟨h, Int.le_refl _⟩
theorem WLe.trans {s s' s'' : WSt} (h : WLe s s') (h' : WLe s' s'') : WLe s s'' := fun b hb => by
  obtain ⟨h1, h2⟩ := h b hb
  obtain ⟨h3, h4⟩ := h' b h1
  exact ⟨h3, Int.le_trans h4 h2⟩
theorem wle_step {N : Nat} {rs : List Bd} {old new : WSt} {k : Nat} (hk : WOk N new) : WLe new (wstep rs old new k) := by
  unfold wstep
  split
  · rename_i h
    intro b hb
    have e1 := hk.sl
    have e2 := hk.kl
    simp only [bset, getD_set]
    by_cases hB : eB rs k = b ∧ eB rs k < N
    · rw [if_pos (by rw [e2]; exact hB), if_pos (by rw [e1]; exact hB)]
      refine ⟨rfl, ?_⟩
      rcases h.2 with h2 | h2
      · rw [hB.1, hb] at h2; cases h2
      · rw [hB.1] at h2; omega
    · rw [if_neg (by rw [e2]; exact hB), if_neg (by rw [e1]; exact hB)]
      exact ⟨hb, Int.le_refl _⟩
  · exact WLe.refl _
theorem wle_pass {N : Nat} {rs : List Bd} {old : WSt} (h : WOk N old) {i : Nat} : ∀ k, i ≤ k → WLe (wpass rs old i) (wpass rs old k)
  | 0, hi => by
    rw [show i = 0 by omega]
    exact WLe.refl _
  | k + 1, hi => by
    by_cases e : i = k + 1
    · rw [e]; exact WLe.refl _
    · exact (wle_pass h k (by omega)).trans (wle_step (N := N) (h.pass k))
theorem wle_walk (N : Nat) (rs : List Bd) (a : Nat) {i : Nat} : ∀ t, i ≤ t → WLe (walkN N rs a i) (walkN N rs a t)
  | 0, hi => by
    rw [show i = 0 by omega]
    exact WLe.refl _
  | t + 1, hi => by
    by_cases e : i = t + 1
    · rw [e]; exact WLe.refl _
    · exact (wle_walk N rs a t (by omega)).trans (wle_pass (WOk.walk N rs a t) (i := 0) rs.length (Nat.zero_le _))
/-- One bound more. -/
theorem walk_one {N : Nat} {rs : List Bd} {a t j : Nat} (hj : j < rs.length) (hB : eB rs j < N) (hA : (walkN N rs a t).kn.getD (eA rs j) false = true) :
    (walkN N rs a (t + 1)).kn.getD (eB rs j) false = true ∧ (walkN N rs a (t + 1)).sm.getD (eB rs j) 0 ≤ (walkN N rs a t).sm.getD (eA rs j) 0 + eM rs j := by
  have ok := WOk.walk N rs a t
  have h1 : (wpass rs (walkN N rs a t) (j + 1)).kn.getD (eB rs j) false = true ∧ (wpass rs (walkN N rs a t) (j + 1)).sm.getD (eB rs j) 0 ≤ (walkN N rs a t).sm.getD (eA rs j) 0 + eM rs j := by
    have okp := ok.pass (rs := rs) j
    show (wstep rs (walkN N rs a t) (wpass rs (walkN N rs a t) j) j).kn.getD (eB rs j) false = true ∧ _
    simp only [wpass]
    unfold wstep
    split
    · rw [bset, getD_set]
      rw [if_pos (And.intro (Eq.refl _) (by rw [okp.kl]; exact hB)), if_pos (And.intro (Eq.refl _) (by rw [okp.sl]; exact hB))]
      exact ⟨rfl, Int.le_refl _⟩
    · rename_i h
      have h2 : ¬ ((wpass rs (walkN N rs a t) j).kn.getD (eB rs j) false = false ∨ (walkN N rs a t).sm.getD (eA rs j) 0 + eM rs j < (wpass rs (walkN N rs a t) j).sm.getD (eB rs j) 0) := fun h3 => h ⟨hA, h3⟩
      refine ⟨?_, ?_⟩
      · cases h4 : (wpass rs (walkN N rs a t) j).kn.getD (eB rs j) false with
        | true => rfl
        | false => exact absurd (.inl h4) h2
      · have : ¬ (walkN N rs a t).sm.getD (eA rs j) 0 + eM rs j < (wpass rs (walkN N rs a t) j).sm.getD (eB rs j) 0 := fun h4 => h2 (.inr h4)
        omega
  obtain ⟨h2, h3⟩ := wle_pass ok (i := j + 1) rs.length (by omega) _ h1.1
  exact ⟨h2, Int.le_trans h3 h1.2⟩
/-- A round below 0 shows in the sums. -/
theorem Rnd.walk {rs : List Bd} {N : Nat} {s : LSt} {y q : Nat} (r : Rnd rs N s y q) : (walkN N rs y N).sm.getD y 0 < 0 := by
  have hy : y < N := (r.ok 0).2.2
  have hu : ∀ u, u ≤ q → (walkN N rs y u).kn.getD (itr rs s y (q - u)) false = true ∧ (walkN N rs y u).sm.getD (itr rs s y (q - u)) 0 + sumR rs s y (q - u) ≤ sumR rs s y q := by
    intro u
    induction u with
    | zero =>
      intro _
      rw [Nat.sub_zero, r.back]
      have e0 : (List.replicate N (0 : Int)).getD y 0 = 0 := by simp [List.getD, List.getElem?_replicate, hy]
      refine ⟨by show ((List.replicate _ false).set _ true).getD _ false = true; rw [bset, if_pos (And.intro (Eq.refl _) (by simpa using hy))], ?_⟩
      simp only [walkN, e0]
      omega
    | succ u ih =>
      intro hu
      obtain ⟨h1, h2⟩ := ih (by omega)
      have e : q - u = (q - (u + 1)) + 1 := by omega
      obtain ⟨o1, o2, o3⟩ := r.ok (q - (u + 1))
      have e2 : itr rs s y (q - u) = eA rs (bk s (itr rs s y (q - (u + 1)))) := by rw [e]; rfl
      have e3 : sumR rs s y (q - u) = sumR rs s y (q - (u + 1)) + eM rs (bk s (itr rs s y (q - (u + 1)))) := by rw [e]; rfl
      rw [e2] at h1 h2
      obtain ⟨h3, h4⟩ := walk_one (N := N) o1 (by rw [o2]; exact o3) h1
      rw [o2] at h3 h4
      exact ⟨h3, by omega⟩
  obtain ⟨h1, h2⟩ := hu q (Nat.le_refl _)
  rw [Nat.sub_self] at h1 h2
  simp only [itr, sumR] at h1 h2
  obtain ⟨_, h3⟩ := wle_walk N rs y N r.qN _ h1
  have := r.neg
  omega
def clashW (N : Nat) (rs : List Bd) : Bool := (List.range N).any fun a => decide ((walkN N rs a N).sm.getD a 0 < 0)
theorem clashW_dOk {n : Int} {rs : List Bd} (hv : Valid n rs) : clashW n.toNat rs = !dOk n rs := by
  have hp := hv.pts
  have hN : Valid ((n.toNat : Nat) : Int) rs := by rw [Int.toNat_of_nonneg (by omega)]; exact hv
  have hv' : validateI n rs = 0 := hv
  by_cases hl : (lowN n.toNat rs n.toNat).last = -1
  · have hd : dOk n rs = true := decide_eq_true ⟨hv, hl⟩
    rw [hd, Bool.not_true, Bool.eq_false_iff]
    intro h
    obtain ⟨a, ha, h1⟩ := List.any_eq_true.1 h
    have ha' := List.mem_range.1 ha
    have h2 := of_decide_eq_true h1
    have h3 := WLow.walk (N := n.toNat) (rs := rs) (d := fun x => (lowN n.toNat rs n.toNat).ds.getD x 0) (low_keeps hN (by omega) hl) a n.toNat
    have h4 : (walkN n.toNat rs a 0).kn.getD a false = true := by show ((List.replicate _ false).set _ true).getD _ false = true; rw [bset, if_pos (And.intro (Eq.refl _) (by simpa using ha'))]
    have h5 := h3 a (wle_walk n.toNat rs a n.toNat (Nat.zero_le _) a h4).1
    omega
  · have hd : dOk n rs = false := decide_eq_false (fun h => hl h.2)
    rw [hd, Bool.not_false]
    obtain ⟨x, _, _, q, r⟩ := low_round hN (by omega) hl
    exact List.any_eq_true.2 ⟨_, List.mem_range.2 (r.ok 0).2.2, decide_eq_true r.walk⟩
end Go.Proofs.Ytenalmddoljhoaa
