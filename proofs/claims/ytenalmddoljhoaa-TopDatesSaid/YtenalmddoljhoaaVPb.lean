/- The plain bounds of a valid core are few, and small. -/
import Derived.Test.YtenalmddoljhoaaVZn
set_option linter.unusedVariables false
set_option linter.unusedSimpArgs false
namespace Go.Proofs.Ytenalmddoljhoaa
open Go.Sx Go.RowKit

def key (r : Bd) : Int := r.a * 8 + r.b
structure Sm (B : Int) (r : Bd) : Prop where
  a : 0 ≤ r.a ∧ r.a < 8
  b : 0 ≤ r.b ∧ r.b < 8
  m : -B ≤ r.m ∧ r.m ≤ B
theorem ded_mem (l : List Bd) : ∀ k, k ≤ l.length → ∀ r ∈ dedK l k, r ∈ l
  | 0, _, r, h => by simp [dedK] at h
  | k + 1, hk, r, h => by
    rw [dedK] at h
    split at h
    · exact ded_mem l k (by omega) r h
    · rcases List.mem_append.1 h with h | h
      · exact ded_mem l k (by omega) r h
      · rw [List.mem_singleton.1 h]
        simp [List.getD, show k < l.length by omega]
theorem tight_mem {l : List Bd} {r : Bd} (h : r ∈ tight l) : r ∈ l := (srtB_perm l).mem_iff.1 (ded_mem _ _ (Nat.le_refl _) r h)
theorem key_le {B : Int} {r s : Bd} (hr : Sm B r) (hs : Sm B s) (h : LeB r s) : key r ≤ key s := by
  have h1 := hr.a; have h2 := hr.b; have h3 := hs.a; have h4 := hs.b
  unfold LeB lexB at h
  unfold key
  omega
theorem key_lt {B : Int} {r s : Bd} (hr : Sm B r) (hs : Sm B s) (h : LeB r s) (hn : besB s r = false) : key r < key s := by
  have h1 := hr.a; have h2 := hr.b; have h3 := hs.a; have h4 := hs.b
  have h5 := of_decide_eq_false hn
  unfold LeB lexB at h
  unfold key
  omega
theorem ded_keys {B : Int} {l : List Bd} (hs : l.Pairwise LeB) (hm : ∀ r ∈ l, Sm B r) : ∀ k, k ≤ l.length → (dedK l k).Pairwise (fun r s => key r < key s) ∧ (1 ≤ k → ∀ r ∈ dedK l k, key r ≤ key (l.getD (k - 1) default))
  | 0, _ => ⟨by simp [dedK], fun h => absurd h (by simp)⟩
  | k + 1, hk => by
    obtain ⟨h1, h2⟩ := ded_keys hs hm k (by omega)
    have hk' : k < l.length := by omega
    have ek : l.getD k default = l[k] := by simp [List.getD, hk']
    have mk : Sm B (l.getD k default) := by rw [ek]; exact hm _ (List.getElem_mem _)
    show (dedK l (k + 1)).Pairwise _ ∧ (_ → ∀ r ∈ dedK l (k + 1), key r ≤ key (l.getD k default))
    rw [dedK]
    by_cases h0 : k = 0
    · subst h0
      rw [if_neg (by simp)]
      simp [dedK]
    · have hk1 : k - 1 < l.length := by omega
      have ek1 : l.getD (k - 1) default = l[k - 1] := by simp [List.getD, hk1]
      have mk1 : Sm B (l.getD (k - 1) default) := by rw [ek1]; exact hm _ (List.getElem_mem _)
      have hle : LeB (l.getD (k - 1) default) (l.getD k default) := by
        rw [ek, ek1]
        exact List.pairwise_iff_getElem.1 hs (k - 1) k hk1 hk' (by omega)
      have hkl := key_le mk1 mk hle
      split
      · rename_i hb
        exact ⟨h1, fun _ r hr => Int.le_trans (h2 (by omega) r hr) hkl⟩
      · rename_i hb
        have hnb : besB (l.getD k default) (l.getD (k - 1) default) = false := by
          cases h9 : besB (l.getD k default) (l.getD (k - 1) default) with
          | false => rfl
          | true => exact absurd ⟨h0, h9⟩ hb
        have hlt := key_lt mk1 mk hle hnb
        refine ⟨List.pairwise_append.2 ⟨h1, List.pairwise_singleton _ _, fun r hr s hs9 => ?_⟩, fun _ r hr => ?_⟩
        · rw [List.mem_singleton.1 hs9]
          have := h2 (by omega) r hr
          omega
        · rcases List.mem_append.1 hr with hr | hr
          · have := h2 (by omega) r hr
            omega
          · rw [List.mem_singleton.1 hr]
            exact Int.le_refl _
theorem asc_len : ∀ (l : List Bd) (lo : Int), l.Pairwise (fun r s => key r < key s) → (∀ r ∈ l, lo ≤ key r ∧ key r < 64) → lo ≤ 64 → (l.length : Int) ≤ 64 - lo
  | [], lo, _, _, h => by simp; omega
  | r :: l, lo, hp, hm, h => by
    have h1 := List.pairwise_cons.1 hp
    have h2 := hm r (.head _)
    have := asc_len l (key r + 1) h1.2 (fun s hs => ⟨h1.1 s hs, (hm s (.tail _ hs)).2⟩) (by omega)
    simp only [List.length_cons]
    omega
theorem tight_len {B : Int} {l : List Bd} (hm : ∀ r ∈ l, Sm B r) : (tight l).length ≤ 64 := by
  have hs : ∀ r ∈ srtB l, Sm B r := fun r hr => hm r ((srtB_perm l).mem_iff.1 hr)
  have h1 := (ded_keys (srtB_sorted l) hs _ (Nat.le_refl _)).1
  have h2 := asc_len (tight l) 0 h1 (fun r hr => by
    have h3 := hm r (tight_mem hr)
    have h4 := h3.a; have h5 := h3.b
    unfold key
    omega) (by omega)
  omega
theorem sumG_mem {r t : Bd} : ∀ {l : List Bd}, t ∈ sumG r l → ∃ s ∈ l, goesB r s = true ∧ t = addB r s
  | s :: l, h => by
    unfold sumG at h
    split at h
    · rename_i hg
      rcases List.mem_cons.1 h with h | h
      · exact ⟨s, .head _, hg, h⟩
      · obtain ⟨u, hu, h1, h2⟩ := sumG_mem h
        exact ⟨u, .tail _ hu, h1, h2⟩
    · obtain ⟨u, hu, h1, h2⟩ := sumG_mem h
      exact ⟨u, .tail _ hu, h1, h2⟩
theorem sums_mem {l1 l2 : List Bd} {t : Bd} (h : t ∈ sumsB l1 l2) : ∃ r ∈ l1, ∃ s ∈ l2, goesB r s = true ∧ t = addB r s := by
  obtain ⟨r, hr, h1⟩ := List.mem_flatMap.1 h
  obtain ⟨s, hs, h2, h3⟩ := sumG_mem h1
  exact ⟨r, hr, s, hs, h2, h3⟩
theorem plainN_sm {g : List Bd} (hg : ∀ r ∈ g, Sm 10000 r) : ∀ i : Nat, ∀ r ∈ plainN g i, Sm (10000 * ((i : Int) + 1)) r
  | 0, r, h => by
    have := hg r h
    exact ⟨this.a, this.b, by have := this.m; simp only [Int.natCast_zero]; omega⟩
  | i + 1, r, h => by
    have ih := plainN_sm hg i
    rcases List.mem_append.1 (tight_mem h) with h1 | h1
    · have := ih r h1
      have h2 := this.m
      exact ⟨this.a, this.b, by push_cast; omega⟩
    · obtain ⟨u, hu, v, hv, _, rfl⟩ := sums_mem h1
      have a1 := ih u hu
      have a2 := hg v hv
      have m1 := a1.m; have m2 := a2.m
      exact ⟨a1.a, a2.b, by simp only [addB]; push_cast; omega⟩
theorem plain_pb {n : Int} {rs : List Bd} (hv : Valid n rs) : ∀ i, i ≤ n.toNat → (plainN (tight rs) i).length ≤ 300 ∧ ∀ r ∈ plainN (tight rs) i, -1000000000 ≤ r.m ∧ r.m ≤ 1000000000 := by
  have hp := hv.pts
  have hrs : ∀ r ∈ rs, Sm 10000 r := fun r hr => by
    have := ok_spec (List.all_eq_true.1 hv.all r hr)
    exact ⟨by omega, by omega, by omega⟩
  have hg : ∀ r ∈ tight rs, Sm 10000 r := fun r hr => hrs r (tight_mem hr)
  intro i hi
  have hsm := plainN_sm hg i
  refine ⟨?_, fun r hr => by have := (hsm r hr).m; omega⟩
  cases i with
  | zero => have := tight_len hrs; simp only [plainN]; omega
  | succ i =>
    have h1 : ∀ r ∈ plainN (tight rs) i ++ sumsB (plainN (tight rs) i) (tight rs), Sm (10000 * ((i : Int) + 2)) r := by
      intro r hr
      rcases List.mem_append.1 hr with h1 | h1
      · have := plainN_sm hg i r h1
        have h2 := this.m
        exact ⟨this.a, this.b, by omega⟩
      · obtain ⟨u, hu, v, hv, _, rfl⟩ := sums_mem h1
        have a1 := plainN_sm hg i u hu
        have a2 := hg v hv
        have m1 := a1.m; have m2 := a2.m
        exact ⟨a1.a, a2.b, by simp only [addB]; omega⟩
    have := tight_len h1
    simp only [plainN]
    omega
end Go.Proofs.Ytenalmddoljhoaa
