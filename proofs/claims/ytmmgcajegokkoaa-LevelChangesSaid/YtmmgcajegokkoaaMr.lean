/- A reading is a bridge exactly if its share is 1, and exactly if there are more parts without it. -/
import Derived.Test.YtmmgcajegokkoaaRF
namespace Go.Proofs.Ytmmgcajegokkoaa
open Go.Sx Go.RowKit

/-- A survey's readings without one of them. -/
def del (rs : List Rd) (k : Nat) : List Rd := rs.take k ++ rs.drop (k + 1)
theorem mem_del {rs : List Rd} {k : Nat} {r : Rd} (h : r ∈ del rs k) : r ∈ rs := by
  rcases List.mem_append.1 h with h | h
  · exact List.mem_of_mem_take h
  · exact List.mem_of_mem_drop h
theorem del_len {rs : List Rd} {k : Nat} (hk : k < rs.length) : (del rs k).length + 1 = rs.length := by simp [del]; omega
theorem Valid.sub {n : Int} {rs rs' : List Rd} (hv : Valid n rs) (hl : rs'.length ≤ rs.length) (hm : ∀ r ∈ rs', r ∈ rs) : Valid n rs' := by
  have h1 := hv.pts
  have h2 := hv.len
  have h3 : rs'.all (isReadingB n) = true := List.all_eq_true.2 fun r hr => List.all_eq_true.1 hv.all r (hm r hr)
  unfold Valid validateI
  rw [if_neg (by omega), if_neg (by omega), if_pos h3]
theorem Valid.del {n : Int} {rs : List Rd} (hv : Valid n rs) {k : Nat} (hk : k < rs.length) : Valid n (del rs k) := hv.sub (by have := del_len hk; omega) fun _ h => mem_del h
theorem rsum_app (g : Rd → Int) (b : List Rd) : ∀ a : List Rd, rsum (a ++ b) g = rsum a g + rsum b g
  | [] => by simp [rsum]
  | r :: a => by rw [List.cons_append]; show g r + rsum (a ++ b) g = (g r + rsum a g) + rsum b g; rw [rsum_app g b a]; omega
theorem rsum_del (g : Rd → Int) {rs : List Rd} {k : Nat} (hk : k < rs.length) : rsum rs g = rsum (del rs k) g + g (rs.getD k default) := by
  have e : rs = rs.take k ++ (rs.getD k default :: rs.drop (k + 1)) := by
    have e1 : rs.getD k default = rs[k] := by simp [List.getD, hk]
    rw [e1, ← List.drop_eq_getElem_cons hk, List.take_append_drop]
  have e2 : rsum rs g = rsum (rs.take k) g + (g (rs.getD k default) + rsum (rs.drop (k + 1)) g) := by
    conv => lhs; rw [e]
    rw [rsum_app]; rfl
  rw [e2, del, rsum_app]; omega
theorem mem_or {rs : List Rd} {k : Nat} (hk : k < rs.length) {r : Rd} (h : r ∈ rs) : r ∈ del rs k ∨ r = rs.getD k default := by
  have e : rs = rs.take k ++ (rs.getD k default :: rs.drop (k + 1)) := by
    have e1 : rs.getD k default = rs[k] := by simp [List.getD, hk]
    rw [e1, ← List.drop_eq_getElem_cons hk, List.take_append_drop]
  rw [e] at h
  rcases List.mem_append.1 h with h | h
  · exact .inl (List.mem_append_left _ h)
  · rcases List.mem_cons.1 h with h | h
    · exact .inr h
    · exact .inl (List.mem_append_right _ h)
/-- A reading is a bridge exactly if its share is 1. -/
theorem bridge_share {n : Int} {rs : List Rd} (hv : Valid n rs) {k : Nat} (hk : k < rs.length) :
    rootOf n.toNat (del rs k) (rs.getD k default).f ≠ rootOf n.toNat (del rs k) (rs.getD k default).t ↔ (rs.getD k default).wt * RR n.toNat rs (rs.getD k default).f (rs.getD k default).t = denO n.toNat rs := by
  obtain ⟨i1, i2, i3⟩ := rd_in hv hk
  have hv' := (hv.del hk).nat.1
  have hvn := hv.nat.1
  have hd := denO_pos hvn
  have hat := hv.at hk
  have hij := root_ends hvn i3
  generalize hr : rs.getD k default = r at *
  have e1 := en_uu hvn i1 i2 hij (uu n.toNat rs r.f r.t)
  have k1 : uu n.toNat rs r.f r.t r.t - uu n.toNat rs r.f r.t r.f = RR n.toNat rs r.f r.t := rfl
  constructor
  · intro hne
    let y : Nat → Int := fun p => if rootOf n.toNat (del rs k) p = rootOf n.toNat (del rs k) r.t then 1 else 0
    have e2 := en_uu hvn i1 i2 hij y
    have hy : y r.t - y r.f = 1 := by simp only [y]; rw [if_pos trivial, if_neg hne]; rfl
    have e3 : en rs (uu n.toNat rs r.f r.t) y = en (del rs k) (uu n.toNat rs r.f r.t) y + r.wt * (dlt (uu n.toNat rs r.f r.t) r * dlt y r) := by
      unfold en; rw [rsum_del _ hk, hr]
    have e4 : en (del rs k) (uu n.toNat rs r.f r.t) y = 0 := by
      unfold en
      rw [rsum_congr (h := fun _ => 0) (fun q hq => ?_), rsum_const]
      · simp
      · have h9 := root_ends hv' hq
        have : dlt y q = 0 := by simp only [dlt, y]; rw [h9]; omega
        rw [this]; simp
    have e5 : dlt y r = 1 := hy
    have e6 : dlt (uu n.toNat rs r.f r.t) r = RR n.toNat rs r.f r.t := rfl
    rw [e3, e4, e5, e6, hy, Int.mul_one, Int.mul_one, Int.zero_add] at e2
    exact e2
  · intro hs he
    have e3 : en rs (uu n.toNat rs r.f r.t) (uu n.toNat rs r.f r.t) = en (del rs k) (uu n.toNat rs r.f r.t) (uu n.toNat rs r.f r.t) + r.wt * (RR n.toNat rs r.f r.t * RR n.toNat rs r.f r.t) := by
      unfold en; rw [rsum_del _ hk, hr]; rfl
    have e4 : en (del rs k) (uu n.toNat rs r.f r.t) (uu n.toNat rs r.f r.t) = 0 := by
      rw [e3, k1, ← hs] at e1
      have : r.wt * RR n.toNat rs r.f r.t * RR n.toNat rs r.f r.t = r.wt * (RR n.toNat rs r.f r.t * RR n.toNat rs r.f r.t) := by grind
      omega
    have h5 := en_zero hv'.wt e4
    have c1 := const_of hv' h5 i1
    have c2 := const_of hv' h5 i2
    rw [he] at c1
    have : RR n.toNat rs r.f r.t = 0 := by rw [← k1]; omega
    rw [this] at hs
    simp at hs
    omega
theorem root_is {N : Nat} {rs : List Rd} (hv : Valid (N : Int) rs) {p : Nat} (hp : p < N) : Root N rs p ↔ rootOf N rs p = p := by
  have h1 := root_le hv hp
  unfold Root
  omega
theorem root_const {N : Nat} {rs : List Rd} (hv : Valid (N : Int) rs) {rs' : List Rd} (hv' : Valid (N : Int) rs') (h : ∀ r ∈ rs', rootOf N rs r.f = rootOf N rs r.t) {p : Nat} (hp : p < N) : rootOf N rs p = rootOf N rs (rootOf N rs' p) := by
  have := const_of hv' (x := fun q => ((rootOf N rs q : Nat) : Int)) (fun r hr => by rw [h r hr]) hp
  omega
theorem sumN_lt {g h : Nat → Int} {q : Nat} : ∀ {n : Nat}, (∀ p, p < n → g p ≤ h p) → (q < n → g q < h q → sumN n g < sumN n h) ∧ sumN n g ≤ sumN n h
  | 0, _ => ⟨fun hq => by omega, Int.le_refl _⟩
  | n + 1, e => by
    have ih := sumN_lt (q := q) (fun p hp => e p (by omega) : ∀ p, p < n → g p ≤ h p)
    have h1 := e n (by omega)
    refine ⟨fun hq hlt => ?_, by rw [sumN, sumN]; have := ih.2; omega⟩
    rw [sumN, sumN]
    by_cases hqn : q = n
    · subst hqn; have := ih.2; omega
    · have := ih.1 (by omega) hlt; omega
/-- Without a reading there are more parts exactly if its ends fall apart. -/
theorem bridge_parts {n : Int} {rs : List Rd} (hv : Valid n rs) {k : Nat} (hk : k < rs.length) :
    (rootOf n.toNat (del rs k) (rs.getD k default).f ≠ rootOf n.toNat (del rs k) (rs.getD k default).t ↔ nonroots n.toNat (del rs k) < nonroots n.toNat rs) := by
  obtain ⟨i1, i2, i3⟩ := rd_in hv hk
  have hv' := (hv.del hk).nat.1
  have hvn := hv.nat.1
  have hij := root_ends hvn i3
  have hends : ∀ r ∈ del rs k, rootOf n.toNat rs r.f = rootOf n.toNat rs r.t := fun r hr => root_ends hvn (mem_del hr)
  constructor
  · intro hne
    have hle : ∀ p, p < n.toNat → (if Root n.toNat (del rs k) p then 0 else 1 : Int) ≤ if Root n.toNat rs p then 0 else 1 := fun p hp => by
      by_cases h1 : Root n.toNat rs p
      · have h2 : Root n.toNat (del rs k) p := by
          rw [root_is hvn hp] at h1
          rw [root_is hv' hp]
          have c := root_const hvn hv' hends hp
          have l1 := (root_le hv' hp).1
          have l2 := (root_le hvn (p := rootOf n.toNat (del rs k) p) (by omega)).1
          omega
        rw [if_pos h1, if_pos h2]; exact Int.le_refl _
      · rw [if_neg h1]; split <;> omega
    have hf := (root_le hv' i1).1
    have ht := (root_le hv' i2).1
    have cf := root_const hvn hv' hends i1
    have ct := root_const hvn hv' hends i2
    have rf := root_root hv' i1
    have rt := root_root hv' i2
    by_cases h1 : Root n.toNat rs (rootOf n.toNat (del rs k) (rs.getD k default).f)
    · by_cases h2 : Root n.toNat rs (rootOf n.toNat (del rs k) (rs.getD k default).t)
      · exfalso
        rw [root_is hvn (by omega)] at h1 h2
        omega
      · exact (sumN_lt hle).1 (show rootOf n.toNat (del rs k) (rs.getD k default).t < n.toNat by omega) (by rw [if_pos rt, if_neg h2]; omega)
    · exact (sumN_lt hle).1 (show rootOf n.toNat (del rs k) (rs.getD k default).f < n.toNat by omega) (by rw [if_pos rf, if_neg h1]; omega)
  · intro hlt he
    have hends' : ∀ r ∈ rs, rootOf n.toNat (del rs k) r.f = rootOf n.toNat (del rs k) r.t := fun r hr => by
      rcases mem_or hk hr with h | h
      · exact root_ends hv' h
      · rw [h]; exact he
    have hsame : nonroots n.toNat (del rs k) = nonroots n.toNat rs := by
      refine sumN_congr fun p hp => ?_
      have c1 := root_const hvn hv' hends hp
      have c2 := root_const hv' hvn hends' hp
      have l1 := (root_le hv' hp).1
      have l2 := (root_le hvn hp).1
      have l3 := (root_le hvn (p := rootOf n.toNat (del rs k) p) (by omega)).1
      have l4 := (root_le hv' (p := rootOf n.toNat rs p) (by omega)).1
      have : rootOf n.toNat rs p = rootOf n.toNat (del rs k) p := by omega
      by_cases h : Root n.toNat rs p
      · rw [if_pos h, if_pos ((root_is hv' hp).2 (by rw [← this]; exact (root_is hvn hp).1 h))]
      · rw [if_neg h, if_neg (fun h2 => h ((root_is hvn hp).2 (by rw [this]; exact (root_is hv' hp).1 h2)))]
    omega

end Go.Proofs.Ytmmgcajegokkoaa
