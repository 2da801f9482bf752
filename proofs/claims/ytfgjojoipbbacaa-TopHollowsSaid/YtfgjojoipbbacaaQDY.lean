/- Proofs of a bound: cells and their map. -/
import Derived.Test.YtfgjojoipbbacaaQDW
import Derived.Test.YtfgjojoipbbacaaQDX
set_option linter.unusedVariables false
set_option linter.unusedSimpArgs false
namespace Go.Proofs.Ytfgjojoipbbacaa
open Go.Sx Go.RowKit
def prM (ls : List (List Int)) (ps : List Ps) (k : Nat) : List (List Int) := (ps.take k).foldl sendP ls
theorem prM_next {ls : List (List Int)} {ps : List Ps} {k : Nat} (hk : k < ps.length) : prM ls ps (k + 1) = sendP (prM ls ps k) (ps.getD k default) := by
  unfold prM
  rw [List.take_add_one, show ps[k]? = some (ps.getD k default) by simp [List.getD, hk]]
  simp
theorem prM_all (ls : List (List Int)) (ps : List Ps) : prM ls ps ps.length = ps.foldl sendP ls := by unfold prM; rw [List.take_length]
/-- Rows of one length, cells within a bound. -/
structure Sh (n D : Nat) (B : Int) (m : List (List Int)) : Prop where
  len : m.length = n
  row : ∀ k, k < n → (m.getD k []).length = D
  bd : ∀ i j, -B ≤ (m.getD i []).getD j 0 ∧ (m.getD i []).getD j 0 ≤ B
theorem Sh.add {n D : Nat} {B : Int} {m : List (List Int)} (h : Sh n D B m) {c j : Nat} {v : Int} (hv : -1000 ≤ v ∧ v ≤ 1000) : Sh n D (B + 1000) (addAt m c j v) := by
  refine ⟨(addAt_len _ _ _ _).trans h.len, fun k hk => (addAt_row _ _ _ _ _).trans (h.row k hk), fun i x => ?_⟩
  have h1 := h.bd i x
  have h2 := h.bd c j
  by_cases hi : i < m.length
  · by_cases e : c = i
    · subst e
      have e1 : (addAt m c j v).getD c [] = (m.getD c []).set j ((m.getD c []).getD j 0 + v) := by unfold addAt; simp [List.getD, hi]
      rw [e1]
      by_cases e2 : j = x
      · subst e2
        by_cases hj : j < (m.getD c []).length
        · have e3 : ((m.getD c []).set j ((m.getD c []).getD j 0 + v)).getD j 0 = (m.getD c []).getD j 0 + v := by
            generalize (m.getD c []) = r at hj
            generalize r.getD j 0 + v = y
            simp [List.getD, hj]
          rw [e3]; omega
        · rw [List.set_eq_of_length_le (by omega)]; omega
      · have e3 : ((m.getD c []).set j ((m.getD c []).getD j 0 + v)).getD x 0 = (m.getD c []).getD x 0 := by
          generalize (m.getD c []) = r
          generalize r.getD j 0 + v = y
          simp [List.getD, List.getElem?_set, e2]
        rw [e3]; omega
    · have e1 : (addAt m c j v).getD i [] = m.getD i [] := by unfold addAt; simp [List.getD, List.getElem?_set, e]
      rw [e1]; omega
  · have e1 : (addAt m c j v).getD i [] = m.getD i [] := by unfold addAt; simp [List.getD, hi]
    rw [e1]; omega
theorem Sh.send {n D : Nat} {B : Int} {m : List (List Int)} (h : Sh n D B m) {q : Ps} (ha : amB q = true) : Sh n D (B + 2000) (sendP m q) := by
  have h1 := of_decide_eq_true ha
  have h2 := (h.add (c := q.c.toNat) (j := q.h.toNat) (v := -q.a) (by omega)).add (c := q.t.toNat) (j := (q.h - 1).toNat) (v := q.a) (by omega)
  rw [show B + 1000 + 1000 = B + 2000 by omega] at h2
  exact h2
theorem sh_start {ls : List (List Int)} (hv : VB ls) : Sh ls.length (dep ls) 50 ls := ⟨rfl, hv.c, hv.w⟩
theorem sh_all {ls : List (List Int)} (hv : VB ls) {ps : List Ps} (ha : ∀ q ∈ ps, psB ls q = true ∧ amB q = true) : ∀ k, k ≤ ps.length → Sh ls.length (dep ls) (50 + 2000 * (k : Int)) (prM ls ps k)
  | 0, _ => by
    have := sh_start hv
    simpa [prM] using this
  | k + 1, hk => by
    have h := (sh_all hv ha k (by omega)).send (q := ps.getD k default) (ha _ (by simp [List.getD, show k < ps.length by omega])).2
    rw [prM_next (by omega), show (50 : Int) + 2000 * ((k + 1 : Nat) : Int) = 50 + 2000 * (k : Int) + 2000 by omega]
    exact h
theorem ent_row {D : Nat} {m : List (List Int)} {c : Nat} (hr : (m.getD c []).length = D) {S : Int} (h0 : ((entK D m (c * D)).map fun e => max e.2 0).sum = S) : ∀ j, j ≤ D → ((entK D m (c * D + j)).map fun e => max e.2 0).sum = S + posR ((m.getD c []).take j)
  | 0, _ => by rw [Nat.add_zero, h0]; simp [posR]
  | j + 1, hj => by
    have ih := ent_row hr h0 j (by omega)
    obtain ⟨e1, e2⟩ := idx_of (c := c) (show j < D by omega)
    rw [← Nat.add_assoc, entK_next, List.map_append, List.map_cons, List.map_nil, sum_snoc, ih, e1, e2, List.take_add_one, show (m.getD c [])[j]? = some ((m.getD c []).getD j 0) by (have h9 : j < (m.getD c []).length := by omega); (generalize m.getD c [] = r at h9); simp [List.getD, h9]]
    simp [posR]
    omega
theorem ent_sum {D : Nat} {m : List (List Int)} (hr : ∀ k, k < m.length → (m.getD k []).length = D) : ∀ c, c ≤ m.length → ((entK D m (c * D)).map fun e => max e.2 0).sum = ((m.take c).map posR).sum
  | 0, _ => by simp [entK]
  | c + 1, hc => by
    have ih := ent_row (hr c (by omega)) (ent_sum hr c (by omega)) D (Nat.le_refl _)
    have e : (m.getD c []).take D = m.getD c [] := List.take_of_length_le (by rw [hr c (by omega)]; exact Nat.le_refl _)
    rw [Nat.succ_mul, ih, e, List.take_add_one, show m[c]? = some (m.getD c []) by simp [List.getD, show c < m.length by omega]]
    simp
theorem ent_all {n D : Nat} {B : Int} {m : List (List Int)} (h : Sh n D B m) : ((entK D m (n * D)).map fun e => max e.2 0).sum = posS m := by
  have := ent_sum (D := D) (m := m) (fun k hk => h.row k (by rw [← h.len]; exact hk)) n (by rw [h.len]; exact Nat.le_refl _)
  rw [this, List.take_of_length_le (by rw [h.len]; exact Nat.le_refl _)]
  rfl
theorem PV.lookupV {P : Program} {n : Nat} {w0 : World} {E : Env} {G : Heap} {d : Option Nat} {ty : TypeId} {pos : String} {aft : Array Edge} {g : Option (Nat × Bool)} {k e0 : Nat} {x y : Operand} {t e b i : Nat} {xs : List Int} {es : List Ent} {v : Int} (hl : lookE xs es 0 = some (i, v)) (hk : KeyS P k e0) (ht : P.underlying t = some (.map k e)) (hz : zeroOf P e = some (.int .i64 0)) (h1 : evo E x = some (.map (some b))) (h2 : evo E y = some (.agg (intsA xs)))
    (hx : xs.length = 2) (he : ∀ q ∈ es, q.1.length = 2) (hm : (b, mobj es) ∈ G) : PV P n w0 E G ⟨d, .lookup t x y false, ty, pos, aft, g⟩ (.int .i64 v) := by
  have h := PV.lookupS (d := d) (ty := ty) (pos := pos) (aft := aft) (g := g) (n := n) (w0 := w0) hk ht hz h1 h2 hx he hm
  rw [hl] at h
  exact h
theorem zo_3 : zeroOf Try.prog 3 = some (.int .i64 0) := by kernel_rfl
theorem key_at {D : Nat} {a b : Int} (ha : 0 ≤ a) (hb : 0 ≤ b ∧ b < D) : keyI D (a.toNat * D + b.toNat) = [a, b] := by
  rw [key_of (by omega)]
  congr 1
  · omega
  · congr 1; omega
theorem cell_look {D n : Nat} {m : List (List Int)} {a b : Int} (ha : 0 ≤ a ∧ a < n) (hb : 0 ≤ b ∧ b < D) : lookE [a, b] (entK D m (n * D)) 0 = some (a.toNat * D + b.toNat, (m.getD a.toNat []).getD b.toNat 0) := by
  have h1 : a.toNat * D + b.toNat < n * D := by
    have : (a.toNat + 1) * D ≤ n * D := Nat.mul_le_mul_right _ (by omega)
    rw [Nat.succ_mul] at this
    omega
  have h := entK_look (D := D) (by omega) (m := m) h1
  obtain ⟨e1, e2⟩ := idx_of (c := a.toNat) (show b.toNat < D by omega)
  rw [key_at ha.1 hb, e1, e2] at h
  exact h
theorem cell_set {D n : Nat} {B : Int} {m : List (List Int)} (hs : Sh n D B m) {a b v : Int} (ha : 0 ≤ a ∧ a < n) (hb : 0 ≤ b ∧ b < D) : (entK D m (n * D)).set (a.toNat * D + b.toNat) ([a, b], (m.getD a.toNat []).getD b.toNat 0 + v) = entK D (addAt m a.toNat b.toNat v) (n * D) := by
  have h := entK_set (D := D) (by omega) (m := m) (k := n * D) (c := a.toNat) (j := b.toNat) (v := v) (by rw [hs.len]; omega) (by omega) (hs.row _ (by omega))
  rw [key_at ha.1 hb] at h
  exact h
theorem prE_drop {ls : List (List Int)} {ps : List Ps} {k : Nat} (hk : k < ps.length) (h : prE ls ps = prE ls (ps.drop k)) : (psB ls (ps.getD k default) = false → prE ls ps = 4) ∧ (psB ls (ps.getD k default) = true → amB (ps.getD k default) = false → prE ls ps = 1) ∧ (psB ls (ps.getD k default) = true → amB (ps.getD k default) = true → prE ls ps = prE ls (ps.drop (k + 1))) := by
  have e : ps.drop k = ps.getD k default :: ps.drop (k + 1) := by
    rw [List.drop_eq_getElem_cons hk]
    simp [List.getD, hk]
  rw [h, e]
  refine ⟨fun h1 => ?_, fun h1 h2 => ?_, fun h1 h2 => ?_⟩
  · unfold prE; rw [if_neg (by rw [h1]; decide)]
  · unfold prE; rw [if_pos h1, if_neg (by rw [h2]; decide)]
  · rw [prE, if_pos h1, if_pos h2]
end Go.Proofs.Ytfgjojoipbbacaa
