/- Texts joined. -/
import Derived.Test.YtfgjojoipbbacaaQDI
set_option linter.unusedSimpArgs false
set_option linter.unusedVariables false
/- Rows of ints in a slice of slices that the call owns: what is stored in a row; tolls: mathematics. -/
namespace Go.Proofs.Ytfgjojoipbbacaa
open Go.Sx Go.RowKit

theorem bl_append (A B : List (HD × List Int)) : bl (A ++ B) = bl B ++ bl A := by simp [bl]
theorem bl_cons (z : HD × List Int) (B : List (HD × List Int)) : bl (z :: B) = bl B ++ gbI z := by simp [bl]
/-- The same handles with other numbers. -/
def mkR (ps : List (HD × List Int)) (m : List (List Int)) : List (HD × List Int) := (List.range ps.length).map fun j => ((ps.getD j (none, [])).1, m.getD j [])
theorem mkR_len (ps : List (HD × List Int)) (m : List (List Int)) : (mkR ps m).length = ps.length := by simp [mkR]
theorem mkR_at {ps : List (HD × List Int)} {m : List (List Int)} {j : Nat} (hj : j < ps.length) : (mkR ps m).getD j (none, []) = ((ps.getD j (none, [])).1, m.getD j []) := by simp [mkR, List.getD, hj]
theorem mkR_self (ps : List (HD × List Int)) : mkR ps (ps.map (·.2)) = ps := by
  apply List.ext_getElem (by simp [mkR])
  intro i h1 h2
  simp [mkR, List.getD, h2]
theorem mkR_snd {ps : List (HD × List Int)} {m : List (List Int)} (h : m.length = ps.length) : (mkR ps m).map (·.2) = m := by
  apply List.ext_getElem (by simp [mkR, h])
  intro i h1 h2
  have : i < m.length := h2
  simp [mkR, List.getD, this]
structure Shp (ps : List (HD × List Int)) (m : List (List Int)) : Prop where
  len : m.length = ps.length
  row : ∀ j, j < ps.length → (m.getD j []).length = (ps.getD j (none, [])).2.length
theorem mkR_gv {ps : List (HD × List Int)} {m : List (List Int)} (h : Shp ps m) : (mkR ps m).map gvI = ps.map gvI := by
  apply List.ext_getElem (by simp [mkR])
  intro i h1 h2
  have hi : i < ps.length := by simpa using h2
  have := h.row i hi
  simp only [List.getD, List.getElem?_eq_getElem hi, Option.getD_some] at this
  simp only [mkR, List.getElem_map, List.getElem_range, List.getD, List.getElem?_eq_getElem hi, Option.getD_some]
  unfold gvI
  rw [this]
theorem gok_len {h : HD} {len : Nat} {ys ys' : List Value} (ho : gok h len 1 ys) (e : ys'.length = len) : gok h len 1 ys' := by
  have hl := ho.1
  refine ⟨by omega, ?_⟩
  have h2 := ho.2
  cases h with
  | none => exact h2
  | some hh => obtain ⟨b, cap, sp⟩ := hh; exact ⟨by have := h2.1; omega, h2.2⟩
theorem GrP.mkR {l : List (List Int)} {y : HD × List (HD × List Int)} (h : GrP l y) {m : List (List Int)} (hs : Shp y.2 m) : GrP m (y.1, mkR y.2 m) :=
  ⟨mkR_snd hs.len, by
    show gok y.1 (Ytfgjojoipbbacaa.mkR y.2 m).length 1 _
    rw [mkR_len, mkR_gv hs]; exact h.ok, fun z hz => by
    obtain ⟨j, hj, rfl⟩ := List.getElem_of_mem hz
    have hj' : j < y.2.length := by rwa [mkR_len] at hj
    have h1 := h.all _ (List.getElem_mem hj')
    have h2 := hs.row j hj'
    simp only [List.getD, List.getElem?_eq_getElem hj', Option.getD_some] at h2
    have e : (Ytfgjojoipbbacaa.mkR y.2 m)[j] = (y.2[j].1, m.getD j []) := by simp [Ytfgjojoipbbacaa.mkR, List.getD, hj']
    have e2 : (Ytfgjojoipbbacaa.mkR y.2 m)[j].2.length = y.2[j].2.length := by rw [e]; exact h2
    show gok (Ytfgjojoipbbacaa.mkR y.2 m)[j].1 (Ytfgjojoipbbacaa.mkR y.2 m)[j].2.length 1 _
    rw [e2, show (Ytfgjojoipbbacaa.mkR y.2 m)[j].1 = y.2[j].1 by rw [e]]
    exact gok_len h1 (by rw [← e2]; simp [ival])⟩
theorem gbP_mkR {y : HD × List (HD × List Int)} {m : List (List Int)} (hs : Shp y.2 m) : gbP (y.1, mkR y.2 m) = gbP y := by
  unfold gbP
  rw [mkR_gv hs]
theorem GrP.shp {l : List (List Int)} {y : HD × List (HD × List Int)} (h : GrP l y) {m : List (List Int)} (h1 : m.length = l.length) (h2 : ∀ j, j < l.length → (m.getD j []).length = (l.getD j []).length) : Shp y.2 m :=
  ⟨by rw [h1, h.len], fun j hj => by
    rw [h.len] at hj
    rw [h2 j hj, (h.row hj).2.1]⟩
/-- A row's block is turned, in the midst of the others. -/
inductive PutL (ps ps' : List (HD × List Int)) : Heap → Heap → Prop
  | here (G : Heap) : PutL ps ps' (bl ps ++ G) (bl ps' ++ G)
  | tail (p : Nat × Obj) {G R : Heap} (t : PutL ps ps' G R) : PutL ps ps' (p :: G) (p :: R)
  | app (A : Heap) {G R : Heap} (t : PutL ps ps' G R) : PutL ps ps' (A ++ G) (A ++ R)
theorem bl_upd {ps : List (HD × List Int)} {c b cap : Nat} {sp : List Value} {xs xs' : List Int} (hc : c < ps.length) (h : ps.getD c (none, []) = (some (b, cap, sp), xs)) :
    Upd b (.cells (ival xs ++ sp).toArray 3 (0, 0)) (.cells (ival xs' ++ sp).toArray 3 (0, 0)) (bl ps) (bl (ps.set c (some (b, cap, sp), xs'))) := by
  have e1 : ps = ps.take c ++ (some (b, cap, sp), xs) :: ps.drop (c + 1) := by
    rw [← h]
    simp only [List.getD, List.getElem?_eq_getElem hc, Option.getD_some]
    rw [List.getElem_cons_drop, List.take_append_drop]
  have e2 : ps.set c (some (b, cap, sp), xs') = ps.take c ++ (some (b, cap, sp), xs') :: ps.drop (c + 1) := by
    rw [List.set_eq_take_append_cons_drop, if_pos hc]
  rw [e2]
  conv => arg 4; rw [e1]
  rw [bl_append, bl_append, bl_cons, bl_cons, List.append_assoc, List.append_assoc]
  exact Upd.appR _ (Upd.appL _ (Upd.head _))
theorem PutL.upd {ps : List (HD × List Int)} {c b cap : Nat} {sp : List Value} {xs xs' : List Int} {G R : Heap} (hc : c < ps.length) (h : ps.getD c (none, []) = (some (b, cap, sp), xs)) (hp : PutL ps (ps.set c (some (b, cap, sp), xs')) G R) :
    Upd b (.cells (ival xs ++ sp).toArray 3 (0, 0)) (.cells (ival xs' ++ sp).toArray 3 (0, 0)) G R := by
  generalize hq : ps.set c (some (b, cap, sp), xs') = ps' at hp
  induction hp with
  | here G => subst hq; exact Upd.appL _ (bl_upd hc h)
  | tail p _ ih => exact ih.tail p
  | app A _ ih => exact Upd.appR A ih
theorem mkR_set {ps : List (HD × List Int)} {m : List (List Int)} {c : Nat} {xs : List Int} (hc : c < ps.length) (hl : m.length = ps.length) : (mkR ps m).set c ((ps.getD c (none, [])).1, xs) = mkR ps (m.set c xs) := by
  apply List.ext_getElem (by simp [mkR])
  intro i h1 h2
  have hi : i < ps.length := by simpa [mkR] using h2
  rw [List.getElem_set]
  by_cases e : c = i
  · subst e
    simp [mkR, List.getD, hl ▸ hi]
  · simp [mkR, e, List.getD]
section
variable {P : Program} {n : Nat} {w0 : World} {E : Env} {G : Heap} {ty : TypeId} {pos : String} {aft : Array Edge} {g : Option (Nat × Bool)} {ops : Array Oper} {Q : Exit → Act → World → Prop} {l : List Oper}
/-- A store of an int in a row. -/
theorem TL.putL {dd : Option Nat} {x y : Operand} {l0 : List (List Int)} {yy : HD × List (HD × List Int)} {m m' : List (List Int)} {c j t : Nat} {v : Int} {G' : Heap} (hx : evo E x = some (.pointer (some ⟨((yy.2.getD c (none, [])).1.map (·.1)).getD 0, j * 1, none⟩))) (hy : evo E y = some (.int .i64 v))
    (hsz : cellsN P t = some 1) (hg0 : GrP l0 yy) (hs : Shp yy.2 m) (hc : c < yy.2.length) (hj : j < (m.getD c []).length) (hm' : m.set c ((m.getD c []).set j v) = m') (hT : PutL (mkR yy.2 m) (mkR yy.2 m') G G') (hg : wants ops E g = some true) (hdd : dd = none)
    (hk : TL P n w0 ops Q l E G') : TL P n w0 ops Q (⟨dd, .store t x y, ty, pos, aft, g⟩ :: l) E G := by
  have hgm := hg0.mkR hs
  have hrow := (hgm.row (i := c) (by rw [hs.len]; exact hc)).1
  have hat := mkR_at (m := m) hc
  simp only at hrow
  rw [hat] at hrow
  cases hh : (yy.2.getD c (none, [])).1 with
  | none =>
    rw [hh] at hrow
    exact absurd hrow.2 (by simp only; omega)
  | some h9 =>
    obtain ⟨b, cap, sp⟩ := h9
    rw [hh] at hrow hx hat
    have e9 : (ival (m.getD c []) ++ sp).toArray.setIfInBounds (j * 1) (.int .i64 v) = (ival ((m.getD c []).set j v) ++ sp).toArray := by
      simp only [List.setIfInBounds_toArray, Nat.mul_one]
      rw [List.set_append_left _ _ (by simpa [ival] using hj)]
      simp [ival, List.map_set]
    have hset := mkR_set (m := m) (xs := (m.getD c []).set j v) hc hs.len
    rw [hh, hm'] at hset
    rw [← hset] at hT
    exact TL.store (cs := (ival (m.getD c []) ++ sp).toArray) (b := b) (off := j * 1) (v := .int .i64 v) (e := 3) hx hy hsz rfl (by rw [e9]; exact PutL.upd (by rw [mkR_len]; exact hc) hat hT) (by simp only [List.size_toArray, List.length_append, ival, List.length_map]; omega) hg hdd hk
end
/-! Tolls. -/
def tolK (ls : List (List Int)) (by_ : Int) (c r : Nat) : List (List Int) := (List.range ls.length).map fun j => (List.range (ls.getD j []).length).map fun k => (ls.getD j []).getD k 0 - if j < c ∨ (j = c ∧ k < r) then by_ else 0
theorem tol_len (ls : List (List Int)) (b : Int) (c r : Nat) : (tolK ls b c r).length = ls.length := by simp [tolK]
theorem tol_row {ls : List (List Int)} {b : Int} {c r j : Nat} (hj : j < ls.length) : (tolK ls b c r).getD j [] = (List.range (ls.getD j []).length).map fun k => (ls.getD j []).getD k 0 - if j < c ∨ (j = c ∧ k < r) then b else 0 := by simp [tolK, List.getD, hj]
theorem tol_rlen {ls : List (List Int)} {b : Int} {c r j : Nat} (hj : j < ls.length) : ((tolK ls b c r).getD j []).length = (ls.getD j []).length := by rw [tol_row hj]; simp
theorem tol_at {ls : List (List Int)} {b : Int} {c r j k : Nat} (hj : j < ls.length) (hk : k < (ls.getD j []).length) : ((tolK ls b c r).getD j []).getD k 0 = (ls.getD j []).getD k 0 - if j < c ∨ (j = c ∧ k < r) then b else 0 := by
  rw [tol_row hj]
  simp only [List.getD_eq_getElem?_getD, List.getElem?_map] at hk ⊢
  simp [hk]
theorem lls_ext {a b : List (List Int)} (h : a.length = b.length) (h2 : ∀ j, j < a.length → a.getD j [] = b.getD j []) : a = b := by
  apply List.ext_getElem h
  intro i h1 h3
  have := h2 i h1
  simpa [List.getD, h1, h3] using this
theorem tol_eq {ls m : List (List Int)} {b : Int} {c r : Nat} (h1 : m.length = ls.length) (h2 : ∀ j, j < ls.length → (m.getD j []).length = (ls.getD j []).length) (h3 : ∀ j k, j < ls.length → k < (ls.getD j []).length → (m.getD j []).getD k 0 = (ls.getD j []).getD k 0 - if j < c ∨ (j = c ∧ k < r) then b else 0) : m = tolK ls b c r :=
  lls_ext (by rw [tol_len, h1]) fun j hj => by
    rw [h1] at hj
    refine ints_ext (by rw [h2 j hj, tol_rlen hj]) fun k hk => ?_
    rw [h2 j hj] at hk
    rw [h3 j k hj hk, tol_at hj hk]
theorem tol_zero (ls : List (List Int)) (b : Int) : ls = tolK ls b 0 0 := tol_eq rfl (fun _ _ => rfl) fun j k _ _ => by simp
theorem tol_next {ls : List (List Int)} {b : Int} {c r : Nat} (h : r = (ls.getD c []).length) : tolK ls b c r = tolK ls b (c + 1) 0 := by
  refine tol_eq (tol_len _ _ _ _) (fun j hj => tol_rlen hj) fun j k hj hk => ?_
  rw [tol_at hj hk]
  congr 1
  by_cases e : j < c
  · rw [if_pos (.inl e), if_pos (.inl (by omega))]
  · by_cases e2 : j = c
    · subst e2
      rw [if_pos (.inr ⟨rfl, by omega⟩), if_pos (.inl (by omega))]
    · rw [if_neg (by omega), if_neg (by omega)]
theorem tol_put {ls : List (List Int)} {b : Int} {c r : Nat} {v : Int} (hc : c < ls.length) (hr : r < (ls.getD c []).length) (hv : v = (ls.getD c []).getD r 0 - b) : (tolK ls b c r).set c (((tolK ls b c r).getD c []).set r v) = tolK ls b c (r + 1) := by
  subst hv
  have hrow : ∀ j, j < ls.length → ((tolK ls b c r).set c (((tolK ls b c r).getD c []).set r ((ls.getD c []).getD r 0 - b))).getD j [] = if c = j then ((tolK ls b c r).getD c []).set r ((ls.getD c []).getD r 0 - b) else (tolK ls b c r).getD j [] := fun j hj => by
    simp only [List.getD_eq_getElem?_getD, List.getElem?_set, tol_len]
    by_cases e : c = j
    · subst e; simp [hc]
    · simp [e]
  refine tol_eq (by rw [List.length_set, tol_len]) (fun j hj => ?_) fun j k hj hk => ?_
  · rw [hrow j hj]
    split
    · rename_i e; subst e; rw [List.length_set, tol_rlen hj]
    · exact tol_rlen hj
  · rw [hrow j hj]
    by_cases e : c = j
    · subst e
      rw [if_pos rfl]
      by_cases e2 : r = k
      · subst e2
        rw [if_pos (.inr ⟨rfl, by omega⟩)]
        simp only [List.getD_eq_getElem?_getD]
        rw [List.getElem?_set_self (by have := tol_rlen (b := b) (c := c) (r := r) hc; simp only [List.getD_eq_getElem?_getD] at this hr; omega)]
        rfl
      · have e3 := tol_at (b := b) (c := c) (r := r) hj hk
        simp only [List.getD_eq_getElem?_getD] at e3 ⊢
        rw [List.getElem?_set_ne e2, e3]
        congr 1
        by_cases h7 : k < r
        · rw [if_pos (.inr ⟨by first | rfl | trivial, h7⟩), if_pos (.inr ⟨by first | rfl | trivial, by omega⟩)]
        · rw [if_neg (by omega), if_neg (by omega)]
    · rw [if_neg e, tol_at hj hk]
      congr 1
      by_cases h7 : j < c
      · rw [if_pos (.inl h7), if_pos (.inl h7)]
      · rw [if_neg (by omega), if_neg (by omega)]
/-- The bog in which cutting is dearer. -/
abbrev tolL (ls : List (List Int)) (b : Int) : List (List Int) := tolK ls b ls.length 0
def tolI (ls : List (List Int)) (b : Int) : Int := if validI ls ≠ 0 then validI ls else if -50 ≤ b ∧ b ≤ 50 then if validI (tolL ls b) ≠ 0 then 3 else 0 else 1
def tolR (ls : List (List Int)) (b : Int) : List (List Int) := if tolI ls b = 0 then tolL ls b else []
theorem tolI_0 {ls : List (List Int)} {b : Int} (h : tolI ls b = 0) : ¬ validI ls ≠ 0 ∧ (-50 ≤ b ∧ b ≤ 50) ∧ ¬ validI (tolL ls b) ≠ 0 := by
  unfold tolI at h
  by_cases h1 : validI ls ≠ 0
  · rw [if_pos h1] at h; exact absurd h h1
  · rw [if_neg h1] at h
    by_cases h2 : -50 ≤ b ∧ b ≤ 50
    · rw [if_pos h2] at h
      by_cases h3 : validI (tolL ls b) ≠ 0
      · rw [if_pos h3] at h; cases h
      · exact ⟨h1, h2, h3⟩
    · rw [if_neg h2] at h; cases h
theorem tolI_a {ls : List (List Int)} {b : Int} (h1 : validI ls ≠ 0) : tolI ls b = validI ls := if_pos h1
theorem tolI_b {ls : List (List Int)} {b : Int} (h1 : ¬ validI ls ≠ 0) (h2 : ¬ (-50 ≤ b ∧ b ≤ 50)) : tolI ls b = 1 := by unfold tolI; rw [if_neg h1, if_neg h2]
theorem tolI_c {ls : List (List Int)} {b : Int} (h1 : ¬ validI ls ≠ 0) (h2 : -50 ≤ b ∧ b ≤ 50) (h3 : validI (tolL ls b) ≠ 0) : tolI ls b = 3 := by unfold tolI; rw [if_neg h1, if_pos h2, if_pos h3]
theorem tolI_d {ls : List (List Int)} {b : Int} (h1 : ¬ validI ls ≠ 0) (h2 : -50 ≤ b ∧ b ≤ 50) (h3 : ¬ validI (tolL ls b) ≠ 0) : tolI ls b = 0 := by unfold tolI; rw [if_neg h1, if_pos h2, if_neg h3]
theorem tolR_no {ls : List (List Int)} {b : Int} (h : tolI ls b ≠ 0) : tolR ls b = [] := if_neg h
theorem tolR_ok {ls : List (List Int)} {b : Int} (h : tolI ls b = 0) : tolR ls b = tolL ls b := if_pos h
theorem tolL_at {ls : List (List Int)} {b : Int} {j k : Nat} (hj : j < ls.length) (hk : k < (ls.getD j []).length) : ((tolL ls b).getD j []).getD k 0 = (ls.getD j []).getD k 0 - b := by rw [tol_at hj hk, if_pos (.inl hj)]
theorem dep_tol {ls : List (List Int)} {b : Int} (h : 0 < ls.length) : dep (tolL ls b) = dep ls := tol_rlen h
/-- How much dearer a hollow is. -/
theorem sum_tol {ls : List (List Int)} {b : Int} (hv : VB ls) {j : Nat} (hj : j < ls.length) : ∀ n : Nat, n ≤ dep ls → sumN ((tolL ls b).getD j []) n = sumN (ls.getD j []) n - b * n
  | 0, _ => by simp [sumN]
  | n + 1, h => by
    show sumN _ n + _ = sumN _ n + _ - _
    rw [sum_tol hv hj n (by omega), tolL_at hj (by rw [hv.c j hj]; omega), Int.natCast_add, Int.mul_add]
    omega
def totK (hs : List Int) : Nat → Int
  | 0 => 0
  | k + 1 => totK hs k + hs.getD k 0
theorem wor_tol {ls : List (List Int)} {b : Int} {hs : List Int} (h : NB ls hs) : ∀ k, k ≤ ls.length → worK (tolL ls b) hs k = worK ls hs k - b * totK hs k
  | 0, _ => by simp [worK, totK]
  | k + 1, hk => by
    show worK _ _ k + _ = worK _ _ k + _ - b * (totK hs k + hs.getD k 0)
    have h1 := h.at_ k
    rw [wor_tol h k (by omega), sum_tol h.vb (by omega) _ (by omega), Int.mul_add]
    have : ((hs.getD k 0).toNat : Int) = hs.getD k 0 := by omega
    rw [this]
    omega
theorem tot_le {xs ys : List Int} (h : ∀ c, xs.getD c 0 ≤ ys.getD c 0) : ∀ k, totK xs k ≤ totK ys k
  | 0 => Int.le_refl _
  | k + 1 => by have := tot_le h k; have := h k; show _ + _ ≤ _ + _; omega
theorem HO.tol {ls : List (List Int)} {b : Int} {hs : List Int} (hv : VB (tolL ls b)) (h : HO ls hs) : HO (tolL ls b) hs := by
  have hn := h.vb.n
  have hd := dep_tol (b := b) (show 0 < ls.length by omega)
  exact ⟨⟨hv, by rw [tol_len]; exact h.len, fun k => by rw [hd]; exact h.at_ k⟩, fun k hk => h.stp k (by rwa [tol_len] at hk)⟩
theorem HO.untol {ls : List (List Int)} {b : Int} {hs : List Int} (hv : VB ls) (h : HO (tolL ls b) hs) : HO ls hs := by
  have hn := hv.n
  have hd := dep_tol (b := b) (show 0 < ls.length by omega)
  exact ⟨⟨hv, by rw [h.len, tol_len], fun k => by rw [← hd]; exact h.at_ k⟩, fun k hk => h.stp k (by rwa [tol_len])⟩
theorem worH_tol {ls : List (List Int)} {b : Int} {hs : List Int} (h : HO ls hs) : worH (tolL ls b) hs = worH ls hs - b * totK hs ls.length := by
  unfold worH
  rw [h.len]
  exact wor_tol h.toNB _ (Nat.le_refl _)
/-- The best hollows of the dearer bog lie in those of the bog. -/
theorem tolls {ls : List (List Int)} {b : Int} (hb : 0 ≤ b) {x y u v : List Int} {n m n2 m2 : Int} (h1 : BstP min (tolL ls b) x n) (h2 : BstP min ls y m) (h3 : BstP max (tolL ls b) u n2) (h4 : BstP max ls v m2) : n ≤ m ∧ lieB x y = true ∧ lieB u v = true := by
  have hv := h2.ho.vb
  have hv2 := h1.ho.vb
  have hn := hv.n
  have mono : ∀ {s t : List Int}, (∀ c, s.getD c 0 ≤ t.getD c 0) → b * totK s ls.length ≤ b * totK t ls.length := fun h => Int.mul_le_mul_of_nonneg_left (tot_le h _) hb
  have lz : ∀ {J : Int → Int → Int} {s t : List Int}, Jn J → HO ls s → HO ls t → ∀ c, (List.zipWith J s t).getD c 0 = J (s.getD c 0) (t.getD c 0) := fun hJ hs ht c => zip_any hJ hs.len ht.len c
  have hx := h1.ho.untol hv
  have hy := h2.ho
  have hu := h3.ho.untol hv
  have hw := h4.ho
  refine ⟨?_, ?_, ?_⟩
  · have e1 := h1.w
    rw [worH_tol hx] at e1
    have e2 := h2.max x hx
    have e3 : 0 ≤ b * totK x ls.length := Int.mul_nonneg hb (by
      have : ∀ k, 0 ≤ totK x k := fun k => by
        induction k with
        | zero => exact Int.le_refl _
        | succ k ih => have := hx.at_ k; show 0 ≤ _ + _; omega
      exact this _)
    omega
  · refine lie_yes (by rw [hx.len, hy.len]) fun c _ => ?_
    have hm := hx.both hy
    have hM := hx.either hy
    have e1 := wor_mod (ls := ls) hx.len hy.len
    have e2 := h2.max _ hM
    have e3 := h2.w
    have e4 := h1.w
    have e5 := h1.max _ (hm.tol hv2)
    rw [worH_tol hx] at e4
    rw [worH_tol hm] at e5
    have e6 := mono (s := List.zipWith min x y) (t := x) fun c => by rw [lz jn_min hx hy]; omega
    have e7 := h1.ab _ (hm.tol hv2) (by rw [worH_tol hm]; omega) c
    rw [lz jn_min hx hy] at e7
    omega
  · refine lie_yes (by rw [hu.len, hw.len]) fun c _ => ?_
    have hm := hu.both hw
    have hM := hu.either hw
    have e1 := wor_mod (ls := ls) hu.len hw.len
    have e2 := h4.max _ hM
    have e3 := h4.w
    have e4 := h3.w
    have e5 := h3.max _ (hm.tol hv2)
    rw [worH_tol hu] at e4
    rw [worH_tol hm] at e5
    have e6 := mono (s := List.zipWith min u v) (t := u) fun c => by rw [lz jn_min hu hw]; omega
    have e7 := h4.ab _ hM (by omega) c
    rw [lz jn_max hu hw] at e7
    omega
/-! A copy under way: the rows that are there, then nil. -/
def cpY (b n : Nat) (A : List (HD × List Int)) : HD × List (HD × List Int) := (some (b, n, []), A ++ List.replicate (n - A.length) (none, []))
theorem cpY_len {b n : Nat} {A : List (HD × List Int)} (h : A.length ≤ n) : (cpY b n A).2.length = n := by simp [cpY]; omega
theorem cpY_ok {b n : Nat} {A : List (HD × List Int)} (h : A.length ≤ n) : goP (cpY b n A) := by
  refine ⟨by simp [cpY], ?_⟩
  have := cpY_len (b := b) h
  simp [cpY] at this ⊢
  omega
theorem cpY_put {b n : Nat} {A : List (HD × List Int)} {z : HD × List Int} (h : A.length < n) : ((cpY b n A).2.map gvI).set A.length (gvI z) = (cpY b n (A ++ [z])).2.map gvI := by
  have e : n - A.length = (n - (A.length + 1)) + 1 := by omega
  simp only [cpY, List.length_append, List.length_singleton, e, List.replicate_succ, List.map_append, List.map_cons, List.append_assoc]
  rw [List.set_append_right _ _ (by simp)]
  simp
structure CpI (ls : List (List Int)) (A : List (HD × List Int)) : Prop where
  le : A.length ≤ ls.length
  eq : A.map (·.2) = ls.take A.length
  all : ∀ z ∈ A, goI z
theorem CpI.nil (ls : List (List Int)) : CpI ls [] := ⟨Nat.zero_le _, rfl, by simp⟩
theorem CpI.snoc {ls : List (List Int)} {A : List (HD × List Int)} (h : CpI ls A) (hl : A.length < ls.length) {h9 : HD} (hg : goI (h9, ls.getD A.length [])) : CpI ls (A ++ [(h9, ls.getD A.length [])]) :=
  ⟨by simp; omega, by
    rw [List.map_append, h.eq, List.length_append, List.length_singleton, List.take_add_one]
    congr 1
    simp [List.getD, hl], fun z hz => by
    rcases List.mem_append.1 hz with hz | hz
    · exact h.all z hz
    · rw [List.mem_singleton.1 hz]; exact hg⟩
theorem CpI.gr {ls : List (List Int)} {A : List (HD × List Int)} (h : CpI ls A) (hl : A.length = ls.length) (b : Nat) : GrP ls (cpY b ls.length A) := by
  have e : (cpY b ls.length A).2 = A := by simp [cpY, hl]
  exact ⟨by rw [e, h.eq, hl, List.take_length], cpY_ok h.le, by rw [e]; exact h.all⟩
end Go.Proofs.Ytfgjojoipbbacaa

/- Copies of bogs: contracts. -/
namespace Go.Proofs.Ytfgjojoipbbacaa
open Go.Sx Go.RowKit

theorem cp_zero (b n : Nat) : gbP (cpY b n []) = [(b, .cells (List.replicate n (Value.slice none 0 0)).toArray 25 (0, 0))] := by
  simp only [gbP, cpY, gblk, List.nil_append, List.length_nil, Nat.sub_zero, List.map_replicate, List.append_nil]
  rfl
theorem cpY_put' {b n k : Nat} {A : List (HD × List Int)} {z : HD × List Int} (h : A.length = k) (hk : k < n) : (cpY b n (A ++ [z])).2.map gvI = ((cpY b n A).2.map gvI).set k (gvI z) := by
  subst h; exact (cpY_put hk).symm
theorem gvP_one (x : HD × List (HD × List Int)) : (gvP x).oneCell' = true := by
  obtain ⟨h, l⟩ := x
  cases h <;> rfl
theorem gvP_all (x : HD × List (HD × List Int)) : [gvP x].all Value.oneCell' = true := by simp [gvP_one]
theorem cp_bl {b n : Nat} {A : List (HD × List Int)} (h : A.length = n) : (cpY b n A).2 = A := by simp [cpY, h]


set_option maxRecDepth 100000 in
set_option maxHeartbeats 1000000 in
theorem copied_ok (w0 : World) (p : Option Addr) (cap : Nat) (ls : List (List Int)) (hr : LsAt w0 p ls) (hv : VB ls) :
    Calls Try.prog 79 #[bv p ls.length cap] w0 (Post (X := HD × List (HD × List Int)) (fun z => .agg #[gvP z]) (fun z => GrP ls z) (fun z => gbP z ++ bl z.2) w0) := by
  have hn9 := hv.n
  have hd9 := hv.d
  refine calls Try.func79 rfl (n := 26) rfl (by simp) ?_
  refine TC.seq ?_
  refine TC.region ?_
  refine TL.box rfl rfl (by decide) (fun b0 hb0 => ?_)
  refine TL.alloc Tb.zero_24 rfl (by decide) (fun b1 hb1 => ?_)
  refine TL.nil ?_
  refine TQ.thenC ?_
  refine TC.seq ?_
  refine TC.region ?_
  refine TL.pure (PV.fieldAddr rfl Tb.fo_24_0) rfl (by decide) ?_
  refine TL.pure (PV.load rfl Tb.one_22 (by repeat (first | exact List.Mem.head _ | refine List.Mem.tail _ ?_ | refine List.mem_append_right _ ?_)) rfl) rfl (by decide) ?_
  refine TL.pure (PV.len rfl Tb.sl_22) rfl (by decide) ?_
  refine TL.make (k := ls.length) (z := .slice none 0 0) rfl rfl Tb.sl_22 Tb.zi_25 rfl rfl (by omega) (by omega) rfl (by decide) (fun b9 hb9 => ?_)
  refine TL.pure (PV.assign rfl) rfl (by decide) ?_
  refine TL.nil ?_
  refine TQ.thenC ?_
  refine TC.seq ?_
  refine TC.seq ?_
  refine TC.region ?_
  refine TL.pure (PV.fieldAddr rfl Tb.fo_24_0) rfl (by decide) ?_
  refine TL.pure (PV.load rfl Tb.one_22 (by repeat (first | exact List.Mem.head _ | refine List.Mem.tail _ ?_ | refine List.mem_append_right _ ?_)) rfl) rfl (by decide) ?_
  refine TL.pure (PV.len rfl Tb.sl_22) rfl (by decide) ?_
  refine TL.pure (PV.move rfl) rfl (by decide) ?_
  refine TL.nil ?_
  refine TQ.thenC ?_
  refine TC.block ?_
  refine TC.lit [(2, _), (3, _), (11, _), (12, _), (13, _)] (by repeat (first | exact True.intro | refine And.intro rfl ?_)) ?_
  refine TC.loopK [2, 3, 11, 12] (X := Nat × List (HD × List Int)) (fun y => y.2.length = y.1 ∧ CpI ls y.2) (fun y => [(13, .int .i64 y.1)]) (fun y => bl y.2 ++ (gbP (cpY b9 ls.length y.2) ++ [(b1, Obj.cells #[.slice none 0 0] 24 (0, 0)), (b0, Obj.cells #[.slice p ls.length cap] 24 (0, 0))])) (fun y => ls.length - y.1) (0, []) ⟨rfl, CpI.nil ls⟩ (by repeat (first | exact True.intro | refine And.intro rfl ?_)) (by rw [cp_zero]; exact List.Sublist.refl _) ?_
  intro y hy
  have hle := hy.2.le
  have hy1 := hy.1
  refine TC.lit [(2, _), (3, _), (11, _), (12, _), (13, _)] (by repeat (first | exact True.intro | refine And.intro rfl ?_)) ?_
  refine TC.seq ?_
  refine TC.region ?_
  refine TL.pure (PV.lss rfl rfl) rfl (by decide) ?_
  refine TL.nil ?_
  refine TQ.thenC ?_
  refine TC.seq ?_
  first | refine TC.condD rfl (fun h0 => ?_) (fun h0 => ?_) | refine TC.cond rfl (fun h0 => ?_) (fun h0 => ?_)
  · skip
    refine TC.skip ?_
    refine TQ.thenC ?_
    refine TC.seq ?_
    refine TC.block ?_
    refine TC.seq ?_
    obtain ⟨q2, hq2p, pj, cj, hq2, hjx⟩ := hr y.1 (by omega)
    have hrl := hv.c y.1 (by omega)
    obtain ⟨q8, hq8, _⟩ := hjx 0 (by omega)
    rw [hrl] at hq2
    refine TC.region ?_
    refine TL.pure (PV.move rfl) rfl (by decide) ?_
    refine TL.pure (PV.indexA rfl hq2p rfl Tb.elm_22 rfl (by omega)) rfl (by decide) ?_
    refine TL.pure (PV.loadOld rfl Tb.one_25 hq2) rfl (by decide) ?_
    refine TL.pure (PV.assign rfl) rfl (by decide) ?_
    refine TL.pure (PV.assign rfl) rfl (by decide) ?_
    refine TL.nil ?_
    refine TQ.thenC ?_
    refine TC.region ?_
    refine TL.pure (PV.move rfl) rfl (by decide) ?_
    refine TL.pure (PV.move rfl) rfl (by decide) ?_
    refine TL.pure (PV.move rfl) rfl (by decide) ?_
    refine TL.call rfl Tb.gofn_76 (fun a w hs => (by rw [hq8, ← hrl]; exact clone_ok w q8 cj (ls.getD y.1 []) (by rw [← hq8]; exact hjx.new hs.new) (by omega))) rfl (by decide) (fun h9 hh9 => ?_)
    refine TL.pure (PV.indexG (h := some (b9, ls.length, [])) (len := ls.length) (ys := (cpY b9 ls.length y.2).2.map gvI) (j := y.1) rfl rfl (by have h7 := cpY_ok (b := b9) (n := ls.length) (A := y.2) (by omega); rw [goP, cpY_len (by omega)] at h7; exact h7) Tb.elm_22 rfl (by omega)) rfl (by decide) ?_
    refine TL.put1 (h := some (b9, ls.length, [])) (len := ls.length) (e := 25) (ys := (cpY b9 ls.length y.2).2.map gvI) (ys' := (cpY b9 ls.length (y.2 ++ [(h9, ls.getD y.1 [])])).2.map gvI) (j := y.1) (v := gvI (h9, ls.getD y.1 [])) rfl (by rw [gvI, hrl]; rfl) Tb.cells_25 (gvI_one _) (by have h7 := cpY_ok (b := b9) (n := ls.length) (A := y.2) (by omega); rw [goP, cpY_len (by omega)] at h7; exact h7) (cpY_put' hy.1 (by omega)) (by repeat (first | exact PutH.here _ _ _ _ | apply PutH.tail | apply PutH.app)) (by omega) rfl rfl ?_
    refine TL.nil ?_
    refine TQ.blkN ?_
    refine TQ.thenC ?_
    refine TC.region ?_
    refine TL.pure (PV.add rfl rfl (by omega)) rfl (by decide) ?_
    refine TL.pure (PV.move rfl) rfl (by decide) ?_
    refine TL.nil ?_
    refine TQ.thenN ?_
    refine TQ.backK (y.1 + 1, y.2 ++ [(h9, ls.getD y.1 [])]) (by repeat (first | exact True.intro | refine And.intro rfl ?_)) (by repeat (first | exact True.intro | refine And.intro rfl ?_)) (by rw [bl_snoc]; simp only [List.append_assoc]; exact List.Sublist.refl _) ⟨by simp only [List.length_append, List.length_singleton]; omega, by have h7 := hy.2.snoc (h9 := h9) (by omega) (by rw [hy.1]; exact hh9); rw [hy.1] at h7; exact h7⟩ (by simp only; omega)
  · skip
    refine TC.exit ?_
    refine TQ.thenE ?_
    refine TQ.thenE ?_
    refine TQ.blkS ?_
    refine TQ.thenC ?_
    refine TC.seq ?_
    refine TC.perm (List.perm_append_comm_assoc _ _ _) ?_
    refine TC.region ?_
    refine TL.pure (PV.move rfl) rfl (by decide) ?_
    refine TL.pure (PV.build rfl Tb.zero_24 Tb.pl_24 rfl) rfl (by decide) ?_
    refine TL.storeAgg rfl rfl Tb.cells_24 (by repeat (first | exact Upd.head _ | apply Upd.tail | apply Upd.appR)) rfl rfl (by first | rfl | exact sv_one _ _ _) rfl rfl ?_
    refine TL.nil ?_
    refine TQ.thenC ?_
    refine TC.ret ?_
    refine TQ.retR rfl (Res.agg rfl Tb.agg_24 (by repeat (first | exact List.Mem.head _ | refine List.Mem.tail _ ?_ | refine List.mem_append_right _ ?_)) rfl Res.nil) ?_
    simp only [tup]
    exact ⟨cpY b9 ls.length y.2, by rw [gvP, cpY_len (by omega)]; rfl, hy.2.gr (by omega) b9, by have e9 : bl (cpY b9 ls.length y.2).2 = bl y.2 := (by rw [cp_bl (show y.2.length = ls.length by omega)]); show List.Sublist (gbP (cpY b9 ls.length y.2) ++ bl (cpY b9 ls.length y.2).2) (gbP (cpY b9 ls.length y.2) ++ (bl y.2 ++ _)); rw [e9]; exact List.Sublist.append_left (List.sublist_append_left _ _) _⟩

end Go.Proofs.Ytfgjojoipbbacaa

/- Tolls: contracts. -/
namespace Go.Proofs.Ytfgjojoipbbacaa
open Go.Sx Go.RowKit

theorem GrP.lsAt {l : List (List Int)} {y : HD × List (HD × List Int)} {w0 w : World} {G : Heap} (h : GrP l y) (hn : New w0 w G) (hm : ∀ q ∈ gbP y, q ∈ G) (hb : ∀ q ∈ bl y.2, q ∈ G) : LsAt w (gp y.1) l := h.eq ▸ LsAt.gP hn hm (fun z hz q hq => hb q (bl_mem hz q hq)) h.ok h.all
theorem GrP.val {l : List (List Int)} {y : HD × List (HD × List Int)} (h : GrP l y) : gvP y = .slice (gp y.1) l.length (gc y.1) := by rw [← h.len]; exact gval_eq h.ok
theorem cellP {l m : List (List Int)} {y : HD × List (HD × List Int)} {c : Nat} (h : GrP l y) (hs : Shp y.2 m) (hc : c < y.2.length) : goI ((y.2.getD c (none, [])).1, m.getD c []) ∧ ((y.2.getD c (none, [])).1, m.getD c []) ∈ mkR y.2 m := by
  obtain ⟨h1, h2, h3⟩ := (h.mkR hs).row (i := c) (by rw [hs.len]; exact hc)
  have e := mkR_at (m := m) hc
  simp only at h1 h3
  rw [e] at h1 h3
  exact ⟨h1, h3⟩
theorem gvP_mkR (y : HD × List (HD × List Int)) (m : List (List Int)) : gvP (y.1, mkR y.2 m) = gvP y := by
  show gval y.1 (mkR y.2 m).length = _
  rw [mkR_len]
theorem tol_shp {ls : List (List Int)} {y : HD × List (HD × List Int)} (h : GrP ls y) (b : Int) (c r : Nat) : Shp y.2 (tolK ls b c r) := h.shp (tol_len _ _ _ _) fun j hj => tol_rlen hj
theorem row_at {ls : List (List Int)} {y : HD × List (HD × List Int)} (h : GrP ls y) {c : Nat} (hc : c < ls.length) : goI (y.2.getD c (none, [])) ∧ (y.2.getD c (none, [])).2.length = (ls.getD c []).length := ⟨(h.row hc).1, by rw [(h.row hc).2.1]⟩
theorem ls_tol {ls : List (List Int)} {y : HD × List (HD × List Int)} (h : GrP ls y) (b : Int) {w0 w : World} {G : Heap} (hn : New w0 w G) (hm : ∀ q ∈ gbP y, q ∈ G) (hb : ∀ q ∈ bl (mkR y.2 (tolL ls b)), q ∈ G) : LsAt w (gp y.1) (tolL ls b) := (h.mkR (tol_shp h b _ _)).lsAt hn (by rw [gbP_mkR (tol_shp h b _ _)]; exact hm) hb
theorem val_tol {ls : List (List Int)} {y : HD × List (HD × List Int)} (h : GrP ls y) (b : Int) : gvP y = .slice (gp y.1) (tolL ls b).length (gc y.1) := by rw [← gvP_mkR y (tolL ls b)]; exact (h.mkR (tol_shp h b _ _)).val


set_option maxRecDepth 100000 in
set_option maxHeartbeats 2000000 in
theorem Toll_ok (w0 : World) (p : Option Addr) (cap : Nat) (ls : List (List Int)) (hr : LsAt w0 p ls) (i : Int) :
    Calls Try.prog 39 #[bv p ls.length cap, .int .i64 i] w0 (Post (X := HD × List (HD × List Int)) (fun z => .tuple #[.agg #[gvP z], .int .i64 (tolI ls i)]) (fun z => GrP (tolR ls i) z) (fun z => gbP z ++ bl z.2) w0) := by
  refine calls Try.func39 rfl (n := 49) rfl (by simp) ?_
  refine TC.seq ?_
  refine TC.region ?_
  refine TL.box rfl rfl (by decide) (fun b0 hb0 => ?_)
  refine TL.alloc Tb.zero_24 rfl (by decide) (fun b1 hb1 => ?_)
  refine TL.pure (PV.assign rfl) rfl (by decide) ?_
  refine TL.nil ?_
  refine TQ.thenC ?_
  refine TC.seq ?_
  refine TC.seq ?_
  refine TC.region ?_
  refine TL.pure (PV.loadBox rfl Tb.agg_24 (by repeat (first | exact List.Mem.head _ | refine List.Mem.tail _ ?_ | refine List.mem_append_right _ ?_)) rfl) rfl (by decide) ?_
  refine TL.call rfl Tb.gofn_21 (fun a w hs => validate_ok w _ _ _ (hr.new hs.new)) rfl (by decide) (fun _ _ => ?_)
  refine TL.pure (PV.assign rfl) rfl (by decide) ?_
  refine TL.nil ?_
  refine TQ.thenC ?_
  refine TC.seq ?_
  refine TC.region ?_
  refine TL.pure (PV.move rfl) rfl (by decide) ?_
  refine TL.pure (PV.neq rfl rfl) rfl (by decide) ?_
  refine TL.nil ?_
  refine TQ.thenC ?_
  first | refine TC.condD rfl (fun hbad => ?_) (fun hbad => ?_) | refine TC.cond rfl (fun hbad => ?_) (fun hbad => ?_)
  · skip
    refine TC.seq ?_
    refine TC.region ?_
    refine TL.pure (PV.build rfl Tb.zero_24 Tb.pl_24 rfl) rfl (by decide) ?_
    refine TL.pure (PV.move rfl) rfl (by decide) ?_
    refine TL.storeAgg rfl rfl Tb.cells_24 (by repeat (first | exact Upd.head _ | apply Upd.tail | apply Upd.appR)) rfl rfl (by first | rfl | exact sv_one _ _ _) rfl rfl ?_
    refine TL.pure (PV.assign rfl) rfl (by decide) ?_
    refine TL.nil ?_
    refine TQ.thenC ?_
    refine TC.ret ?_
    refine TQ.thenR ?_
    refine TQ.retR rfl (Res.agg rfl Tb.agg_24 (by repeat (first | exact List.Mem.head _ | refine List.Mem.tail _ ?_ | refine List.mem_append_right _ ?_)) rfl (Res.tmp rfl Res.nil)) ?_
    simp only [tup]
    exact ⟨(none, []), by rw [tolI_a hbad]; rfl, by rw [tolR_no (by rw [tolI_a hbad]; exact hbad)]; exact GrP.nil, List.nil_sublist _⟩
  · skip
    refine TC.skip ?_
    refine TQ.thenC ?_
    refine TC.seq ?_
    refine TC.seq ?_
    refine TC.region ?_
    refine TL.pure (PV.move rfl) rfl (by decide) ?_
    refine TL.call rfl Tb.gofn_65 (fun a w hs => isWithin_ok w _ _ _) rfl (by decide) (fun _ _ => ?_)
    refine TL.pure ((by first | exact PV.notD rfl | exact PV.not rfl)) rfl (by decide) ?_
    refine TL.nil ?_
    refine TQ.thenC ?_
    first | refine TC.condD rfl (fun hw1 => ?_) (fun hw1 => ?_) | refine TC.cond rfl (fun hw1 => ?_) (fun hw1 => ?_)
    · skip
      refine TC.seq ?_
      refine TC.region ?_
      refine TL.pure (PV.build rfl Tb.zero_24 Tb.pl_24 rfl) rfl (by decide) ?_
      refine TL.storeAgg rfl rfl Tb.cells_24 (by repeat (first | exact Upd.head _ | apply Upd.tail | apply Upd.appR)) rfl rfl (by first | rfl | exact sv_one _ _ _) rfl rfl ?_
      refine TL.pure (PV.assign rfl) rfl (by decide) ?_
      refine TL.nil ?_
      refine TQ.thenC ?_
      refine TC.ret ?_
      refine TQ.thenR ?_
      refine TQ.retR rfl (Res.agg rfl Tb.agg_24 (by repeat (first | exact List.Mem.head _ | refine List.Mem.tail _ ?_ | refine List.mem_append_right _ ?_)) rfl (Res.tmp rfl Res.nil)) ?_
      simp only [tup]
      exact ⟨(none, []), by rw [tolI_b hbad (by omega)]; rfl, by rw [tolR_no (by rw [tolI_b hbad (by omega)]; decide)]; exact GrP.nil, List.nil_sublist _⟩
    · skip
      refine TC.skip ?_
      refine TQ.thenC ?_
      refine TC.seq ?_
      have hv := vb_of hbad
      have hn9 := hv.n
      have hd9 := hv.d
      refine TC.region ?_
      refine TL.pure (PV.loadBox rfl Tb.agg_24 (by repeat (first | exact List.Mem.head _ | refine List.Mem.tail _ ?_ | refine List.mem_append_right _ ?_)) rfl) rfl (by decide) ?_
      refine TL.call rfl Tb.gofn_79 (fun a w hs => copied_ok w _ _ _ (hr.new hs.new) hv) rfl (by decide) (fun y9 hy9 => ?_)
      refine TL.alloc Tb.zero_24 rfl (by decide) (fun b2 hb2 => ?_)
      refine TL.storeAgg rfl rfl Tb.cells_24 (by repeat (first | exact Upd.head _ | apply Upd.tail | apply Upd.appR)) rfl rfl (gvP_all _) rfl rfl ?_
      refine TL.nil ?_
      refine TQ.thenC ?_
      refine TC.seq ?_
      refine TC.seq ?_
      have hyl := hy9.len
      refine TC.region ?_
      refine TL.pure (PV.fieldAddr rfl Tb.fo_24_0) rfl (by decide) ?_
      refine TL.pure (PV.load rfl Tb.one_22 (by repeat (first | exact List.Mem.head _ | refine List.Mem.tail _ ?_ | refine List.mem_append_right _ ?_)) rfl) rfl (by decide) ?_
      refine TL.pure (PV.lenG rfl hy9.ok Tb.sl_22) rfl (by decide) ?_
      refine TL.pure (PV.move rfl) rfl (by decide) ?_
      refine TL.nil ?_
      refine TQ.thenC ?_
      refine TC.block ?_
      refine TC.lit [(1, _), (4, _), (5, _), (7, _), (24, _), (25, _), (26, _)] (by repeat (first | exact True.intro | refine And.intro rfl ?_)) ?_
      refine TC.loopK [1, 4, 5, 7, 24, 25] (X := Nat) (fun c => c ≤ ls.length) (fun c => [(26, .int .i64 c)]) (fun c => (b2, Obj.cells #[gvP y9] 24 (0, 0)) :: (gbP y9 ++ (bl (mkR y9.2 (tolK ls i c 0)) ++ [(b1, Obj.cells #[.slice none 0 0] 24 (0, 0)), (b0, Obj.cells #[.slice p ls.length cap] 24 (0, 0))]))) (fun c => ls.length - c) 0 (Nat.zero_le _) (by repeat (first | exact True.intro | refine And.intro rfl ?_)) (by rw [← tol_zero, ← hy9.eq, mkR_self]; simp only [List.append_assoc]; exact List.Sublist.refl _) ?_
      intro c hc
      refine TC.lit [(1, _), (4, _), (5, _), (7, _), (24, _), (25, _), (26, _)] (by repeat (first | exact True.intro | refine And.intro rfl ?_)) ?_
      refine TC.seq ?_
      refine TC.region ?_
      refine TL.pure (PV.lss rfl rfl) rfl (by decide) ?_
      refine TL.nil ?_
      refine TQ.thenC ?_
      refine TC.seq ?_
      first | refine TC.condD rfl (fun h2 => ?_) (fun h2 => ?_) | refine TC.cond rfl (fun h2 => ?_) (fun h2 => ?_)
      · skip
        refine TC.skip ?_
        refine TQ.thenC ?_
        refine TC.seq ?_
        refine TC.block ?_
        refine TC.seq ?_
        obtain ⟨hro, hrl⟩ := row_at hy9 (show c < ls.length by omega)
        have hcd := hv.c c (by omega)
        refine TC.region ?_
        refine TL.pure (PV.indexG (j := c) rfl rfl hy9.ok Tb.elm_22 rfl (by omega)) rfl (by decide) ?_
        refine TL.pure (PV.loadGP (y := y9) (j := c) (v := gvI (y9.2.getD c (none, []))) rfl Tb.one_25 (fun yy hyy => by simp only [List.mem_append, List.mem_cons]; simp [hyy]) hy9.ok (by omega) rfl) rfl (by decide) ?_
        refine TL.pure (PV.assign rfl) rfl (by decide) ?_
        refine TL.nil ?_
        refine TQ.thenC ?_
        refine TC.seq ?_
        refine TC.region ?_
        refine TL.pure (PV.move rfl) rfl (by decide) ?_
        refine TL.pure (PV.lenG rfl hro Tb.sl_25) rfl (by decide) ?_
        refine TL.pure (PV.move rfl) rfl (by decide) ?_
        refine TL.nil ?_
        refine TQ.thenC ?_
        refine TC.block ?_
        refine TC.lit [(1, _), (4, _), (5, _), (7, _), (9, _), (24, _), (25, _), (26, _), (31, _), (32, _)] (by repeat (first | exact True.intro | refine And.intro rfl ?_)) ?_
        refine TC.loopK [1, 4, 5, 7, 9, 24, 25, 26, 31] (X := Nat) (fun r => r ≤ (ls.getD c []).length) (fun r => [(32, .int .i64 r)]) (fun r => (b2, Obj.cells #[gvP y9] 24 (0, 0)) :: (gbP y9 ++ (bl (mkR y9.2 (tolK ls i c r)) ++ [(b1, Obj.cells #[.slice none 0 0] 24 (0, 0)), (b0, Obj.cells #[.slice p ls.length cap] 24 (0, 0))]))) (fun r => (ls.getD c []).length - r) 0 (Nat.zero_le _) (by repeat (first | exact True.intro | refine And.intro rfl ?_)) (List.Sublist.refl _) ?_
        intro r hr9
        refine TC.lit [(1, _), (4, _), (5, _), (7, _), (9, _), (24, _), (25, _), (26, _), (31, _), (32, _)] (by repeat (first | exact True.intro | refine And.intro rfl ?_)) ?_
        refine TC.seq ?_
        refine TC.region ?_
        refine TL.pure (PV.lss rfl rfl) rfl (by decide) ?_
        refine TL.nil ?_
        refine TQ.thenC ?_
        refine TC.seq ?_
        first | refine TC.condD rfl (fun h3 => ?_) (fun h3 => ?_) | refine TC.cond rfl (fun h3 => ?_) (fun h3 => ?_)
        · skip
          refine TC.skip ?_
          refine TQ.thenC ?_
          refine TC.seq ?_
          refine TC.block ?_
          refine TC.seq ?_
          refine TC.region ?_
          refine TL.pure (PV.move rfl) rfl (by decide) ?_
          refine TL.pure (PV.assign rfl) rfl (by decide) ?_
          refine TL.nil ?_
          refine TQ.thenC ?_
          have hw := hv.w c r
          obtain ⟨hg7, hm7⟩ := cellP hy9 (tol_shp hy9 i c r) (c := c) (by omega)
          refine TC.region ?_
          refine TL.pure (PV.move rfl) rfl (by decide) ?_
          refine TL.pure (PV.move rfl) rfl (by decide) ?_
          refine TL.pure (PV.indexG (j := r) rfl rfl hro Tb.elm_25 rfl (by omega)) rfl (by decide) ?_
          refine TL.pure (PV.loadGI (y := ((y9.2.getD c (none, [])).1, (tolK ls i c r).getD c [])) (j := r) (v := (ls.getD c []).getD r 0) rfl Tb.one_3 (fun yy hyy => by have := bl_mem hm7 yy hyy; simp only [List.mem_append, List.mem_cons]; simp [this]) hg7 (by show r < ((tolK ls i c r).getD c []).length; rw [tol_rlen (by omega)]; omega) (by show ((tolK ls i c r).getD c []).getD r 0 = _; rw [tol_at (by omega) (by omega), if_neg (by omega)]; omega)) rfl (by decide) ?_
          refine TL.pure (PV.move rfl) rfl (by decide) ?_
          refine TL.pure (PV.sub rfl rfl (by omega)) rfl (by decide) ?_
          refine TL.pure (PV.indexG (j := r) rfl rfl hro Tb.elm_25 rfl (by omega)) rfl (by decide) ?_
          refine TL.putL (l0 := ls) (yy := y9) (m := (tolK ls i c r)) (m' := (tolK ls i c (r + 1))) (c := c) (j := r) rfl rfl Tb.cells_3 hy9 (tol_shp hy9 i c r) (by omega) (by rw [tol_rlen (by omega)]; omega) (tol_put (by omega) (by omega) rfl) (by repeat (first | exact PutL.here _ | apply PutL.tail | apply PutL.app)) rfl rfl ?_
          refine TL.nil ?_
          refine TQ.blkN ?_
          refine TQ.thenC ?_
          refine TC.region ?_
          refine TL.pure (PV.add rfl rfl (by omega)) rfl (by decide) ?_
          refine TL.pure (PV.move rfl) rfl (by decide) ?_
          refine TL.nil ?_
          refine TQ.thenN ?_
          refine TQ.backK (r + 1) (by repeat (first | exact True.intro | refine And.intro rfl ?_)) (by repeat (first | exact True.intro | refine And.intro rfl ?_)) (List.Sublist.refl _) (by omega) (by omega)
        · skip
          refine TC.exit ?_
          refine TQ.thenE ?_
          refine TQ.thenE ?_
          refine TQ.blkS ?_
          refine TQ.blkN ?_
          refine TQ.thenC ?_
          refine TC.region ?_
          refine TL.pure (PV.add rfl rfl (by omega)) rfl (by decide) ?_
          refine TL.pure (PV.move rfl) rfl (by decide) ?_
          refine TL.nil ?_
          refine TQ.thenN ?_
          refine TQ.backK (c + 1) (by repeat (first | exact True.intro | refine And.intro rfl ?_)) (by repeat (first | exact True.intro | refine And.intro rfl ?_)) (by rw [← tol_next (show r = (ls.getD c []).length by omega)]; exact List.Sublist.refl _) (by omega) (by omega)
      · skip
        refine TC.exit ?_
        refine TQ.thenE ?_
        refine TQ.thenE ?_
        refine TQ.blkS ?_
        refine TQ.thenC ?_
        refine TC.seq ?_
        refine TC.seq ?_
        have hc7 : c = ls.length := by omega
        subst hc7
        refine TC.region ?_
        refine TL.pure (PV.loadBox rfl Tb.agg_24 (by repeat (first | exact List.Mem.head _ | refine List.Mem.tail _ ?_ | refine List.mem_append_right _ ?_)) rfl) rfl (by decide) ?_
        refine TL.call rfl Tb.gofn_21 (fun a w hs => (by rw [val_tol hy9 i]; exact validate_ok w _ _ (tolL ls i) (ls_tol hy9 i hs.new (fun yy hyy => by simp only [List.mem_append, List.mem_cons]; simp [hyy]) (fun yy hyy => by simp only [List.mem_append, List.mem_cons]; simp [hyy])))) rfl (by decide) (fun _ _ => ?_)
        refine TL.pure (PV.neq rfl rfl) rfl (by decide) ?_
        refine TL.nil ?_
        refine TQ.thenC ?_
        first | refine TC.condD rfl (fun hbad2 => ?_) (fun hbad2 => ?_) | refine TC.cond rfl (fun hbad2 => ?_) (fun hbad2 => ?_)
        · skip
          refine TC.seq ?_
          refine TC.region ?_
          refine TL.pure (PV.build rfl Tb.zero_24 Tb.pl_24 rfl) rfl (by decide) ?_
          refine TL.storeAgg rfl rfl Tb.cells_24 (by repeat (first | exact Upd.head _ | apply Upd.tail | apply Upd.appR)) rfl rfl (by first | rfl | exact sv_one _ _ _) rfl rfl ?_
          refine TL.pure (PV.assign rfl) rfl (by decide) ?_
          refine TL.nil ?_
          refine TQ.thenC ?_
          refine TC.ret ?_
          refine TQ.thenR ?_
          refine TQ.retR rfl (Res.agg rfl Tb.agg_24 (by repeat (first | exact List.Mem.head _ | refine List.Mem.tail _ ?_ | refine List.mem_append_right _ ?_)) rfl (Res.tmp rfl Res.nil)) ?_
          simp only [tup]
          exact ⟨(none, []), by rw [tolI_c hbad (by omega) hbad2]; rfl, by rw [tolR_no (by rw [tolI_c hbad (by omega) hbad2]; decide)]; exact GrP.nil, List.nil_sublist _⟩
        · skip
          refine TC.skip ?_
          refine TQ.thenC ?_
          refine TC.seq ?_
          refine TC.region ?_
          refine TL.pure (PV.loadBox rfl Tb.agg_24 (by repeat (first | exact List.Mem.head _ | refine List.Mem.tail _ ?_ | refine List.mem_append_right _ ?_)) rfl) rfl (by decide) ?_
          refine TL.storeAgg rfl rfl Tb.cells_24 (by repeat (first | exact Upd.head _ | apply Upd.tail | apply Upd.appR)) rfl rfl (gvP_all _) rfl rfl ?_
          refine TL.pure (PV.assign rfl) rfl (by decide) ?_
          refine TL.nil ?_
          refine TQ.thenC ?_
          refine TC.ret ?_
          refine TQ.retR rfl (Res.agg rfl Tb.agg_24 (by repeat (first | exact List.Mem.head _ | refine List.Mem.tail _ ?_ | refine List.mem_append_right _ ?_)) rfl (Res.tmp rfl Res.nil)) ?_
          simp only [tup]
          have h0 := tolI_d hbad (show -50 ≤ i ∧ i ≤ 50 by omega) hbad2
          exact ⟨(y9.1, mkR y9.2 (tolL ls i)), by rw [h0, gvP_mkR], by rw [tolR_ok h0]; exact hy9.mkR (tol_shp hy9 i _ _), by rw [gbP_mkR (tol_shp hy9 i _ _)]; exact List.Sublist.cons _ (List.Sublist.append_left (List.sublist_append_left _ _) _)⟩

end Go.Proofs.Ytfgjojoipbbacaa

/- Tolls: the law's contract. -/
namespace Go.Proofs.Ytfgjojoipbbacaa
open Go.Sx Go.RowKit

end Go.Proofs.Ytfgjojoipbbacaa

