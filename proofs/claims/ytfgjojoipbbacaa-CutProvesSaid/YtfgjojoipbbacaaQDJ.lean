/- Rows of ints in a slice of slices that the call owns: what is stored in a row; tolls: mathematics. -/
import Derived.Test.YtfgjojoipbbacaaQDI
set_option linter.unusedVariables false
set_option linter.unusedSimpArgs false
namespace Go.Proofs.Ytfgjojoipbbacaa
open Go.Sx Go.RowKit

theorem bl_append (A B : List (HD × List Int)) : bl (A ++ B) = bl B ++ bl A := by simp [bl]
theorem bl_cons (z : HD × List Int) (B : List (HD × List Int)) : bl (z :: B) = bl B ++ gbI z := by simp [bl]
/-- The same handles with other numbers. -/
def mkR (ps : List (HD × List Int)) (m : List (List Int)) : List (HD × List Int) := (List.range ps.length).map fun j => ((ps.getD j (none, [])).1, m.getD j [])
theorem mkR_len (ps : List (HD × List Int)) (m : List (List Int)) : (mkR ps m).length = ps.length := by simp [mkR]
theorem mkR_at {ps : List (HD × List Int)} {m : List (List Int)} {j : Nat} (hj : j < ps.length) : (mkR ps m).getD j (none, []) = ((ps.getD j (none, [])).1, m.getD j []) := by simp [mkR, List.getD, hj]
theorem mkR_self (ps : List (HD × List Int)) : mkR ps (ps.map (·.2)) = ps := by
  apply List.ext_getElem (by simp [mkR])
  intro i h1 h2
  simp [mkR, List.getD, h2]
theorem mkR_snd {ps : List (HD × List Int)} {m : List (List Int)} (h : m.length = ps.length) : (mkR ps m).map (·.2) = m := by
  apply List.ext_getElem (by simp [mkR, h])
  intro i h1 h2
  have : i < m.length := h2
  simp [mkR, List.getD, this]
structure Shp (ps : List (HD × List Int)) (m : List (List Int)) : Prop where
  len : m.length = ps.length
  row : ∀ j, j < ps.length → (m.getD j []).length = (ps.getD j (none, [])).2.length
theorem mkR_gv {ps : List (HD × List Int)} {m : List (List Int)} (h : Shp ps m) : (mkR ps m).map gvI = ps.map gvI := by
  apply List.ext_getElem (by simp [mkR])
  intro i h1 h2
  have hi : i < ps.length := by simpa using h2
  have := h.row i hi
  simp only [List.getD, List.getElem?_eq_getElem hi, Option.getD_some] at this
  simp only [mkR, List.getElem_map, List.getElem_range, List.getD, List.getElem?_eq_getElem hi, Option.getD_some]
  unfold gvI
  rw [this]
theorem gok_len {h : HD} {len : Nat} {ys ys' : List Value} (ho : gok h len 1 ys) (e : ys'.length = len) : gok h len 1 ys' := by
  have hl := ho.1
  refine ⟨by omega, ?_⟩
  have h2 := ho.2
  cases h with
  | none => exact h2
  | some hh => obtain ⟨b, cap, sp⟩ := hh; exact ⟨by have := h2.1; omega, h2.2⟩
theorem GrP.mkR {l : List (List Int)} {y : HD × List (HD × List Int)} (h : GrP l y) {m : List (List Int)} (hs : Shp y.2 m) : GrP m (y.1, mkR y.2 m) :=
  ⟨mkR_snd hs.len, by
    show gok y.1 (Ytfgjojoipbbacaa.mkR y.2 m).length 1 _
    rw [mkR_len, mkR_gv hs]; exact h.ok, fun z hz => by
    obtain ⟨j, hj, rfl⟩ := List.getElem_of_mem hz
    have hj' : j < y.2.length := by rwa [mkR_len] at hj
    have h1 := h.all _ (List.getElem_mem hj')
    have h2 := hs.row j hj'
    simp only [List.getD, List.getElem?_eq_getElem hj', Option.getD_some] at h2
    have e : (Ytfgjojoipbbacaa.mkR y.2 m)[j] = (y.2[j].1, m.getD j []) := by simp [Ytfgjojoipbbacaa.mkR, List.getD, hj']
    have e2 : (Ytfgjojoipbbacaa.mkR y.2 m)[j].2.length = y.2[j].2.length := by rw [e]; exact h2
    show gok (Ytfgjojoipbbacaa.mkR y.2 m)[j].1 (Ytfgjojoipbbacaa.mkR y.2 m)[j].2.length 1 _
    rw [e2, show (Ytfgjojoipbbacaa.mkR y.2 m)[j].1 = y.2[j].1 by rw [e]]
    exact gok_len h1 (by rw [← e2]; simp [ival])⟩
theorem GrP.shp {l : List (List Int)} {y : HD × List (HD × List Int)} (h : GrP l y) {m : List (List Int)} (h1 : m.length = l.length) (h2 : ∀ j, j < l.length → (m.getD j []).length = (l.getD j []).length) : Shp y.2 m :=
  ⟨by rw [h1, h.len], fun j hj => by
    rw [h.len] at hj
    rw [h2 j hj, (h.row hj).2.1]⟩
/-- A row's block is turned, in the midst of the others. -/
inductive PutL (ps ps' : List (HD × List Int)) : Heap → Heap → Prop
  | here (G : Heap) : PutL ps ps' (bl ps ++ G) (bl ps' ++ G)
  | tail (p : Nat × Obj) {G R : Heap} (t : PutL ps ps' G R) : PutL ps ps' (p :: G) (p :: R)
  | app (A : Heap) {G R : Heap} (t : PutL ps ps' G R) : PutL ps ps' (A ++ G) (A ++ R)
theorem bl_upd {ps : List (HD × List Int)} {c b cap : Nat} {sp : List Value} {xs xs' : List Int} (hc : c < ps.length) (h : ps.getD c (none, []) = (some (b, cap, sp), xs)) :
    Upd b (.cells (ival xs ++ sp).toArray 3 (0, 0)) (.cells (ival xs' ++ sp).toArray 3 (0, 0)) (bl ps) (bl (ps.set c (some (b, cap, sp), xs'))) := by
  have e1 : ps = ps.take c ++ (some (b, cap, sp), xs) :: ps.drop (c + 1) := by
    rw [← h]
    simp only [List.getD, List.getElem?_eq_getElem hc, Option.getD_some]
    rw [List.getElem_cons_drop, List.take_append_drop]
  have e2 : ps.set c (some (b, cap, sp), xs') = ps.take c ++ (some (b, cap, sp), xs') :: ps.drop (c + 1) := by
    rw [List.set_eq_take_append_cons_drop, if_pos hc]
  rw [e2]
  conv => arg 4; rw [e1]
  rw [bl_append, bl_append, bl_cons, bl_cons, List.append_assoc, List.append_assoc]
  exact Upd.appR _ (Upd.appL _ (Upd.head _))
theorem PutL.upd {ps : List (HD × List Int)} {c b cap : Nat} {sp : List Value} {xs xs' : List Int} {G R : Heap} (hc : c < ps.length) (h : ps.getD c (none, []) = (some (b, cap, sp), xs)) (hp : PutL ps (ps.set c (some (b, cap, sp), xs')) G R) :
    Upd b (.cells (ival xs ++ sp).toArray 3 (0, 0)) (.cells (ival xs' ++ sp).toArray 3 (0, 0)) G R := by
  generalize hq : ps.set c (some (b, cap, sp), xs') = ps' at hp
  induction hp with
  | here G => subst hq; exact Upd.appL _ (bl_upd hc h)
  | tail p _ ih => exact ih.tail p
  | app A _ ih => exact Upd.appR A ih
theorem mkR_set {ps : List (HD × List Int)} {m : List (List Int)} {c : Nat} {xs : List Int} (hc : c < ps.length) (hl : m.length = ps.length) : (mkR ps m).set c ((ps.getD c (none, [])).1, xs) = mkR ps (m.set c xs) := by
  apply List.ext_getElem (by simp [mkR])
  intro i h1 h2
  have hi : i < ps.length := by simpa [mkR] using h2
  rw [List.getElem_set]
  by_cases e : c = i
  · subst e
    simp [mkR, List.getD, hl ▸ hi]
  · simp [mkR, e, List.getD]
section
variable {P : Program} {n : Nat} {w0 : World} {E : Env} {G : Heap} {ty : TypeId} {pos : String} {aft : Array Edge} {g : Option (Nat × Bool)} {ops : Array Oper} {Q : Exit → Act → World → Prop} {l : List Oper}
/-- A store of an int in a row. -/
theorem TL.putL {dd : Option Nat} {x y : Operand} {l0 : List (List Int)} {yy : HD × List (HD × List Int)} {m m' : List (List Int)} {c j t : Nat} {v : Int} {G' : Heap} (hx : evo E x = some (.pointer (some ⟨((yy.2.getD c (none, [])).1.map (·.1)).getD 0, j * 1, none⟩))) (hy : evo E y = some (.int .i64 v))
    (hsz : cellsN P t = some 1) (hg0 : GrP l0 yy) (hs : Shp yy.2 m) (hc : c < yy.2.length) (hj : j < (m.getD c []).length) (hm' : m.set c ((m.getD c []).set j v) = m') (hT : PutL (mkR yy.2 m) (mkR yy.2 m') G G') (hg : wants ops E g = some true) (hdd : dd = none)
    (hk : TL P n w0 ops Q l E G') : TL P n w0 ops Q (⟨dd, .store t x y, ty, pos, aft, g⟩ :: l) E G := by
  have hgm := hg0.mkR hs
  have hrow := (hgm.row (i := c) (by rw [hs.len]; exact hc)).1
  have hat := mkR_at (m := m) hc
  simp only at hrow
  rw [hat] at hrow
  cases hh : (yy.2.getD c (none, [])).1 with
  | none =>
    rw [hh] at hrow
    exact absurd hrow.2 (by simp only; omega)
  | some h9 =>
    obtain ⟨b, cap, sp⟩ := h9
    rw [hh] at hrow hx hat
    have e9 : (ival (m.getD c []) ++ sp).toArray.setIfInBounds (j * 1) (.int .i64 v) = (ival ((m.getD c []).set j v) ++ sp).toArray := by
      simp only [List.setIfInBounds_toArray, Nat.mul_one]
      rw [List.set_append_left _ _ (by simpa [ival] using hj)]
      simp [ival, List.map_set]
    have hset := mkR_set (m := m) (xs := (m.getD c []).set j v) hc hs.len
    rw [hh, hm'] at hset
    rw [← hset] at hT
    exact TL.store (cs := (ival (m.getD c []) ++ sp).toArray) (b := b) (off := j * 1) (v := .int .i64 v) (e := 3) hx hy hsz rfl (by rw [e9]; exact PutL.upd (by rw [mkR_len]; exact hc) hat hT) (by simp only [List.size_toArray, List.length_append, ival, List.length_map]; omega) hg hdd hk
end
/-! Tolls. -/
def tolK (ls : List (List Int)) (by_ : Int) (c r : Nat) : List (List Int) := (List.range ls.length).map fun j => (List.range (ls.getD j []).length).map fun k => (ls.getD j []).getD k 0 - if j < c ∨ (j = c ∧ k < r) then by_ else 0
theorem tol_len (ls : List (List Int)) (b : Int) (c r : Nat) : (tolK ls b c r).length = ls.length := by simp [tolK]
theorem tol_row {ls : List (List Int)} {b : Int} {c r j : Nat} (hj : j < ls.length) : (tolK ls b c r).getD j [] = (List.range (ls.getD j []).length).map fun k => (ls.getD j []).getD k 0 - if j < c ∨ (j = c ∧ k < r) then b else 0 := by simp [tolK, List.getD, hj]
theorem tol_rlen {ls : List (List Int)} {b : Int} {c r j : Nat} (hj : j < ls.length) : ((tolK ls b c r).getD j []).length = (ls.getD j []).length := by rw [tol_row hj]; simp
theorem tol_at {ls : List (List Int)} {b : Int} {c r j k : Nat} (hj : j < ls.length) (hk : k < (ls.getD j []).length) : ((tolK ls b c r).getD j []).getD k 0 = (ls.getD j []).getD k 0 - if j < c ∨ (j = c ∧ k < r) then b else 0 := by
  rw [tol_row hj]
  simp only [List.getD_eq_getElem?_getD, List.getElem?_map] at hk ⊢
  simp [hk]
/-- The bog in which cutting is dearer. -/
abbrev tolL (ls : List (List Int)) (b : Int) : List (List Int) := tolK ls b ls.length 0
def tolI (ls : List (List Int)) (b : Int) : Int := if validI ls ≠ 0 then validI ls else if -50 ≤ b ∧ b ≤ 50 then if validI (tolL ls b) ≠ 0 then 3 else 0 else 1
def tolR (ls : List (List Int)) (b : Int) : List (List Int) := if tolI ls b = 0 then tolL ls b else []
theorem tolL_at {ls : List (List Int)} {b : Int} {j k : Nat} (hj : j < ls.length) (hk : k < (ls.getD j []).length) : ((tolL ls b).getD j []).getD k 0 = (ls.getD j []).getD k 0 - b := by rw [tol_at hj hk, if_pos (.inl hj)]
theorem dep_tol {ls : List (List Int)} {b : Int} (h : 0 < ls.length) : dep (tolL ls b) = dep ls := tol_rlen h
/-- How much dearer a hollow is. -/
theorem sum_tol {ls : List (List Int)} {b : Int} (hv : VB ls) {j : Nat} (hj : j < ls.length) : ∀ n : Nat, n ≤ dep ls → sumN ((tolL ls b).getD j []) n = sumN (ls.getD j []) n - b * n
  | 0, _ => by simp [sumN]
  | n + 1, h => by
    show sumN _ n + _ = sumN _ n + _ - _
    rw [sum_tol hv hj n (by omega), tolL_at hj (by rw [hv.c j hj]; omega), Int.natCast_add, Int.mul_add]
    omega
def totK (hs : List Int) : Nat → Int
  | 0 => 0
  | k + 1 => totK hs k + hs.getD k 0
theorem wor_tol {ls : List (List Int)} {b : Int} {hs : List Int} (h : NB ls hs) : ∀ k, k ≤ ls.length → worK (tolL ls b) hs k = worK ls hs k - b * totK hs k
  | 0, _ => by simp [worK, totK]
  | k + 1, hk => by
    show worK _ _ k + _ = worK _ _ k + _ - b * (totK hs k + hs.getD k 0)
    have h1 := h.at_ k
    rw [wor_tol h k (by omega), sum_tol h.vb (by omega) _ (by omega), Int.mul_add]
    have : ((hs.getD k 0).toNat : Int) = hs.getD k 0 := by omega
    rw [this]
    omega
theorem tot_le {xs ys : List Int} (h : ∀ c, xs.getD c 0 ≤ ys.getD c 0) : ∀ k, totK xs k ≤ totK ys k
  | 0 => Int.le_refl _
  | k + 1 => by have := tot_le h k; have := h k; show _ + _ ≤ _ + _; omega
theorem HO.tol {ls : List (List Int)} {b : Int} {hs : List Int} (hv : VB (tolL ls b)) (h : HO ls hs) : HO (tolL ls b) hs := by
  have hn := h.vb.n
  have hd := dep_tol (b := b) (show 0 < ls.length by omega)
  exact ⟨⟨hv, by rw [tol_len]; exact h.len, fun k => by rw [hd]; exact h.at_ k⟩, fun k hk => h.stp k (by rwa [tol_len] at hk)⟩
theorem HO.untol {ls : List (List Int)} {b : Int} {hs : List Int} (hv : VB ls) (h : HO (tolL ls b) hs) : HO ls hs := by
  have hn := hv.n
  have hd := dep_tol (b := b) (show 0 < ls.length by omega)
  exact ⟨⟨hv, by rw [h.len, tol_len], fun k => by rw [← hd]; exact h.at_ k⟩, fun k hk => h.stp k (by rwa [tol_len])⟩
theorem worH_tol {ls : List (List Int)} {b : Int} {hs : List Int} (h : HO ls hs) : worH (tolL ls b) hs = worH ls hs - b * totK hs ls.length := by
  unfold worH
  rw [h.len]
  exact wor_tol h.toNB _ (Nat.le_refl _)
/-- The best hollows of the dearer bog lie in those of the bog. -/
theorem tolls {ls : List (List Int)} {b : Int} (hb : 0 ≤ b) {x y u v : List Int} {n m n2 m2 : Int} (h1 : BstP min (tolL ls b) x n) (h2 : BstP min ls y m) (h3 : BstP max (tolL ls b) u n2) (h4 : BstP max ls v m2) : n ≤ m ∧ lieB x y = true ∧ lieB u v = true := by
  have hv := h2.ho.vb
  have hv2 := h1.ho.vb
  have hn := hv.n
  have mono : ∀ {s t : List Int}, (∀ c, s.getD c 0 ≤ t.getD c 0) → b * totK s ls.length ≤ b * totK t ls.length := fun h => Int.mul_le_mul_of_nonneg_left (tot_le h _) hb
  have lz : ∀ {J : Int → Int → Int} {s t : List Int}, Jn J → HO ls s → HO ls t → ∀ c, (List.zipWith J s t).getD c 0 = J (s.getD c 0) (t.getD c 0) := fun hJ hs ht c => zip_any hJ hs.len ht.len c
  have hx := h1.ho.untol hv
  have hy := h2.ho
  have hu := h3.ho.untol hv
  have hw := h4.ho
  refine ⟨?_, ?_, ?_⟩
  · have e1 := h1.w
    rw [worH_tol hx] at e1
    have e2 := h2.max x hx
    have e3 : 0 ≤ b * totK x ls.length := Int.mul_nonneg hb (by
      have : ∀ k, 0 ≤ totK x k := fun k => by
        induction k with
        | zero => exact Int.le_refl _
        | succ k ih => have := hx.at_ k; show 0 ≤ _ + _; omega
      exact this _)
    omega
  · refine lie_yes (by rw [hx.len, hy.len]) fun c _ => ?_
    have hm := hx.both hy
    have hM := hx.either hy
    have e1 := wor_mod (ls := ls) hx.len hy.len
    have e2 := h2.max _ hM
    have e3 := h2.w
    have e4 := h1.w
    have e5 := h1.max _ (hm.tol hv2)
    rw [worH_tol hx] at e4
    rw [worH_tol hm] at e5
    have e6 := mono (s := List.zipWith min x y) (t := x) fun c => by rw [lz jn_min hx hy]; omega
    have e7 := h1.ab _ (hm.tol hv2) (by rw [worH_tol hm]; omega) c
    rw [lz jn_min hx hy] at e7
    omega
  · refine lie_yes (by rw [hu.len, hw.len]) fun c _ => ?_
    have hm := hu.both hw
    have hM := hu.either hw
    have e1 := wor_mod (ls := ls) hu.len hw.len
    have e2 := h4.max _ hM
    have e3 := h4.w
    have e4 := h3.w
    have e5 := h3.max _ (hm.tol hv2)
    rw [worH_tol hu] at e4
    rw [worH_tol hm] at e5
    have e6 := mono (s := List.zipWith min u v) (t := u) fun c => by rw [lz jn_min hu hw]; omega
    have e7 := h4.ab _ hM (by omega) c
    rw [lz jn_max hu hw] at e7
    omega
/-! A copy under way: the rows that are there, then nil. -/
def cpY (b n : Nat) (A : List (HD × List Int)) : HD × List (HD × List Int) := (some (b, n, []), A ++ List.replicate (n - A.length) (none, []))
structure CpI (ls : List (List Int)) (A : List (HD × List Int)) : Prop where
  le : A.length ≤ ls.length
  eq : A.map (·.2) = ls.take A.length
  all : ∀ z ∈ A, goI z
theorem CpI.nil (ls : List (List Int)) : CpI ls [] := ⟨Nat.zero_le _, rfl, by simp⟩
end Go.Proofs.Ytfgjojoipbbacaa
