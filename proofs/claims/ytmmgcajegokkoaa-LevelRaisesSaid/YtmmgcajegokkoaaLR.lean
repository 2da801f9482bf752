/- A survey whose points are raised: the statement's own function. -/
import Derived.Test.YtmmgcajegokkoaaRF
import Derived.Test.YtmmgcajegokkoaaRG
import Derived.Test.YtmmgcajegokkoaaRC
import Derived.Test.YtmmgcajegokkoaaRw
import Derived.Test.YtmmgcajegokkoaaMi
import Derived.Test.YtmmgcajegokkoaaS1
import Derived.Test.YtmmgcajegokkoaaOp
namespace Go.Proofs.Ytmmgcajegokkoaa
open Go.Sx Go.RowKit

/-- A survey's readings without one of them. -/
def del (rs : List Rd) (k : Nat) : List Rd := rs.take k ++ rs.drop (k + 1)
theorem mem_del {rs : List Rd} {k : Nat} {r : Rd} (h : r ∈ del rs k) : r ∈ rs := by
  rcases List.mem_append.1 h with h | h
  · exact List.mem_of_mem_take h
  · exact List.mem_of_mem_drop h
theorem del_len {rs : List Rd} {k : Nat} (hk : k < rs.length) : (del rs k).length + 1 = rs.length := by simp [del]; omega
theorem Valid.sub {n : Int} {rs rs' : List Rd} (hv : Valid n rs) (hl : rs'.length ≤ rs.length) (hm : ∀ r ∈ rs', r ∈ rs) : Valid n rs' := by
  have h1 := hv.pts
  have h2 := hv.len
  have h3 : rs'.all (isReadingB n) = true := List.all_eq_true.2 fun r hr => List.all_eq_true.1 hv.all r (hm r hr)
  unfold Valid validateI
  rw [if_neg (by omega), if_neg (by omega), if_pos h3]
theorem Valid.del {n : Int} {rs : List Rd} (hv : Valid n rs) {k : Nat} (hk : k < rs.length) : Valid n (del rs k) := hv.sub (by have := del_len hk; omega) fun _ h => mem_del h
theorem rsum_app (g : Rd → Int) (b : List Rd) : ∀ a : List Rd, rsum (a ++ b) g = rsum a g + rsum b g
  | [] => by simp [rsum]
  | r :: a => by rw [List.cons_append]; show g r + rsum (a ++ b) g = (g r + rsum a g) + rsum b g; rw [rsum_app g b a]; omega
theorem rsum_del (g : Rd → Int) {rs : List Rd} {k : Nat} (hk : k < rs.length) : rsum rs g = rsum (del rs k) g + g (rs.getD k default) := by
  have e : rs = rs.take k ++ (rs.getD k default :: rs.drop (k + 1)) := by
    have e1 : rs.getD k default = rs[k] := by simp [List.getD, hk]
    rw [e1, ← List.drop_eq_getElem_cons hk, List.take_append_drop]
  have e2 : rsum rs g = rsum (rs.take k) g + (g (rs.getD k default) + rsum (rs.drop (k + 1)) g) := by
    conv => lhs; rw [e]
    rw [rsum_app]; rfl
  rw [e2, del, rsum_app]; omega
theorem mem_or {rs : List Rd} {k : Nat} (hk : k < rs.length) {r : Rd} (h : r ∈ rs) : r ∈ del rs k ∨ r = rs.getD k default := by
  have e : rs = rs.take k ++ (rs.getD k default :: rs.drop (k + 1)) := by
    have e1 : rs.getD k default = rs[k] := by simp [List.getD, hk]
    rw [e1, ← List.drop_eq_getElem_cons hk, List.take_append_drop]
  rw [e] at h
  rcases List.mem_append.1 h with h | h
  · exact .inl (List.mem_append_left _ h)
  · rcases List.mem_cons.1 h with h | h
    · exact .inr h
    · exact .inl (List.mem_append_right _ h)
/-- A reading is a bridge exactly if its share is 1. -/
theorem bridge_share {n : Int} {rs : List Rd} (hv : Valid n rs) {k : Nat} (hk : k < rs.length) :
    rootOf n.toNat (del rs k) (rs.getD k default).f ≠ rootOf n.toNat (del rs k) (rs.getD k default).t ↔ (rs.getD k default).wt * RR n.toNat rs (rs.getD k default).f (rs.getD k default).t = denO n.toNat rs := by
  obtain ⟨i1, i2, i3⟩ := rd_in hv hk
  have hv' := (hv.del hk).nat.1
  have hvn := hv.nat.1
  have hd := denO_pos hvn
  have hat := hv.at hk
  have hij := root_ends hvn i3
  generalize hr : rs.getD k default = r at *
  have e1 := en_uu hvn i1 i2 hij (uu n.toNat rs r.f r.t)
  have k1 : uu n.toNat rs r.f r.t r.t - uu n.toNat rs r.f r.t r.f = RR n.toNat rs r.f r.t := rfl
  constructor
  · intro hne
    let y : Nat → Int := fun p => if rootOf n.toNat (del rs k) p = rootOf n.toNat (del rs k) r.t then 1 else 0
    have e2 := en_uu hvn i1 i2 hij y
    have hy : y r.t - y r.f = 1 := by simp only [y]; rw [if_pos trivial, if_neg hne]; rfl
    have e3 : en rs (uu n.toNat rs r.f r.t) y = en (del rs k) (uu n.toNat rs r.f r.t) y + r.wt * (dlt (uu n.toNat rs r.f r.t) r * dlt y r) := by
      unfold en; rw [rsum_del _ hk, hr]
    have e4 : en (del rs k) (uu n.toNat rs r.f r.t) y = 0 := by
      unfold en
      rw [rsum_congr (h := fun _ => 0) (fun q hq => ?_), rsum_const]
      · simp
      · have h9 := root_ends hv' hq
        have : dlt y q = 0 := by simp only [dlt, y]; rw [h9]; omega
        rw [this]; simp
    have e5 : dlt y r = 1 := hy
    have e6 : dlt (uu n.toNat rs r.f r.t) r = RR n.toNat rs r.f r.t := rfl
    rw [e3, e4, e5, e6, hy, Int.mul_one, Int.mul_one, Int.zero_add] at e2
    exact e2
  · intro hs he
    have e3 : en rs (uu n.toNat rs r.f r.t) (uu n.toNat rs r.f r.t) = en (del rs k) (uu n.toNat rs r.f r.t) (uu n.toNat rs r.f r.t) + r.wt * (RR n.toNat rs r.f r.t * RR n.toNat rs r.f r.t) := by
      unfold en; rw [rsum_del _ hk, hr]; rfl
    have e4 : en (del rs k) (uu n.toNat rs r.f r.t) (uu n.toNat rs r.f r.t) = 0 := by
      rw [e3, k1, ← hs] at e1
      have : r.wt * RR n.toNat rs r.f r.t * RR n.toNat rs r.f r.t = r.wt * (RR n.toNat rs r.f r.t * RR n.toNat rs r.f r.t) := by grind
      omega
    have h5 := en_zero hv'.wt e4
    have c1 := const_of hv' h5 i1
    have c2 := const_of hv' h5 i2
    rw [he] at c1
    have : RR n.toNat rs r.f r.t = 0 := by rw [← k1]; omega
    rw [this] at hs
    simp at hs
    omega
theorem root_is {N : Nat} {rs : List Rd} (hv : Valid (N : Int) rs) {p : Nat} (hp : p < N) : Root N rs p ↔ rootOf N rs p = p := by
  have h1 := root_le hv hp
  unfold Root
  omega
theorem root_const {N : Nat} {rs : List Rd} (hv : Valid (N : Int) rs) {rs' : List Rd} (hv' : Valid (N : Int) rs') (h : ∀ r ∈ rs', rootOf N rs r.f = rootOf N rs r.t) {p : Nat} (hp : p < N) : rootOf N rs p = rootOf N rs (rootOf N rs' p) := by
  have := const_of hv' (x := fun q => ((rootOf N rs q : Nat) : Int)) (fun r hr => by rw [h r hr]) hp
  omega
theorem sumN_lt {g h : Nat → Int} {q : Nat} : ∀ {n : Nat}, (∀ p, p < n → g p ≤ h p) → (q < n → g q < h q → sumN n g < sumN n h) ∧ sumN n g ≤ sumN n h
  | 0, _ => ⟨fun hq => by omega, Int.le_refl _⟩
  | n + 1, e => by
    have ih := sumN_lt (q := q) (fun p hp => e p (by omega) : ∀ p, p < n → g p ≤ h p)
    have h1 := e n (by omega)
    refine ⟨fun hq hlt => ?_, by rw [sumN, sumN]; have := ih.2; omega⟩
    rw [sumN, sumN]
    by_cases hqn : q = n
    · subst hqn; have := ih.2; omega
    · have := ih.1 (by omega) hlt; omega
/-- Without a reading there are more parts exactly if its ends fall apart. -/
theorem bridge_parts {n : Int} {rs : List Rd} (hv : Valid n rs) {k : Nat} (hk : k < rs.length) :
    (rootOf n.toNat (del rs k) (rs.getD k default).f ≠ rootOf n.toNat (del rs k) (rs.getD k default).t ↔ nonroots n.toNat (del rs k) < nonroots n.toNat rs) := by
  obtain ⟨i1, i2, i3⟩ := rd_in hv hk
  have hv' := (hv.del hk).nat.1
  have hvn := hv.nat.1
  have hij := root_ends hvn i3
  have hends : ∀ r ∈ del rs k, rootOf n.toNat rs r.f = rootOf n.toNat rs r.t := fun r hr => root_ends hvn (mem_del hr)
  constructor
  · intro hne
    have hle : ∀ p, p < n.toNat → (if Root n.toNat (del rs k) p then 0 else 1 : Int) ≤ if Root n.toNat rs p then 0 else 1 := fun p hp => by
      by_cases h1 : Root n.toNat rs p
      · have h2 : Root n.toNat (del rs k) p := by
          rw [root_is hvn hp] at h1
          rw [root_is hv' hp]
          have c := root_const hvn hv' hends hp
          have l1 := (root_le hv' hp).1
          have l2 := (root_le hvn (p := rootOf n.toNat (del rs k) p) (by omega)).1
          omega
        rw [if_pos h1, if_pos h2]; exact Int.le_refl _
      · rw [if_neg h1]; split <;> omega
    have hf := (root_le hv' i1).1
    have ht := (root_le hv' i2).1
    have cf := root_const hvn hv' hends i1
    have ct := root_const hvn hv' hends i2
    have rf := root_root hv' i1
    have rt := root_root hv' i2
    by_cases h1 : Root n.toNat rs (rootOf n.toNat (del rs k) (rs.getD k default).f)
    · by_cases h2 : Root n.toNat rs (rootOf n.toNat (del rs k) (rs.getD k default).t)
      · exfalso
        rw [root_is hvn (by omega)] at h1 h2
        omega
      · exact (sumN_lt hle).1 (show rootOf n.toNat (del rs k) (rs.getD k default).t < n.toNat by omega) (by rw [if_pos rt, if_neg h2]; omega)
    · exact (sumN_lt hle).1 (show rootOf n.toNat (del rs k) (rs.getD k default).f < n.toNat by omega) (by rw [if_pos rf, if_neg h1]; omega)
  · intro hlt he
    have hends' : ∀ r ∈ rs, rootOf n.toNat (del rs k) r.f = rootOf n.toNat (del rs k) r.t := fun r hr => by
      rcases mem_or hk hr with h | h
      · exact root_ends hv' h
      · rw [h]; exact he
    have hsame : nonroots n.toNat (del rs k) = nonroots n.toNat rs := by
      refine sumN_congr fun p hp => ?_
      have c1 := root_const hvn hv' hends hp
      have c2 := root_const hv' hvn hends' hp
      have l1 := (root_le hv' hp).1
      have l2 := (root_le hvn hp).1
      have l3 := (root_le hvn (p := rootOf n.toNat (del rs k) p) (by omega)).1
      have l4 := (root_le hv' (p := rootOf n.toNat rs p) (by omega)).1
      have : rootOf n.toNat rs p = rootOf n.toNat (del rs k) p := by omega
      by_cases h : Root n.toNat rs p
      · rw [if_pos h, if_pos ((root_is hv' hp).2 (by rw [← this]; exact (root_is hvn hp).1 h))]
      · rw [if_neg h, if_neg (fun h2 => h ((root_is hvn hp).2 (by rw [this]; exact (root_is hv' hp).1 h2)))]
    omega

end Go.Proofs.Ytmmgcajegokkoaa

namespace Go.Proofs.Ytmmgcajegokkoaa
open Go.Sx Go.RowKit

/-- The heights by which points are raised. -/
def zF (hs : List Int) (p : Nat) : Int := hs.getD p 0
def raiseR (hs : List Int) (r : Rd) : Rd := { r with rise := r.rise + zF hs r.t - zF hs r.f }
def rz (hs : List Int) (rs : List Rd) : List Rd := rs.map (raiseR hs)
theorem rz_len (hs : List Int) (rs : List Rd) : (rz hs rs).length = rs.length := by simp [rz]
theorem rz_get (hs : List Int) {rs : List Rd} {k : Nat} (hk : k < rs.length) : (rz hs rs).getD k default = raiseR hs (rs.getD k default) := by simp [rz, List.getD, hk]
theorem rz_firstsL (n : Int) (hs : List Int) (rs : List Rd) : firstsL n (rz hs rs) = firstsL n rs := by
  unfold firstsL firstsF rz
  rw [List.foldl_map]
  rfl
theorem rz_root (N : Nat) (hs : List Int) (rs : List Rd) (p : Nat) : rootOf N (rz hs rs) p = rootOf N rs p := by unfold rootOf; rw [rz_firstsL]
theorem rz_Root (N : Nat) (hs : List Int) (rs : List Rd) (p : Nat) : Root N (rz hs rs) p ↔ Root N rs p := by unfold Root; rw [rz_firstsL]
theorem rz_eqM (N : Nat) (hs : List Int) (rs : List Rd) (l : List Int) : eqM N (rz hs rs) l = eqM N rs l := by
  unfold eqM eqF
  rw [rz_firstsL]
  unfold rz
  rw [List.foldl_map]
  rfl
theorem rz_denO (N : Nat) (hs : List Int) (rs : List Rd) : denO N (rz hs rs) = denO N rs := by unfold denO solD eqG; rw [rz_eqM]
theorem rz_RR (N : Nat) (hs : List Int) (rs : List Rd) (i j : Nat) : RR N (rz hs rs) i j = RR N rs i j := by unfold RR uu solV eqG; rw [rz_eqM]
theorem rz_err {n : Int} {rs : List Rd} (hs : List Int) (hv : Valid n rs) (hv' : Valid n (rz hs rs)) (i j : Int) : errE n (rz hs rs) i j = errE n rs i j ∧ errN n (rz hs rs) i j = errN n rs i j ∧ errD n (rz hs rs) i j = errD n rs i j := by
  have e : errE n (rz hs rs) i j = errE n rs i j := by
    unfold errE
    rw [show validateI n rs = 0 from hv, show validateI n (rz hs rs) = 0 from hv', rz_firstsL]
  refine ⟨e, ?_, ?_⟩
  · unfold errN
    rw [e, rz_RR, rz_denO]
  · unfold errD
    rw [e, rz_RR, rz_denO]
theorem rsum_rz (hs : List Int) (g : Rd → Int) : ∀ rs : List Rd, rsum (rz hs rs) g = rsum rs (fun r => g (raiseR hs r))
  | [] => rfl
  | r :: rs => by
    have := rsum_rz hs g rs
    unfold rz at this ⊢
    simp only [List.map_cons, rsum, this]
theorem rz_lapl (hs : List Int) (rs : List Rd) (x : Nat → Int) (p : Nat) : lapl (rz hs rs) x p = lapl rs x p := by
  unfold lapl
  rw [rsum_rz]
  rfl
theorem rz_bestR (hs : List Int) (rs : List Rd) (p : Nat) : bestR (rz hs rs) p = bestR rs p + lapl rs (zF hs) p := by
  unfold bestR lapl
  rw [rsum_rz, ← rsum_add]
  refine rsum_congr fun r _ => ?_
  unfold loadOf term dlt raiseR
  simp only
  by_cases h1 : r.t = p <;> by_cases h2 : r.f = p <;> simp only [h1, h2, if_true, if_false] <;> grind
/-- The best heights go with the points. -/
theorem rz_best {N : Nat} {rs : List Rd} {hs : List Int} (hv : Valid (N : Int) rs) (hv' : Valid (N : Int) (rz hs rs)) {p : Nat} (hp : p < N) :
    bestV N (rz hs rs) p = bestV N rs p + denO N rs * (zF hs p - zF hs (rootOf N rs p)) := by
  refine sol_uniq hv (x := bestV N (rz hs rs)) (y := fun q => bestV N rs q + denO N rs * (zF hs q - zF hs (rootOf N rs q))) (fun q hq hR => ?_) (fun q hq hR => ?_) (fun q hq _ => ?_) hp
  · exact best_root hv' hq ((rz_Root N hs rs q).2 hR)
  · have h1 := best_root hv hq hR
    have h2 : rootOf N rs q = q := (root_is hv hq).1 hR
    simp only [h1, h2, Int.sub_self, Int.mul_zero, Int.add_zero]
  · have e1 := best_eq hv' hq
    rw [rz_lapl, rz_denO, rz_bestR] at e1
    have e2 := best_eq hv hq
    have e3 : lapl rs (fun q => zF hs (rootOf N rs q)) q = 0 := by
      unfold lapl
      rw [rsum_congr (h := fun _ => 0) (fun r hr => ?_), rsum_const]
      · simp
      · have h9 := root_ends hv hr
        unfold term dlt
        simp only [h9, Int.sub_self, Int.mul_zero, ite_self]
    rw [e1, lapl_add, lapl_mul, lapl_sub, e3, e2]
    grind
theorem rz_lv {n : Int} {rs : List Rd} {hs : List Int} (hv : Valid n rs) (hv' : Valid n (rz hs rs)) {k : Nat} (hk : k < rs.length) : lvF n (rz hs rs) k = lvF n rs k := by
  obtain ⟨i1, i2, i3⟩ := rd_in hv hk
  have e := root_ends hv.nat.1 i3
  have b1 := rz_best (hs := hs) hv.nat.1 hv'.nat.1 i1
  have b2 := rz_best (hs := hs) hv.nat.1 hv'.nat.1 i2
  unfold lvF resR
  rw [rz_get hs hk, rz_denO]
  rw [show (raiseR hs (rs.getD k default)).to.toNat = (rs.getD k default).t from rfl, show (raiseR hs (rs.getD k default)).fr.toNat = (rs.getD k default).f from rfl,
    show (rs.getD k default).to.toNat = (rs.getD k default).t from rfl, show (rs.getD k default).fr.toNat = (rs.getD k default).f from rfl]
  rw [solZ_get _ _ _ i1, solZ_get _ _ _ i2, solZ_get _ _ _ i1, solZ_get _ _ _ i2]
  unfold bestV at b1 b2
  rw [b1, b2, e]
  show ((rs.getD k default).rise + zF hs (rs.getD k default).t - zF hs (rs.getD k default).f) * _ - _ = _
  grind
theorem rz_misfit {n : Int} {rs : List Rd} {hs : List Int} (hv : Valid n rs) (hv' : Valid n (rz hs rs)) : mfA n (rz hs rs) = mfA n rs ∧ mfB n (rz hs rs) = mfB n rs := by
  have e : mS (rz hs rs) (lvF n (rz hs rs)) (rz hs rs).length = mS rs (lvF n rs) rs.length := by
    unfold mS
    rw [rz_len]
    refine sumN_congr fun k hk => ?_
    rw [rz_lv hv hv' hk, rz_get hs hk]
    rfl
  unfold mfA mfB
  rw [e, rz_denO]
  exact ⟨rfl, rfl⟩
/-- A best height of the raised survey is one of the survey, raised. -/
theorem rz_h {N : Nat} {rs : List Rd} {hs : List Int} (hv : Valid (N : Int) rs) (hv' : Valid (N : Int) (rz hs rs)) {p : Nat} (hp : p < N) :
    hN N (rz hs rs) p = (hN N rs p + (zF hs p - zF hs (rootOf N rs p)) * hD N rs p).tdiv (lowG (hN N rs p + (zF hs p - zF hs (rootOf N rs p)) * hD N rs p) (hD N rs p)) ∧
    hD N (rz hs rs) p = (hD N rs p).tdiv (lowG (hN N rs p + (zF hs p - zF hs (rootOf N rs p)) * hD N rs p) (hD N rs p)) := by
  obtain ⟨g, h⟩ := hIs hv hp
  have hd := denO_pos hv
  have hdp : 0 < hD N rs p := by
    have := low_pos (num := bestV N rs p) (den := denO N rs) (by omega)
    unfold hD; omega
  have b := rz_best (hs := hs) hv hv' hp
  unfold hN hD
  rw [rz_denO]
  refine low_eq (by omega) hdp ?_
  rw [b]
  show _ * hD N rs p = (hN N rs p + _ * hD N rs p) * denO N rs
  have h1 := h.num
  have h2 := h.den
  rw [← h1, ← h2]
  grind

end Go.Proofs.Ytmmgcajegokkoaa

namespace Go.Proofs.Ytmmgcajegokkoaa
open Go.Sx Go.RowKit

theorem rdc_flat (l : List Rd) : rdc l = (l.map Rd.cells).flatten := by simp [rdc, List.flatMap]
theorem rdc_setE {l : List Rd} {j : Nat} (hj : j < l.length) (r : Rd) : (rdc l).take (j * 4) ++ r.cells ++ (rdc l).drop (j * 4 + 4) = rdc (l.set j r) := by
  have h := flatten_set (k := 4) (l := l.map Rd.cells) (j := j) (vs := r.cells) (fun x hx => by obtain ⟨q, _, rfl⟩ := List.mem_map.1 hx; rfl) (by simpa using hj) rfl
  rw [rdc_flat, rdc_flat, h, List.map_set]
/-- A reading with one of its numbers turned. -/
def setF (r : Rd) (f : Nat) (v : Int) : Rd := match f with
  | 0 => { r with fr := v }
  | 1 => { r with to := v }
  | 2 => { r with rise := v }
  | _ => { r with wt := v }
theorem setF_cells (r : Rd) {f : Nat} (hf : f < 4) (v : Int) : r.cells.set f (.int .i64 v) = (setF r f v).cells := by
  match f, hf with
  | 0, _ => rfl
  | 1, _ => rfl
  | 2, _ => rfl
  | 3, _ => rfl
theorem rdc_setF {f : Nat} (hf : f < 4) (v : Int) : ∀ {l : List Rd} {j : Nat}, j < l.length → (rdc l).set (j * 4 + f) (.int .i64 v) = rdc (l.set j (setF (l.getD j default) f v))
  | [], _, h => by simp at h
  | a :: l, 0, _ => by
    simp only [rdc, List.flatMap_cons, Nat.zero_mul, Nat.zero_add, List.set_cons_zero]
    rw [List.set_append_left _ _ (by simpa using hf), setF_cells a hf]
    rfl
  | a :: l, j + 1, h => by
    have ih := rdc_setF hf v (l := l) (j := j) (by simpa using h)
    simp only [rdc, List.flatMap_cons, List.set_cons_succ] at ih ⊢
    rw [List.set_append_right _ _ (by simp; omega), show (j + 1) * 4 + f - a.cells.length = j * 4 + f by simp; omega, ih]
    rfl
theorem goS_set {h : HD} {l : List Rd} (ho : goS h l) (j : Nat) (r : Rd) : goS h (l.set j r) := by
  obtain ⟨h1, h2⟩ := ho
  refine ⟨by rw [rdc_len], ?_⟩
  cases h with
  | none => simpa using h2
  | some hh => obtain ⟨b, cap, sp⟩ := hh; simpa [rdc_len] using h2
section
variable {n : Nat} {w0 : World} {E : Env} {G : Heap} {ty : TypeId} {pos : String} {aft : Array Edge} {g : Option (Nat × Bool)} {ops : Array Oper} {Q : Exit → Act → World → Prop} {l : List Oper}
/-- A number of a reading of a slice of the call's own, stored. -/
theorem TL.storeF {dd : Option Nat} {x y : Operand} {h : HD} {l0 : List Rd} {j f t : Nat} {v : Int} {R : Heap} (hx : evo E x = some (.pointer (some ⟨(h.map (·.1)).getD 0, j * 4 + f, none⟩))) (hy : evo E y = some (.int .i64 v))
    (hsz : cellsN Try.prog t = some 1) (hok : goS h l0) (hT : TakeH h 61 (rdc l0) G R) (hj : j < l0.length) (hf : f < 4) (hg : wants ops E g = some true) (hdd : dd = none)
    (hk : TL Try.prog n w0 ops Q l E (gbS h (l0.set j (setF (l0.getD j default) f v)) ++ R)) : TL Try.prog n w0 ops Q (⟨dd, .store t x y, ty, pos, aft, g⟩ :: l) E G := by
  refine TL.perm hT.perm ?_
  cases h with
  | none => exact absurd hok.2 (by simp only; omega)
  | some hh =>
    obtain ⟨b, cap, sp⟩ := hh
    have hl := rdc_len l0
    refine TL.store (cs := (rdc l0 ++ sp).toArray) (b := b) (off := j * 4 + f) (v := .int .i64 v) (e := 61) hx hy hsz rfl (Upd.head _) (by simp; omega) hg hdd ?_
    have e : (rdc l0 ++ sp).toArray.setIfInBounds (j * 4 + f) (.int .i64 v) = (rdc (l0.set j (setF (l0.getD j default) f v)) ++ sp).toArray := by
      rw [← rdc_setF hf v hj]
      simp only [List.setIfInBounds_toArray]
      rw [List.set_append_left _ _ (by omega)]
    rw [e]
    exact hk
/-- A reading of a slice of the call's own, stored. -/
theorem TL.storeE {dd : Option Nat} {x y : Operand} {h : HD} {l0 : List Rd} {j t : Nat} {r : Rd} {R : Heap} (hx : evo E x = some (.pointer (some ⟨(h.map (·.1)).getD 0, j * 4, none⟩))) (hy : evo E y = some r.val)
    (hsz : cellsN Try.prog t = some 4) (hok : goS h l0) (hT : TakeH h 61 (rdc l0) G R) (hj : j < l0.length) (hg : wants ops E g = some true) (hdd : dd = none)
    (hk : TL Try.prog n w0 ops Q l E (gbS h (l0.set j r) ++ R)) : TL Try.prog n w0 ops Q (⟨dd, .store t x y, ty, pos, aft, g⟩ :: l) E G := by
  refine TL.perm hT.perm ?_
  cases h with
  | none => exact absurd hok.2 (by simp only; omega)
  | some hh =>
    obtain ⟨b, cap, sp⟩ := hh
    have hl := rdc_len l0
    refine TL.step hg fun a w hs => ?_
    subst hdd
    have hb : w.heap[b]? = some (.cells (rdc l0 ++ sp).toArray 61 (0, 0)) := hs.new.here _ (.head _)
    have hst := run_storeCells_at (P := Try.prog) b (j * 4) 61 r.cells 0 (rdc l0 ++ sp).toArray w hb (by simp; omega) (by intro v hv; simp at hv; rcases hv with rfl | rfl | rfl | rfl <;> rfl)
    have e : ((rdc l0 ++ sp).take (j * 4) ++ r.cells ++ (rdc l0 ++ sp).drop (j * 4 + 4)) = rdc (l0.set j r) ++ sp := by
      rw [← rdc_setE hj r, List.take_append_of_le_length (by omega), List.drop_append_of_le_length (by omega)]
      simp only [List.append_assoc]
    unfold cellsN at hsz
    have hr : (execOp a.eval ⟨none, .store t x y, ty, pos, aft, g⟩).run Try.prog w = .ok .skip (w.setRow b (rdc (l0.set j r) ++ sp).toArray) := by
      cases hi : Try.prog.info? t with
      | none => simp [hi] at hsz
      | some i =>
        simp [hi] at hsz
        simp only [execOp, hs.ev hx, hs.ev hy]
        simp only [Nat.add_zero] at hst
        rw [show r.cells.length = 4 from rfl] at hst
        try rw [show (rdc l0 ++ sp).toArray.toList = rdc l0 ++ sp from rfl] at hst
        rw [e] at hst
        simp only [Option.map_some, Option.getD_some] 
        simp [Instr.storeAt, Instr.sureAddr, storeVar, sizeOf, typeInfo, hi, hsz, Value.cells, hst]
    unfold Oper.wp
    rw [hr]
    refine hk _ _ (hs.world ?_)
    refine hs.new.turn (Upd.head _) ?_ ?_ rfl rfl rfl ?_
    · simp only [World.setRow, Array.getElem?_modify, if_true, hb, Option.map_some]
    · intro k hk
      simp only [World.setRow, Array.getElem?_modify]
      rw [if_neg (by omega)]
    · simp [World.setRow]
end
section
variable {P : Program} {n : Nat} {w0 : World} {E : Env} {G : Heap}
section
variable {d : Option Nat} {ty : TypeId} {pos : String} {aft : Array Edge} {g : Option (Nat × Bool)}
theorem PV.slice3 {x y z u : Operand} {p : Option Addr} {len cap e s l h m : Nat} {i j k : Int} {t : Nat} (hx : evo E x = some (.slice p len cap)) (hy : evo E y = some (.int .i64 i)) (hz : evo E z = some (.int .i64 j)) (hu' : evo E u = some (.int .i64 k))
    (ht : elemOf' P t = some (e, s)) (hi : i = (l : Int)) (hj : j = (h : Int)) (hk : k = (m : Int)) (h1 : l ≤ h) (h2 : h ≤ m) (h3 : m ≤ cap) : PV P n w0 E G ⟨d, .slice t x (some y) (some z) (some u), ty, pos, aft, g⟩ (.slice (cutA p m l s) (h - l) (m - l)) :=
  fun a w hs => by
    unfold elemOf' at ht
    cases hu : P.underlying t with
    | none => simp [hu] at ht
    | some u =>
      cases u <;> simp only [hu] at ht <;> try (simp at ht; done)
      rename_i e'
      cases hinf : P.info? e' with
      | none => simp [hinf] at ht
      | some inf =>
        simp [hinf] at ht
        obtain ⟨rfl, rfl⟩ := ht
        simp only [execOp, hs.ev hx, Option.map_some, hs.ev hy, hs.ev hz, hs.ev hu']
        subst hi; subst hj; subst hk
        simp [Instr.sliceAt, Instr.slice, run_underlying hu, Instr.sliceBounds, run_sliceBound, sizeOf, typeInfo, hinf, h1, h2, h3, cutA]
theorem PV.sliceLH {x y z : Operand} {p : Option Addr} {len cap e s l h : Nat} {i j : Int} {t : Nat} (hx : evo E x = some (.slice p len cap)) (hy : evo E y = some (.int .i64 i)) (hz : evo E z = some (.int .i64 j))
    (ht : elemOf' P t = some (e, s)) (hi : i = (l : Int)) (hj : j = (h : Int)) (h1 : l ≤ h) (h2 : h ≤ cap) : PV P n w0 E G ⟨d, .slice t x (some y) (some z) none, ty, pos, aft, g⟩ (.slice (cutA p cap l s) (h - l) (cap - l)) :=
  fun a w hs => by
    unfold elemOf' at ht
    cases hu : P.underlying t with
    | none => simp [hu] at ht
    | some u =>
      cases u <;> simp only [hu] at ht <;> try (simp at ht; done)
      rename_i e'
      cases hinf : P.info? e' with
      | none => simp [hinf] at ht
      | some inf =>
        simp [hinf] at ht
        obtain ⟨rfl, rfl⟩ := ht
        simp only [execOp, hs.ev hx, Option.map_some, hs.ev hy, hs.ev hz, Option.map_none]
        subst hi; subst hj
        simp [Instr.sliceAt, Instr.slice, run_underlying hu, Instr.sliceBounds, run_sliceBound, sizeOf, typeInfo, hinf, h1, h2, cutA]
end
variable {ops : Array Oper} {Q : Exit → Act → World → Prop} {l : List Oper}
variable {ty : TypeId} {pos : String} {aft : Array Edge} {g : Option (Nat × Bool)}
/-- append where there is room: the block is turned behind the elements. -/
theorem TL.appendRoom {d : Nat} {s x : Operand} {t tx e sz by_ len cap m b : Nat} {z xv : Value} {cs news : List Value} {G' : Heap} (hsv : evo E s = some (.slice (some ⟨b, 0, none⟩) len cap)) (hx : evo E x = some xv)
    (ht : P.underlying t = some (.slice e)) (hz : zeroI P e = some (z, sz, by_)) (hu : Upd b (.cells cs.toArray e (0, 0)) (.cells (cs.take (len * sz) ++ news ++ cs.drop (len * sz + news.length)).toArray e (0, 0)) G G')
    (hle : len * sz + news.length ≤ cs.length) (hroom : len + m ≤ cap) (hsrc : ∀ w', New w0 w' G → Src P sz tx xv m news w') (hg : wants ops E g = some true) (hd : d < n)
    (h : TL P n w0 ops Q l ((d, .slice (some ⟨b, 0, none⟩) (len + m) cap) :: E) G') :
    TL P n w0 ops Q (⟨some d, .call { callee := .builtin .append, args := #[s, x], argTypes := #[t, tx] }, ty, pos, aft, g⟩ :: l) E G :=
  TL.step hg fun a w hs => by
    unfold zeroI at hz
    cases hinf : P.info? e with
    | none => simp [hinf] at hz
    | some inf =>
      simp [hinf] at hz
      obtain ⟨z', hz1, rfl, hz2, hz3⟩ := hz
      have hS := hsrc w hs.new
      have hexec : (execOp a.eval ⟨some d, .call { callee := .builtin .append, args := #[s, x], argTypes := #[t, tx] }, ty, pos, aft, g⟩).run P w =
          ((Builtin.append_ #[t, tx] ty #[.slice (some ⟨b, 0, none⟩) len cap, xv]).run P w).andThen fun v w' => .ok (.value v) w' := by
        simp only [execOp, resolve, List.map_toArray, List.map_cons, List.map_nil, hs.ev hsv, hs.ev hx]
        simp [invoke, builtin]
      unfold Oper.wp
      rw [hexec]
      have hblk : w.heap[b]? = some (.cells cs.toArray e (0, 0)) := hs.new.here _ hu.mem
      have hf : (Builtin.firstCells sz m xv).run P w = .ok news.toArray w := hS.cells
      have hst := run_storeCells_at (P := P) b (len * inf.size) e news 0 cs.toArray w hblk (by simp [hz2]; omega) hS.one
      simp only [Nat.add_zero] at hst
      have hr : (Builtin.append_ #[t, tx] ty #[.slice (some ⟨b, 0, none⟩) len cap, xv]).run P w =
          .ok (.slice (some ⟨b, 0, none⟩) (len + m) cap) (w.setRow b (cs.take (len * sz) ++ news ++ cs.drop (len * sz + news.length)).toArray) := by
        rw [hz2] at hst
        simp only [List.append_assoc] at hst
        rcases hS.kind with ⟨e', hk⟩ | hk <;> simp [Builtin.append_, run_underlying ht, run_underlying hk, sizeOf, typeInfo, hinf, hS.len, hroom, hf, Addr.add_lit, hz2, hst]
      rw [hr]
      refine h _ _ ((hs.world ?_).put hd _)
      refine hs.new.turn hu ?_ ?_ rfl rfl rfl ?_
      · simp only [World.setRow, Array.getElem?_modify, if_true, hblk, Option.map_some]
      · intro k hk
        simp only [World.setRow, Array.getElem?_modify]
        rw [if_neg (by omega)]
      · simp [World.setRow]
/-- clear of one element. -/
theorem TL.clear1 {dd : Option Nat} {x : Operand} {t e sz by_ len cap b off : Nat} {z : Value} {cs zs : List Value} {G' : Heap} (hx : evo E x = some (.slice (some ⟨b, off, none⟩) len cap)) (hlen : len = 1)
    (ht : P.underlying t = some (.slice e)) (hz : zeroI P e = some (z, sz, by_)) (hzs : (Builtin.zeroCells z.cells 1).toList = zs) (h1 : zs.all Value.oneCell' = true)
    (hu : Upd b (.cells cs.toArray e (0, 0)) (.cells (cs.take off ++ zs ++ cs.drop (off + zs.length)).toArray e (0, 0)) G G')
    (hle : off + zs.length ≤ cs.length) (hg : wants ops E g = some true) (hdd : dd = none)
    (h : TL P n w0 ops Q l E G') :
    TL P n w0 ops Q (⟨dd, .call { callee := .builtin .clear, args := #[x], argTypes := #[t] }, ty, pos, aft, g⟩ :: l) E G :=
  TL.step hg fun a w hs => by
    subst hlen; subst hdd
    unfold zeroI at hz
    cases hinf : P.info? e with
    | none => simp [hinf] at hz
    | some inf =>
      simp [hinf] at hz
      obtain ⟨z', hz1, rfl, hz2, hz3⟩ := hz
      have hexec : (execOp a.eval ⟨none, .call { callee := .builtin .clear, args := #[x], argTypes := #[t] }, ty, pos, aft, g⟩).run P w =
          ((Builtin.clear_ #[t] ty #[.slice (some ⟨b, off, none⟩) 1 cap]).run P w).andThen fun v w' => .ok (.value v) w' := by
        simp only [execOp, resolve, List.map_toArray, List.map_cons, List.map_nil, hs.ev hx]
        simp [invoke, builtin]
      unfold Oper.wp
      rw [hexec]
      have hblk : w.heap[b]? = some (.cells cs.toArray e (0, 0)) := hs.new.here _ hu.mem
      have hst := run_storeCells_at (P := P) b off e zs 0 cs.toArray w hblk (by simp; omega) (fun v hv => List.all_eq_true.1 h1 v hv)
      simp only [Nat.add_zero] at hst
      have hr : (Builtin.clear_ #[t] ty #[.slice (some ⟨b, off, none⟩) 1 cap]).run P w = .ok (.tuple #[]) (w.setRow b (cs.take off ++ zs ++ cs.drop (off + zs.length)).toArray) := by
        simp [Builtin.clear_, run_underlying ht, zeroValue, typeInfo, hinf, hz1, hzs, hst]
      rw [hr]
      refine h _ _ (hs.world ?_)
      refine hs.new.turn hu ?_ ?_ rfl rfl rfl ?_
      · simp only [World.setRow, Array.getElem?_modify, if_true, hblk, Option.map_some]
      · intro k hk
        simp only [World.setRow, Array.getElem?_modify]
        rw [if_neg (by omega)]
      · simp [World.setRow]
end

section
variable {P : Program} {n : Nat} {w0 : World} {E : Env} {G : Heap} {d : Option Nat} {ty : TypeId} {pos : String} {aft : Array Edge} {g : Option (Nat × Bool)}
theorem PV.sliceHb {x y : Operand} {b len cap e s h : Nat} {i : Int} {t : Nat} (hx : evo E x = some (.slice (some ⟨b, 0, none⟩) len cap)) (hy : evo E y = some (.int .i64 i))
    (ht : elemOf' P t = some (e, s)) (hi : i = (h : Int)) (hh : h ≤ cap) : PV P n w0 E G ⟨d, .slice t x none (some y) none, ty, pos, aft, g⟩ (.slice (some ⟨b, 0, none⟩) h cap) := by
  have hp := PV.sliceH (P := P) (n := n) (w0 := w0) (G := G) (d := d) (ty := ty) (pos := pos) (aft := aft) (g := g) hx hy ht hi hh
  have e0 : cutA (some ⟨b, 0, none⟩) cap 0 s = some ⟨b, 0, none⟩ := by unfold cutA; split <;> simp [add_off]
  rw [e0] at hp
  exact hp
theorem PV.sliceLHb {x y z : Operand} {b len cap e s l h : Nat} {i j : Int} {t : Nat} (hx : evo E x = some (.slice (some ⟨b, 0, none⟩) len cap)) (hy : evo E y = some (.int .i64 i)) (hz : evo E z = some (.int .i64 j))
    (ht : elemOf' P t = some (e, s)) (hi : i = (l : Int)) (hj : j = (h : Int)) (h1 : l < h) (h2 : h ≤ cap) : PV P n w0 E G ⟨d, .slice t x (some y) (some z) none, ty, pos, aft, g⟩ (.slice (some ⟨b, l * s, none⟩) (h - l) (cap - l)) := by
  have hp := PV.sliceLH (P := P) (n := n) (w0 := w0) (G := G) (d := d) (ty := ty) (pos := pos) (aft := aft) (g := g) hx hy hz ht hi hj (by omega) h2
  have e0 : cutA (some ⟨b, 0, none⟩) cap l s = some ⟨b, l * s, none⟩ := by unfold cutA; rw [if_neg (by omega)]; simp [add_off]
  rw [e0] at hp
  exact hp
end

end Go.Proofs.Ytmmgcajegokkoaa

namespace Go.Proofs.Ytmmgcajegokkoaa
open Go.Sx Go.RowKit

/-- A block of readings, turned where it lies. -/
inductive PutH : HD → List Value → List Value → Heap → Heap → Prop
  | here (h : HD) (ys ys' : List Value) (G : Heap) : PutH h ys ys' (gblk h 61 ys ++ G) (gblk h 61 ys' ++ G)
  | tail (p : Nat × Obj) {h : HD} {ys ys' : List Value} {G R : Heap} (t : PutH h ys ys' G R) : PutH h ys ys' (p :: G) (p :: R)
  | app (A : Heap) {h : HD} {ys ys' : List Value} {G R : Heap} (t : PutH h ys ys' G R) : PutH h ys ys' (A ++ G) (A ++ R)
theorem PutH.upd {b cap : Nat} {sp ys ys' : List Value} {G R : Heap} : PutH (some (b, cap, sp)) ys ys' G R → Upd b (.cells (ys ++ sp).toArray 61 (0, 0)) (.cells (ys' ++ sp).toArray 61 (0, 0)) G R := by
  intro t
  generalize hh : (some (b, cap, sp) : HD) = h at t
  induction t with
  | here => subst hh; exact Upd.head _
  | tail p t ih => exact (ih hh).tail p
  | app A t ih => exact (ih hh).appR A
theorem goS_len {h : HD} {l l' : List Rd} (ho : goS h l) (e : l'.length = l.length) : goS h l' := by
  obtain ⟨h1, h2⟩ := ho
  refine ⟨by rw [rdc_len], ?_⟩
  cases h with
  | none => simpa [e] using h2
  | some hh => obtain ⟨b, cap, sp⟩ := hh; simpa [rdc_len, e] using h2
theorem TL.putF {n : Nat} {w0 : World} {E : Env} {G : Heap} {ty : TypeId} {pos : String} {aft : Array Edge} {g : Option (Nat × Bool)} {ops : Array Oper} {Q : Exit → Act → World → Prop} {l : List Oper}
    {dd : Option Nat} {x y : Operand} {h : HD} {l0 : List Rd} {j f t : Nat} {v : Int} {G' : Heap} (hx : evo E x = some (.pointer (some ⟨(h.map (·.1)).getD 0, j * 4 + f, none⟩))) (hy : evo E y = some (.int .i64 v))
    (hsz : cellsN Try.prog t = some 1) (hok : goS h l0) (hT : PutH h (rdc l0) (rdc (l0.set j (setF (l0.getD j default) f v))) G G') (hj : j < l0.length) (hf : f < 4) (hg : wants ops E g = some true) (hdd : dd = none)
    (hk : TL Try.prog n w0 ops Q l E G') : TL Try.prog n w0 ops Q (⟨dd, .store t x y, ty, pos, aft, g⟩ :: l) E G := by
  cases h with
  | none => exact absurd hok.2 (by simp only; omega)
  | some hh =>
    obtain ⟨b, cap, sp⟩ := hh
    have hl := rdc_len l0
    have e : (rdc l0 ++ sp).toArray.setIfInBounds (j * 4 + f) (.int .i64 v) = (rdc (l0.set j (setF (l0.getD j default) f v)) ++ sp).toArray := by
      rw [← rdc_setF hf v hj]
      simp only [List.setIfInBounds_toArray]
      rw [List.set_append_left _ _ (by omega)]
    exact TL.store (cs := (rdc l0 ++ sp).toArray) (b := b) (off := j * 4 + f) (v := .int .i64 v) (e := 61) hx hy hsz rfl (by rw [e]; exact hT.upd) (by simp; omega) hg hdd hk
/-- What comes of a change: the survey, or nothing. -/
structure ChF (e n : Int) (L : List Rd) (x : Int × HD × List Rd) : Prop where
  num : x.1 = if e = 0 then n else 0
  eq : x.2.2 = if e = 0 then L else []
  ok : goS x.2.1 x.2.2
theorem ChF.bad {e n : Int} {L : List Rd} (h : e ≠ 0) : ChF e n L (0, none, []) := ⟨by rw [if_neg h], by rw [if_neg h], ⟨rfl, rfl⟩⟩
theorem ChF.good {e n : Int} {L : List Rd} {h : HD} (he : e = 0) (ho : goS h L) : ChF e n L (n, h, L) := ⟨by rw [if_pos he], by rw [if_pos he], ho⟩
theorem ChF.same {e n : Int} {L : List Rd} {x y : Int × HD × List Rd} (hx : ChF e n L x) (hy : ChF e n L y) : x.1 = y.1 ∧ x.2.2 = y.2.2 := ⟨hx.num.trans hy.num.symm, hx.eq.trans hy.eq.symm⟩
theorem ChF.len {e n : Int} {L : List Rd} {x : Int × HD × List Rd} (hx : ChF e n L x) : x.2.2.length ≤ L.length := by
  rw [hx.eq]; split
  · exact Nat.le_refl _
  · simp
theorem sameM {w : World} {n1 n2 : Int} {h1 : HD} {p2 : Option Addr} {K1 c2 : Nat} {rs1 rs2 : List Rd} (hK1 : rs1.length = K1) (ho1 : goS h1 rs1) (hr1 : RdsAt w (gp h1) rs1) (hr2 : RdsAt w p2 rs2) (hl : rs1.length ≤ 100000) (hl2 : rs2.length ≤ 100000) :
    Calls Try.prog 53 #[.agg #[.int .i64 n1, gval h1 K1], sv n2 p2 rs2.length c2] w (Post (X := Unit) (fun _ => .bool (sameB n1 n2 rs1 rs2)) (fun _ => True) (fun _ => []) w) := by
  have hc := Same_ok w n1 n2 (gp h1) p2 (gc h1) c2 rs1 rs2 hr1 hr2 hl hl2
  rw [gvS_eq ho1 hK1]; subst hK1
  exact hc

end Go.Proofs.Ytmmgcajegokkoaa

namespace Go.Proofs.Ytmmgcajegokkoaa
open Go.Sx Go.RowKit

theorem best_any (w0 : World) (n : Int) (p : Option Addr) (cap : Nat) (rs : List Rd) (hr : RdsAt w0 p rs) (hv : Valid n rs) :
    Calls Try.prog 35 #[sv n p rs.length cap] w0 (Post (X := Nat) (fun b => .tuple #[.slice (some ⟨b, 0, none⟩) n.toNat n.toNat, .int .i64 0]) (fun _ => True) (fun b => [(b, .cells (recA (lowsL (solN n.toNat rs (bestL n.toNat rs)) (solD n.toNat rs (bestL n.toNat rs)))) 46 (0, 0))]) w0) :=
  best_ok w0 n p cap rs hr hv (solved hv.nat.1 (bestL_48 hv.nat.1)).sound
/-- The best heights in memory. -/
def hRows (N : Nat) (rs : List Rd) : List (List Value) := (List.range N).map fun i => [.int .i64 (hN N rs i), .int .i64 (hD N rs i)]
theorem hRows_eq {N : Nat} {rs : List Rd} (hv : Valid (N : Int) rs) : lowsL (solN N rs (bestL N rs)) (solD N rs (bestL N rs)) = hRows N rs := by
  unfold lowsL hRows
  rw [solN_len]
  refine List.map_congr_left fun j hj => ?_
  rw [solZ_get _ _ _ (List.mem_range.1 hj), solD_eq hv]
  rfl
theorem hRows_len (N : Nat) (rs : List Rd) : (hRows N rs).length = N := by simp [hRows]
theorem hRows_two (N : Nat) (rs : List Rd) : ∀ r ∈ hRows N rs, r.length = 2 := by
  intro r hr
  obtain ⟨j, _, rfl⟩ := List.mem_map.1 hr
  rfl
theorem hRows_get {N : Nat} {rs : List Rd} {i : Nat} (hi : i < N) : (hRows N rs).getD i [] = [.int .i64 (hN N rs i), .int .i64 (hD N rs i)] := by simp [hRows, List.getD, hi]
theorem hRows_num {N : Nat} {rs : List Rd} {i : Nat} (hi : i < N) : (recA (hRows N rs))[0 + i * 2 + 0]? = some (.int .i64 (hN N rs i)) := by
  have h := flatten_get (l := hRows N rs) (k := 2) (j := i) (i := 0) (hRows_two N rs) (by rw [hRows_len]; exact hi) (by omega)
  simp only [recA, List.getElem?_toArray, Nat.zero_add]
  rw [h, hRows_get hi]; rfl
theorem hRows_den {N : Nat} {rs : List Rd} {i : Nat} (hi : i < N) : (recA (hRows N rs))[0 + i * 2 + 1]? = some (.int .i64 (hD N rs i)) := by
  have h := flatten_get (l := hRows N rs) (k := 2) (j := i) (i := 1) (hRows_two N rs) (by rw [hRows_len]; exact hi) (by omega)
  simp only [recA, List.getElem?_toArray, Nat.zero_add]
  rw [h, hRows_get hi]; rfl
theorem best_h (w0 : World) (n : Int) (p : Option Addr) (cap : Nat) (rs : List Rd) (hr : RdsAt w0 p rs) (hv : Valid n rs) :
    Calls Try.prog 35 #[sv n p rs.length cap] w0 (Post (X := Nat) (fun b => .tuple #[.slice (some ⟨b, 0, none⟩) n.toNat n.toNat, .int .i64 0]) (fun _ => True) (fun b => [(b, .cells (recA (hRows n.toNat rs)) 46 (0, 0))]) w0) := by
  have h := best_any w0 n p cap rs hr hv
  rw [hRows_eq hv.nat.1] at h
  exact h

end Go.Proofs.Ytmmgcajegokkoaa

namespace Go.Proofs.Ytmmgcajegokkoaa
open Go.Sx Go.RowKit

theorem PV.loadF {n : Nat} {w0 : World} {E : Env} {G : Heap} {d : Option Nat} {ty : TypeId} {pos : String} {aft : Array Edge} {g : Option (Nat × Bool)} {x : Operand} {h : HD} {l : List Rd} {j f t : Nat} {v : Value}
    (hx : evo E x = some (.pointer (some ⟨(h.map (·.1)).getD 0, j * 4 + f, none⟩))) (ht : oneB Try.prog t = true) (hm : ∀ y ∈ gbS h l, y ∈ G) (hok : goS h l) (hj : j < l.length) (hf : f < 4) (hv : (l.getD j default).cells[f]? = some v) :
    PV Try.prog n w0 E G ⟨d, .load t x, ty, pos, aft, g⟩ v := by
  cases h with
  | none => exact absurd hok.2 (by simp only; omega)
  | some hh =>
    obtain ⟨b, cap, sp⟩ := hh
    have hl := rdc_len l
    refine PV.loadG' (b := b) (off := j * 4 + f) (cs := (rdc l ++ sp).toArray) (e := 61) (fr := (0, 0)) hx ht (hm _ (.head _)) ?_
    rw [List.getElem?_toArray, List.getElem?_append_left (by omega), rdc_get hj hf]
    exact hv
theorem PV.loadE {n : Nat} {w0 : World} {E : Env} {G : Heap} {d : Option Nat} {ty : TypeId} {pos : String} {aft : Array Edge} {g : Option (Nat × Bool)} {x : Operand} {h : HD} {l : List Rd} {j t : Nat} {r : Rd}
    (hx : evo E x = some (.pointer (some ⟨(h.map (·.1)).getD 0, j * 4, none⟩))) (ht : aggSize Try.prog t = some 4) (hm : ∀ y ∈ gbS h l, y ∈ G) (hok : goS h l) (hj : j < l.length) (hv : l.getD j default = r) :
    PV Try.prog n w0 E G ⟨d, .load t x, ty, pos, aft, g⟩ r.val := by
  cases h with
  | none => exact absurd hok.2 (by simp only; omega)
  | some hh =>
    obtain ⟨b, cap, sp⟩ := hh
    have hl := rdc_len l
    refine PV.loadAgg (b := b) (off := j * 4) (cs := (rdc l ++ sp).toArray) (e := 61) (fr := (0, 0)) (vs := r.cells) hx ht (hm _ (.head _)) rfl (fun i v hi => ?_)
    have hi4 : i < 4 := (List.getElem?_eq_some_iff.1 hi).1
    rw [List.getElem?_toArray, List.getElem?_append_left (by omega), rdc_get hj hi4, hv]
    exact hi
/-- The first k readings raised. -/
def rk (zs : List Int) (rs : List Rd) (k : Nat) : List Rd := (List.range rs.length).map fun j => if j < k then raiseR zs (rs.getD j default) else rs.getD j default
theorem rk_len (zs : List Int) (rs : List Rd) (k : Nat) : (rk zs rs k).length = rs.length := by simp [rk]
theorem rk_get (zs : List Int) {rs : List Rd} {j : Nat} (k : Nat) (hj : j < rs.length) : (rk zs rs k).getD j default = if j < k then raiseR zs (rs.getD j default) else rs.getD j default := by simp [rk, List.getD, hj]
theorem rk_zero (zs : List Int) (rs : List Rd) : rk zs rs 0 = rs := by
  apply List.ext_getElem
  · simp [rk]
  · intro i h1 h2
    simp [rk, List.getD, h2]
theorem rk_all (zs : List Int) (rs : List Rd) : rk zs rs rs.length = rz zs rs := by
  apply List.ext_getElem
  · simp [rk, rz]
  · intro i h1 h2
    simp only [rk, List.length_map, List.length_range] at h1
    simp [rk, rz, List.getD, h1]
theorem rk_set (zs : List Int) {rs : List Rd} {k : Nat} (hk : k < rs.length) : (rk zs rs k).set k (raiseR zs (rs.getD k default)) = rk zs rs (k + 1) := by
  apply List.ext_getElem
  · simp [rk]
  · intro j h1 h2
    simp only [rk, List.getElem_set, List.getElem_map, List.getElem_range]
    by_cases hij : k = j
    · subst hij; simp
    · rw [if_neg hij]
      by_cases hj : j < k
      · rw [if_pos hj, if_pos (by omega)]
      · rw [if_neg hj, if_neg (by omega)]
theorem rk_put (zs : List Int) {rs : List Rd} {k : Nat} (hk : k < rs.length) {v : Int} (hv : v = (raiseR zs (rs.getD k default)).rise) : (rk zs rs k).set k (setF ((rk zs rs k).getD k default) 2 v) = rk zs rs (k + 1) := by
  rw [rk_get zs k hk, if_neg (by omega), ← rk_set zs hk, hv]
  rfl
def raB (zs : List Int) (rs : List Rd) : Bool := (rz zs rs).all fun r => isWithinB r.rise 1000
def raE (n : Int) (rs : List Rd) (zs : List Int) : Int := if validateI n rs ≠ 0 then validateI n rs else if ¬ ((zs.length : Int) = n ∧ withinL zs 1000 = true) then 1 else if raB zs rs = true then 0 else 3
theorem raE_bad {n : Int} {rs : List Rd} {zs : List Int} (h : validateI n rs ≠ 0) : raE n rs zs = validateI n rs := if_pos h
theorem raE_arg {n : Int} {rs : List Rd} {zs : List Int} (h : ¬ validateI n rs ≠ 0) (h2 : ¬ ((zs.length : Int) = n ∧ withinL zs 1000 = true)) : raE n rs zs = 1 := by unfold raE; rw [if_neg h, if_pos h2]
theorem raE_lg {n : Int} {rs : List Rd} {zs : List Int} (h : ¬ validateI n rs ≠ 0) (h2 : (zs.length : Int) = n ∧ withinL zs 1000 = true) {k : Nat} (hk : k < rs.length) (h3 : ¬ isWithinB (raiseR zs (rs.getD k default)).rise 1000 = true) : raE n rs zs = 3 := by
  unfold raE
  rw [if_neg h, if_neg (not_not_intro h2), if_neg]
  intro hb
  have h4 := all_at (f := fun r => isWithinB r.rise 1000) hb (k := k) (by rw [rz_len]; exact hk)
  rw [rz_get zs hk] at h4
  exact h3 h4
theorem raE_ok {n : Int} {rs : List Rd} {zs : List Int} (h : ¬ validateI n rs ≠ 0) (h2 : (zs.length : Int) = n ∧ withinL zs 1000 = true) (h3 : ∀ j, j < rs.length → isWithinB (raiseR zs (rs.getD j default)).rise 1000 = true) : raE n rs zs = 0 := by
  unfold raE
  rw [if_neg h, if_neg (not_not_intro h2), if_pos]
  refine List.all_eq_true.2 fun r hr => ?_
  obtain ⟨i, hi, he⟩ := List.mem_iff_getElem.1 hr
  rw [rz_len] at hi
  have h5 := h3 i hi
  rw [← rz_get zs hi] at h5
  have e : (rz zs rs).getD i default = r := by rw [← he]; simp [List.getD, hi, rz_len]
  rw [e] at h5
  exact h5
theorem raE_is {n : Int} {rs : List Rd} {zs : List Int} (h : raE n rs zs = 0) : Valid n rs ∧ (zs.length : Int) = n ∧ withinL zs 1000 = true ∧ raB zs rs = true := by
  unfold raE at h
  split at h
  · rename_i h1; exact absurd h h1
  · rename_i h1
    split at h
    · cases h
    · rename_i h2
      split at h
      · rename_i h3
        have h4 := Decidable.of_not_not h2
        exact ⟨vof h1, h4.1, h4.2, h3⟩
      · cases h
theorem raE_valid {n : Int} {rs : List Rd} {zs : List Int} (h : raE n rs zs = 0) : Valid n (rz zs rs) := by
  obtain ⟨hv, _, _, hb⟩ := raE_is h
  have h1 := hv.pts
  have h2 := hv.len
  have h3 : (rz zs rs).all (isReadingB n) = true := List.all_eq_true.2 fun r hr => by
    obtain ⟨q, hq, rfl⟩ := List.mem_map.1 hr
    obtain ⟨e1, e2, e3, _, e5⟩ := reading_spec (List.all_eq_true.1 hv.all q hq)
    have e4 := List.all_eq_true.1 hb _ hr
    show (isPointB n q.fr && isPointB n q.to && decide (q.fr ≠ q.to) && isWithinB (raiseR zs q).rise 1000 && decide (1 ≤ q.wt ∧ q.wt ≤ 3)) = true
    simp only [isPointB, Bool.and_eq_true, decide_eq_true_eq]
    exact ⟨⟨⟨⟨e1, e2⟩, e3⟩, e4⟩, e5⟩
  unfold Valid validateI
  rw [if_neg (by omega), if_neg (by rw [rz_len]; omega), if_pos h3]
theorem withinL_all {xs : List Int} {m : Int} (h : ∀ j, j < xs.length → isWithinB (xs.getD j 0) m = true) : withinL xs m = true := by
  refine List.all_eq_true.2 fun x hx => ?_
  obtain ⟨i, hi, rfl⟩ := List.mem_iff_getElem.1 hx
  have := h i hi
  simpa [List.getD, hi] using this


set_option maxRecDepth 100000 in
set_option maxHeartbeats 2000000 in
theorem raise_ok (w0 : World) (n : Int) (p : Option Addr) (cap : Nat) (rs : List Rd) (hr : RdsAt w0 p rs) (hl : rs.length ≤ 1000) (pn : Option Addr) (cn : Nat) (zs : List Int) (hx : IntsAt w0 pn zs) (hb : zs.length ≤ 1000000) :
    Calls Try.prog 59 #[sv n p rs.length cap, .slice pn zs.length cn] w0 (Post (X := (Int × HD × List Rd)) (fun x => .tuple #[.agg #[.int .i64 x.1, gval x.2.1 x.2.2.length], .int .i64 (raE n rs zs)]) (ChF (raE n rs zs) n (rz zs rs)) (fun x => gbS x.2.1 x.2.2) w0) := by
  refine calls Try.func59 rfl (n := 62) rfl (by simp) ?_
  refine TC.seq ?_
  refine TC.region ?_
  refine TL.box rfl rfl (by decide) (fun b0 hb0 => ?_)
  refine TL.alloc Tb.zero_24 rfl (by decide) (fun b1 hb1 => ?_)
  refine TL.pure (PV.assign rfl) rfl (by decide) ?_
  refine TL.nil ?_
  refine TQ.thenC ?_
  refine TC.seq ?_
  refine TC.seq ?_
  refine TC.region ?_
  refine TL.pure (PV.loadBox rfl Tb.agg_24 (by repeat (first | exact List.Mem.head _ | refine List.Mem.tail _ ?_ | refine List.mem_append_right _ ?_)) rfl) rfl (by decide) ?_
  refine TL.call rfl Tb.gofn_23 (fun a w hs => validate_ok w _ _ _ _ (hr.new hs.new)) rfl (by decide) (fun _ _ => ?_)
  refine TL.pure (PV.assign rfl) rfl (by decide) ?_
  refine TL.nil ?_
  refine TQ.thenC ?_
  refine TC.seq ?_
  refine TC.region ?_
  refine TL.pure (PV.move rfl) rfl (by decide) ?_
  refine TL.pure (PV.neq rfl rfl) rfl (by decide) ?_
  refine TL.nil ?_
  refine TQ.thenC ?_
  first | refine TC.condD rfl (fun hne => ?_) (fun hne => ?_) | refine TC.cond rfl (fun hne => ?_) (fun hne => ?_)
  · skip
    refine TC.seq ?_
    refine TC.region ?_
    refine TL.pure (PV.build rfl Tb.zero_24 Tb.pl_24 rfl) rfl (by decide) ?_
    refine TL.pure (PV.move rfl) rfl (by decide) ?_
    refine TL.storeAgg rfl rfl Tb.cells_24 (by repeat (first | exact Upd.head _ | apply Upd.tail | apply Upd.appR)) rfl rfl (by first | rfl | exact sv_one _ _ _) rfl rfl ?_
    refine TL.pure (PV.assign rfl) rfl (by decide) ?_
    refine TL.nil ?_
    refine TQ.thenC ?_
    refine TC.ret ?_
    refine TQ.thenR ?_
    refine TQ.retR rfl (Res.agg rfl Tb.agg_24 (by repeat (first | exact List.Mem.head _ | refine List.Mem.tail _ ?_ | refine List.mem_append_right _ ?_)) rfl (Res.tmp rfl Res.nil)) ?_
    simp only [tup]
    exact ⟨(0, none, []), by rw [raE_bad hne]; rfl, ChF.bad (by rw [raE_bad hne]; first | exact hne | decide), List.nil_sublist _⟩
  · skip
    refine TC.skip ?_
    refine TQ.thenC ?_
    refine TC.seq ?_
    refine TC.seq ?_
    refine TC.region ?_
    refine TL.pure (PV.move rfl) rfl (by decide) ?_
    refine TL.pure (PV.fieldAddr rfl Tb.fo_24_0) rfl (by decide) ?_
    refine TL.pure (PV.load rfl Tb.one_3 (by repeat (first | exact List.Mem.head _ | refine List.Mem.tail _ ?_ | refine List.mem_append_right _ ?_)) rfl) rfl (by decide) ?_
    refine TL.call rfl Tb.gofn_80 (fun a w hs => areWithin_ok w pn cn zs zs.length rfl (hx.new hs.new) hb n 1000 (by omega)) rfl (by decide) (fun _ _ => ?_)
    refine TL.pure ((by first | exact PV.notD rfl | exact PV.not rfl)) rfl (by decide) ?_
    refine TL.nil ?_
    refine TQ.thenC ?_
    first | refine TC.condD rfl (fun hw => ?_) (fun hw => ?_) | refine TC.cond rfl (fun hw => ?_) (fun hw => ?_)
    · skip
      refine TC.seq ?_
      refine TC.region ?_
      refine TL.pure (PV.build rfl Tb.zero_24 Tb.pl_24 rfl) rfl (by decide) ?_
      refine TL.storeAgg rfl rfl Tb.cells_24 (by repeat (first | exact Upd.head _ | apply Upd.tail | apply Upd.appR)) rfl rfl (by first | rfl | exact sv_one _ _ _) rfl rfl ?_
      refine TL.pure (PV.assign rfl) rfl (by decide) ?_
      refine TL.nil ?_
      refine TQ.thenC ?_
      refine TC.ret ?_
      refine TQ.thenR ?_
      refine TQ.retR rfl (Res.agg rfl Tb.agg_24 (by repeat (first | exact List.Mem.head _ | refine List.Mem.tail _ ?_ | refine List.mem_append_right _ ?_)) rfl (Res.tmp rfl Res.nil)) ?_
      simp only [tup]
      exact ⟨(0, none, []), by rw [raE_arg hne (by intro h; rw [decide_eq_true h.1, h.2] at hw; cases hw)]; rfl, ChF.bad (by rw [raE_arg hne (by intro h; rw [decide_eq_true h.1, h.2] at hw; cases hw)]; first | exact hne | decide), List.nil_sublist _⟩
    · skip
      refine TC.skip ?_
      refine TQ.thenC ?_
      refine TC.seq ?_
      have h2 : (zs.length : Int) = n ∧ withinL zs 1000 = true := by simpa using hw
      refine TC.region ?_
      refine TL.pure (PV.loadBox rfl Tb.agg_24 (by repeat (first | exact List.Mem.head _ | refine List.Mem.tail _ ?_ | refine List.mem_append_right _ ?_)) rfl) rfl (by decide) ?_
      refine TL.call rfl Tb.gofn_90 (fun a w hs => copied_ok w n p cap rs.length rs rfl (hr.new hs.new) (by omega)) rfl (by decide) (fun h1 hh1 => ?_)
      refine TL.alloc Tb.zero_24 rfl (by decide) (fun b2 hb2 => ?_)
      refine TL.storeAgg rfl rfl Tb.cells_24 (by repeat (first | exact Upd.head _ | apply Upd.tail | apply Upd.appR)) rfl rfl (by first | rfl | exact sv_one _ _ _) rfl rfl ?_
      refine TL.nil ?_
      refine TQ.thenC ?_
      refine TC.seq ?_
      refine TC.seq ?_
      refine TC.region ?_
      refine TL.pure (PV.fieldAddr rfl Tb.fo_24_1) rfl (by decide) ?_
      refine TL.pure (PV.load rfl Tb.one_22 (by repeat (first | exact List.Mem.head _ | refine List.Mem.tail _ ?_ | refine List.mem_append_right _ ?_)) rfl) rfl (by decide) ?_
      refine TL.pure (PV.len rfl Tb.sl_22) rfl (by decide) ?_
      refine TL.pure (PV.move rfl) rfl (by decide) ?_
      refine TL.nil ?_
      refine TQ.thenC ?_
      refine TC.block ?_
      -- live and written in the loop, not told: [5]
      refine TC.loopK [1, 4, 7, 25, 26] (X := Nat) (fun k => k ≤ rs.length ∧ ∀ j, j < k → isWithinB (raiseR zs (rs.getD j default)).rise 1000 = true) (fun k => [(27, .int .i64 k)]) (fun k => (b2, .cells #[.int .i64 n, gval h1 rs.length] 24 (0, 0)) :: (gbS h1 (rk zs rs k) ++ [(b1, .cells #[.int .i64 0, .slice none 0 0] 24 (0, 0)), (b0, .cells #[.int .i64 n, .slice p rs.length cap] 24 (0, 0))])) (fun k => rs.length - k) 0 ⟨Nat.zero_le _, fun j hj => by omega⟩ (by repeat (first | exact True.intro | refine And.intro rfl ?_)) (by rw [rk_zero]; exact List.Sublist.refl _) ?_
      intro k hk
      refine TC.seq ?_
      refine TC.region ?_
      refine TL.pure (PV.lss rfl rfl) rfl (by decide) ?_
      refine TL.nil ?_
      refine TQ.thenC ?_
      refine TC.seq ?_
      first | refine TC.condD rfl (fun hlt => ?_) (fun hlt => ?_) | refine TC.cond rfl (fun hlt => ?_) (fun hlt => ?_)
      · skip
        refine TC.skip ?_
        refine TQ.thenC ?_
        refine TC.seq ?_
        refine TC.block ?_
        refine TC.seq ?_
        have hkl : k < rs.length := by omega
        obtain ⟨q, hqp, hqa⟩ := hr k hkl
        have hat := (vof hne).at hkl
        obtain ⟨q1, hq1p, hq1⟩ := hx (rs.getD k default).t (by unfold Rd.t; omega)
        obtain ⟨q2, hq2p, hq2⟩ := hx (rs.getD k default).f (by unfold Rd.f; omega)
        have z1 := withinL_at h2.2 (rs.getD k default).t (by omega)
        have z2 := withinL_at h2.2 (rs.getD k default).f (by omega)
        refine TC.region ?_
        refine TL.pure (PV.move rfl) rfl (by decide) ?_
        refine TL.pure (PV.indexA rfl hqp rfl Tb.elm_22 rfl (by omega)) rfl (by decide) ?_
        refine TL.pure (PV.loadAggA rfl Tb.agg_61 rfl hqa) rfl (by decide) ?_
        refine TL.alloc Tb.zero_61 rfl (by decide) (fun b3 hb3 => ?_)
        refine TL.pure (PV.assign rfl) rfl (by decide) ?_
        refine TL.storeAgg rfl rfl Tb.cells_61 (by repeat (first | exact Upd.head _ | apply Upd.tail | apply Upd.appR)) rfl rfl rfl rfl rfl ?_
        refine TL.nil ?_
        refine TQ.thenC ?_
        refine TC.seq ?_
        refine TC.draw 19 Tb.mixed (by kernel_rfl) ?_
        simp only [List.take_succ_cons, List.take_zero, List.drop_succ_cons, List.drop_zero]
        refine TS.pure (PV.fieldAddr rfl Tb.fo_24_1) rfl (by decide) ?_
        refine TS.pure (PV.load rfl Tb.one_22 (by repeat (first | exact List.Mem.head _ | refine List.Mem.tail _ ?_ | refine List.mem_append_right _ ?_)) rfl) rfl (by decide) ?_
        refine TS.pure (PV.move rfl) rfl (by decide) ?_
        refine TS.pure (PV.fieldAddr rfl Tb.fo_61_2) rfl (by decide) ?_
        refine TS.pure (PV.load rfl Tb.one_3 (by repeat (first | exact List.Mem.head _ | refine List.Mem.tail _ ?_ | refine List.mem_append_right _ ?_)) rfl) rfl (by decide) ?_
        refine TS.pure (PV.move rfl) rfl (by decide) ?_
        refine TS.pure (PV.fieldAddr rfl Tb.fo_61_1) rfl (by decide) ?_
        refine TS.pure (PV.load rfl Tb.one_3 (by repeat (first | exact List.Mem.head _ | refine List.Mem.tail _ ?_ | refine List.mem_append_right _ ?_)) rfl) rfl (by decide) ?_
        refine TS.pure (PV.indexA rfl hq1p rfl Tb.elm_31 (Int.toNat_of_nonneg (by omega)).symm (by omega)) rfl (by decide) ?_
        refine TS.pure (PV.loadOld rfl Tb.one_3 hq1) rfl (by decide) ?_
        refine TS.pure (PV.add rfl rfl (by omega)) rfl (by decide) ?_
        refine TS.pure (PV.move rfl) rfl (by decide) ?_
        refine TS.pure (PV.fieldAddr rfl Tb.fo_61_0) rfl (by decide) ?_
        refine TS.pure (PV.load rfl Tb.one_3 (by repeat (first | exact List.Mem.head _ | refine List.Mem.tail _ ?_ | refine List.mem_append_right _ ?_)) rfl) rfl (by decide) ?_
        refine TS.pure (PV.indexA rfl hq2p rfl Tb.elm_31 (Int.toNat_of_nonneg (by omega)).symm (by omega)) rfl (by decide) ?_
        refine TS.pure (PV.loadOld rfl Tb.one_3 hq2) rfl (by decide) ?_
        refine TS.pure (PV.sub rfl rfl (by omega)) rfl (by decide) ?_
        refine TS.pure (PV.indexG (j := k) rfl rfl hh1 Tb.elm_22 rfl (by omega)) rfl (by decide) ?_
        refine TS.pure (PV.fieldAddr rfl Tb.fo_61_2) rfl (by decide) ?_
        refine TS.nil ?_
        refine TL.putF (h := h1) (l0 := rk zs rs k) (j := k) (f := 2) (v := (raiseR zs (rs.getD k default)).rise) rfl rfl Tb.cells_3 (goS_len hh1 (rk_len _ _ _)) (by repeat (first | exact PutH.here _ _ _ _ | apply PutH.tail | apply PutH.app)) (by rw [rk_len]; omega) (by decide) rfl rfl ?_
        rw [rk_put zs hkl rfl]
        refine TL.nil ?_
        refine TQ.thenC ?_
        refine TC.seq ?_
        refine TC.region ?_
        refine TL.pure (PV.fieldAddr rfl Tb.fo_24_1) rfl (by decide) ?_
        refine TL.pure (PV.load rfl Tb.one_22 (by repeat (first | exact List.Mem.head _ | refine List.Mem.tail _ ?_ | refine List.mem_append_right _ ?_)) rfl) rfl (by decide) ?_
        refine TL.pure (PV.move rfl) rfl (by decide) ?_
        refine TL.pure (PV.indexG (j := k) rfl rfl hh1 Tb.elm_22 rfl (by omega)) rfl (by decide) ?_
        refine TL.pure (PV.fieldAddr rfl Tb.fo_61_2) rfl (by decide) ?_
        refine TL.pure (PV.loadF (h := h1) (l := rk zs rs (k + 1)) (j := k) (f := 2) rfl Tb.one_3 (fun yy hyy => by repeat (first | exact List.mem_append_left _ hyy | refine List.mem_append_right _ ?_ | refine List.Mem.tail _ ?_)) (goS_len hh1 (rk_len _ _ (k + 1))) (by rw [rk_len]; omega) (by decide) (v := .int .i64 (raiseR zs (rs.getD k default)).rise) (by rw [rk_get zs (k + 1) hkl, if_pos (by omega)]; rfl)) rfl (by decide) ?_
        refine TL.call rfl Tb.gofn_93 (fun a w hs => isWithin_ok w _ 1000 (by omega) (by omega)) rfl (by decide) (fun _ _ => ?_)
        refine TL.pure ((by first | exact PV.notD rfl | exact PV.not rfl)) rfl (by decide) ?_
        refine TL.nil ?_
        refine TQ.thenC ?_
        first | refine TC.condD rfl (fun hbad => ?_) (fun hbad => ?_) | refine TC.cond rfl (fun hbad => ?_) (fun hbad => ?_)
        · skip
          refine TC.seq ?_
          refine TC.region ?_
          refine TL.pure (PV.build rfl Tb.zero_24 Tb.pl_24 rfl) rfl (by decide) ?_
          refine TL.storeAgg rfl rfl Tb.cells_24 (by repeat (first | exact Upd.head _ | apply Upd.tail | apply Upd.appR)) rfl rfl (by first | rfl | exact sv_one _ _ _) rfl rfl ?_
          refine TL.pure (PV.assign rfl) rfl (by decide) ?_
          refine TL.nil ?_
          refine TQ.thenC ?_
          refine TC.ret ?_
          refine TQ.blkR ?_
          refine TQ.thenR ?_
          refine TQ.thenR ?_
          refine TQ.blkR ?_
          refine TQ.thenR ?_
          refine TQ.retR rfl (Res.agg rfl Tb.agg_24 (by repeat (first | exact List.Mem.head _ | refine List.Mem.tail _ ?_ | refine List.mem_append_right _ ?_)) rfl (Res.tmp rfl Res.nil)) ?_
          simp only [tup]
          exact ⟨(0, none, []), by rw [raE_lg hne h2 hkl (by intro h; first | exact hbad (of_decide_eq_true h) | (rw [h] at hbad; cases hbad))]; rfl, ChF.bad (by rw [raE_lg hne h2 hkl (by intro h; first | exact hbad (of_decide_eq_true h) | (rw [h] at hbad; cases hbad))]; first | exact hne | decide), List.nil_sublist _⟩
        · skip
          refine TC.skip ?_
          refine TQ.blkN ?_
          refine TQ.thenC ?_
          refine TC.region ?_
          refine TL.pure (PV.add rfl rfl (by omega)) rfl (by decide) ?_
          refine TL.pure (PV.move rfl) rfl (by decide) ?_
          refine TL.nil ?_
          refine TQ.thenN ?_
          refine TQ.backK (k + 1) (by repeat (first | exact True.intro | refine And.intro rfl ?_)) (by repeat (first | exact True.intro | refine And.intro rfl ?_)) (by repeat (first | exact List.Sublist.slnil | exact List.nil_sublist _ | exact List.Sublist.refl _ | exact List.sublist_append_left _ _ | refine List.Sublist.cons_cons _ ?_ | refine (List.append_sublist_append_left _).2 ?_ | refine List.Sublist.cons _ ?_ | refine List.Sublist.trans ?_ (List.sublist_append_right _ _))) ⟨by omega, fun j hj => by by_cases h : j = k; · { rw [h]; first | exact decide_eq_true (Decidable.of_not_not hbad) | exact decide_eq_true hbad | (simpa using hbad) }; · { exact hk.2 j (by omega) }⟩ (by omega)
      · skip
        refine TC.exit ?_
        refine TQ.thenE ?_
        refine TQ.thenE ?_
        refine TQ.blkS ?_
        refine TQ.thenC ?_
        refine TC.seq ?_
        refine TC.region ?_
        refine TL.pure (PV.loadBox rfl Tb.agg_24 (by repeat (first | exact List.Mem.head _ | refine List.Mem.tail _ ?_ | refine List.mem_append_right _ ?_)) rfl) rfl (by decide) ?_
        refine TL.storeAgg rfl rfl Tb.cells_24 (by repeat (first | exact Upd.head _ | apply Upd.tail | apply Upd.appR)) rfl rfl (by first | rfl | exact sv_one _ _ _) rfl rfl ?_
        refine TL.pure (PV.assign rfl) rfl (by decide) ?_
        refine TL.nil ?_
        refine TQ.thenC ?_
        refine TC.ret ?_
        refine TQ.retR rfl (Res.agg rfl Tb.agg_24 (by repeat (first | exact List.Mem.head _ | refine List.Mem.tail _ ?_ | refine List.mem_append_right _ ?_)) rfl (Res.tmp rfl Res.nil)) ?_
        simp only [tup]
        have hk9 : k = rs.length := by have := hk.1; omega
        subst hk9
        have hE := raE_ok hne h2 hk.2
        rw [rk_all]
        exact ⟨(n, h1, rz zs rs), by rw [hE, rz_len], ChF.good hE (goS_len hh1 (rz_len _ _)), (by repeat (first | exact List.Sublist.slnil | exact List.nil_sublist _ | exact List.Sublist.refl _ | exact List.sublist_append_left _ _ | refine List.Sublist.cons_cons _ ?_ | refine (List.append_sublist_append_left _).2 ?_ | refine List.Sublist.cons _ ?_ | refine List.Sublist.trans ?_ (List.sublist_append_right _ _)))⟩

set_option maxRecDepth 100000 in
set_option maxHeartbeats 2000000 in
theorem rRaise_ok (w0 : World) (n : Int) (p : Option Addr) (cap : Nat) (rs : List Rd) (hr : RdsAt w0 p rs) (hl : rs.length ≤ 1000) (pn : Option Addr) (cn : Nat) (zs : List Int) (hx : IntsAt w0 pn zs) (hb : zs.length ≤ 1000000) :
    Calls Try.prog 60 #[sv n p rs.length cap, .slice pn zs.length cn] w0 (Post (X := (Int × HD × List Rd)) (fun x => .tuple #[.agg #[.int .i64 x.1, gval x.2.1 x.2.2.length], .int .i64 (raE n rs zs)]) (ChF (raE n rs zs) n (rz zs rs)) (fun x => gbS x.2.1 x.2.2) w0) := by
  refine calls Try.func60 rfl (n := 79) rfl (by simp) ?_
  refine TC.seq ?_
  refine TC.region ?_
  refine TL.box rfl rfl (by decide) (fun b0 hb0 => ?_)
  refine TL.alloc Tb.zero_24 rfl (by decide) (fun b1 hb1 => ?_)
  refine TL.pure (PV.assign rfl) rfl (by decide) ?_
  refine TL.nil ?_
  refine TQ.thenC ?_
  refine TC.seq ?_
  refine TC.seq ?_
  refine TC.region ?_
  refine TL.pure (PV.loadBox rfl Tb.agg_24 (by repeat (first | exact List.Mem.head _ | refine List.Mem.tail _ ?_ | refine List.mem_append_right _ ?_)) rfl) rfl (by decide) ?_
  refine TL.call rfl Tb.gofn_24 (fun a w hs => rvalidate_ok w _ _ _ _ (hr.new hs.new)) rfl (by decide) (fun _ _ => ?_)
  refine TL.pure (PV.assign rfl) rfl (by decide) ?_
  refine TL.nil ?_
  refine TQ.thenC ?_
  refine TC.seq ?_
  refine TC.region ?_
  refine TL.pure (PV.move rfl) rfl (by decide) ?_
  refine TL.pure (PV.neq rfl rfl) rfl (by decide) ?_
  refine TL.nil ?_
  refine TQ.thenC ?_
  first | refine TC.condD rfl (fun hne => ?_) (fun hne => ?_) | refine TC.cond rfl (fun hne => ?_) (fun hne => ?_)
  · skip
    refine TC.seq ?_
    refine TC.region ?_
    refine TL.pure (PV.build rfl Tb.zero_24 Tb.pl_24 rfl) rfl (by decide) ?_
    refine TL.pure (PV.move rfl) rfl (by decide) ?_
    refine TL.storeAgg rfl rfl Tb.cells_24 (by repeat (first | exact Upd.head _ | apply Upd.tail | apply Upd.appR)) rfl rfl (by first | rfl | exact sv_one _ _ _) rfl rfl ?_
    refine TL.pure (PV.assign rfl) rfl (by decide) ?_
    refine TL.nil ?_
    refine TQ.thenC ?_
    refine TC.ret ?_
    refine TQ.thenR ?_
    refine TQ.retR rfl (Res.agg rfl Tb.agg_24 (by repeat (first | exact List.Mem.head _ | refine List.Mem.tail _ ?_ | refine List.mem_append_right _ ?_)) rfl (Res.tmp rfl Res.nil)) ?_
    simp only [tup]
    exact ⟨(0, none, []), by rw [raE_bad hne]; rfl, ChF.bad (by rw [raE_bad hne]; first | exact hne | decide), List.nil_sublist _⟩
  · skip
    refine TC.skip ?_
    refine TQ.thenC ?_
    refine TC.seq ?_
    refine TC.seq ?_
    refine TC.region ?_
    refine TL.pure (PV.move rfl) rfl (by decide) ?_
    refine TL.pure (PV.len rfl Tb.sl_31) rfl (by decide) ?_
    refine TL.pure (PV.fieldAddr rfl Tb.fo_24_0) rfl (by decide) ?_
    refine TL.pure (PV.load rfl Tb.one_3 (by repeat (first | exact List.Mem.head _ | refine List.Mem.tail _ ?_ | refine List.mem_append_right _ ?_)) rfl) rfl (by decide) ?_
    refine TL.pure (PV.neq rfl rfl) rfl (by decide) ?_
    refine TL.nil ?_
    refine TQ.thenC ?_
    first | refine TC.condD rfl (fun hw => ?_) (fun hw => ?_) | refine TC.cond rfl (fun hw => ?_) (fun hw => ?_)
    · skip
      refine TC.seq ?_
      refine TC.region ?_
      refine TL.pure (PV.build rfl Tb.zero_24 Tb.pl_24 rfl) rfl (by decide) ?_
      refine TL.storeAgg rfl rfl Tb.cells_24 (by repeat (first | exact Upd.head _ | apply Upd.tail | apply Upd.appR)) rfl rfl (by first | rfl | exact sv_one _ _ _) rfl rfl ?_
      refine TL.pure (PV.assign rfl) rfl (by decide) ?_
      refine TL.nil ?_
      refine TQ.thenC ?_
      refine TC.ret ?_
      refine TQ.thenR ?_
      refine TQ.retR rfl (Res.agg rfl Tb.agg_24 (by repeat (first | exact List.Mem.head _ | refine List.Mem.tail _ ?_ | refine List.mem_append_right _ ?_)) rfl (Res.tmp rfl Res.nil)) ?_
      simp only [tup]
      exact ⟨(0, none, []), by rw [raE_arg hne (by intro h; exact hw h.1)]; rfl, ChF.bad (by rw [raE_arg hne (by intro h; exact hw h.1)]; first | exact hne | decide), List.nil_sublist _⟩
    · skip
      refine TC.skip ?_
      refine TQ.thenC ?_
      refine TC.seq ?_
      refine TC.seq ?_
      refine TC.region ?_
      refine TL.pure (PV.assign rfl) rfl (by decide) ?_
      refine TL.nil ?_
      refine TQ.thenC ?_
      refine TC.block ?_
      -- live and written in the loop, not told: [5]
      refine TC.loopG [1, 2, 4] (X := Nat) (fun i => i ≤ zs.length ∧ ∀ j, j < i → isWithinB (zs.getD j 0) 1000 = true) (fun i => [(7, .int .i64 i)]) (fun i => zs.length - i) 0 ⟨Nat.zero_le _, fun j hj => by omega⟩ (by repeat (first | exact True.intro | refine And.intro rfl ?_)) ?_
      intro i hi
      refine TC.seq ?_
      refine TC.seq ?_
      refine TC.region ?_
      refine TL.pure (PV.move rfl) rfl (by decide) ?_
      refine TL.pure (PV.move rfl) rfl (by decide) ?_
      refine TL.pure (PV.len rfl Tb.sl_31) rfl (by decide) ?_
      refine TL.pure (PV.lss rfl rfl) rfl (by decide) ?_
      refine TL.nil ?_
      refine TQ.thenC ?_
      first | refine TC.condD rfl (fun hlt => ?_) (fun hlt => ?_) | refine TC.cond rfl (fun hlt => ?_) (fun hlt => ?_)
      · skip
        refine TC.skip ?_
        refine TQ.thenC ?_
        refine TC.seq ?_
        refine TC.block ?_
        refine TC.seq ?_
        obtain ⟨q, hqp, hqa⟩ := hx i (by omega)
        refine TC.region ?_
        refine TL.pure (PV.move rfl) rfl (by decide) ?_
        refine TL.pure (PV.move rfl) rfl (by decide) ?_
        refine TL.pure (PV.indexA rfl hqp rfl Tb.elm_31 rfl (by omega)) rfl (by decide) ?_
        refine TL.pure (PV.loadOld rfl Tb.one_3 hqa) rfl (by decide) ?_
        refine TL.call rfl Tb.gofn_66 (fun a w hs => within_ok w _ _ _) rfl (by decide) (fun _ _ => ?_)
        refine TL.pure ((by first | exact PV.notD rfl | exact PV.not rfl)) rfl (by decide) ?_
        refine TL.nil ?_
        refine TQ.thenC ?_
        first | refine TC.condD rfl (fun hbad1 => ?_) (fun hbad1 => ?_) | refine TC.cond rfl (fun hbad1 => ?_) (fun hbad1 => ?_)
        · skip
          refine TC.seq ?_
          refine TC.region ?_
          refine TL.pure (PV.build rfl Tb.zero_24 Tb.pl_24 rfl) rfl (by decide) ?_
          refine TL.storeAgg rfl rfl Tb.cells_24 (by repeat (first | exact Upd.head _ | apply Upd.tail | apply Upd.appR)) rfl rfl (by first | rfl | exact sv_one _ _ _) rfl rfl ?_
          refine TL.pure (PV.assign rfl) rfl (by decide) ?_
          refine TL.nil ?_
          refine TQ.thenC ?_
          refine TC.ret ?_
          refine TQ.blkR ?_
          refine TQ.thenR ?_
          refine TQ.thenR ?_
          refine TQ.blkR ?_
          refine TQ.thenR ?_
          refine TQ.retR rfl (Res.agg rfl Tb.agg_24 (by repeat (first | exact List.Mem.head _ | refine List.Mem.tail _ ?_ | refine List.mem_append_right _ ?_)) rfl (Res.tmp rfl Res.nil)) ?_
          simp only [tup]
          exact ⟨(0, none, []), by rw [raE_arg hne (by intro h; have h9 := withinL_at h.2 i (by omega); first | exact hbad1 h9 | (simp at hbad1; omega))]; rfl, ChF.bad (by rw [raE_arg hne (by intro h; have h9 := withinL_at h.2 i (by omega); first | exact hbad1 h9 | (simp at hbad1; omega))]; first | exact hne | decide), List.nil_sublist _⟩
        · skip
          refine TC.skip ?_
          refine TQ.blkN ?_
          refine TQ.thenC ?_
          refine TC.region ?_
          refine TL.pure (PV.move rfl) rfl (by decide) ?_
          refine TL.pure (PV.add rfl rfl (by omega)) rfl (by decide) ?_
          refine TL.pure (PV.assign rfl) rfl (by decide) ?_
          refine TL.nil ?_
          refine TQ.thenN ?_
          refine TQ.backK (i + 1) (by repeat (first | exact True.intro | refine And.intro rfl ?_)) (by repeat (first | exact True.intro | refine And.intro rfl ?_)) (by repeat (first | exact List.Sublist.slnil | exact List.nil_sublist _ | exact List.Sublist.refl _ | refine List.Sublist.cons_cons _ ?_ | refine List.Sublist.cons _ ?_ | refine List.Sublist.trans ?_ (List.sublist_append_right _ _))) ⟨by omega, fun j hj => by by_cases h : j = i; · { rw [h]; unfold isWithinB; first | exact decide_eq_true (Decidable.of_not_not hbad1) | exact decide_eq_true hbad1 | (simpa using hbad1) }; · { exact hi.2 j (by omega) }⟩ (by omega)
      · skip
        refine TC.exit ?_
        refine TQ.thenE ?_
        refine TQ.thenE ?_
        refine TQ.blkS ?_
        refine TQ.thenC ?_
        refine TC.seq ?_
        have hi9 : i = zs.length := by have := hi.1; omega
        subst hi9
        have h2 : (zs.length : Int) = n ∧ withinL zs 1000 = true := ⟨by omega, withinL_all hi.2⟩
        refine TC.region ?_
        refine TL.pure (PV.loadBox rfl Tb.agg_24 (by repeat (first | exact List.Mem.head _ | refine List.Mem.tail _ ?_ | refine List.mem_append_right _ ?_)) rfl) rfl (by decide) ?_
        refine TL.call rfl Tb.gofn_54 (fun a w hs => Copy_ok w n p cap rs.length rs rfl (hr.new hs.new) (by omega)) rfl (by decide) (fun h1 hh1 => ?_)
        refine TL.alloc Tb.zero_24 rfl (by decide) (fun b2 hb2 => ?_)
        refine TL.storeAgg rfl rfl Tb.cells_24 (by repeat (first | exact Upd.head _ | apply Upd.tail | apply Upd.appR)) rfl rfl (by first | rfl | exact sv_one _ _ _) rfl rfl ?_
        refine TL.nil ?_
        refine TQ.thenC ?_
        refine TC.seq ?_
        refine TC.seq ?_
        refine TC.region ?_
        refine TL.pure (PV.assign rfl) rfl (by decide) ?_
        refine TL.nil ?_
        refine TQ.thenC ?_
        refine TC.block ?_
        -- live and written in the loop, not told: [5]
        refine TC.loopK [1, 4, 8] (X := Nat) (fun k => k ≤ rs.length ∧ ∀ j, j < k → isWithinB (raiseR zs (rs.getD j default)).rise 1000 = true) (fun k => [(9, .int .i64 k)]) (fun k => (b2, .cells #[.int .i64 n, gval h1 rs.length] 24 (0, 0)) :: (gbS h1 (rk zs rs k) ++ [(b1, .cells #[.int .i64 0, .slice none 0 0] 24 (0, 0)), (b0, .cells #[.int .i64 n, .slice p rs.length cap] 24 (0, 0))])) (fun k => rs.length - k) 0 ⟨Nat.zero_le _, fun j hj => by omega⟩ (by repeat (first | exact True.intro | refine And.intro rfl ?_)) (by rw [rk_zero]; exact List.Sublist.refl _) ?_
        intro k hk
        refine TC.seq ?_
        refine TC.seq ?_
        refine TC.region ?_
        refine TL.pure (PV.move rfl) rfl (by decide) ?_
        refine TL.pure (PV.fieldAddr rfl Tb.fo_24_1) rfl (by decide) ?_
        refine TL.pure (PV.load rfl Tb.one_22 (by repeat (first | exact List.Mem.head _ | refine List.Mem.tail _ ?_ | refine List.mem_append_right _ ?_)) rfl) rfl (by decide) ?_
        refine TL.pure (PV.lenG rfl hh1 Tb.sl_22) rfl (by decide) ?_
        refine TL.pure (PV.lss rfl rfl) rfl (by decide) ?_
        refine TL.nil ?_
        refine TQ.thenC ?_
        first | refine TC.condD rfl (fun hlt2 => ?_) (fun hlt2 => ?_) | refine TC.cond rfl (fun hlt2 => ?_) (fun hlt2 => ?_)
        · skip
          refine TC.skip ?_
          refine TQ.thenC ?_
          refine TC.seq ?_
          refine TC.block ?_
          refine TC.seq ?_
          have hkl : k < rs.length := by omega
          have hat := (vof hne).at hkl
          obtain ⟨q1, hq1p, hq1⟩ := hx (rs.getD k default).t (by unfold Rd.t; omega)
          obtain ⟨q2, hq2p, hq2⟩ := hx (rs.getD k default).f (by unfold Rd.f; omega)
          have z1 := withinL_at h2.2 (rs.getD k default).t (by omega)
          have z2 := withinL_at h2.2 (rs.getD k default).f (by omega)
          refine TC.region ?_
          refine TL.pure (PV.fieldAddr rfl Tb.fo_24_1) rfl (by decide) ?_
          refine TL.pure (PV.load rfl Tb.one_22 (by repeat (first | exact List.Mem.head _ | refine List.Mem.tail _ ?_ | refine List.mem_append_right _ ?_)) rfl) rfl (by decide) ?_
          refine TL.pure (PV.move rfl) rfl (by decide) ?_
          refine TL.pure (PV.indexG (j := k) rfl rfl hh1 Tb.elm_22 rfl (by omega)) rfl (by decide) ?_
          refine TL.pure (PV.loadE (h := h1) (l := rk zs rs k) (j := k) rfl Tb.agg_61 (fun yy hyy => by repeat (first | exact List.mem_append_left _ hyy | refine List.mem_append_right _ ?_ | refine List.Mem.tail _ ?_)) (goS_len hh1 (rk_len _ _ k)) (by rw [rk_len]; omega) (r := (rs.getD k default)) (by rw [rk_get zs k hkl, if_neg (by omega)])) rfl (by decide) ?_
          refine TL.alloc Tb.zero_61 rfl (by decide) (fun b3 hb3 => ?_)
          refine TL.storeAgg rfl rfl Tb.cells_61 (by repeat (first | exact Upd.head _ | apply Upd.tail | apply Upd.appR)) rfl rfl rfl rfl rfl ?_
          refine TL.nil ?_
          refine TQ.thenC ?_
          refine TC.seq ?_
          refine TC.draw 19 Tb.mixed (by kernel_rfl) ?_
          simp only [List.take_succ_cons, List.take_zero, List.drop_succ_cons, List.drop_zero]
          refine TS.pure (PV.fieldAddr rfl Tb.fo_24_1) rfl (by decide) ?_
          refine TS.pure (PV.load rfl Tb.one_22 (by repeat (first | exact List.Mem.head _ | refine List.Mem.tail _ ?_ | refine List.mem_append_right _ ?_)) rfl) rfl (by decide) ?_
          refine TS.pure (PV.move rfl) rfl (by decide) ?_
          refine TS.pure (PV.fieldAddr rfl Tb.fo_61_2) rfl (by decide) ?_
          refine TS.pure (PV.load rfl Tb.one_3 (by repeat (first | exact List.Mem.head _ | refine List.Mem.tail _ ?_ | refine List.mem_append_right _ ?_)) rfl) rfl (by decide) ?_
          refine TS.pure (PV.move rfl) rfl (by decide) ?_
          refine TS.pure (PV.fieldAddr rfl Tb.fo_61_1) rfl (by decide) ?_
          refine TS.pure (PV.load rfl Tb.one_3 (by repeat (first | exact List.Mem.head _ | refine List.Mem.tail _ ?_ | refine List.mem_append_right _ ?_)) rfl) rfl (by decide) ?_
          refine TS.pure (PV.indexA rfl hq1p rfl Tb.elm_31 (Int.toNat_of_nonneg (by omega)).symm (by omega)) rfl (by decide) ?_
          refine TS.pure (PV.loadOld rfl Tb.one_3 hq1) rfl (by decide) ?_
          refine TS.pure (PV.add rfl rfl (by omega)) rfl (by decide) ?_
          refine TS.pure (PV.move rfl) rfl (by decide) ?_
          refine TS.pure (PV.fieldAddr rfl Tb.fo_61_0) rfl (by decide) ?_
          refine TS.pure (PV.load rfl Tb.one_3 (by repeat (first | exact List.Mem.head _ | refine List.Mem.tail _ ?_ | refine List.mem_append_right _ ?_)) rfl) rfl (by decide) ?_
          refine TS.pure (PV.indexA rfl hq2p rfl Tb.elm_31 (Int.toNat_of_nonneg (by omega)).symm (by omega)) rfl (by decide) ?_
          refine TS.pure (PV.loadOld rfl Tb.one_3 hq2) rfl (by decide) ?_
          refine TS.pure (PV.sub rfl rfl (by omega)) rfl (by decide) ?_
          refine TS.pure (PV.indexG (j := k) rfl rfl hh1 Tb.elm_22 rfl (by omega)) rfl (by decide) ?_
          refine TS.pure (PV.fieldAddr rfl Tb.fo_61_2) rfl (by decide) ?_
          refine TS.nil ?_
          refine TL.putF (h := h1) (l0 := rk zs rs k) (j := k) (f := 2) (v := (raiseR zs (rs.getD k default)).rise) rfl rfl Tb.cells_3 (goS_len hh1 (rk_len _ _ _)) (by repeat (first | exact PutH.here _ _ _ _ | apply PutH.tail | apply PutH.app)) (by rw [rk_len]; omega) (by decide) rfl rfl ?_
          rw [rk_put zs hkl rfl]
          refine TL.nil ?_
          refine TQ.thenC ?_
          refine TC.seq ?_
          refine TC.region ?_
          refine TL.pure (PV.fieldAddr rfl Tb.fo_24_1) rfl (by decide) ?_
          refine TL.pure (PV.load rfl Tb.one_22 (by repeat (first | exact List.Mem.head _ | refine List.Mem.tail _ ?_ | refine List.mem_append_right _ ?_)) rfl) rfl (by decide) ?_
          refine TL.pure (PV.move rfl) rfl (by decide) ?_
          refine TL.pure (PV.indexG (j := k) rfl rfl hh1 Tb.elm_22 rfl (by omega)) rfl (by decide) ?_
          refine TL.pure (PV.fieldAddr rfl Tb.fo_61_2) rfl (by decide) ?_
          refine TL.pure (PV.loadF (h := h1) (l := rk zs rs (k + 1)) (j := k) (f := 2) rfl Tb.one_3 (fun yy hyy => by repeat (first | exact List.mem_append_left _ hyy | refine List.mem_append_right _ ?_ | refine List.Mem.tail _ ?_)) (goS_len hh1 (rk_len _ _ (k + 1))) (by rw [rk_len]; omega) (by decide) (v := .int .i64 (raiseR zs (rs.getD k default)).rise) (by rw [rk_get zs (k + 1) hkl, if_pos (by omega)]; rfl)) rfl (by decide) ?_
          refine TL.call rfl Tb.gofn_66 (fun a w hs => within_ok w _ _ _) rfl (by decide) (fun _ _ => ?_)
          refine TL.pure ((by first | exact PV.notD rfl | exact PV.not rfl)) rfl (by decide) ?_
          refine TL.nil ?_
          refine TQ.thenC ?_
          first | refine TC.condD rfl (fun hbad => ?_) (fun hbad => ?_) | refine TC.cond rfl (fun hbad => ?_) (fun hbad => ?_)
          · skip
            refine TC.seq ?_
            refine TC.region ?_
            refine TL.pure (PV.build rfl Tb.zero_24 Tb.pl_24 rfl) rfl (by decide) ?_
            refine TL.storeAgg rfl rfl Tb.cells_24 (by repeat (first | exact Upd.head _ | apply Upd.tail | apply Upd.appR)) rfl rfl (by first | rfl | exact sv_one _ _ _) rfl rfl ?_
            refine TL.pure (PV.assign rfl) rfl (by decide) ?_
            refine TL.nil ?_
            refine TQ.thenC ?_
            refine TC.ret ?_
            refine TQ.blkR ?_
            refine TQ.thenR ?_
            refine TQ.thenR ?_
            refine TQ.blkR ?_
            refine TQ.thenR ?_
            refine TQ.retR rfl (Res.agg rfl Tb.agg_24 (by repeat (first | exact List.Mem.head _ | refine List.Mem.tail _ ?_ | refine List.mem_append_right _ ?_)) rfl (Res.tmp rfl Res.nil)) ?_
            simp only [tup]
            exact ⟨(0, none, []), by rw [raE_lg hne h2 hkl (by intro h; unfold isWithinB at h; have h9 := of_decide_eq_true h; first | exact hbad h9 | (simp at hbad; omega))]; rfl, ChF.bad (by rw [raE_lg hne h2 hkl (by intro h; unfold isWithinB at h; have h9 := of_decide_eq_true h; first | exact hbad h9 | (simp at hbad; omega))]; first | exact hne | decide), List.nil_sublist _⟩
          · skip
            refine TC.skip ?_
            refine TQ.blkN ?_
            refine TQ.thenC ?_
            refine TC.region ?_
            refine TL.pure (PV.move rfl) rfl (by decide) ?_
            refine TL.pure (PV.add rfl rfl (by omega)) rfl (by decide) ?_
            refine TL.pure (PV.assign rfl) rfl (by decide) ?_
            refine TL.nil ?_
            refine TQ.thenN ?_
            refine TQ.backK (k + 1) (by repeat (first | exact True.intro | refine And.intro rfl ?_)) (by repeat (first | exact True.intro | refine And.intro rfl ?_)) (by repeat (first | exact List.Sublist.slnil | exact List.nil_sublist _ | exact List.Sublist.refl _ | exact List.sublist_append_left _ _ | refine List.Sublist.cons_cons _ ?_ | refine (List.append_sublist_append_left _).2 ?_ | refine List.Sublist.cons _ ?_ | refine List.Sublist.trans ?_ (List.sublist_append_right _ _))) ⟨by omega, fun j hj => by by_cases h : j = k; · { rw [h]; first | exact decide_eq_true (Decidable.of_not_not hbad) | exact decide_eq_true hbad | (simpa using hbad) }; · { exact hk.2 j (by omega) }⟩ (by omega)
        · skip
          refine TC.exit ?_
          refine TQ.thenE ?_
          refine TQ.thenE ?_
          refine TQ.blkS ?_
          refine TQ.thenC ?_
          refine TC.seq ?_
          refine TC.region ?_
          refine TL.pure (PV.loadBox rfl Tb.agg_24 (by repeat (first | exact List.Mem.head _ | refine List.Mem.tail _ ?_ | refine List.mem_append_right _ ?_)) rfl) rfl (by decide) ?_
          refine TL.storeAgg rfl rfl Tb.cells_24 (by repeat (first | exact Upd.head _ | apply Upd.tail | apply Upd.appR)) rfl rfl (by first | rfl | exact sv_one _ _ _) rfl rfl ?_
          refine TL.pure (PV.assign rfl) rfl (by decide) ?_
          refine TL.nil ?_
          refine TQ.thenC ?_
          refine TC.ret ?_
          refine TQ.retR rfl (Res.agg rfl Tb.agg_24 (by repeat (first | exact List.Mem.head _ | refine List.Mem.tail _ ?_ | refine List.mem_append_right _ ?_)) rfl (Res.tmp rfl Res.nil)) ?_
          simp only [tup]
          have hk9 : k = rs.length := by have := hk.1; omega
          subst hk9
          have hE := raE_ok hne h2 hk.2
          rw [rk_all]
          exact ⟨(n, h1, rz zs rs), by rw [hE, rz_len], ChF.good hE (goS_len hh1 (rz_len _ _)), (by repeat (first | exact List.Sublist.slnil | exact List.nil_sublist _ | exact List.Sublist.refl _ | exact List.sublist_append_left _ _ | refine List.Sublist.cons_cons _ ?_ | refine (List.append_sublist_append_left _).2 ?_ | refine List.Sublist.cons _ ?_ | refine List.Sublist.trans ?_ (List.sublist_append_right _ _)))⟩

theorem raiseS (w : World) (n : Int) (h : HD) (K : Nat) (rs : List Rd) (hK : rs.length = K) (ho : goS h rs) (hr : RdsAt w (gp h) rs) (hl : K ≤ 1000) (pn : Option Addr) (cn : Nat) (zs : List Int) (hx : IntsAt w pn zs) (hb : zs.length ≤ 1000000) :
    Calls Try.prog 59 #[.agg #[.int .i64 n, gval h K], .slice pn zs.length cn] w (Post (X := (Int × HD × List Rd)) (fun x => .tuple #[.agg #[.int .i64 x.1, gval x.2.1 x.2.2.length], .int .i64 (raE n rs zs)]) (ChF (raE n rs zs) n (rz zs rs)) (fun x => gbS x.2.1 x.2.2) w) := by
  have hc := raise_ok w n (gp h) (gc h) rs hr (by omega) pn cn zs hx hb
  rw [gvS_eq ho hK]; subst hK
  exact hc
end Go.Proofs.Ytmmgcajegokkoaa

namespace Go.Proofs.Ytmmgcajegokkoaa
open Go.Sx Go.RowKit

section
variable {n : Nat} {w0 : World} {E : Env} {G : Heap} {d : Option Nat} {ty : TypeId} {pos : String} {aft : Array Edge} {g : Option (Nat × Bool)}
theorem PV.loadPart {x : Operand} {h : HD} {l : List (HD × List Int)} {j t : Nat} (hx : evo E x = some (.pointer (some ⟨(h.map (·.1)).getD 0, j * 1, none⟩))) (ht : oneB Try.prog t = true) (hm : ∀ y ∈ gbP (h, l), y ∈ G) (hok : goP (h, l)) (hj : j < l.length) :
    PV Try.prog n w0 E G ⟨d, .load t x, ty, pos, aft, g⟩ (gvI (l.getD j default)) := by
  cases h with
  | none =>
    have h9 : l.length = 0 := hok.2
    omega
  | some hh =>
    obtain ⟨b, cap, sp⟩ := hh
    refine PV.loadG' (b := b) (off := j * 1) (cs := (l.map gvI ++ sp).toArray) (e := 31) (fr := (0, 0)) hx ht (hm _ (.head _)) ?_
    rw [List.getElem?_toArray, List.getElem?_append_left (by simpa using hj)]
    simp [List.getD, hj]
theorem PV.loadPt {x : Operand} {y : HD × List Int} {j t : Nat} (hx : evo E x = some (.pointer (some ⟨(y.1.map (·.1)).getD 0, j * 1, none⟩))) (ht : oneB Try.prog t = true) (hm : ∀ z ∈ gbI y, z ∈ G) (hok : goI y) (hj : j < y.2.length) :
    PV Try.prog n w0 E G ⟨d, .load t x, ty, pos, aft, g⟩ (.int .i64 (y.2.getD j 0)) := by
  obtain ⟨h, l⟩ := y
  cases h with
  | none =>
    have h9 : l.length = 0 := hok.2
    have hj' : j < l.length := hj
    omega
  | some hh =>
    obtain ⟨b, cap, sp⟩ := hh
    refine PV.loadG' (b := b) (off := j * 1) (cs := (ival l ++ sp).toArray) (e := 3) (fr := (0, 0)) hx ht (hm _ (.head _)) ?_
    have hj' : j < l.length := hj
    rw [List.getElem?_toArray, List.getElem?_append_left (by simpa using hj')]
    simp [List.getD, hj']
end
theorem bl_mem {l : List (HD × List Int)} {j : Nat} (hj : j < l.length) {z : Nat × Obj} (hz : z ∈ gbI (l.getD j default)) : z ∈ bl l := by
  unfold bl
  refine List.mem_flatMap.2 ⟨l.getD j default, ?_, hz⟩
  rw [List.mem_reverse]
  simp [List.getD, hj]
theorem part_ok {l : List (HD × List Int)} (h : ∀ y ∈ l, goI y) {j : Nat} (hj : j < l.length) : goI (l.getD j default) := h _ (by simp [List.getD, hj])
theorem filt_head {p : Nat → Bool} {N q0 : Nat} {r : List Nat} (h : (List.range N).filter p = q0 :: r) : ∀ q, q < N → p q = true → q0 ≤ q := by
  intro q hq hp
  have hm : q ∈ (List.range N).filter p := List.mem_filter.2 ⟨List.mem_range.2 hq, hp⟩
  have hs : ((List.range N).filter p).Pairwise (· < ·) := List.Pairwise.filter _ List.pairwise_lt_range
  rw [h] at hm hs
  rcases List.mem_cons.1 hm with rfl | hm
  · exact Nat.le_refl _
  · exact Nat.le_of_lt ((List.pairwise_cons.1 hs).1 q hm)
theorem getD_mem {F : List Nat} {d : Nat} (h : d < F.length) : F.getD d 0 ∈ F := by simp [List.getD, h]
theorem getD_ofNat {F : List Nat} {d : Nat} (h : d < F.length) : (F.map Int.ofNat).getD d 0 = ((F.getD d 0 : Nat) : Int) := by simp [List.getD, h]
/-- A point of a part, and the part's first point. -/
theorem parts_at {n : Int} {rs : List Rd} (hv : Valid n rs) {l : List (HD × List Int)} (hx : l.map (·.2) = partsK n.toNat (firstsL n rs) n.toNat) {c d : Nat} (hc : c < l.length) (hd : d < (l.getD c default).2.length) :
    ∃ A : Nat, A < n.toNat ∧ (l.getD c default).2.getD d 0 = (A : Int) ∧ (l.getD c default).2.getD 0 0 = ((rootOf n.toNat rs A : Nat) : Int) := by
  have hmem : (l.getD c default).2 ∈ partsK n.toNat (firstsL n rs) n.toNat := by
    rw [← hx]
    exact List.mem_map.2 ⟨l.getD c default, by simp [List.getD, hc], rfl⟩
  generalize (l.getD c default).2 = y at hmem hd
  obtain ⟨p, hp, rfl⟩ := List.mem_map.1 hmem
  obtain ⟨hpN, hpp⟩ := List.mem_filter.1 hp
  rw [List.mem_range] at hpN
  have hpp := of_decide_eq_true hpp
  have hnn := hv.nat.2
  have hrt : ∀ q, q < n.toNat → (rootOf n.toNat rs q ≤ q ∧ ((rootOf n.toNat rs q : Nat) : Int) = (firstsL n rs).getD q 0) := fun q hq => by
    have := root_le hv.nat.1 hq
    rwa [hnn] at this
  unfold partK at hd ⊢
  cases hF : (List.range n.toNat).filter (fun q => decide ((firstsL n rs).getD q 0 = ((p : Nat) : Int))) with
  | nil => rw [hF] at hd; simp at hd
  | cons q0 r =>
    have h0 : q0 ∈ (List.range n.toNat).filter (fun q => decide ((firstsL n rs).getD q 0 = ((p : Nat) : Int))) := by rw [hF]; exact .head _
    obtain ⟨h01, h02⟩ := List.mem_filter.1 h0
    rw [List.mem_range] at h01
    have h02 := of_decide_eq_true h02
    have h03 := filt_head hF p hpN (decide_eq_true hpp)
    have h04 := hrt q0 h01
    have hq0 : q0 = p := by omega
    have hall : ∀ q ∈ (List.range n.toNat).filter (fun q => decide ((firstsL n rs).getD q 0 = ((p : Nat) : Int))), q < n.toNat ∧ (firstsL n rs).getD q 0 = ((p : Nat) : Int) := fun q hq => by
      obtain ⟨e1, e2⟩ := List.mem_filter.1 hq
      exact ⟨List.mem_range.1 e1, of_decide_eq_true e2⟩
    rw [hF] at hall hd
    have hd' : d < (q0 :: r).length := by rw [List.length_map] at hd; exact hd
    obtain ⟨h11, h12⟩ := hall _ (getD_mem hd')
    have h13 := hrt _ h11
    exact ⟨(q0 :: r).getD d 0, h11, getD_ofNat hd', by rw [h13.2, h12, ← hq0]; rfl⟩
theorem part_len {N : Nat} {xs : List Int} {k : Nat} {l : List (HD × List Int)} (hx : l.map (·.2) = partsK N xs k) {c : Nat} (hc : c < l.length) : (l.getD c default).2.length ≤ N := by
  have hmem : (l.getD c default).2 ∈ partsK N xs k := by
    rw [← hx]
    exact List.mem_map.2 ⟨l.getD c default, by simp [List.getD, hc], rfl⟩
  obtain ⟨p, _, hp⟩ := List.mem_map.1 hmem
  rw [← hp]
  exact partK_len _ _ _
theorem misfitR (w : World) (n : Int) (h : HD) (K : Nat) (rs : List Rd) (hK : rs.length = K) (ho : goS h rs) (hr : RdsAt w (gp h) rs) :
    Calls Try.prog 39 #[.agg #[.int .i64 n, gval h K]] w (Post (X := Unit) (fun _ => .tuple #[.agg #[.int .i64 (mfV n rs (mfA n rs)), .int .i64 (mfV n rs (mfB n rs))], .int .i64 (validateI n rs)]) (fun _ => True) (fun _ => []) w) := by
  have hc := Misfit_v w n (gp h) (gc h) rs hr
  rw [gvS_eq ho hK]; subst hK
  exact hc
theorem bestS (w : World) (n : Int) (h : HD) (K : Nat) (rs : List Rd) (hK : rs.length = K) (ho : goS h rs) (hr : RdsAt w (gp h) rs) (hv : Valid n rs) :
    Calls Try.prog 35 #[.agg #[.int .i64 n, gval h K]] w (Post (X := Nat) (fun b => .tuple #[.slice (some ⟨b, 0, none⟩) n.toNat n.toNat, .int .i64 0]) (fun _ => True) (fun b => [(b, .cells (recA (hRows n.toNat rs)) 46 (0, 0))]) w) := by
  have hc := best_h w n (gp h) (gc h) rs hr hv
  rw [gvS_eq ho hK]; subst hK
  exact hc
theorem ratioV (w0 : World) (num den : Int) (hd : 0 < den ∧ den ≤ 4000000000000000000) (hn : -4000000000000000000 ≤ num ∧ num ≤ 4000000000000000000) :
    Calls Try.prog 50 #[.int .i64 num, .int .i64 den] w0 (Post (X := Unit) (fun _ => .agg #[.int .i64 (num.tdiv (lowG num den)), .int .i64 (den.tdiv (lowG num den))]) (fun _ => True) (fun _ => []) w0) := ratio_ok w0 num den hd hn
theorem hRows_val {N : Nat} {rs : List Rd} {i : Nat} (hi : i < N) : (hRows N rs).getD i [] = [.int .i64 (hN N rs i), .int .i64 (hD N rs i)] := hRows_get hi


set_option maxRecDepth 100000 in
set_option maxHeartbeats 4000000 in
theorem levelRaises_ok (w0 : World) (n : Int) (p : Option Addr) (cap : Nat) (rs : List Rd) (hr : RdsAt w0 p rs) (pn : Option Addr) (cn : Nat) (zs : List Int) (hx : IntsAt w0 pn zs) (i j k : Int) :
    Calls Try.prog 15 #[sv n p rs.length cap, .slice pn zs.length cn, .agg #[.int .i64 i, .int .i64 j, .int .i64 k]] w0 (Post (X := Unit) (fun _ => .bool true) (fun _ => True) (fun _ => []) w0) := by
  refine calls Try.func15 rfl (n := 219) rfl (by simp) ?_
  refine TC.seq ?_
  refine TC.region ?_
  refine TL.box rfl rfl (by decide) (fun b0 hb0 => ?_)
  refine TL.box rfl rfl (by decide) (fun b1 hb1 => ?_)
  refine TL.pure (PV.assign rfl) rfl (by decide) ?_
  refine TL.nil ?_
  refine TQ.thenC ?_
  refine TC.seq ?_
  refine TC.seq ?_
  refine TC.region ?_
  refine TL.pure (PV.loadBox rfl Tb.agg_24 (by repeat (first | exact List.Mem.head _ | refine List.Mem.tail _ ?_ | refine List.mem_append_right _ ?_)) rfl) rfl (by decide) ?_
  refine TL.call rfl Tb.gofn_17 (fun a w hs => long_ok w _ _ _ _) rfl (by decide) (fun _ _ => ?_)
  refine TL.pure (PV.move rfl) rfl (by decide) ?_
  first | refine TL.splitD 30 rfl (fun hlong1 => ?_) (fun hlong1 => ?_) | refine TL.split 30 rfl (fun hlong1 => ?_) (fun hlong1 => ?_)
  · skip
    refine TL.skip rfl (fun k hk => by cases hk; decide) ?_
    refine TL.skip rfl (fun k hk => by cases hk; decide) ?_
    refine TL.skip rfl (fun k hk => by cases hk; decide) ?_
    refine TL.pure (PV.pickT rfl rfl) rfl (by decide) ?_
    refine TL.nil ?_
    refine TQ.thenC ?_
    refine TC.condT rfl ?_
    refine TC.seq ?_
    refine TC.region ?_
    refine TL.call rfl Tb.gofn_18 (fun a w hs => known_ok w) rfl (by decide) (fun _ _ => ?_)
    refine TL.pure (PV.assign rfl) rfl (by decide) ?_
    refine TL.nil ?_
    refine TQ.thenC ?_
    refine TC.ret ?_
    refine TQ.thenR ?_
    refine TQ.retE1 rfl rfl ?_
    first | exact ⟨(), rfl, trivial, List.nil_sublist _⟩ | (exfalso; omega) | (exfalso; simp_all; done)
  · skip
    refine TL.pure (PV.move rfl) rfl (by decide) ?_
    refine TL.pure (PV.len rfl Tb.sl_31) rfl (by decide) ?_
    refine TL.pure (PV.gtr rfl rfl) rfl (by decide) ?_
    refine TL.pure (PV.pickF rfl rfl) rfl (by decide) ?_
    refine TL.nil ?_
    refine TQ.thenC ?_
    first | refine TC.condD rfl (fun hlong => ?_) (fun hlong => ?_) | refine TC.cond rfl (fun hlong => ?_) (fun hlong => ?_)
    · skip
      refine TC.seq ?_
      refine TC.region ?_
      refine TL.call rfl Tb.gofn_18 (fun a w hs => known_ok w) rfl (by decide) (fun _ _ => ?_)
      refine TL.pure (PV.assign rfl) rfl (by decide) ?_
      refine TL.nil ?_
      refine TQ.thenC ?_
      refine TC.ret ?_
      refine TQ.thenR ?_
      refine TQ.retE1 rfl rfl ?_
      first | exact ⟨(), rfl, trivial, List.nil_sublist _⟩ | (exfalso; omega) | (exfalso; simp_all; done)
    · skip
      refine TC.skip ?_
      refine TQ.thenC ?_
      refine TC.seq ?_
      refine TC.region ?_
      refine TL.pure (PV.loadBox rfl Tb.agg_24 (by repeat (first | exact List.Mem.head _ | refine List.Mem.tail _ ?_ | refine List.mem_append_right _ ?_)) rfl) rfl (by decide) ?_
      refine TL.pure (PV.move rfl) rfl (by decide) ?_
      refine TL.call rfl Tb.gofn_59 (fun a w hs => raise_ok w n p cap rs (hr.new hs.new) (by omega) pn cn zs (hx.new hs.new) (by omega)) rfl (by decide) (fun xa hxa => ?_)
      refine TL.pure (PV.move rfl) rfl (by decide) ?_
      refine TL.pure (PV.extract rfl rfl) rfl (by decide) ?_
      refine TL.pure (PV.extract rfl rfl) rfl (by decide) ?_
      refine TL.alloc Tb.zero_24 rfl (by decide) (fun b2 hb2 => ?_)
      refine TL.storeAgg rfl rfl Tb.cells_24 (by repeat (first | exact Upd.head _ | apply Upd.tail | apply Upd.appR)) rfl rfl (by first | rfl | exact sv_one _ _ _) rfl rfl ?_
      refine TL.pure (PV.assign rfl) rfl (by decide) ?_
      refine TL.nil ?_
      refine TQ.thenC ?_
      refine TC.seq ?_
      refine TC.region ?_
      refine TL.pure (PV.loadBox rfl Tb.agg_24 (by repeat (first | exact List.Mem.head _ | refine List.Mem.tail _ ?_ | refine List.mem_append_right _ ?_)) rfl) rfl (by decide) ?_
      refine TL.pure (PV.move rfl) rfl (by decide) ?_
      refine TL.call rfl Tb.gofn_60 (fun a w hs => rRaise_ok w n p cap rs (hr.new hs.new) (by omega) pn cn zs (hx.new hs.new) (by omega)) rfl (by decide) (fun ya hya => ?_)
      refine TL.pure (PV.move rfl) rfl (by decide) ?_
      refine TL.pure (PV.extract rfl rfl) rfl (by decide) ?_
      refine TL.pure (PV.extract rfl rfl) rfl (by decide) ?_
      refine TL.alloc Tb.zero_24 rfl (by decide) (fun b3 hb3 => ?_)
      refine TL.storeAgg rfl rfl Tb.cells_24 (by repeat (first | exact Upd.head _ | apply Upd.tail | apply Upd.appR)) rfl rfl (by first | rfl | exact sv_one _ _ _) rfl rfl ?_
      refine TL.pure (PV.assign rfl) rfl (by decide) ?_
      refine TL.nil ?_
      refine TQ.thenC ?_
      refine TC.seq ?_
      refine TC.seq ?_
      have lx := hxa.len
      have ly := hya.len
      have lz := rz_len zs rs
      refine TC.region ?_
      refine TL.pure (PV.loadBox rfl Tb.agg_24 (by repeat (first | exact List.Mem.head _ | refine List.Mem.tail _ ?_ | refine List.mem_append_right _ ?_)) rfl) rfl (by decide) ?_
      refine TL.pure (PV.loadBox rfl Tb.agg_24 (by repeat (first | exact List.Mem.head _ | refine List.Mem.tail _ ?_ | refine List.mem_append_right _ ?_)) rfl) rfl (by decide) ?_
      refine TL.call rfl Tb.gofn_53 (fun a w hs => sameS rfl rfl hxa.ok hya.ok (RdsAt.s hs.new (fun yy hyy => by repeat (first | exact List.mem_append_left _ hyy | exact List.mem_append_left _ (List.mem_append_left _ hyy) | refine List.mem_append_right _ ?_ | refine List.Mem.tail _ ?_)) hxa.ok) (RdsAt.s hs.new (fun yy hyy => by repeat (first | exact List.mem_append_left _ hyy | exact List.mem_append_left _ (List.mem_append_left _ hyy) | refine List.mem_append_right _ ?_ | refine List.Mem.tail _ ?_)) hya.ok) (by omega) (by omega)) rfl (by decide) (fun _ _ => ?_)
      refine TL.pure ((by first | exact PV.notD rfl | exact PV.not rfl)) rfl (by decide) ?_
      refine TL.pure (PV.move rfl) rfl (by decide) ?_
      first | refine TL.splitD 52 rfl (fun g0 => ?_) (fun g0 => ?_) | refine TL.split 52 rfl (fun g0 => ?_) (fun g0 => ?_)
      · skip
        exact (g0 (ChF.same hxa hya)).elim
      · skip
        refine TL.pure (PV.move rfl) rfl (by decide) ?_
        refine TL.pure (PV.move rfl) rfl (by decide) ?_
        refine TL.pure (PV.neq rfl rfl) rfl (by decide) ?_
        refine TL.pure (PV.pickF rfl rfl) rfl (by decide) ?_
        refine TL.nil ?_
        refine TQ.thenC ?_
        first | refine TC.condD rfl (fun hs1 => ?_) (fun hs1 => ?_) | refine TC.cond rfl (fun hs1 => ?_) (fun hs1 => ?_)
        · skip
          exact (hs1 rfl).elim
        · skip
          refine TC.skip ?_
          refine TQ.thenC ?_
          refine TC.seq ?_
          refine TC.seq ?_
          refine TC.region ?_
          refine TL.pure (PV.move rfl) rfl (by decide) ?_
          refine TL.pure (PV.neq rfl rfl) rfl (by decide) ?_
          refine TL.nil ?_
          refine TQ.thenC ?_
          first | refine TC.condD rfl (fun hbad => ?_) (fun hbad => ?_) | refine TC.cond rfl (fun hbad => ?_) (fun hbad => ?_)
          · skip
            refine TC.seq ?_
            refine TC.region ?_
            refine TL.call rfl Tb.gofn_18 (fun a w hs => known_ok w) rfl (by decide) (fun _ _ => ?_)
            refine TL.pure (PV.assign rfl) rfl (by decide) ?_
            refine TL.nil ?_
            refine TQ.thenC ?_
            refine TC.ret ?_
            refine TQ.thenR ?_
            refine TQ.retE1 rfl rfl ?_
            first | exact ⟨(), rfl, trivial, List.nil_sublist _⟩ | (exfalso; omega) | (exfalso; simp_all; done)
          · skip
            refine TC.skip ?_
            refine TQ.thenC ?_
            refine TC.seq ?_
            have hz : raE n rs zs = 0 := by omega
            obtain ⟨hv, hzl, hzw, _⟩ := raE_is hz
            have hvz : validateI n rs = 0 := hv
            have q1 : xa.1 = n := by rw [hxa.num, if_pos hz]
            have q2 : xa.2.2 = rz zs rs := by rw [hxa.eq, if_pos hz]
            have hv2 : Valid xa.1 xa.2.2 := by rw [q1, q2]; exact raE_valid hz
            have hvz2 : validateI xa.1 xa.2.2 = 0 := hv2
            have hmf : mfV n rs (mfA n rs) = mfV xa.1 xa.2.2 (mfA xa.1 xa.2.2) ∧ mfV n rs (mfB n rs) = mfV xa.1 xa.2.2 (mfB xa.1 xa.2.2) := by unfold mfV; rw [hvz, hvz2, q1, q2, (rz_misfit hv (raE_valid hz)).1, (rz_misfit hv (raE_valid hz)).2]; exact ⟨rfl, rfl⟩
            have her : errE xa.1 xa.2.2 i j = errE n rs i j ∧ errN xa.1 xa.2.2 i j = errN n rs i j ∧ errD xa.1 xa.2.2 i j = errD n rs i j := by rw [q1, q2]; exact rz_err zs hv (raE_valid hz) i j
            refine TC.region ?_
            refine TL.pure (PV.loadBox rfl Tb.agg_24 (by repeat (first | exact List.Mem.head _ | refine List.Mem.tail _ ?_ | refine List.mem_append_right _ ?_)) rfl) rfl (by decide) ?_
            refine TL.call rfl Tb.gofn_39 (fun a w hs => Misfit_v w n p cap rs (hr.new hs.new)) rfl (by decide) (fun _ _ => ?_)
            refine TL.pure (PV.move rfl) rfl (by decide) ?_
            refine TL.pure (PV.extract rfl rfl) rfl (by decide) ?_
            refine TL.pure (PV.extract rfl rfl) rfl (by decide) ?_
            refine TL.alloc Tb.zero_46 rfl (by decide) (fun b4 hb4 => ?_)
            refine TL.storeAgg rfl rfl Tb.cells_46 (by repeat (first | exact Upd.head _ | apply Upd.tail | apply Upd.appR)) rfl rfl rfl rfl rfl ?_
            refine TL.pure (PV.assign rfl) rfl (by decide) ?_
            refine TL.nil ?_
            refine TQ.thenC ?_
            refine TC.seq ?_
            refine TC.region ?_
            refine TL.pure (PV.loadBox rfl Tb.agg_24 (by repeat (first | exact List.Mem.head _ | refine List.Mem.tail _ ?_ | refine List.mem_append_right _ ?_)) rfl) rfl (by decide) ?_
            refine TL.call rfl Tb.gofn_39 (fun a w hs => misfitR w xa.1 xa.2.1 _ xa.2.2 rfl hxa.ok (RdsAt.s hs.new (fun yy hyy => by repeat (first | exact List.mem_append_left _ hyy | exact List.mem_append_left _ (List.mem_append_left _ hyy) | refine List.mem_append_right _ ?_ | refine List.Mem.tail _ ?_)) hxa.ok)) rfl (by decide) (fun _ _ => ?_)
            refine TL.pure (PV.move rfl) rfl (by decide) ?_
            refine TL.pure (PV.extract rfl rfl) rfl (by decide) ?_
            refine TL.pure (PV.extract rfl rfl) rfl (by decide) ?_
            refine TL.alloc Tb.zero_46 rfl (by decide) (fun b5 hb5 => ?_)
            refine TL.storeAgg rfl rfl Tb.cells_46 (by repeat (first | exact Upd.head _ | apply Upd.tail | apply Upd.appR)) rfl rfl rfl rfl rfl ?_
            refine TL.pure (PV.assign rfl) rfl (by decide) ?_
            refine TL.nil ?_
            refine TQ.thenC ?_
            refine TC.seq ?_
            refine TC.region ?_
            refine TL.pure (PV.loadBox rfl Tb.agg_24 (by repeat (first | exact List.Mem.head _ | refine List.Mem.tail _ ?_ | refine List.mem_append_right _ ?_)) rfl) rfl (by decide) ?_
            refine TL.pure (PV.fieldAddr rfl Tb.fo_63_0) rfl (by decide) ?_
            refine TL.pure (PV.load rfl Tb.one_3 (by repeat (first | exact List.Mem.head _ | refine List.Mem.tail _ ?_ | refine List.mem_append_right _ ?_)) rfl) rfl (by decide) ?_
            refine TL.pure (PV.fieldAddr rfl Tb.fo_63_1) rfl (by decide) ?_
            refine TL.pure (PV.load rfl Tb.one_3 (by repeat (first | exact List.Mem.head _ | refine List.Mem.tail _ ?_ | refine List.mem_append_right _ ?_)) rfl) rfl (by decide) ?_
            refine TL.call rfl Tb.gofn_44 (fun a w hs => error_any w _ _ _ _ (hr.new hs.new) _ _) rfl (by decide) (fun _ _ => ?_)
            refine TL.pure (PV.move rfl) rfl (by decide) ?_
            refine TL.pure (PV.extract rfl rfl) rfl (by decide) ?_
            refine TL.pure (PV.extract rfl rfl) rfl (by decide) ?_
            refine TL.alloc Tb.zero_46 rfl (by decide) (fun b6 hb6 => ?_)
            refine TL.storeAgg rfl rfl Tb.cells_46 (by repeat (first | exact Upd.head _ | apply Upd.tail | apply Upd.appR)) rfl rfl rfl rfl rfl ?_
            refine TL.pure (PV.assign rfl) rfl (by decide) ?_
            refine TL.nil ?_
            refine TQ.thenC ?_
            refine TC.seq ?_
            refine TC.region ?_
            refine TL.pure (PV.loadBox rfl Tb.agg_24 (by repeat (first | exact List.Mem.head _ | refine List.Mem.tail _ ?_ | refine List.mem_append_right _ ?_)) rfl) rfl (by decide) ?_
            refine TL.pure (PV.fieldAddr rfl Tb.fo_63_0) rfl (by decide) ?_
            refine TL.pure (PV.load rfl Tb.one_3 (by repeat (first | exact List.Mem.head _ | refine List.Mem.tail _ ?_ | refine List.mem_append_right _ ?_)) rfl) rfl (by decide) ?_
            refine TL.pure (PV.fieldAddr rfl Tb.fo_63_1) rfl (by decide) ?_
            refine TL.pure (PV.load rfl Tb.one_3 (by repeat (first | exact List.Mem.head _ | refine List.Mem.tail _ ?_ | refine List.mem_append_right _ ?_)) rfl) rfl (by decide) ?_
            refine TL.call rfl Tb.gofn_44 (fun a w hs => errorS w xa.1 xa.2.1 _ xa.2.2 rfl hxa.ok (RdsAt.s hs.new (fun yy hyy => by repeat (first | exact List.mem_append_left _ hyy | exact List.mem_append_left _ (List.mem_append_left _ hyy) | refine List.mem_append_right _ ?_ | refine List.Mem.tail _ ?_)) hxa.ok) _ _) rfl (by decide) (fun _ _ => ?_)
            refine TL.pure (PV.move rfl) rfl (by decide) ?_
            refine TL.pure (PV.extract rfl rfl) rfl (by decide) ?_
            refine TL.pure (PV.extract rfl rfl) rfl (by decide) ?_
            refine TL.alloc Tb.zero_46 rfl (by decide) (fun b7 hb7 => ?_)
            refine TL.storeAgg rfl rfl Tb.cells_46 (by repeat (first | exact Upd.head _ | apply Upd.tail | apply Upd.appR)) rfl rfl rfl rfl rfl ?_
            refine TL.pure (PV.assign rfl) rfl (by decide) ?_
            refine TL.nil ?_
            refine TQ.thenC ?_
            refine TC.seq ?_
            refine TC.seq ?_
            refine TC.region ?_
            refine TL.pure (PV.move rfl) rfl (by decide) ?_
            refine TL.pure (PV.neq rfl rfl) rfl (by decide) ?_
            refine TL.pure (PV.move rfl) rfl (by decide) ?_
            first | refine TL.splitD 90 rfl (fun g1 => ?_) (fun g1 => ?_) | refine TL.split 90 rfl (fun g1 => ?_) (fun g1 => ?_)
            · skip
              exact (g1 hvz).elim
            · skip
              refine TL.pure (PV.move rfl) rfl (by decide) ?_
              refine TL.pure (PV.neq rfl rfl) rfl (by decide) ?_
              refine TL.pure (PV.pickF rfl rfl) rfl (by decide) ?_
              refine TL.pure (PV.move rfl) rfl (by decide) ?_
              first | refine TL.splitD 94 rfl (fun g2 => ?_) (fun g2 => ?_) | refine TL.split 94 rfl (fun g2 => ?_) (fun g2 => ?_)
              · skip
                exact (g2 hvz2).elim
              · skip
                refine TL.pure (PV.loadBox rfl Tb.agg_46 (by repeat (first | exact List.Mem.head _ | refine List.Mem.tail _ ?_ | refine List.mem_append_right _ ?_)) rfl) rfl (by decide) ?_
                refine TL.pure (PV.loadBox rfl Tb.agg_46 (by repeat (first | exact List.Mem.head _ | refine List.Mem.tail _ ?_ | refine List.mem_append_right _ ?_)) rfl) rfl (by decide) ?_
                refine TL.pure (PV.cmp rfl rfl (eq46n_guard _ _ _ _ _ _) (eq46n _ _ _ _)) rfl (by decide) ?_
                refine TL.pure (PV.pickF rfl rfl) rfl (by decide) ?_
                refine TL.pure (PV.move rfl) rfl (by decide) ?_
                first | refine TL.splitD 99 rfl (fun g3 => ?_) (fun g3 => ?_) | refine TL.split 99 rfl (fun g3 => ?_) (fun g3 => ?_)
                · skip
                  exact (g3 hmf).elim
                · skip
                  refine TL.pure (PV.loadBox rfl Tb.agg_46 (by repeat (first | exact List.Mem.head _ | refine List.Mem.tail _ ?_ | refine List.mem_append_right _ ?_)) rfl) rfl (by decide) ?_
                  refine TL.pure (PV.loadBox rfl Tb.agg_46 (by repeat (first | exact List.Mem.head _ | refine List.Mem.tail _ ?_ | refine List.mem_append_right _ ?_)) rfl) rfl (by decide) ?_
                  refine TL.pure (PV.cmp rfl rfl (eq46n_guard _ _ _ _ _ _) (eq46n _ _ _ _)) rfl (by decide) ?_
                  refine TL.pure (PV.pickF rfl rfl) rfl (by decide) ?_
                  refine TL.pure (PV.move rfl) rfl (by decide) ?_
                  first | refine TL.splitD 104 rfl (fun g4 => ?_) (fun g4 => ?_) | refine TL.split 104 rfl (fun g4 => ?_) (fun g4 => ?_)
                  · skip
                    exact (g4 ⟨her.2.1.symm, her.2.2.symm⟩).elim
                  · skip
                    refine TL.pure (PV.move rfl) rfl (by decide) ?_
                    refine TL.pure (PV.move rfl) rfl (by decide) ?_
                    refine TL.pure (PV.neq rfl rfl) rfl (by decide) ?_
                    refine TL.pure (PV.pickF rfl rfl) rfl (by decide) ?_
                    refine TL.nil ?_
                    refine TQ.thenC ?_
                    first | refine TC.condD rfl (fun g5 => ?_) (fun g5 => ?_) | refine TC.cond rfl (fun g5 => ?_) (fun g5 => ?_)
                    · skip
                      exact (g5 her.1.symm).elim
                    · skip
                      refine TC.skip ?_
                      refine TQ.thenC ?_
                      refine TC.seq ?_
                      refine TC.region ?_
                      refine TL.pure (PV.loadBox rfl Tb.agg_24 (by repeat (first | exact List.Mem.head _ | refine List.Mem.tail _ ?_ | refine List.mem_append_right _ ?_)) rfl) rfl (by decide) ?_
                      refine TL.call rfl Tb.gofn_35 (fun a w hs => best_h w n p cap rs (hr.new hs.new) hv) rfl (by decide) (fun bH _ => ?_)
                      refine TL.pure (PV.move rfl) rfl (by decide) ?_
                      refine TL.pure (PV.extract rfl rfl) rfl (by decide) ?_
                      refine TL.pure (PV.extract rfl rfl) rfl (by decide) ?_
                      refine TL.pure (PV.assign rfl) rfl (by decide) ?_
                      refine TL.pure (PV.assign rfl) rfl (by decide) ?_
                      refine TL.nil ?_
                      refine TQ.thenC ?_
                      refine TC.seq ?_
                      refine TC.region ?_
                      refine TL.pure (PV.loadBox rfl Tb.agg_24 (by repeat (first | exact List.Mem.head _ | refine List.Mem.tail _ ?_ | refine List.mem_append_right _ ?_)) rfl) rfl (by decide) ?_
                      refine TL.call rfl Tb.gofn_35 (fun a w hs => bestS w xa.1 xa.2.1 _ xa.2.2 rfl hxa.ok (RdsAt.s hs.new (fun yy hyy => by repeat (first | exact List.mem_append_left _ hyy | exact List.mem_append_left _ (List.mem_append_left _ hyy) | refine List.mem_append_right _ ?_ | refine List.Mem.tail _ ?_)) hxa.ok) hv2) rfl (by decide) (fun bR _ => ?_)
                      refine TL.pure (PV.move rfl) rfl (by decide) ?_
                      refine TL.pure (PV.extract rfl rfl) rfl (by decide) ?_
                      refine TL.pure (PV.extract rfl rfl) rfl (by decide) ?_
                      refine TL.pure (PV.assign rfl) rfl (by decide) ?_
                      refine TL.pure (PV.assign rfl) rfl (by decide) ?_
                      refine TL.nil ?_
                      refine TQ.thenC ?_
                      refine TC.seq ?_
                      refine TC.region ?_
                      refine TL.pure (PV.loadBox rfl Tb.agg_24 (by repeat (first | exact List.Mem.head _ | refine List.Mem.tail _ ?_ | refine List.mem_append_right _ ?_)) rfl) rfl (by decide) ?_
                      refine TL.call rfl Tb.gofn_19 (fun a w hs => Parts_ok w n p cap rs (hr.new hs.new)) rfl (by decide) (fun xp hxp => ?_)
                      refine TL.pure (PV.move rfl) rfl (by decide) ?_
                      refine TL.pure (PV.extract rfl rfl) rfl (by decide) ?_
                      refine TL.pure (PV.extract rfl rfl) rfl (by decide) ?_
                      refine TL.pure (PV.assign rfl) rfl (by decide) ?_
                      refine TL.pure (PV.assign rfl) rfl (by decide) ?_
                      refine TL.nil ?_
                      refine TQ.thenC ?_
                      refine TC.seq ?_
                      refine TC.seq ?_
                      refine TC.region ?_
                      refine TL.pure (PV.move rfl) rfl (by decide) ?_
                      refine TL.pure (PV.neq rfl rfl) rfl (by decide) ?_
                      refine TL.pure (PV.move rfl) rfl (by decide) ?_
                      first | refine TL.splitD 126 rfl (fun k1 => ?_) (fun k1 => ?_) | refine TL.split 126 rfl (fun k1 => ?_) (fun k1 => ?_)
                      · skip
                        exact (k1 rfl).elim
                      · skip
                        refine TL.pure (PV.move rfl) rfl (by decide) ?_
                        refine TL.pure (PV.neq rfl rfl) rfl (by decide) ?_
                        refine TL.pure (PV.pickF rfl rfl) rfl (by decide) ?_
                        refine TL.pure (PV.move rfl) rfl (by decide) ?_
                        first | refine TL.splitD 130 rfl (fun k2 => ?_) (fun k2 => ?_) | refine TL.split 130 rfl (fun k2 => ?_) (fun k2 => ?_)
                        · skip
                          exact (k2 rfl).elim
                        · skip
                          refine TL.pure (PV.move rfl) rfl (by decide) ?_
                          refine TL.pure (PV.neq rfl rfl) rfl (by decide) ?_
                          refine TL.pure (PV.pickF rfl rfl) rfl (by decide) ?_
                          refine TL.pure (PV.move rfl) rfl (by decide) ?_
                          first | refine TL.splitD 134 rfl (fun k3 => ?_) (fun k3 => ?_) | refine TL.split 134 rfl (fun k3 => ?_) (fun k3 => ?_)
                          · skip
                            exact (k3 hvz).elim
                          · skip
                            refine TL.pure (PV.move rfl) rfl (by decide) ?_
                            refine TL.pure (PV.len rfl Tb.sl_42) rfl (by decide) ?_
                            refine TL.pure (PV.move rfl) rfl (by decide) ?_
                            refine TL.pure (PV.len rfl Tb.sl_42) rfl (by decide) ?_
                            refine TL.pure (PV.neq rfl rfl) rfl (by decide) ?_
                            refine TL.pure (PV.pickF rfl rfl) rfl (by decide) ?_
                            refine TL.nil ?_
                            refine TQ.thenC ?_
                            first | refine TC.condD rfl (fun k4 => ?_) (fun k4 => ?_) | refine TC.cond rfl (fun k4 => ?_) (fun k4 => ?_)
                            · skip
                              exfalso; rw [q1] at k4; exact k4 rfl
                            · skip
                              refine TC.skip ?_
                              refine TQ.thenC ?_
                              refine TC.seq ?_
                              refine TC.seq ?_
                              have hpe : xp.2.map (·.2) = partsK n.toNat (firstsL n rs) n.toNat := by have := hxp.eq; rwa [if_pos hvz] at this
                              have hpt := hv.pts
                              have hpl : xp.2.length ≤ n.toNat := by have h9 := partsK_len n.toNat (firstsL n rs) n.toNat; rw [← hpe, List.length_map] at h9; exact h9
                              refine TC.region ?_
                              refine TL.pure (PV.assign rfl) rfl (by decide) ?_
                              refine TL.nil ?_
                              refine TQ.thenC ?_
                              refine TC.block ?_
                              -- live and written in the loop, not told: [6]
                              refine TC.loopG [1, 19, 21, 23] (X := Nat) (fun c => c ≤ xp.2.length) (fun c => [(25, .int .i64 c)]) (fun c => xp.2.length - c) 0 (Nat.zero_le _) (by repeat (first | exact True.intro | refine And.intro rfl ?_)) ?_
                              intro c hc
                              refine TC.seq ?_
                              refine TC.seq ?_
                              refine TC.region ?_
                              refine TL.pure (PV.move rfl) rfl (by decide) ?_
                              refine TL.pure (PV.move rfl) rfl (by decide) ?_
                              refine TL.pure (PV.lenG rfl hxp.ok Tb.sl_27) rfl (by decide) ?_
                              refine TL.pure (PV.lss rfl rfl) rfl (by decide) ?_
                              refine TL.nil ?_
                              refine TQ.thenC ?_
                              first | refine TC.condD rfl (fun hlt => ?_) (fun hlt => ?_) | refine TC.cond rfl (fun hlt => ?_) (fun hlt => ?_)
                              · skip
                                refine TC.skip ?_
                                refine TQ.thenC ?_
                                refine TC.seq ?_
                                refine TC.block ?_
                                refine TC.seq ?_
                                refine TC.region ?_
                                refine TL.pure (PV.assign rfl) rfl (by decide) ?_
                                refine TL.nil ?_
                                refine TQ.thenC ?_
                                refine TC.block ?_
                                -- live and written in the loop, not told: [6]
                                refine TC.loopG [1, 19, 21, 23, 25] (X := Nat) (fun e => e ≤ (xp.2.getD c default).2.length) (fun e => [(26, .int .i64 e)]) (fun e => (xp.2.getD c default).2.length - e) 0 (Nat.zero_le _) (by repeat (first | exact True.intro | refine And.intro rfl ?_)) ?_
                                intro e he
                                refine TC.seq ?_
                                refine TC.seq ?_
                                have hcl : c < xp.2.length := by omega
                                have hyo := part_ok hxp.all hcl
                                have hyl := part_len hpe hcl
                                refine TC.region ?_
                                refine TL.pure (PV.move rfl) rfl (by decide) ?_
                                refine TL.pure (PV.move rfl) rfl (by decide) ?_
                                refine TL.pure (PV.move rfl) rfl (by decide) ?_
                                refine TL.pure (PV.indexG (j := c) rfl rfl hxp.ok Tb.elm_27 rfl hcl) rfl (by decide) ?_
                                refine TL.pure (PV.loadPart (h := xp.1) (l := xp.2) (j := c) rfl Tb.one_31 (fun yy hyy => by repeat (first | exact List.mem_append_left _ hyy | exact List.mem_append_left _ (List.mem_append_left _ hyy) | refine List.mem_append_right _ ?_ | refine List.Mem.tail _ ?_)) hxp.ok hcl) rfl (by decide) ?_
                                refine TL.pure (PV.lenG rfl hyo Tb.sl_31) rfl (by decide) ?_
                                refine TL.pure (PV.lss rfl rfl) rfl (by decide) ?_
                                refine TL.nil ?_
                                refine TQ.thenC ?_
                                first | refine TC.condD rfl (fun hlt2 => ?_) (fun hlt2 => ?_) | refine TC.cond rfl (fun hlt2 => ?_) (fun hlt2 => ?_)
                                · skip
                                  refine TC.skip ?_
                                  refine TQ.thenC ?_
                                  refine TC.seq ?_
                                  refine TC.block ?_
                                  refine TC.seq ?_
                                  have hdl : e < (xp.2.getD c default).2.length := by omega
                                  refine TC.region ?_
                                  refine TL.pure (PV.move rfl) rfl (by decide) ?_
                                  refine TL.pure (PV.move rfl) rfl (by decide) ?_
                                  refine TL.pure (PV.indexG (j := c) rfl rfl hxp.ok Tb.elm_27 rfl hcl) rfl (by decide) ?_
                                  refine TL.pure (PV.loadPart (h := xp.1) (l := xp.2) (j := c) rfl Tb.one_31 (fun yy hyy => by repeat (first | exact List.mem_append_left _ hyy | exact List.mem_append_left _ (List.mem_append_left _ hyy) | refine List.mem_append_right _ ?_ | refine List.Mem.tail _ ?_)) hxp.ok hcl) rfl (by decide) ?_
                                  refine TL.pure (PV.move rfl) rfl (by decide) ?_
                                  refine TL.pure (PV.indexG (j := e) rfl rfl hyo Tb.elm_31 rfl hdl) rfl (by decide) ?_
                                  refine TL.pure (PV.loadPt (y := (xp.2.getD c default)) (j := e) rfl Tb.one_3 (fun yy hyy => by have hyy2 := bl_mem hcl hyy; repeat (first | exact List.mem_append_left _ hyy2 | exact List.mem_append_left _ (List.mem_append_right _ hyy2) | refine List.mem_append_right _ ?_ | refine List.Mem.tail _ ?_)) hyo hdl) rfl (by decide) ?_
                                  refine TL.pure (PV.assign rfl) rfl (by decide) ?_
                                  refine TL.nil ?_
                                  refine TQ.thenC ?_
                                  refine TC.seq ?_
                                  obtain ⟨A, hAn, hA, hA0⟩ := parts_at hv hpe hcl hdl
                                  have hRn := (root_le hv.nat.1 hAn).1
                                  have hAr : A < xa.1.toNat := by rw [q1]; exact hAn
                                  obtain ⟨ga, ha⟩ := hIs hv.nat.1 hAn
                                  have a1 := ha.dpos
                                  have a2 := ha.dle
                                  have a3 := ha.nb
                                  obtain ⟨q3, hq3p, hq3⟩ := hx A (by omega)
                                  obtain ⟨q4, hq4p, hq4⟩ := hx (rootOf n.toNat rs A) (by omega)
                                  have z1 := withinL_at hzw A (by omega)
                                  have z2 := withinL_at hzw (rootOf n.toNat rs A) (by omega)
                                  have hmb := (show Bn (zs.getD A 0 - zs.getD (rootOf n.toNat rs A) 0) 2000 from ⟨by omega, by omega⟩).mul (show Bn (hD n.toNat rs A) 26406 from ⟨by omega, a2⟩)
                                  unfold Bn at hmb a3
                                  have hrat : hN xa.1.toNat xa.2.2 A = (hN n.toNat rs A + (zs.getD A 0 - zs.getD (rootOf n.toNat rs A) 0) * hD n.toNat rs A).tdiv (lowG (hN n.toNat rs A + (zs.getD A 0 - zs.getD (rootOf n.toNat rs A) 0) * hD n.toNat rs A) (hD n.toNat rs A)) ∧ hD xa.1.toNat xa.2.2 A = (hD n.toNat rs A).tdiv (lowG (hN n.toNat rs A + (zs.getD A 0 - zs.getD (rootOf n.toNat rs A) 0) * hD n.toNat rs A) (hD n.toNat rs A)) := by rw [q1, q2]; exact rz_h hv.nat.1 (raE_valid hz).nat.1 hAn
                                  refine TC.any Tb.mixed rfl rfl ?_
                                  refine TA.op (OpOK.pure (PV.move rfl) rfl (by decide)) (by decide) ?_
                                  refine TA.op (OpOK.pure (PV.lss rfl rfl) rfl (by decide)) (by decide) ?_
                                  refine TA.op (OpOK.pure (PV.move rfl) rfl (by decide)) (by decide) ?_
                                  first | refine TA.splitD 165 rfl (fun m1 => ?_) (fun m1 => ?_) | refine TA.split 165 rfl (fun m1 => ?_) (fun m1 => ?_)
                                  · skip
                                    exfalso; omega
                                  · skip
                                    refine TA.op (OpOK.pure (PV.move rfl) rfl (by decide)) (by decide) ?_
                                    refine TA.op (OpOK.pure (PV.move rfl) rfl (by decide)) (by decide) ?_
                                    refine TA.op (OpOK.pure (PV.len rfl Tb.sl_42) rfl (by decide)) (by decide) ?_
                                    refine TA.op (OpOK.pure (PV.geq rfl rfl) rfl (by decide)) (by decide) ?_
                                    refine TA.op (OpOK.pure (PV.pickF rfl rfl) rfl (by decide)) (by decide) ?_
                                    refine TA.op (OpOK.pure (PV.move rfl) rfl (by decide)) (by decide) ?_
                                    first | refine TA.splitD 171 rfl (fun m2 => ?_) (fun m2 => ?_) | refine TA.split 171 rfl (fun m2 => ?_) (fun m2 => ?_)
                                    · skip
                                      exfalso; omega
                                    · skip
                                      refine TA.op (OpOK.pure (PV.move rfl) rfl (by decide)) (by decide) ?_
                                      refine TA.op (OpOK.pure (PV.move rfl) rfl (by decide)) (by decide) ?_
                                      refine TA.op (OpOK.pure (PV.index (j := A) rfl rfl Tb.elm_42 hA (by omega)) rfl (by decide)) (by decide) ?_
                                      refine TA.op (OpOK.pure (PV.fieldAddr rfl Tb.fo_46_1) rfl (by decide)) (by decide) ?_
                                      refine TA.op (OpOK.pure (PV.loadG' rfl Tb.one_3 (by repeat (first | exact List.Mem.head _ | refine List.Mem.tail _ ?_ | refine List.mem_append_right _ ?_)) (hRows_den hAn)) rfl (by decide)) (by decide) ?_
                                      refine TA.op (OpOK.pure (PV.lss rfl rfl) rfl (by decide)) (by decide) ?_
                                      refine TA.op (OpOK.pure (PV.pickF rfl rfl) rfl (by decide)) (by decide) ?_
                                      refine TA.op (OpOK.pure (PV.move rfl) rfl (by decide)) (by decide) ?_
                                      first | refine TA.splitD 179 rfl (fun m3 => ?_) (fun m3 => ?_) | refine TA.split 179 rfl (fun m3 => ?_) (fun m3 => ?_)
                                      · skip
                                        exfalso; omega
                                      · skip
                                        refine TA.op (OpOK.pure (PV.move rfl) rfl (by decide)) (by decide) ?_
                                        refine TA.op (OpOK.pure (PV.move rfl) rfl (by decide)) (by decide) ?_
                                        refine TA.op (OpOK.pure (PV.index (j := A) rfl rfl Tb.elm_42 hA (by omega)) rfl (by decide)) (by decide) ?_
                                        refine TA.op (OpOK.pure (PV.loadR rfl Tb.agg_46 (by repeat (first | exact List.Mem.head _ | refine List.Mem.tail _ ?_ | refine List.mem_append_right _ ?_)) (hRows_two _ _) (by rw [hRows_len]; exact hAr) (hRows_get hAr)) rfl (by decide)) (by decide) ?_
                                        refine TA.op (OpOK.pure (PV.move rfl) rfl (by decide)) (by decide) ?_
                                        refine TA.op (OpOK.pure (PV.move rfl) rfl (by decide)) (by decide) ?_
                                        refine TA.op (OpOK.pure (PV.index (j := A) rfl rfl Tb.elm_42 hA (by omega)) rfl (by decide)) (by decide) ?_
                                        refine TA.op (OpOK.pure (PV.fieldAddr rfl Tb.fo_46_0) rfl (by decide)) (by decide) ?_
                                        refine TA.op (OpOK.pure (PV.loadG' rfl Tb.one_3 (by repeat (first | exact List.Mem.head _ | refine List.Mem.tail _ ?_ | refine List.mem_append_right _ ?_)) (hRows_num hAn)) rfl (by decide)) (by decide) ?_
                                        refine TA.op (OpOK.pure (PV.move rfl) rfl (by decide)) (by decide) ?_
                                        refine TA.op (OpOK.pure (PV.move rfl) rfl (by decide)) (by decide) ?_
                                        refine TA.op (OpOK.pure (PV.indexA rfl hq3p rfl Tb.elm_31 hA (by omega)) rfl (by decide)) (by decide) ?_
                                        refine TA.op (OpOK.pure (PV.loadOld rfl Tb.one_3 hq3) rfl (by decide)) (by decide) ?_
                                        refine TA.op (OpOK.pure (PV.move rfl) rfl (by decide)) (by decide) ?_
                                        refine TA.op (OpOK.pure (PV.move rfl) rfl (by decide)) (by decide) ?_
                                        refine TA.op (OpOK.pure (PV.move rfl) rfl (by decide)) (by decide) ?_
                                        refine TA.op (OpOK.pure (PV.indexG (j := c) rfl rfl hxp.ok Tb.elm_27 rfl hcl) rfl (by decide)) (by decide) ?_
                                        refine TA.op (OpOK.pure (PV.loadPart (h := xp.1) (l := xp.2) (j := c) rfl Tb.one_31 (fun yy hyy => by repeat (first | exact List.mem_append_left _ hyy | exact List.mem_append_left _ (List.mem_append_left _ hyy) | refine List.mem_append_right _ ?_ | refine List.Mem.tail _ ?_)) hxp.ok hcl) rfl (by decide)) (by decide) ?_
                                        refine TA.op (OpOK.pure (PV.indexG (j := 0) rfl rfl hyo Tb.elm_31 rfl (by omega)) rfl (by decide)) (by decide) ?_
                                        refine TA.op (OpOK.pure (PV.loadPt (y := (xp.2.getD c default)) (j := 0) rfl Tb.one_3 (fun yy hyy => by have hyy2 := bl_mem hcl hyy; repeat (first | exact List.mem_append_left _ hyy2 | exact List.mem_append_left _ (List.mem_append_right _ hyy2) | refine List.mem_append_right _ ?_ | refine List.Mem.tail _ ?_)) hyo (by omega)) rfl (by decide)) (by decide) ?_
                                        refine TA.op (OpOK.pure (PV.indexA rfl hq4p rfl Tb.elm_31 hA0 (by omega)) rfl (by decide)) (by decide) ?_
                                        refine TA.op (OpOK.pure (PV.loadOld rfl Tb.one_3 hq4) rfl (by decide)) (by decide) ?_
                                        refine TA.op (OpOK.pure (PV.sub rfl rfl (by omega)) rfl (by decide)) (by decide) ?_
                                        refine TA.op (OpOK.pure (PV.move rfl) rfl (by decide)) (by decide) ?_
                                        refine TA.op (OpOK.pure (PV.move rfl) rfl (by decide)) (by decide) ?_
                                        refine TA.op (OpOK.pure (PV.index (j := A) rfl rfl Tb.elm_42 hA (by omega)) rfl (by decide)) (by decide) ?_
                                        refine TA.op (OpOK.pure (PV.fieldAddr rfl Tb.fo_46_1) rfl (by decide)) (by decide) ?_
                                        refine TA.op (OpOK.pure (PV.loadG' rfl Tb.one_3 (by repeat (first | exact List.Mem.head _ | refine List.Mem.tail _ ?_ | refine List.mem_append_right _ ?_)) (hRows_den hAn)) rfl (by decide)) (by decide) ?_
                                        refine TA.op (OpOK.pure (PV.mul rfl rfl (by omega)) rfl (by decide)) (by decide) ?_
                                        refine TA.op (OpOK.pure (PV.add rfl rfl (by omega)) rfl (by decide)) (by decide) ?_
                                        refine TA.op (OpOK.pure (PV.move rfl) rfl (by decide)) (by decide) ?_
                                        refine TA.op (OpOK.pure (PV.move rfl) rfl (by decide)) (by decide) ?_
                                        refine TA.op (OpOK.pure (PV.index (j := A) rfl rfl Tb.elm_42 hA (by omega)) rfl (by decide)) (by decide) ?_
                                        refine TA.op (OpOK.pure (PV.fieldAddr rfl Tb.fo_46_1) rfl (by decide)) (by decide) ?_
                                        refine TA.op (OpOK.pure (PV.loadG' rfl Tb.one_3 (by repeat (first | exact List.Mem.head _ | refine List.Mem.tail _ ?_ | refine List.mem_append_right _ ?_)) (hRows_den hAn)) rfl (by decide)) (by decide) ?_
                                        refine TA.op (OpOK.call rfl Tb.gofn_50 (fun a w hs => ratioV w _ _ (by omega) (by omega)) rfl (by decide)) (by decide) ?_
                                        refine TA.op (OpOK.pure (PV.cmp rfl rfl (eq46n_guard _ _ _ _ _ _) (eq46n _ _ _ _)) rfl (by decide)) (by decide) ?_
                                        refine TA.op (OpOK.pure (PV.pickF rfl rfl) rfl (by decide)) (by decide) ?_
                                        show TQ _ _ _ _ _
                                        refine TQ.thenC ?_
                                        first | refine TC.condD rfl (fun m4 => ?_) (fun m4 => ?_) | refine TC.cond rfl (fun m4 => ?_) (fun m4 => ?_)
                                        · skip
                                          exact (m4 hrat).elim
                                        · skip
                                          refine TC.skip ?_
                                          refine TQ.blkN ?_
                                          refine TQ.thenC ?_
                                          refine TC.region ?_
                                          refine TL.pure (PV.move rfl) rfl (by decide) ?_
                                          refine TL.pure (PV.add rfl rfl (by omega)) rfl (by decide) ?_
                                          refine TL.pure (PV.assign rfl) rfl (by decide) ?_
                                          refine TL.nil ?_
                                          refine TQ.thenN ?_
                                          refine TQ.backK (e + 1) (by repeat (first | exact True.intro | refine And.intro rfl ?_)) (by repeat (first | exact True.intro | refine And.intro rfl ?_)) (by repeat (first | exact List.Sublist.slnil | exact List.nil_sublist _ | exact List.Sublist.refl _ | refine List.Sublist.cons_cons _ ?_ | refine List.Sublist.cons _ ?_ | refine List.Sublist.trans ?_ (List.sublist_append_right _ _))) (by omega) (by omega)
                                · skip
                                  refine TC.exit ?_
                                  refine TQ.thenE ?_
                                  refine TQ.thenE ?_
                                  refine TQ.blkS ?_
                                  refine TQ.blkN ?_
                                  refine TQ.thenC ?_
                                  refine TC.region ?_
                                  refine TL.pure (PV.move rfl) rfl (by decide) ?_
                                  refine TL.pure (PV.add rfl rfl (by omega)) rfl (by decide) ?_
                                  refine TL.pure (PV.assign rfl) rfl (by decide) ?_
                                  refine TL.nil ?_
                                  refine TQ.thenN ?_
                                  refine TQ.backK (c + 1) (by repeat (first | exact True.intro | refine And.intro rfl ?_)) (by repeat (first | exact True.intro | refine And.intro rfl ?_)) (by repeat (first | exact List.Sublist.slnil | exact List.nil_sublist _ | exact List.Sublist.refl _ | refine List.Sublist.cons_cons _ ?_ | refine List.Sublist.cons _ ?_ | refine List.Sublist.trans ?_ (List.sublist_append_right _ _))) (by omega) (by omega)
                              · skip
                                refine TC.exit ?_
                                refine TQ.thenE ?_
                                refine TQ.thenE ?_
                                refine TQ.blkS ?_
                                refine TQ.thenC ?_
                                refine TC.seq ?_
                                refine TC.region ?_
                                refine TL.call rfl Tb.gofn_18 (fun a w hs => known_ok w) rfl (by decide) (fun _ _ => ?_)
                                refine TL.pure (PV.assign rfl) rfl (by decide) ?_
                                refine TL.nil ?_
                                refine TQ.thenC ?_
                                refine TC.ret ?_
                                refine TQ.retE1 rfl rfl ?_
                                first | exact ⟨(), rfl, trivial, List.nil_sublist _⟩ | (exfalso; omega) | (exfalso; simp_all; done)

theorem levelRaises_all (w0 : World) (n : Int) (p : Option Addr) (cap : Nat) (rs : List Rd) (hr : RdsAt w0 p rs) (pn : Option Addr) (cn : Nat) (zs : List Int) (hx : IntsAt w0 pn zs) (_ : ∀ x ∈ zs, I64 x) (i j k : Int) :
    Calls Try.prog 15 #[sv n p rs.length cap, .slice pn zs.length cn, .agg #[.int .i64 i, .int .i64 j, .int .i64 k]] w0 (Post (X := Unit) (fun _ => .bool true) (fun _ => True) (fun _ => []) w0) := levelRaises_ok w0 n p cap rs hr pn cn zs hx i j k
end Go.Proofs.Ytmmgcajegokkoaa
