/- Hollows below limits and above others: contracts. -/
import Derived.Test.YtfgjojoipbbacaaDH
set_option linter.unusedVariables false
set_option linter.unusedSimpArgs false
namespace Go.Proofs.Ytfgjojoipbbacaa
open Go.Sx Go.RowKit

def mk (n : Nat) (f : Nat → Int) : List Int := (List.range n).map f
theorem mk_len (n : Nat) (f : Nat → Int) : (mk n f).length = n := by simp [mk]
theorem mk_at {n : Nat} (f : Nat → Int) {j : Nat} (hj : j < n) : (mk n f).getD j 0 = f j := by simp [mk, List.getD, hj]
theorem mk_eq {xs : List Int} {n : Nat} {f : Nat → Int} (hl : xs.length = n) (h : ∀ j, j < n → xs.getD j 0 = f j) : xs = mk n f :=
  ints_ext (by rw [mk_len, hl]) fun j hj => by rw [mk_at f (by omega), h j (by omega)]
theorem mk_congr {n : Nat} {f h : Nat → Int} (e : ∀ j, j < n → f j = h j) : mk n f = mk n h := mk_eq (mk_len n f) fun j hj => by rw [mk_at f hj, e j hj]
theorem mk_set {n : Nat} {f h : Nat → Int} {i : Nat} {v : Int} (hi : i < n) (hv : v = h i) (e : ∀ j, j < n → j ≠ i → f j = h j) : (mk n f).set i v = mk n h :=
  mk_eq (by rw [List.length_set, mk_len]) fun j hj => by
    rw [set_at (by rw [mk_len]; exact hi)]
    by_cases hij : i = j
    · subst hij; rw [if_pos rfl, hv]
    · rw [if_neg hij, mk_at f hj, e j hj (fun h => hij h.symm)]
theorem mk_self (xs : List Int) : mk xs.length (fun j => xs.getD j 0) = xs := (mk_eq rfl fun _ _ => rfl).symm
/-- The greatest number below all limits, as far as they have been looked at. -/
def undF (xs : List Int) (c : Nat) : Nat → Int
  | 0 => xs.getD c 0
  | d + 1 => min (undF xs c d) (xs.getD d 0 + max ((c : Int) - d) ((d : Int) - c))
theorem und_le (xs : List Int) (c : Nat) : ∀ k, undF xs c k ≤ xs.getD c 0
  | 0 => Int.le_refl _
  | d + 1 => by have := und_le xs c d; show min _ _ ≤ _; omega
theorem und_at (xs : List Int) (c : Nat) : ∀ (k d : Nat), d < k → undF xs c k ≤ xs.getD d 0 + max ((c : Int) - d) ((d : Int) - c)
  | 0, d, h => by omega
  | k + 1, d, h => by
    show min _ _ ≤ _
    by_cases e : d = k
    · subst e; omega
    · have := und_at xs c k d (by omega); omega
theorem und_ge {xs : List Int} {c : Nat} {v : Int} (h0 : v ≤ xs.getD c 0) : ∀ (k : Nat), (∀ d, d < k → v ≤ xs.getD d 0 + max ((c : Int) - d) ((d : Int) - c)) → v ≤ undF xs c k
  | 0, _ => h0
  | k + 1, h => by
    have h1 := und_ge h0 k fun d hd => h d (by omega)
    have h2 := h k (by omega)
    show v ≤ min _ _
    omega
def undL (n : Nat) (xs : List Int) : List Int := mk n fun c => undF xs c n
theorem undL_at {n : Nat} {xs : List Int} {c : Nat} (hc : c < n) : (undL n xs).getD c 0 = undF xs c n := mk_at _ hc
/-- The hollow below limits in which all others such lie. -/
structure UndP (ls : List (List Int)) (xs u : List Int) : Prop where
  ho : HO ls u
  le : ∀ c, u.getD c 0 ≤ xs.getD c 0
  mx : ∀ ys, HO ls ys → (∀ c, ys.getD c 0 ≤ xs.getD c 0) → ∀ c, ys.getD c 0 ≤ u.getD c 0
theorem UndP.unique {ls : List (List Int)} {xs u v : List Int} (h : UndP ls xs u) (k : UndP ls xs v) : u = v := ints_ext (by rw [h.ho.len, k.ho.len]) fun j _ => by
  have h1 := h.mx v k.ho k.le j
  have h2 := k.mx u h.ho h.le j
  omega
structure OvrP (ls : List (List Int)) (xs u : List Int) : Prop where
  ho : HO ls u
  le : ∀ c, xs.getD c 0 ≤ u.getD c 0
  mn : ∀ ys, HO ls ys → (∀ c, xs.getD c 0 ≤ ys.getD c 0) → ∀ c, u.getD c 0 ≤ ys.getD c 0
theorem OvrP.unique {ls : List (List Int)} {xs u v : List Int} (h : OvrP ls xs u) (k : OvrP ls xs v) : u = v := ints_ext (by rw [h.ho.len, k.ho.len]) fun j _ => by
  have h1 := h.mn v k.ho k.le j
  have h2 := k.mn u h.ho h.le j
  omega
theorem HO.far {ls : List (List Int)} {ys : List Int} (h : HO ls ys) : ∀ (k c : Nat), c + k < ls.length → ys.getD (c + k) 0 - ys.getD c 0 ≤ k ∧ -(k : Int) ≤ ys.getD (c + k) 0 - ys.getD c 0
  | 0, c, _ => by simp
  | k + 1, c, hc => by
    have h1 := h.far k c (by omega)
    have h2 := h.stp (c + k) (by omega)
    rw [show c + (k + 1) = c + k + 1 by omega]
    omega
theorem HO.near {ls : List (List Int)} {ys : List Int} (h : HO ls ys) {c d : Nat} (hc : c < ls.length) (hd : d < ls.length) : ys.getD c 0 ≤ ys.getD d 0 + max ((c : Int) - d) ((d : Int) - c) := by
  by_cases e : d ≤ c
  · obtain ⟨k, rfl⟩ := Nat.exists_eq_add_of_le e
    have := h.far k d hc
    omega
  · obtain ⟨k, rfl⟩ := Nat.exists_eq_add_of_le (show c ≤ d by omega)
    have := h.far k c hd
    omega
theorem off_0 {xs : List Int} {c : Nat} (h : xs.length ≤ c) : xs.getD c 0 = 0 := by rw [List.getD_eq_getElem?_getD, List.getElem?_eq_none h]; rfl
theorem und_p {ls : List (List Int)} {xs : List Int} (h : NB ls xs) : UndP ls xs (undL ls.length xs) := by
  have hl := h.len
  have hat : ∀ c, (undL ls.length xs).getD c 0 = if c < ls.length then undF xs c ls.length else 0 := fun c => by
    split
    · exact undL_at (by assumption)
    · exact off_0 (by unfold undL; rw [mk_len]; omega)
  refine ⟨⟨⟨h.vb, mk_len _ _, fun c => ?_⟩, fun c hc => ?_⟩, fun c => ?_, fun ys hy hle c => ?_⟩
  · rw [hat]
    split
    · have h1 := und_le xs c ls.length
      have h2 := und_ge (xs := xs) (c := c) (v := 0) (h.at_ c).1 ls.length fun d _ => by have := h.at_ d; omega
      have := h.at_ c
      omega
    · omega
  · rw [hat, hat, if_pos hc, if_pos (by omega)]
    have h1 : undF xs (c + 1) ls.length - 1 ≤ undF xs c ls.length := und_ge (by have := und_at xs (c + 1) ls.length c (by omega); omega) _ fun d hd => by have := und_at xs (c + 1) ls.length d hd; omega
    have h2 : undF xs c ls.length - 1 ≤ undF xs (c + 1) ls.length := und_ge (by have := und_at xs c ls.length (c + 1) (by omega); omega) _ fun d hd => by have := und_at xs c ls.length d hd; omega
    omega
  · rw [hat]
    split
    · exact und_le _ _ _
    · rw [off_0 (xs := xs) (by omega)]; omega
  · rw [hat]
    split
    · exact und_ge (hle c) _ fun d hd => by have h1 := hy.near (c := c) (d := d) (by assumption) hd; have := hle d; omega
    · rw [off_0 (xs := ys) (by have := hy.len; omega)]; omega
def resL (ls : List (List Int)) (xs : List Int) : List Int := mk xs.length fun c => (dep ls : Int) - xs.getD c 0
theorem res_len (ls : List (List Int)) (xs : List Int) : (resL ls xs).length = xs.length := mk_len _ _
theorem res_at {ls : List (List Int)} {xs : List Int} {c : Nat} (hc : c < xs.length) : (resL ls xs).getD c 0 = (dep ls : Int) - xs.getD c 0 := mk_at _ hc
theorem NB.res {ls : List (List Int)} {xs : List Int} (h : NB ls xs) : NB ls (resL ls xs) := ⟨h.vb, by rw [res_len, h.len], fun c => by
  by_cases hc : c < xs.length
  · rw [res_at hc]; have := h.at_ c; omega
  · rw [off_0 (by rw [res_len]; omega)]; omega⟩
theorem HO.res {ls : List (List Int)} {xs : List Int} (h : HO ls xs) : HO ls (resL ls xs) := ⟨h.toNB.res, fun c hc => by
  have := h.len
  rw [res_at (by omega), res_at (by omega)]
  have := h.stp c hc
  omega⟩
theorem ovr_p {ls : List (List Int)} {xs u : List Int} (h : NB ls xs) (hu : UndP ls (resL ls xs) u) : OvrP ls xs (resL ls u) := by
  have hl := h.len
  have hul := hu.ho.len
  refine ⟨hu.ho.res, fun c => ?_, fun ys hy hle c => ?_⟩
  · by_cases hc : c < ls.length
    · rw [res_at (by omega)]
      have := hu.le c
      rw [res_at (by omega)] at this
      omega
    · rw [off_0 (xs := xs) (by omega), off_0 (xs := resL ls u) (by rw [res_len]; omega)]; omega
  · have hyl := hy.len
    have h1 := hu.mx (resL ls ys) hy.res (fun d => by
      by_cases hd : d < ls.length
      · rw [res_at (by omega), res_at (by omega)]; have := hle d; omega
      · rw [off_0 (xs := resL ls ys) (by rw [res_len]; omega), off_0 (xs := resL ls xs) (by rw [res_len]; omega)]; omega) c
    by_cases hc : c < ls.length
    · rw [res_at (by omega)] at h1 ⊢; omega
    · rw [off_0 (xs := resL ls u) (by rw [res_len]; omega), off_0 (xs := ys) (by omega)]; omega
/-! Of the list of all. -/
def ge0 (a b : Int) : Prop := a ≤ b
theorem fold_und {ls : List (List Int)} {xs : List Int} {l : List (List Int)} (h : ∀ t, t ∈ l ↔ HO ls t ∧ ∀ c, t.getD c 0 ≤ xs.getD c 0) (h0 : 0 < l.length) : UndP ls xs (fldJ max (l.getD 0 []) l l.length) := by
  have hi : ∀ i, i < l.length → HO ls (l.getD i []) ∧ ∀ c, (l.getD i []).getD c 0 ≤ xs.getD c 0 := fun i hi => (h _).1 (getD_mem hi)
  have key : ∀ i, i ≤ l.length → HO ls (fldJ max (l.getD 0 []) l i) ∧ (∀ c, (fldJ max (l.getD 0 []) l i).getD c 0 ≤ xs.getD c 0) ∧ ∀ j, j < i → AbJ max (fldJ max (l.getD 0 []) l i) (l.getD j []) := by
    intro i
    induction i with
    | zero => intro _; exact ⟨(hi 0 h0).1, (hi 0 h0).2, fun j hj => absurd hj (Nat.not_lt_zero _)⟩
    | succ i ih =>
      intro hle
      obtain ⟨h1, h2, h3⟩ := ih (by omega)
      obtain ⟨h4, h5⟩ := hi i (by omega)
      rw [fld_succ (by omega)]
      refine ⟨h1.jn jn_max h4, fun c => ?_, fun j hj => ?_⟩
      · rw [zip_any jn_max h1.len h4.len]; have := h2 c; have := h5 c; omega
      · by_cases e : j < i
        · exact ab_zip1 jn_max h1.len h4.len (h3 j e)
        · obtain rfl : j = i := by omega
          exact ab_zip2 jn_max h1.len h4.len (ab_refl jn_max _)
  obtain ⟨h1, h2, h3⟩ := key _ (Nat.le_refl _)
  refine ⟨h1, h2, fun ys hy hle c => ?_⟩
  obtain ⟨j, hj, e⟩ := List.getElem_of_mem ((h ys).2 ⟨hy, hle⟩)
  have h4 := h3 j hj c
  rw [show l.getD j [] = ys by simp [List.getD, hj, e]] at h4
  omega
theorem fold_ovr {ls : List (List Int)} {xs : List Int} {l : List (List Int)} (h : ∀ t, t ∈ l ↔ HO ls t ∧ ∀ c, xs.getD c 0 ≤ t.getD c 0) (h0 : 0 < l.length) : OvrP ls xs (fldJ min (l.getD 0 []) l l.length) := by
  have hi : ∀ i, i < l.length → HO ls (l.getD i []) ∧ ∀ c, xs.getD c 0 ≤ (l.getD i []).getD c 0 := fun i hi => (h _).1 (getD_mem hi)
  have key : ∀ i, i ≤ l.length → HO ls (fldJ min (l.getD 0 []) l i) ∧ (∀ c, xs.getD c 0 ≤ (fldJ min (l.getD 0 []) l i).getD c 0) ∧ ∀ j, j < i → AbJ min (fldJ min (l.getD 0 []) l i) (l.getD j []) := by
    intro i
    induction i with
    | zero => intro _; exact ⟨(hi 0 h0).1, (hi 0 h0).2, fun j hj => absurd hj (Nat.not_lt_zero _)⟩
    | succ i ih =>
      intro hle
      obtain ⟨h1, h2, h3⟩ := ih (by omega)
      obtain ⟨h4, h5⟩ := hi i (by omega)
      rw [fld_succ (by omega)]
      refine ⟨h1.jn jn_min h4, fun c => ?_, fun j hj => ?_⟩
      · rw [zip_any jn_min h1.len h4.len]; have := h2 c; have := h5 c; omega
      · by_cases e : j < i
        · exact ab_zip1 jn_min h1.len h4.len (h3 j e)
        · obtain rfl : j = i := by omega
          exact ab_zip2 jn_min h1.len h4.len (ab_refl jn_min _)
  obtain ⟨h1, h2, h3⟩ := key _ (Nat.le_refl _)
  refine ⟨h1, h2, fun ys hy hle c => ?_⟩
  obtain ⟨j, hj, e⟩ := List.getElem_of_mem ((h ys).2 ⟨hy, hle⟩)
  have h4 := h3 j hj c
  rw [show l.getD j [] = ys by simp [List.getD, hj, e]] at h4
  omega
theorem lie_ho {ls : List (List Int)} {xs ys : List Int} (hx : NB ls xs) (hy : NB ls ys) : lieB xs ys = true ↔ ∀ c, xs.getD c 0 ≤ ys.getD c 0 := by
  have h1 := hx.len
  have h2 := hy.len
  unfold lieB
  rw [decide_eq_true_iff]
  constructor
  · rintro ⟨_, h⟩ c
    by_cases hc : c < xs.length
    · exact h c hc
    · rw [off_0 (xs := xs) (by omega), off_0 (xs := ys) (by omega)]; omega
  · intro h
    exact ⟨by omega, fun c _ => h c⟩
def selL (f : List Int → Bool) (l : List (List Int)) : List (List Int) := l.filter f
theorem sel_yes {f : List Int → Bool} {l : List (List Int)} {t : List Int} (h : f t = true) : selL f (l ++ [t]) = selL f l ++ [t] := by simp [selL, List.filter_append, h]
theorem sel_no {f : List Int → Bool} {l : List (List Int)} {t : List Int} (h : f t = false) : selL f (l ++ [t]) = selL f l := by simp [selL, List.filter_append, h]
/-- Of the first so many hollows, those that are asked for. -/
structure SlI (f : List Int → Bool) (l : List (List Int)) (R : List (HD × List Int)) (i : Nat) (o : HD × List (HD × List Int)) : Prop where
  le : i ≤ l.length
  g : GrP (selL f (l.take i)) o
  sub : ∀ z ∈ o.2, z ∈ R
theorem SlI.zero (f : List Int → Bool) (l : List (List Int)) (R : List (HD × List Int)) : SlI f l R 0 (none, []) := ⟨Nat.zero_le _, GrP.nil, fun z hz => by cases hz⟩
theorem SlI.put {f : List Int → Bool} {l : List (List Int)} {R : List (HD × List Int)} {i : Nat} {o : HD × List (HD × List Int)} {h' : HD} {r : HD × List Int} (h : SlI f l R i o) (hi : i < l.length) (hr : r.2 = l.getD i []) (hrm : r ∈ R) (hro : goI r) (hw : f r.2 = true) (ho : goP (h', o.2 ++ [r])) : SlI f l R (i + 1) (h', o.2 ++ [r]) :=
  ⟨hi, by rw [take_snoc hi, sel_yes (by rw [← hr]; exact hw), ← hr]; exact h.g.snoc hro ho, fun z hz => by
    rcases List.mem_append.1 hz with hz | hz
    · exact h.sub z hz
    · rw [List.mem_singleton.1 hz]; exact hrm⟩
theorem SlI.skip {f : List Int → Bool} {l : List (List Int)} {R : List (HD × List Int)} {i : Nat} {o : HD × List (HD × List Int)} (h : SlI f l R i o) (hi : i < l.length) (hw : f (l.getD i []) = false) : SlI f l R (i + 1) o :=
  ⟨hi, by rw [take_snoc hi, sel_no hw]; exact h.g, h.sub⟩
theorem undE {ls : List (List Int)} {xs t : List Int} (hb : VB ls) (hx : NB ls xs) : t ∈ selL (fun t => lieB t xs) (allH ls) ↔ HO ls t ∧ ∀ c, t.getD c 0 ≤ xs.getD c 0 := by
  unfold selL
  rw [List.mem_filter, all_ho hb]
  constructor
  · rintro ⟨h1, h2⟩; exact ⟨h1, (lie_ho h1.toNB hx).1 h2⟩
  · rintro ⟨h1, h2⟩; exact ⟨h1, (lie_ho h1.toNB hx).2 h2⟩
theorem ovrE {ls : List (List Int)} {xs t : List Int} (hb : VB ls) (hx : NB ls xs) : t ∈ selL (fun t => lieB xs t) (allH ls) ↔ HO ls t ∧ ∀ c, xs.getD c 0 ≤ t.getD c 0 := by
  unfold selL
  rw [List.mem_filter, all_ho hb]
  constructor
  · rintro ⟨h1, h2⟩; exact ⟨h1, (lie_ho hx h1.toNB).1 h2⟩
  · rintro ⟨h1, h2⟩; exact ⟨h1, (lie_ho hx h1.toNB).2 h2⟩
theorem und_pos {ls : List (List Int)} {xs : List Int} (hb : VB ls) (hx : NB ls xs) : 0 < (selL (fun t => lieB t xs) (allH ls)).length :=
  List.length_pos_of_mem ((undE hb hx).2 ⟨ho_zero hb, fun c => by rw [rep_at]; exact (hx.at_ c).1⟩)
theorem ho_full {ls : List (List Int)} (hb : VB ls) : HO ls (resL ls (List.replicate ls.length 0)) := (ho_zero hb).res
theorem ovr_pos {ls : List (List Int)} {xs : List Int} (hb : VB ls) (hx : NB ls xs) : 0 < (selL (fun t => lieB xs t) (allH ls)).length :=
  List.length_pos_of_mem ((ovrE hb hx).2 ⟨ho_full hb, fun c => by
    have := hx.at_ c
    have := hx.len
    by_cases hc : c < ls.length
    · rw [res_at (by simpa using hc), rep_at]; omega
    · rw [off_0 (xs := xs) (by omega), off_0 (by rw [res_len]; simp; omega)]; omega⟩)
structure UnP (ls : List (List Int)) (xs u : List Int) : Prop where
  bad : numI ls xs ≠ 0 → u = []
  ok : ¬ numI ls xs ≠ 0 → UndP ls xs u
structure OvP (ls : List (List Int)) (xs u : List Int) (b : Bool) : Prop where
  bad : numI ls xs ≠ 0 → u = [] ∧ b = false
  ok : ¬ numI ls xs ≠ 0 → OvrP ls xs u ∧ b = true
theorem UnP.unique {ls : List (List Int)} {xs u v : List Int} (h : UnP ls xs u) (k : UnP ls xs v) : u = v := by
  by_cases h0 : numI ls xs ≠ 0
  · rw [h.bad h0, k.bad h0]
  · exact (h.ok h0).unique (k.ok h0)
theorem OvP.unique {ls : List (List Int)} {xs u v : List Int} {b c : Bool} (h : OvP ls xs u b) (k : OvP ls xs v c) : u = v ∧ b = c := by
  by_cases h0 : numI ls xs ≠ 0
  · rw [(h.bad h0).1, (h.bad h0).2, (k.bad h0).1, (k.bad h0).2]; exact ⟨rfl, rfl⟩
  · exact ⟨(h.ok h0).1.unique (k.ok h0).1, by rw [(h.ok h0).2, (k.ok h0).2]⟩
theorem ho_short {ls : List (List Int)} {u : List Int} (h : HO ls u) : u.length ≤ 1000000 := by have := h.len; have := h.vb.n; omega
theorem UnP.len {ls : List (List Int)} {xs u : List Int} (h : UnP ls xs u) : u.length ≤ 1000000 := by
  by_cases h0 : numI ls xs ≠ 0
  · rw [h.bad h0]; exact Nat.zero_le _
  · exact ho_short (h.ok h0).ho
theorem OvP.len {ls : List (List Int)} {xs u : List Int} {b : Bool} (h : OvP ls xs u b) : u.length ≤ 1000000 := by
  by_cases h0 : numI ls xs ≠ 0
  · rw [(h.bad h0).1]; exact Nat.zero_le _
  · exact ho_short (h.ok h0).1.ho
theorem num_val {ls : List (List Int)} {xs : List Int} (h : ¬ numI ls xs ≠ 0) : ¬ validI ls ≠ 0 := fun hv => by rw [num_bad hv] at h; exact h hv
def unK (xs : List Int) (n c d : Nat) : List Int := mk n fun e => if e < c then undF xs e n else if e = c then undF xs e d else xs.getD e 0
theorem unK_len (xs : List Int) (n c d : Nat) : (unK xs n c d).length = n := mk_len _ _
theorem unK_zero {xs : List Int} {n : Nat} (h : xs.length = n) : xs = unK xs n 0 0 := mk_eq h fun j hj => by
  rw [if_neg (Nat.not_lt_zero _)]
  split
  · rfl
  · rfl
theorem unK_at {xs : List Int} {n c d : Nat} (hc : c < n) : (unK xs n c d).getD c 0 = undF xs c d := by unfold unK; rw [mk_at _ hc, if_neg (Nat.lt_irrefl _), if_pos rfl]
theorem unK_put {xs : List Int} {n c d : Nat} (hc : c < n) : (unK xs n c d).set c (min (undF xs c d) (xs.getD d 0 + max ((c : Int) - d) ((d : Int) - c))) = unK xs n c (d + 1) :=
  mk_set hc (by rw [if_neg (Nat.lt_irrefl _), if_pos rfl]; rfl) fun j hj hne => by rw [if_neg hne, if_neg hne]
theorem unK_next {xs : List Int} {n c d : Nat} (hd : d = n) : unK xs n c d = unK xs n (c + 1) 0 := mk_congr fun j hj => by
  by_cases h : j < c
  · rw [if_pos h, if_pos (by omega)]
  · rw [if_neg h]
    by_cases e : j = c
    · rw [if_pos e, if_pos (by omega), hd]
    · rw [if_neg e, if_neg (by omega)]
      split
      · rfl
      · rfl
theorem unK_end {xs : List Int} {n c : Nat} (hc : c = n) : unK xs n c 0 = undL n xs := mk_congr fun j hj => by rw [if_pos (by omega)]
theorem und_bd {ls : List (List Int)} {xs : List Int} (h : NB ls xs) (c k : Nat) : 0 ≤ undF xs c k ∧ undF xs c k ≤ 4 := by
  have h1 := und_le xs c k
  have h2 := und_ge (xs := xs) (c := c) (v := 0) (h.at_ c).1 k fun d _ => by have := h.at_ d; omega
  have := h.at_ c
  have := h.vb.d
  omega
def reK (ls : List (List Int)) (xs : List Int) (k : Nat) : List Int := mk xs.length fun c => if c < k then (dep ls : Int) - xs.getD c 0 else 0
theorem reK_len (ls : List (List Int)) (xs : List Int) (k : Nat) : (reK ls xs k).length = xs.length := mk_len _ _
theorem reK_zero (ls : List (List Int)) (xs : List Int) : List.replicate xs.length 0 = reK ls xs 0 := mk_eq (by simp) fun j hj => by rw [if_neg (Nat.not_lt_zero _), rep_at]
theorem reK_put {ls : List (List Int)} {xs : List Int} {k : Nat} (hk : k < xs.length) : (reK ls xs k).set k ((dep ls : Int) - xs.getD k 0) = reK ls xs (k + 1) :=
  mk_set hk (by rw [if_pos (Nat.lt_succ_self _)]) fun j hj hne => by
    have e : (j < k + 1) ↔ (j < k) := by omega
    simp only [e]
theorem reK_end {ls : List (List Int)} {xs : List Int} {k : Nat} (hk : k = xs.length) : reK ls xs k = resL ls xs := mk_congr fun j hj => by rw [if_pos (by omega)]


set_option maxRecDepth 100000 in
set_option maxHeartbeats 2000000 in
theorem Under_ok (w0 : World) (p : Option Addr) (cap : Nat) (ls : List (List Int)) (hr : LsAt w0 p ls) (pl : Option Addr) (cl : Nat) (xs : List Int) (hx : IntsAt w0 pl xs) :
    Calls Try.prog 35 #[bv p ls.length cap, .slice pl xs.length cl] w0 (Post (X := HD × List Int) (fun y => .tuple #[gval y.1 y.2.length, .int .i64 (numI ls xs)]) (fun y => UnP ls xs y.2 ∧ goI y) (fun y => gbI y) w0) := by
  refine calls Try.func35 rfl (n := 51) rfl (by simp) ?_
  refine TC.seq ?_
  refine TC.region ?_
  refine TL.box rfl rfl (by decide) (fun b0 hb0 => ?_)
  refine TL.pure (PV.assign rfl) rfl (by decide) ?_
  refine TL.pure (PV.assign rfl) rfl (by decide) ?_
  refine TL.nil ?_
  refine TQ.thenC ?_
  refine TC.seq ?_
  refine TC.seq ?_
  refine TC.region ?_
  refine TL.pure (PV.loadBox rfl Tb.agg_24 (by repeat (first | exact List.Mem.head _ | refine List.Mem.tail _ ?_ | refine List.mem_append_right _ ?_)) rfl) rfl (by decide) ?_
  refine TL.pure (PV.move rfl) rfl (by decide) ?_
  refine TL.call rfl Tb.gofn_64 (fun a w hs => vnum_ok w _ _ _ (hr.new hs.new) _ _ _ (hx.new hs.new)) rfl (by decide) (fun _ _ => ?_)
  refine TL.pure (PV.assign rfl) rfl (by decide) ?_
  refine TL.nil ?_
  refine TQ.thenC ?_
  refine TC.seq ?_
  refine TC.region ?_
  refine TL.pure (PV.move rfl) rfl (by decide) ?_
  refine TL.pure (PV.neq rfl rfl) rfl (by decide) ?_
  refine TL.nil ?_
  refine TQ.thenC ?_
  first | refine TC.condD rfl (fun hbad => ?_) (fun hbad => ?_) | refine TC.cond rfl (fun hbad => ?_) (fun hbad => ?_)
  · skip
    refine TC.seq ?_
    refine TC.region ?_
    refine TL.pure (PV.move rfl) rfl (by decide) ?_
    refine TL.pure (PV.assign rfl) rfl (by decide) ?_
    refine TL.pure (PV.assign rfl) rfl (by decide) ?_
    refine TL.nil ?_
    refine TQ.thenC ?_
    refine TC.ret ?_
    refine TQ.thenR ?_
    refine TQ.retE2 rfl rfl rfl ?_
    exact ⟨(none, []), rfl, ⟨⟨fun _ => rfl, fun h2 => absurd hbad h2⟩, goI_nil⟩, List.nil_sublist _⟩
  · skip
    refine TC.skip ?_
    refine TQ.thenC ?_
    refine TC.seq ?_
    have hnb := nb_of hbad
    have hn9 := hnb.vb.n
    have hd9 := hnb.vb.d
    have hxl := hnb.len
    obtain ⟨q8, hq8, _⟩ := hx 0 (by omega)
    refine TC.region ?_
    refine TL.pure (PV.move rfl) rfl (by decide) ?_
    refine TL.call rfl Tb.gofn_76 (fun a w hs => (by rw [hq8]; exact clone_ok w q8 cl xs (by rw [← hq8]; exact hx.new hs.new) (by omega))) rfl (by decide) (fun h9 hh9 => ?_)
    refine TL.pure (PV.assign rfl) rfl (by decide) ?_
    refine TL.nil ?_
    refine TQ.thenC ?_
    refine TC.seq ?_
    refine TC.seq ?_
    have he7 : (h9, xs).2.length = xs.length := rfl
    refine TC.region ?_
    refine TL.pure (PV.move rfl) rfl (by decide) ?_
    refine TL.pure (PV.lenG rfl hh9 Tb.sl_25) rfl (by decide) ?_
    refine TL.pure (PV.move rfl) rfl (by decide) ?_
    refine TL.nil ?_
    refine TQ.thenC ?_
    refine TC.block ?_
    refine TC.lit [(1, _), (4, _), (5, _), (7, _), (20, _), (21, _)] (by repeat (first | exact True.intro | refine And.intro rfl ?_)) ?_
    refine TC.loopK [1, 4, 5, 7, 20] (X := Nat) (fun c => c ≤ ls.length) (fun c => [(21, .int .i64 c)]) (fun c => gbI (h9, unK xs ls.length c 0) ++ [(b0, Obj.cells #[.slice p ls.length cap] 24 (0, 0))]) (fun c => ls.length - c) 0 (Nat.zero_le _) (by repeat (first | exact True.intro | refine And.intro rfl ?_)) (by rw [← unK_zero hxl]; exact List.Sublist.refl _) ?_
    intro c hc
    refine TC.lit [(1, _), (4, _), (5, _), (7, _), (20, _), (21, _)] (by repeat (first | exact True.intro | refine And.intro rfl ?_)) ?_
    refine TC.seq ?_
    refine TC.region ?_
    refine TL.pure (PV.lss rfl rfl) rfl (by decide) ?_
    refine TL.nil ?_
    refine TQ.thenC ?_
    refine TC.seq ?_
    first | refine TC.condD rfl (fun h1 => ?_) (fun h1 => ?_) | refine TC.cond rfl (fun h1 => ?_) (fun h1 => ?_)
    · skip
      refine TC.skip ?_
      refine TQ.thenC ?_
      refine TC.seq ?_
      refine TC.block ?_
      refine TC.seq ?_
      refine TC.region ?_
      refine TL.pure (PV.move rfl) rfl (by decide) ?_
      refine TL.pure (PV.assign rfl) rfl (by decide) ?_
      refine TL.nil ?_
      refine TQ.thenC ?_
      refine TC.seq ?_
      refine TC.region ?_
      refine TL.pure (PV.move rfl) rfl (by decide) ?_
      refine TL.pure (PV.len rfl Tb.sl_25) rfl (by decide) ?_
      refine TL.pure (PV.move rfl) rfl (by decide) ?_
      refine TL.nil ?_
      refine TQ.thenC ?_
      refine TC.block ?_
      refine TC.lit [(1, _), (4, _), (5, _), (7, _), (8, _), (20, _), (21, _), (24, _), (25, _), (26, _)] (by repeat (first | exact True.intro | refine And.intro rfl ?_)) ?_
      refine TC.loopK [1, 4, 5, 7, 8, 20, 21, 24, 25] (X := Nat) (fun d => d ≤ ls.length) (fun d => [(26, .int .i64 d)]) (fun d => gbI (h9, (unK xs ls.length c d)) ++ [(b0, Obj.cells #[.slice p ls.length cap] 24 (0, 0))]) (fun d => ls.length - d) 0 (Nat.zero_le _) (by repeat (first | exact True.intro | refine And.intro rfl ?_)) (List.Sublist.refl _) ?_
      intro d hd
      refine TC.lit [(1, _), (4, _), (5, _), (7, _), (8, _), (20, _), (21, _), (24, _), (25, _), (26, _)] (by repeat (first | exact True.intro | refine And.intro rfl ?_)) ?_
      refine TC.seq ?_
      refine TC.region ?_
      refine TL.pure (PV.lss rfl rfl) rfl (by decide) ?_
      refine TL.nil ?_
      refine TQ.thenC ?_
      refine TC.seq ?_
      first | refine TC.condD rfl (fun h2 => ?_) (fun h2 => ?_) | refine TC.cond rfl (fun h2 => ?_) (fun h2 => ?_)
      · skip
        refine TC.skip ?_
        refine TQ.thenC ?_
        refine TC.seq ?_
        refine TC.block ?_
        refine TC.seq ?_
        obtain ⟨q2, hq2p, hq2⟩ := hx d (by omega)
        refine TC.region ?_
        refine TL.pure (PV.move rfl) rfl (by decide) ?_
        refine TL.pure (PV.indexA rfl hq2p rfl Tb.elm_25 rfl (by omega)) rfl (by decide) ?_
        refine TL.pure (PV.loadOld rfl Tb.one_3 hq2) rfl (by decide) ?_
        refine TL.pure (PV.assign rfl) rfl (by decide) ?_
        refine TL.pure (PV.assign rfl) rfl (by decide) ?_
        refine TL.nil ?_
        refine TQ.thenC ?_
        have hub := und_bd hnb c d
        have hxb := hnb.at_ d
        have hgo : goI (h9, (unK xs ls.length c d)) := go_lenI hh9 (by rw [unK_len, hxl])
        refine TC.region ?_
        refine TL.pure (PV.move rfl) rfl (by decide) ?_
        refine TL.pure (PV.move rfl) rfl (by decide) ?_
        refine TL.pure (PV.move rfl) rfl (by decide) ?_
        refine TL.pure (PV.move rfl) rfl (by decide) ?_
        refine TL.pure (PV.indexG (j := c) rfl rfl hh9 Tb.elm_25 rfl (by omega)) rfl (by decide) ?_
        refine TL.pure (PV.loadGI (y := (h9, (unK xs ls.length c d))) (j := c) (v := undF xs c d) rfl Tb.one_3 (fun yy hyy => by repeat (first | exact List.mem_append_left _ hyy | exact List.mem_append_left _ (List.mem_append_right _ hyy) | exact List.mem_append_left _ (List.mem_append_left _ hyy) | refine List.mem_append_right _ ?_ | refine List.Mem.tail _ ?_)) hgo (by show c < (unK _ _ _ _).length; rw [unK_len]; omega) (unK_at (by omega))) rfl (by decide) ?_
        refine TL.pure (PV.move rfl) rfl (by decide) ?_
        refine TL.pure (PV.move rfl) rfl (by decide) ?_
        refine TL.pure (PV.move rfl) rfl (by decide) ?_
        refine TL.pure (PV.sub rfl rfl (by omega)) rfl (by decide) ?_
        refine TL.pure (PV.move rfl) rfl (by decide) ?_
        refine TL.pure (PV.move rfl) rfl (by decide) ?_
        refine TL.pure (PV.sub rfl rfl (by omega)) rfl (by decide) ?_
        refine TL.pure (PV.max rfl rfl Tb.int_3) rfl (by decide) ?_
        refine TL.pure (PV.add rfl rfl (by omega)) rfl (by decide) ?_
        refine TL.pure (PV.min rfl rfl Tb.int_3) rfl (by decide) ?_
        refine TL.pure (PV.indexG (j := c) rfl rfl hh9 Tb.elm_25 rfl (by omega)) rfl (by decide) ?_
        refine TL.putI (h := h9) (xs := (unK xs ls.length c d)) (xs' := unK xs ls.length c (d + 1)) (j := c) rfl rfl Tb.cells_3 hgo (unK_put (by omega)) (by repeat (first | exact PutH.here _ _ _ _ | apply PutH.tail | apply PutH.app)) (by rw [unK_len]; omega) rfl rfl ?_
        refine TL.nil ?_
        refine TQ.blkN ?_
        refine TQ.thenC ?_
        refine TC.region ?_
        refine TL.pure (PV.add rfl rfl (by omega)) rfl (by decide) ?_
        refine TL.pure (PV.move rfl) rfl (by decide) ?_
        refine TL.nil ?_
        refine TQ.thenN ?_
        refine TQ.backK (d + 1) (by repeat (first | exact True.intro | refine And.intro rfl ?_)) (by repeat (first | exact True.intro | refine And.intro rfl ?_)) (List.Sublist.refl _) (by omega) (by omega)
      · skip
        refine TC.exit ?_
        refine TQ.thenE ?_
        refine TQ.thenE ?_
        refine TQ.blkS ?_
        refine TQ.blkN ?_
        refine TQ.thenC ?_
        refine TC.region ?_
        refine TL.pure (PV.add rfl rfl (by omega)) rfl (by decide) ?_
        refine TL.pure (PV.move rfl) rfl (by decide) ?_
        refine TL.nil ?_
        refine TQ.thenN ?_
        refine TQ.backK (c + 1) (by repeat (first | exact True.intro | refine And.intro rfl ?_)) (by repeat (first | exact True.intro | refine And.intro rfl ?_)) (by rw [← unK_next (show d = ls.length by omega)]; exact List.Sublist.refl _) (by omega) (by omega)
    · skip
      refine TC.exit ?_
      refine TQ.thenE ?_
      refine TQ.thenE ?_
      refine TQ.blkS ?_
      refine TQ.thenC ?_
      refine TC.seq ?_
      refine TC.region ?_
      refine TL.pure (PV.move rfl) rfl (by decide) ?_
      refine TL.pure (PV.assign rfl) rfl (by decide) ?_
      refine TL.pure (PV.assign rfl) rfl (by decide) ?_
      refine TL.nil ?_
      refine TQ.thenC ?_
      refine TC.ret ?_
      refine TQ.retE2 rfl rfl rfl ?_
      exact ⟨(h9, undL ls.length xs), by rw [Decidable.of_not_not hbad]; show Value.tuple #[gval h9 xs.length, _] = Value.tuple #[gval h9 (undL ls.length xs).length, _]; rw [show (undL ls.length xs).length = ls.length from mk_len _ _, hxl], ⟨⟨fun h2 => absurd h2 hbad, fun _ => und_p hnb⟩, go_lenI hh9 (by rw [hxl]; exact mk_len _ _)⟩, by rw [← unK_end (show c = ls.length by omega)]; exact List.sublist_append_left _ _⟩

set_option maxRecDepth 100000 in
theorem rest_ok (w0 : World) (p : Option Addr) (cap : Nat) (ls : List (List Int)) (hr : LsAt w0 p ls) (pl : Option Addr) (cl : Nat) (xs : List Int) (hx : IntsAt w0 pl xs) (hnb : NB ls xs) :
    Calls Try.prog 78 #[bv p ls.length cap, .slice pl xs.length cl] w0 (Post (X := Nat) (fun b => .slice (some ⟨b, 0, none⟩) xs.length xs.length) (fun _ => True) (fun b => [(b, Obj.cells (intsA (resL ls xs)) 3 (0, 0))]) w0) := by
  have hn9 := hnb.vb.n
  have hd9 := hnb.vb.d
  have hxl := hnb.len
  refine calls Try.func78 rfl (n := 27) rfl (by simp) ?_
  refine TC.seq ?_
  refine TC.region ?_
  refine TL.box rfl rfl (by decide) (fun b0 hb0 => ?_)
  refine TL.pure (PV.assign rfl) rfl (by decide) ?_
  refine TL.nil ?_
  refine TQ.thenC ?_
  refine TC.seq ?_
  refine TC.region ?_
  refine TL.pure (PV.move rfl) rfl (by decide) ?_
  refine TL.pure (PV.len rfl Tb.sl_25) rfl (by decide) ?_
  refine TL.makeI (k := xs.length) rfl rfl Tb.sl_25 Tb.zi_3 rfl (by omega) (by omega) rfl (by decide) (fun b1 hb1 => ?_)
  refine TL.pure (PV.assign rfl) rfl (by decide) ?_
  refine TL.nil ?_
  refine TQ.thenC ?_
  refine TC.seq ?_
  refine TC.seq ?_
  refine TC.region ?_
  refine TL.pure (PV.move rfl) rfl (by decide) ?_
  refine TL.pure (PV.len rfl Tb.sl_25) rfl (by decide) ?_
  refine TL.pure (PV.move rfl) rfl (by decide) ?_
  refine TL.nil ?_
  refine TQ.thenC ?_
  refine TC.block ?_
  refine TC.loopK [2, 4, 5, 11, 12] (X := Nat) (fun k => k ≤ xs.length) (fun k => [(13, .int .i64 k)]) (fun k => [(b1, Obj.cells (intsA (reK ls xs k)) 3 (0, 0)), (b0, Obj.cells #[.slice p ls.length cap] 24 (0, 0))]) (fun k => xs.length - k) 0 (Nat.zero_le _) (by repeat (first | exact True.intro | refine And.intro rfl ?_)) (by rw [← reK_zero]; exact List.Sublist.refl _) ?_
  intro k hk
  refine TC.seq ?_
  refine TC.region ?_
  refine TL.pure (PV.lss rfl rfl) rfl (by decide) ?_
  refine TL.nil ?_
  refine TQ.thenC ?_
  refine TC.seq ?_
  first | refine TC.condD rfl (fun h0 => ?_) (fun h0 => ?_) | refine TC.cond rfl (fun h0 => ?_) (fun h0 => ?_)
  · skip
    refine TC.skip ?_
    refine TQ.thenC ?_
    refine TC.seq ?_
    refine TC.block ?_
    refine TC.seq ?_
    obtain ⟨q2, hq2p, hq2⟩ := hx k (by omega)
    have hxb := hnb.at_ k
    refine TC.region ?_
    refine TL.pure (PV.move rfl) rfl (by decide) ?_
    refine TL.pure (PV.indexA rfl hq2p rfl Tb.elm_25 rfl (by omega)) rfl (by decide) ?_
    refine TL.pure (PV.loadOld rfl Tb.one_3 hq2) rfl (by decide) ?_
    refine TL.pure (PV.assign rfl) rfl (by decide) ?_
    refine TL.pure (PV.assign rfl) rfl (by decide) ?_
    refine TL.nil ?_
    refine TQ.thenC ?_
    refine TC.region ?_
    refine TL.pure (PV.move rfl) rfl (by decide) ?_
    refine TL.pure (PV.move rfl) rfl (by decide) ?_
    refine TL.pure (PV.loadBox rfl Tb.agg_24 (by repeat (first | exact List.Mem.head _ | refine List.Mem.tail _ ?_ | refine List.mem_append_right _ ?_)) rfl) rfl (by decide) ?_
    refine TL.call rfl Tb.gofn_62 (fun a w hs => depth_ok w _ _ _ (hr.new hs.new) (by omega)) rfl (by decide) (fun _ _ => ?_)
    refine TL.pure (PV.move rfl) rfl (by decide) ?_
    refine TL.pure (PV.sub rfl rfl (by omega)) rfl (by decide) ?_
    refine TL.pure (PV.index1 (j := k) rfl rfl Tb.elm_25 rfl (by omega)) rfl (by decide) ?_
    refine TL.storeIv (j := k) (xs' := reK ls xs (k + 1)) rfl rfl Tb.cells_3 (reK_put (by omega)) (by repeat (first | exact Upd.head _ | apply Upd.tail | apply Upd.appR)) (by rw [reK_len]; omega) rfl rfl ?_
    refine TL.nil ?_
    refine TQ.blkN ?_
    refine TQ.thenC ?_
    refine TC.region ?_
    refine TL.pure (PV.add rfl rfl (by omega)) rfl (by decide) ?_
    refine TL.pure (PV.move rfl) rfl (by decide) ?_
    refine TL.nil ?_
    refine TQ.thenN ?_
    refine TQ.backK (k + 1) (by repeat (first | exact True.intro | refine And.intro rfl ?_)) (by repeat (first | exact True.intro | refine And.intro rfl ?_)) (List.Sublist.refl _) (by omega) (by omega)
  · skip
    refine TC.exit ?_
    refine TQ.thenE ?_
    refine TQ.thenE ?_
    refine TQ.blkS ?_
    refine TQ.thenC ?_
    refine TC.seq ?_
    refine TC.region ?_
    refine TL.pure (PV.move rfl) rfl (by decide) ?_
    refine TL.pure (PV.assign rfl) rfl (by decide) ?_
    refine TL.nil ?_
    refine TQ.thenC ?_
    refine TC.ret ?_
    refine TQ.retE1 rfl rfl ?_
    exact ⟨b1, rfl, trivial, by rw [← reK_end (show k = xs.length by omega)]; exact List.Sublist.cons_cons _ (List.nil_sublist _)⟩

set_option maxRecDepth 100000 in
theorem Over_ok (w0 : World) (p : Option Addr) (cap : Nat) (ls : List (List Int)) (hr : LsAt w0 p ls) (pl : Option Addr) (cl : Nat) (xs : List Int) (hx : IntsAt w0 pl xs) :
    Calls Try.prog 37 #[bv p ls.length cap, .slice pl xs.length cl] w0 (Post (X := HD × List Int × Bool) (fun y => .tuple #[gval y.1 y.2.1.length, .bool y.2.2, .int .i64 (numI ls xs)]) (fun y => OvP ls xs y.2.1 y.2.2 ∧ goI (y.1, y.2.1)) (fun y => gbI (y.1, y.2.1)) w0) := by
  refine calls Try.func37 rfl (n := 27) rfl (by simp) ?_
  refine TC.seq ?_
  refine TC.region ?_
  refine TL.box rfl rfl (by decide) (fun b0 hb0 => ?_)
  refine TL.pure (PV.assign rfl) rfl (by decide) ?_
  refine TL.pure (PV.assign rfl) rfl (by decide) ?_
  refine TL.pure (PV.assign rfl) rfl (by decide) ?_
  refine TL.nil ?_
  refine TQ.thenC ?_
  refine TC.seq ?_
  refine TC.seq ?_
  refine TC.region ?_
  refine TL.pure (PV.loadBox rfl Tb.agg_24 (by repeat (first | exact List.Mem.head _ | refine List.Mem.tail _ ?_ | refine List.mem_append_right _ ?_)) rfl) rfl (by decide) ?_
  refine TL.pure (PV.move rfl) rfl (by decide) ?_
  refine TL.call rfl Tb.gofn_64 (fun a w hs => vnum_ok w _ _ _ (hr.new hs.new) _ _ _ (hx.new hs.new)) rfl (by decide) (fun _ _ => ?_)
  refine TL.pure (PV.assign rfl) rfl (by decide) ?_
  refine TL.nil ?_
  refine TQ.thenC ?_
  refine TC.seq ?_
  refine TC.region ?_
  refine TL.pure (PV.move rfl) rfl (by decide) ?_
  refine TL.pure (PV.neq rfl rfl) rfl (by decide) ?_
  refine TL.nil ?_
  refine TQ.thenC ?_
  first | refine TC.condD rfl (fun hbad => ?_) (fun hbad => ?_) | refine TC.cond rfl (fun hbad => ?_) (fun hbad => ?_)
  · skip
    refine TC.seq ?_
    refine TC.region ?_
    refine TL.pure (PV.move rfl) rfl (by decide) ?_
    refine TL.pure (PV.assign rfl) rfl (by decide) ?_
    refine TL.pure (PV.assign rfl) rfl (by decide) ?_
    refine TL.pure (PV.assign rfl) rfl (by decide) ?_
    refine TL.nil ?_
    refine TQ.thenC ?_
    refine TC.ret ?_
    refine TQ.thenR ?_
    refine TQ.retE3 rfl rfl rfl rfl ?_
    exact ⟨(none, [], false), rfl, ⟨⟨fun _ => ⟨rfl, rfl⟩, fun h2 => absurd hbad h2⟩, goI_nil⟩, List.nil_sublist _⟩
  · skip
    refine TC.skip ?_
    refine TQ.thenC ?_
    refine TC.seq ?_
    have hnb := nb_of hbad
    have hn9 := hnb.vb.n
    have hd9 := hnb.vb.d
    have hxl := hnb.len
    refine TC.mix [true, true, true, false, false, false, false, false, false, false] _ 7 Tb.mixed rfl (by kernel_rfl) (by kernel_rfl) (by kernel_rfl) (by kernel_rfl) (List.Sublist.refl _) ?_
    refine TB.op (SOK.pure (PV.loadBox rfl Tb.agg_24 (by repeat (first | exact List.Mem.head _ | refine List.Mem.tail _ ?_ | refine List.mem_append_right _ ?_)) rfl) rfl) (by decide) ?_
    refine TB.op (SOK.pure (PV.loadBox rfl Tb.agg_24 (by repeat (first | exact List.Mem.head _ | refine List.Mem.tail _ ?_ | refine List.mem_append_right _ ?_)) rfl) rfl) (by decide) ?_
    refine TB.op (SOK.pure (PV.move rfl) rfl) (by decide) ?_
    refine TB.no ?_
    refine TB.no ?_
    refine TB.no ?_
    refine TB.no ?_
    refine TB.no ?_
    refine TB.no ?_
    refine TB.no ?_
    refine TB.fin ?_
    refine TX.step [3] (by kernel_rfl) (by decide) ⟨⟨_, rfl, ?_⟩, trivial⟩
    refine TL.call rfl Tb.gofn_78 (fun a w hs => rest_ok w _ _ _ (hr.new hs.new) _ _ _ (hx.new hs.new) hnb) rfl (by decide) (fun b7 hb7 => ?_)
    refine TL.nil ?_
    refine TX.next (.inl (by repeat (first | exact List.Sublist.slnil | exact List.nil_sublist _ | exact List.Sublist.refl _ | refine List.Sublist.cons_cons _ ?_ | refine List.Sublist.cons _ ?_ | refine List.Sublist.trans ?_ (List.sublist_append_right _ _)))) ?_
    refine TX.step [4] (by kernel_rfl) (by decide) ⟨⟨_, rfl, ?_⟩, trivial⟩
    refine TL.call rfl Tb.gofn_35 (fun a w hs => (by rw [show xs.length = (resL ls xs).length from (res_len ls xs).symm]; exact Under_ok w _ _ _ (hr.new hs.new) _ _ (resL ls xs) (IntsAt.arr (e := 3) hs.new (by repeat (first | exact List.Mem.head _ | refine List.Mem.tail _ ?_ | refine List.mem_append_right _ ?_))))) rfl (by decide) (fun h9 hh9 => ?_)
    refine TL.nil ?_
    refine TX.next (.inl (by repeat (first | exact List.Sublist.slnil | exact List.nil_sublist _ | exact List.Sublist.refl _ | refine List.Sublist.cons_cons _ ?_ | refine List.Sublist.cons _ ?_ | refine List.Sublist.trans ?_ (List.sublist_append_right _ _)))) ?_
    refine TX.step [5] (by kernel_rfl) (by decide) ⟨⟨_, rfl, ?_⟩, trivial⟩
    refine TL.pure (PV.move rfl) rfl (by decide) ?_
    refine TL.nil ?_
    refine TX.next (.inl (by repeat (first | exact List.Sublist.slnil | exact List.nil_sublist _ | exact List.Sublist.refl _ | refine List.Sublist.cons_cons _ ?_ | refine List.Sublist.cons _ ?_ | refine List.Sublist.trans ?_ (List.sublist_append_right _ _)))) ?_
    refine TX.step [6, 7] (by kernel_rfl) (by decide) ⟨⟨_, rfl, ?_⟩, ⟨_, rfl, ?_⟩, trivial⟩
    · skip
      refine TL.pure (PV.extract rfl rfl) rfl (by decide) ?_
      refine TL.nil ?_
      refine TX.next (.inl (by repeat (first | exact List.Sublist.slnil | exact List.nil_sublist _ | exact List.Sublist.refl _ | refine List.Sublist.cons_cons _ ?_ | refine List.Sublist.cons _ ?_ | refine List.Sublist.trans ?_ (List.sublist_append_right _ _)))) ?_
      refine TX.step [7, 8] (by kernel_rfl) (by decide) ⟨⟨_, rfl, ?_⟩, ⟨_, rfl, ?_⟩, trivial⟩
      · skip
        refine TL.pure (PV.extract rfl rfl) rfl (by decide) ?_
        refine TL.nil ?_
        refine TX.next (.inl (by repeat (first | exact List.Sublist.slnil | exact List.nil_sublist _ | exact List.Sublist.refl _ | refine List.Sublist.cons_cons _ ?_ | refine List.Sublist.cons _ ?_ | refine List.Sublist.trans ?_ (List.sublist_append_right _ _)))) ?_
        refine TX.step [8] (by kernel_rfl) (by decide) ⟨⟨_, rfl, ?_⟩, trivial⟩
        refine TL.pure (PV.assign rfl) rfl (by decide) ?_
        refine TL.nil ?_
        refine TX.next (.inr (by kernel_rfl)) ?_
        refine TX.step [9] (by kernel_rfl) (by decide) ⟨⟨_, rfl, ?_⟩, trivial⟩
        refine TL.pure (PV.assign rfl) rfl (by decide) ?_
        refine TL.nil ?_
        refine TX.next (.inr (by kernel_rfl)) ?_
        refine TX.done (by kernel_rfl) ?_
        refine TQ.thenC ?_
        refine TC.seq ?_
        have hnr := num_ok (num_val hbad) hnb.res
        have hub := hh9.1.ok (by omega)
        have hol := ovr_p hnb hub
        refine TC.region ?_
        refine TL.pure (PV.loadBox rfl Tb.agg_24 (by repeat (first | exact List.Mem.head _ | refine List.Mem.tail _ ?_ | refine List.mem_append_right _ ?_)) rfl) rfl (by decide) ?_
        refine TL.pure (PV.move rfl) rfl (by decide) ?_
        refine TL.call rfl Tb.gofn_78 (fun a w hs => (by rw [gval_eq hh9.2]; exact rest_ok w _ _ _ (hr.new hs.new) _ _ h9.2 (IntsAt.g (x := h9) hs.new (fun yy hyy => by repeat (first | exact List.mem_append_left _ hyy | exact List.mem_append_left _ (List.mem_append_right _ hyy) | exact List.mem_append_left _ (List.mem_append_left _ hyy) | refine List.mem_append_right _ ?_ | refine List.Mem.tail _ ?_)) hh9.2) hub.ho.toNB)) rfl (by decide) (fun b6 hb6 => ?_)
        refine TL.pure (PV.assign rfl) rfl (by decide) ?_
        refine TL.pure (PV.assign rfl) rfl (by decide) ?_
        refine TL.pure (PV.assign rfl) rfl (by decide) ?_
        refine TL.nil ?_
        refine TQ.thenC ?_
        refine TC.ret ?_
        refine TQ.retE3 rfl rfl rfl rfl ?_
        exact ⟨(some (b6, h9.2.length, []), resL ls h9.2, true), by rw [Decidable.of_not_not hbad]; simp [gval, res_len], ⟨⟨fun h2 => absurd h2 hbad, fun _ => ⟨hol, rfl⟩⟩, by refine ⟨by simp [ival], ?_⟩; simp [ival, res_len]⟩, by rw [gbI_blk]; exact List.Sublist.cons_cons _ (List.nil_sublist _)⟩
      · skip
        refine TL.pure (PV.assign rfl) rfl (by decide) ?_
        refine TL.nil ?_
        refine TX.next (.inr (by kernel_rfl)) ?_
        refine TX.step [7] (by kernel_rfl) (by decide) ⟨⟨_, rfl, ?_⟩, trivial⟩
        refine TL.pure (PV.extract rfl rfl) rfl (by decide) ?_
        refine TL.nil ?_
        refine TX.next (.inl (by repeat (first | exact List.Sublist.slnil | exact List.nil_sublist _ | exact List.Sublist.refl _ | refine List.Sublist.cons_cons _ ?_ | refine List.Sublist.cons _ ?_ | refine List.Sublist.trans ?_ (List.sublist_append_right _ _)))) ?_
        refine TX.step [9] (by kernel_rfl) (by decide) ⟨⟨_, rfl, ?_⟩, trivial⟩
        refine TL.pure (PV.assign rfl) rfl (by decide) ?_
        refine TL.nil ?_
        refine TX.next (.inr (by kernel_rfl)) ?_
        refine TX.done (by kernel_rfl) ?_
        refine TQ.thenC ?_
        refine TC.seq ?_
        have hnr := num_ok (num_val hbad) hnb.res
        have hub := hh9.1.ok (by omega)
        have hol := ovr_p hnb hub
        refine TC.region ?_
        refine TL.pure (PV.loadBox rfl Tb.agg_24 (by repeat (first | exact List.Mem.head _ | refine List.Mem.tail _ ?_ | refine List.mem_append_right _ ?_)) rfl) rfl (by decide) ?_
        refine TL.pure (PV.move rfl) rfl (by decide) ?_
        refine TL.call rfl Tb.gofn_78 (fun a w hs => (by rw [gval_eq hh9.2]; exact rest_ok w _ _ _ (hr.new hs.new) _ _ h9.2 (IntsAt.g (x := h9) hs.new (fun yy hyy => by repeat (first | exact List.mem_append_left _ hyy | exact List.mem_append_left _ (List.mem_append_right _ hyy) | exact List.mem_append_left _ (List.mem_append_left _ hyy) | refine List.mem_append_right _ ?_ | refine List.Mem.tail _ ?_)) hh9.2) hub.ho.toNB)) rfl (by decide) (fun b6 hb6 => ?_)
        refine TL.pure (PV.assign rfl) rfl (by decide) ?_
        refine TL.pure (PV.assign rfl) rfl (by decide) ?_
        refine TL.pure (PV.assign rfl) rfl (by decide) ?_
        refine TL.nil ?_
        refine TQ.thenC ?_
        refine TC.ret ?_
        refine TQ.retE3 rfl rfl rfl rfl ?_
        exact ⟨(some (b6, h9.2.length, []), resL ls h9.2, true), by rw [Decidable.of_not_not hbad]; simp [gval, res_len], ⟨⟨fun h2 => absurd h2 hbad, fun _ => ⟨hol, rfl⟩⟩, by refine ⟨by simp [ival], ?_⟩; simp [ival, res_len]⟩, by rw [gbI_blk]; exact List.Sublist.cons_cons _ (List.nil_sublist _)⟩
    · skip
      refine TL.pure (PV.extract rfl rfl) rfl (by decide) ?_
      refine TL.nil ?_
      refine TX.next (.inl (by repeat (first | exact List.Sublist.slnil | exact List.nil_sublist _ | exact List.Sublist.refl _ | refine List.Sublist.cons_cons _ ?_ | refine List.Sublist.cons _ ?_ | refine List.Sublist.trans ?_ (List.sublist_append_right _ _)))) ?_
      refine TX.step [6] (by kernel_rfl) (by decide) ⟨⟨_, rfl, ?_⟩, trivial⟩
      refine TL.pure (PV.extract rfl rfl) rfl (by decide) ?_
      refine TL.nil ?_
      refine TX.next (.inl (by repeat (first | exact List.Sublist.slnil | exact List.nil_sublist _ | exact List.Sublist.refl _ | refine List.Sublist.cons_cons _ ?_ | refine List.Sublist.cons _ ?_ | refine List.Sublist.trans ?_ (List.sublist_append_right _ _)))) ?_
      refine TX.step [8] (by kernel_rfl) (by decide) ⟨⟨_, rfl, ?_⟩, trivial⟩
      refine TL.pure (PV.assign rfl) rfl (by decide) ?_
      refine TL.nil ?_
      refine TX.next (.inr (by kernel_rfl)) ?_
      refine TX.step [9] (by kernel_rfl) (by decide) ⟨⟨_, rfl, ?_⟩, trivial⟩
      refine TL.pure (PV.assign rfl) rfl (by decide) ?_
      refine TL.nil ?_
      refine TX.next (.inr (by kernel_rfl)) ?_
      refine TX.done (by kernel_rfl) ?_
      refine TQ.thenC ?_
      refine TC.seq ?_
      have hnr := num_ok (num_val hbad) hnb.res
      have hub := hh9.1.ok (by omega)
      have hol := ovr_p hnb hub
      refine TC.region ?_
      refine TL.pure (PV.loadBox rfl Tb.agg_24 (by repeat (first | exact List.Mem.head _ | refine List.Mem.tail _ ?_ | refine List.mem_append_right _ ?_)) rfl) rfl (by decide) ?_
      refine TL.pure (PV.move rfl) rfl (by decide) ?_
      refine TL.call rfl Tb.gofn_78 (fun a w hs => (by rw [gval_eq hh9.2]; exact rest_ok w _ _ _ (hr.new hs.new) _ _ h9.2 (IntsAt.g (x := h9) hs.new (fun yy hyy => by repeat (first | exact List.mem_append_left _ hyy | exact List.mem_append_left _ (List.mem_append_right _ hyy) | exact List.mem_append_left _ (List.mem_append_left _ hyy) | refine List.mem_append_right _ ?_ | refine List.Mem.tail _ ?_)) hh9.2) hub.ho.toNB)) rfl (by decide) (fun b6 hb6 => ?_)
      refine TL.pure (PV.assign rfl) rfl (by decide) ?_
      refine TL.pure (PV.assign rfl) rfl (by decide) ?_
      refine TL.pure (PV.assign rfl) rfl (by decide) ?_
      refine TL.nil ?_
      refine TQ.thenC ?_
      refine TC.ret ?_
      refine TQ.retE3 rfl rfl rfl rfl ?_
      exact ⟨(some (b6, h9.2.length, []), resL ls h9.2, true), by rw [Decidable.of_not_not hbad]; simp [gval, res_len], ⟨⟨fun h2 => absurd h2 hbad, fun _ => ⟨hol, rfl⟩⟩, by refine ⟨by simp [ival], ?_⟩; simp [ival, res_len]⟩, by rw [gbI_blk]; exact List.Sublist.cons_cons _ (List.nil_sublist _)⟩

set_option maxRecDepth 100000 in
set_option maxHeartbeats 4000000 in
theorem rUnder_ok (w0 : World) (p : Option Addr) (cap : Nat) (ls : List (List Int)) (hr : LsAt w0 p ls) (pl : Option Addr) (cl : Nat) (xs : List Int) (hx : IntsAt w0 pl xs) :
    Calls Try.prog 36 #[bv p ls.length cap, .slice pl xs.length cl] w0 (Post (X := HD × List Int) (fun y => .tuple #[gval y.1 y.2.length, .int .i64 (numI ls xs)]) (fun y => UnP ls xs y.2 ∧ goI y) (fun y => gbI y) w0) := by
  refine calls Try.func36 rfl (n := 39) rfl (by simp) ?_
  refine TC.seq ?_
  refine TC.region ?_
  refine TL.box rfl rfl (by decide) (fun b0 hb0 => ?_)
  refine TL.pure (PV.assign rfl) rfl (by decide) ?_
  refine TL.pure (PV.assign rfl) rfl (by decide) ?_
  refine TL.nil ?_
  refine TQ.thenC ?_
  refine TC.seq ?_
  refine TC.region ?_
  refine TL.pure (PV.loadBox rfl Tb.agg_24 (by repeat (first | exact List.Mem.head _ | refine List.Mem.tail _ ?_ | refine List.mem_append_right _ ?_)) rfl) rfl (by decide) ?_
  refine TL.pure (PV.move rfl) rfl (by decide) ?_
  refine TL.call rfl Tb.gofn_66 (fun a w hs => rnum_ok w _ _ _ (hr.new hs.new) _ _ _ (hx.new hs.new)) rfl (by decide) (fun _ _ => ?_)
  refine TL.pure (PV.assign rfl) rfl (by decide) ?_
  refine TL.nil ?_
  refine TQ.thenC ?_
  refine TC.seq ?_
  refine TC.seq ?_
  refine TC.region ?_
  refine TL.pure (PV.move rfl) rfl (by decide) ?_
  refine TL.pure (PV.neq rfl rfl) rfl (by decide) ?_
  refine TL.nil ?_
  refine TQ.thenC ?_
  first | refine TC.condD rfl (fun hbad => ?_) (fun hbad => ?_) | refine TC.cond rfl (fun hbad => ?_) (fun hbad => ?_)
  · skip
    refine TC.seq ?_
    refine TC.region ?_
    refine TL.pure (PV.move rfl) rfl (by decide) ?_
    refine TL.pure (PV.assign rfl) rfl (by decide) ?_
    refine TL.pure (PV.assign rfl) rfl (by decide) ?_
    refine TL.nil ?_
    refine TQ.thenC ?_
    refine TC.ret ?_
    refine TQ.thenR ?_
    refine TQ.retE2 rfl rfl rfl ?_
    exact ⟨(none, []), rfl, ⟨⟨fun _ => rfl, fun h2 => absurd hbad h2⟩, goI_nil⟩, List.nil_sublist _⟩
  · skip
    refine TC.skip ?_
    refine TQ.thenC ?_
    refine TC.seq ?_
    have hnb := nb_of hbad
    have hb := hnb.vb
    have hn9 := hb.n
    have hd9 := hb.d
    have hxl := hnb.len
    have hal : (allH ls).length ≤ 15625 := Nat.le_trans (all_len hd9.2 ls.length) (pow_6 hn9.2)
    refine TC.region ?_
    refine TL.pure (PV.loadBox rfl Tb.agg_24 (by repeat (first | exact List.Mem.head _ | refine List.Mem.tail _ ?_ | refine List.mem_append_right _ ?_)) rfl) rfl (by decide) ?_
    refine TL.call rfl Tb.gofn_77 (fun a w hs => all_ok w _ _ _ (hr.new hs.new) hb) rfl (by decide) (fun y9 hy9 => ?_)
    refine TL.pure (PV.assign rfl) rfl (by decide) ?_
    refine TL.nil ?_
    refine TQ.thenC ?_
    refine TC.seq ?_
    have hyl : y9.2.length = (allH ls).length := hy9.len
    refine TC.region ?_
    refine TL.pure (PV.assign rfl) rfl (by decide) ?_
    refine TL.nil ?_
    refine TQ.thenC ?_
    refine TC.seq ?_
    refine TC.seq ?_
    refine TC.region ?_
    refine TL.pure (PV.assign rfl) rfl (by decide) ?_
    refine TL.nil ?_
    refine TQ.thenC ?_
    refine TC.block ?_
    refine TC.lit [(1, _), (4, _), (5, _), (7, _), (8, _), (9, _)] (by repeat (first | exact True.intro | refine And.intro rfl ?_)) ?_
    refine TC.loopK [1, 4, 5, 7] (X := Nat × HD × List (HD × List Int)) (fun i => SlI (fun t => lieB t xs) (allH ls) y9.2 i.1 i.2) (fun i => [(9, .int .i64 i.1), (8, gvP i.2)]) (fun i => gbP i.2 ++ ((gbP y9 ++ bl y9.2) ++ [(b0, Obj.cells #[.slice p ls.length cap] 24 (0, 0))])) (fun i => (allH ls).length - i.1) (0, none, []) (SlI.zero _ _ _) (by repeat (first | exact True.intro | refine And.intro rfl ?_)) (List.Sublist.refl _) ?_
    intro i hi
    have hile := hi.le
    refine TC.lit [(1, _), (4, _), (5, _), (7, _), (8, _), (9, _)] (by repeat (first | exact True.intro | refine And.intro rfl ?_)) ?_
    refine TC.seq ?_
    refine TC.seq ?_
    refine TC.region ?_
    refine TL.pure (PV.move rfl) rfl (by decide) ?_
    refine TL.pure (PV.move rfl) rfl (by decide) ?_
    refine TL.pure (PV.lenG rfl hy9.ok Tb.sl_22) rfl (by decide) ?_
    refine TL.pure (PV.lss rfl rfl) rfl (by decide) ?_
    refine TL.nil ?_
    refine TQ.thenC ?_
    first | refine TC.condD rfl (fun h1 => ?_) (fun h1 => ?_) | refine TC.cond rfl (fun h1 => ?_) (fun h1 => ?_)
    · skip
      refine TC.skip ?_
      refine TQ.thenC ?_
      refine TC.seq ?_
      refine TC.block ?_
      refine TC.seq ?_
      have hil : i.1 < (allH ls).length := by rw [← hyl]; omega
      obtain ⟨hro, hre, hrm⟩ := hy9.row hil
      have hrs := ho_short ((all_ho hb _).1 (getD_mem hil))
      refine TC.region ?_
      refine TL.pure (PV.move rfl) rfl (by decide) ?_
      refine TL.pure (PV.move rfl) rfl (by decide) ?_
      refine TL.pure (PV.indexG (j := i.1) rfl rfl hy9.ok Tb.elm_22 rfl (by omega)) rfl (by decide) ?_
      refine TL.pure (PV.loadGP (y := y9) (j := i.1) (v := gvI (y9.2.getD i.1 (none, []))) rfl Tb.one_25 (fun yy hyy => by repeat (first | exact List.mem_append_left _ hyy | exact List.mem_append_left _ (List.mem_append_right _ hyy) | exact List.mem_append_left _ (List.mem_append_left _ hyy) | refine List.mem_append_right _ ?_ | refine List.Mem.tail _ ?_)) hy9.ok (by omega) rfl) rfl (by decide) ?_
      refine TL.pure (PV.move rfl) rfl (by decide) ?_
      refine TL.call rfl Tb.gofn_30 (fun a w hs => (by rw [show gvI (y9.2.getD i.1 (none, [])) = .slice (gp (y9.2.getD i.1 (none, [])).1) (y9.2.getD i.1 (none, [])).2.length (gc (y9.2.getD i.1 (none, [])).1) from gval_eq hro]; exact liesIn_ok w _ (gc (y9.2.getD i.1 (none, [])).1) (y9.2.getD i.1 (none, [])).2 (IntsAt.g (x := (y9.2.getD i.1 (none, []))) hs.new (fun yy hyy => by have := bl_mem hrm yy hyy; simp only [List.mem_append, List.mem_cons]; simp [this]) hro) _ _ _ (hx.new hs.new) _ _ rfl rfl (by rw [hre]; exact hrs) (by omega))) rfl (by decide) (fun _ _ => ?_)
      refine TL.nil ?_
      refine TQ.thenC ?_
      first | refine TC.condD rfl (fun hl => ?_) (fun hl => ?_) | refine TC.cond rfl (fun hl => ?_) (fun hl => ?_)
      · skip
        refine TC.region ?_
        refine TL.pure (PV.move rfl) rfl (by decide) ?_
        refine TL.pure (PV.move rfl) rfl (by decide) ?_
        refine TL.pure (PV.move rfl) rfl (by decide) ?_
        refine TL.pure (PV.indexG (j := i.1) rfl rfl hy9.ok Tb.elm_22 rfl (by omega)) rfl (by decide) ?_
        refine TL.pure (PV.loadGP (y := y9) (j := i.1) (v := gvI (y9.2.getD i.1 (none, []))) rfl Tb.one_25 (fun yy hyy => by repeat (first | exact List.mem_append_left _ hyy | exact List.mem_append_left _ (List.mem_append_right _ hyy) | exact List.mem_append_left _ (List.mem_append_left _ hyy) | refine List.mem_append_right _ ?_ | refine List.Mem.tail _ ?_)) hy9.ok (by omega) rfl) rfl (by decide) ?_
        refine TL.buildSlice (cs := #[gvI (y9.2.getD i.1 (none, []))]) rfl Tb.sl_22 Tb.zi_25 (by decide) (fill_g _ _) (by decide) rfl (by decide) (fun bO hbO => ?_)
        refine TL.appendP (x0 := i.2) (y := (y9.2.getD i.1 (none, []))) rfl rfl (by repeat (first | exact List.Mem.head _ | refine List.Mem.tail _ ?_ | refine List.mem_append_right _ ?_)) hi.g.ok (by repeat (first | exact TakeH.here _ _ _ _ | apply TakeH.tail | apply TakeH.app)) (by have := hi.g.len; have := List.length_filter_le (fun t => lieB t xs) ((allH ls).take i.1); rw [List.length_take] at this; unfold selL at *; omega) rfl (by decide) (fun hP_ hP => ?_)
        let nx : Nat × HD × List (HD × List Int) := (i.1 + 1, hP_, i.2.2 ++ [(y9.2.getD i.1 (none, []))])
        have hn1 : nx.1 = i.1 + 1 := rfl
        have hnx : SlI (fun t => lieB t xs) (allH ls) y9.2 nx.1 nx.2 := hi.put hil hre hrm hro (by first | exact hl | exact decide_eq_true hl) hP
        refine TL.pure (PV.assign rfl) rfl (by decide) ?_
        refine TL.nil ?_
        refine TQ.blkN ?_
        refine TQ.thenC ?_
        refine TC.region ?_
        refine TL.pure (PV.move rfl) rfl (by decide) ?_
        refine TL.pure (PV.add rfl rfl (by omega)) rfl (by decide) ?_
        refine TL.pure (PV.assign rfl) rfl (by decide) ?_
        refine TL.nil ?_
        refine TQ.thenN ?_
        refine TQ.backK nx (by repeat (first | exact True.intro | refine And.intro rfl ?_)) (by repeat (first | exact True.intro | refine And.intro rfl ?_)) (by first | exact List.Sublist.refl _ | exact List.Sublist.append_left (List.Sublist.cons _ (List.Sublist.refl _)) _) hnx (by omega)
      · skip
        let nx : Nat × HD × List (HD × List Int) := (i.1 + 1, i.2)
        have hn1 : nx.1 = i.1 + 1 := rfl
        have hnx : SlI (fun t => lieB t xs) (allH ls) y9.2 nx.1 nx.2 := hi.skip hil (by rw [← hre]; first | exact hl | exact decide_eq_false hl | simpa using hl)
        refine TC.skip ?_
        refine TQ.blkN ?_
        refine TQ.thenC ?_
        refine TC.region ?_
        refine TL.pure (PV.move rfl) rfl (by decide) ?_
        refine TL.pure (PV.add rfl rfl (by omega)) rfl (by decide) ?_
        refine TL.pure (PV.assign rfl) rfl (by decide) ?_
        refine TL.nil ?_
        refine TQ.thenN ?_
        refine TQ.backK nx (by repeat (first | exact True.intro | refine And.intro rfl ?_)) (by repeat (first | exact True.intro | refine And.intro rfl ?_)) (by first | exact List.Sublist.refl _ | exact List.Sublist.append_left (List.Sublist.cons _ (List.Sublist.refl _)) _) hnx (by omega)
    · skip
      refine TC.exit ?_
      refine TQ.thenE ?_
      refine TQ.thenE ?_
      refine TQ.blkS ?_
      refine TQ.thenC ?_
      refine TC.seq ?_
      have hie : i.1 = (allH ls).length := by rw [← hyl]; omega
      have hig : i.2.2.map (·.2) = selL (fun t => lieB t xs) (allH ls) := by have h7 := hi.g.eq; rw [hie, List.take_length] at h7; exact h7
      have hgl : i.2.2.length = (selL (fun t => lieB t xs) (allH ls)).length := by rw [← hig, List.length_map]
      have hpos : 0 < i.2.2.length := by rw [hgl]; exact und_pos hb hnb
      have hil9 : i.2.2.length ≤ 1000000 := by rw [hgl]; exact Nat.le_trans (List.length_filter_le _ _) (by omega)
      have hrows : ∀ j, j < (i.2.2.map (·.2)).length → ((i.2.2.map (·.2)).getD j []).length = ls.length := fun j hj => by rw [hig] at hj ⊢; exact ((all_ho hb _).1 (List.mem_filter.1 (getD_mem hj)).1).len
      refine TC.region ?_
      refine TL.pure (PV.move rfl) rfl (by decide) ?_
      refine TL.call rfl Tb.gofn_73 (fun a w hs => (by rw [show gvP i.2 = .slice (gp i.2.1) i.2.2.length (gc i.2.1) from gval_eq hi.g.ok]; exact most_ok w _ (gc i.2.1) (i.2.2.map (·.2)) (LsAt.gP (x := i.2) hs.new (fun yy hyy => by repeat (first | exact List.mem_append_left _ hyy | exact List.mem_append_left _ (List.mem_append_right _ hyy) | exact List.mem_append_left _ (List.mem_append_left _ hyy) | refine List.mem_append_right _ ?_ | refine List.Mem.tail _ ?_)) (fun z hz yy hyy => by have := bl_mem (hi.sub z hz) yy hyy; simp only [List.mem_append, List.mem_cons]; simp [this]) hi.g.ok hi.g.all) i.2.2.length (by simp) hpos hil9 ls.length hrows (by omega))) rfl (by decide) (fun h9 hh9 => ?_)
      refine TL.pure (PV.assign rfl) rfl (by decide) ?_
      refine TL.pure (PV.assign rfl) rfl (by decide) ?_
      refine TL.nil ?_
      refine TQ.thenC ?_
      refine TC.ret ?_
      refine TQ.retE2 rfl rfl rfl ?_
      rw [hig] at hh9
      have hbf := fold_und (l := (selL (fun t => lieB t xs) (allH ls))) (fun t => undE hb hnb) (und_pos hb hnb)
      exact ⟨(h9, fldJ max ((selL (fun t => lieB t xs) (allH ls)).getD 0 []) (selL (fun t => lieB t xs) (allH ls)) (selL (fun t => lieB t xs) (allH ls)).length), by rw [Decidable.of_not_not hbad, hbf.ho.len], ⟨⟨fun h2 => absurd h2 hbad, fun _ => hbf⟩, go_lenI hh9 hbf.ho.len⟩, by rw [hig]; exact List.sublist_append_left _ _⟩

set_option maxRecDepth 100000 in
set_option maxHeartbeats 4000000 in
theorem rOver_ok (w0 : World) (p : Option Addr) (cap : Nat) (ls : List (List Int)) (hr : LsAt w0 p ls) (pl : Option Addr) (cl : Nat) (xs : List Int) (hx : IntsAt w0 pl xs) :
    Calls Try.prog 38 #[bv p ls.length cap, .slice pl xs.length cl] w0 (Post (X := HD × List Int × Bool) (fun y => .tuple #[gval y.1 y.2.1.length, .bool y.2.2, .int .i64 (numI ls xs)]) (fun y => OvP ls xs y.2.1 y.2.2 ∧ goI (y.1, y.2.1)) (fun y => gbI (y.1, y.2.1)) w0) := by
  refine calls Try.func38 rfl (n := 40) rfl (by simp) ?_
  refine TC.seq ?_
  refine TC.region ?_
  refine TL.box rfl rfl (by decide) (fun b0 hb0 => ?_)
  refine TL.pure (PV.assign rfl) rfl (by decide) ?_
  refine TL.pure (PV.assign rfl) rfl (by decide) ?_
  refine TL.pure (PV.assign rfl) rfl (by decide) ?_
  refine TL.nil ?_
  refine TQ.thenC ?_
  refine TC.seq ?_
  refine TC.region ?_
  refine TL.pure (PV.loadBox rfl Tb.agg_24 (by repeat (first | exact List.Mem.head _ | refine List.Mem.tail _ ?_ | refine List.mem_append_right _ ?_)) rfl) rfl (by decide) ?_
  refine TL.pure (PV.move rfl) rfl (by decide) ?_
  refine TL.call rfl Tb.gofn_66 (fun a w hs => rnum_ok w _ _ _ (hr.new hs.new) _ _ _ (hx.new hs.new)) rfl (by decide) (fun _ _ => ?_)
  refine TL.pure (PV.assign rfl) rfl (by decide) ?_
  refine TL.nil ?_
  refine TQ.thenC ?_
  refine TC.seq ?_
  refine TC.seq ?_
  refine TC.region ?_
  refine TL.pure (PV.move rfl) rfl (by decide) ?_
  refine TL.pure (PV.neq rfl rfl) rfl (by decide) ?_
  refine TL.nil ?_
  refine TQ.thenC ?_
  first | refine TC.condD rfl (fun hbad => ?_) (fun hbad => ?_) | refine TC.cond rfl (fun hbad => ?_) (fun hbad => ?_)
  · skip
    refine TC.seq ?_
    refine TC.region ?_
    refine TL.pure (PV.move rfl) rfl (by decide) ?_
    refine TL.pure (PV.assign rfl) rfl (by decide) ?_
    refine TL.pure (PV.assign rfl) rfl (by decide) ?_
    refine TL.pure (PV.assign rfl) rfl (by decide) ?_
    refine TL.nil ?_
    refine TQ.thenC ?_
    refine TC.ret ?_
    refine TQ.thenR ?_
    refine TQ.retE3 rfl rfl rfl rfl ?_
    exact ⟨(none, [], false), rfl, ⟨⟨fun _ => ⟨rfl, rfl⟩, fun h2 => absurd hbad h2⟩, goI_nil⟩, List.nil_sublist _⟩
  · skip
    refine TC.skip ?_
    refine TQ.thenC ?_
    refine TC.seq ?_
    have hnb := nb_of hbad
    have hb := hnb.vb
    have hn9 := hb.n
    have hd9 := hb.d
    have hxl := hnb.len
    have hal : (allH ls).length ≤ 15625 := Nat.le_trans (all_len hd9.2 ls.length) (pow_6 hn9.2)
    refine TC.region ?_
    refine TL.pure (PV.loadBox rfl Tb.agg_24 (by repeat (first | exact List.Mem.head _ | refine List.Mem.tail _ ?_ | refine List.mem_append_right _ ?_)) rfl) rfl (by decide) ?_
    refine TL.call rfl Tb.gofn_77 (fun a w hs => all_ok w _ _ _ (hr.new hs.new) hb) rfl (by decide) (fun y9 hy9 => ?_)
    refine TL.pure (PV.assign rfl) rfl (by decide) ?_
    refine TL.nil ?_
    refine TQ.thenC ?_
    refine TC.seq ?_
    have hyl : y9.2.length = (allH ls).length := hy9.len
    refine TC.region ?_
    refine TL.pure (PV.assign rfl) rfl (by decide) ?_
    refine TL.nil ?_
    refine TQ.thenC ?_
    refine TC.seq ?_
    refine TC.seq ?_
    refine TC.region ?_
    refine TL.pure (PV.assign rfl) rfl (by decide) ?_
    refine TL.nil ?_
    refine TQ.thenC ?_
    refine TC.block ?_
    refine TC.lit [(1, _), (4, _), (5, _), (6, _), (8, _), (9, _), (10, _)] (by repeat (first | exact True.intro | refine And.intro rfl ?_)) ?_
    refine TC.loopK [1, 4, 5, 6, 8] (X := Nat × HD × List (HD × List Int)) (fun i => SlI (fun t => lieB xs t) (allH ls) y9.2 i.1 i.2) (fun i => [(10, .int .i64 i.1), (9, gvP i.2)]) (fun i => gbP i.2 ++ ((gbP y9 ++ bl y9.2) ++ [(b0, Obj.cells #[.slice p ls.length cap] 24 (0, 0))])) (fun i => (allH ls).length - i.1) (0, none, []) (SlI.zero _ _ _) (by repeat (first | exact True.intro | refine And.intro rfl ?_)) (List.Sublist.refl _) ?_
    intro i hi
    have hile := hi.le
    refine TC.lit [(1, _), (4, _), (5, _), (6, _), (8, _), (9, _), (10, _)] (by repeat (first | exact True.intro | refine And.intro rfl ?_)) ?_
    refine TC.seq ?_
    refine TC.seq ?_
    refine TC.region ?_
    refine TL.pure (PV.move rfl) rfl (by decide) ?_
    refine TL.pure (PV.move rfl) rfl (by decide) ?_
    refine TL.pure (PV.lenG rfl hy9.ok Tb.sl_22) rfl (by decide) ?_
    refine TL.pure (PV.lss rfl rfl) rfl (by decide) ?_
    refine TL.nil ?_
    refine TQ.thenC ?_
    first | refine TC.condD rfl (fun h1 => ?_) (fun h1 => ?_) | refine TC.cond rfl (fun h1 => ?_) (fun h1 => ?_)
    · skip
      refine TC.skip ?_
      refine TQ.thenC ?_
      refine TC.seq ?_
      refine TC.block ?_
      refine TC.seq ?_
      have hil : i.1 < (allH ls).length := by rw [← hyl]; omega
      obtain ⟨hro, hre, hrm⟩ := hy9.row hil
      have hrs := ho_short ((all_ho hb _).1 (getD_mem hil))
      refine TC.region ?_
      refine TL.pure (PV.move rfl) rfl (by decide) ?_
      refine TL.pure (PV.move rfl) rfl (by decide) ?_
      refine TL.pure (PV.move rfl) rfl (by decide) ?_
      refine TL.pure (PV.indexG (j := i.1) rfl rfl hy9.ok Tb.elm_22 rfl (by omega)) rfl (by decide) ?_
      refine TL.pure (PV.loadGP (y := y9) (j := i.1) (v := gvI (y9.2.getD i.1 (none, []))) rfl Tb.one_25 (fun yy hyy => by repeat (first | exact List.mem_append_left _ hyy | exact List.mem_append_left _ (List.mem_append_right _ hyy) | exact List.mem_append_left _ (List.mem_append_left _ hyy) | refine List.mem_append_right _ ?_ | refine List.Mem.tail _ ?_)) hy9.ok (by omega) rfl) rfl (by decide) ?_
      refine TL.call rfl Tb.gofn_30 (fun a w hs => (by rw [show gvI (y9.2.getD i.1 (none, [])) = .slice (gp (y9.2.getD i.1 (none, [])).1) (y9.2.getD i.1 (none, [])).2.length (gc (y9.2.getD i.1 (none, [])).1) from gval_eq hro]; exact liesIn_ok w _ _ _ (hx.new hs.new) _ (gc (y9.2.getD i.1 (none, [])).1) (y9.2.getD i.1 (none, [])).2 (IntsAt.g (x := (y9.2.getD i.1 (none, []))) hs.new (fun yy hyy => by have := bl_mem hrm yy hyy; simp only [List.mem_append, List.mem_cons]; simp [this]) hro) _ _ rfl rfl (by omega) (by rw [hre]; exact hrs))) rfl (by decide) (fun _ _ => ?_)
      refine TL.nil ?_
      refine TQ.thenC ?_
      first | refine TC.condD rfl (fun hl => ?_) (fun hl => ?_) | refine TC.cond rfl (fun hl => ?_) (fun hl => ?_)
      · skip
        refine TC.region ?_
        refine TL.pure (PV.move rfl) rfl (by decide) ?_
        refine TL.pure (PV.move rfl) rfl (by decide) ?_
        refine TL.pure (PV.move rfl) rfl (by decide) ?_
        refine TL.pure (PV.indexG (j := i.1) rfl rfl hy9.ok Tb.elm_22 rfl (by omega)) rfl (by decide) ?_
        refine TL.pure (PV.loadGP (y := y9) (j := i.1) (v := gvI (y9.2.getD i.1 (none, []))) rfl Tb.one_25 (fun yy hyy => by repeat (first | exact List.mem_append_left _ hyy | exact List.mem_append_left _ (List.mem_append_right _ hyy) | exact List.mem_append_left _ (List.mem_append_left _ hyy) | refine List.mem_append_right _ ?_ | refine List.Mem.tail _ ?_)) hy9.ok (by omega) rfl) rfl (by decide) ?_
        refine TL.buildSlice (cs := #[gvI (y9.2.getD i.1 (none, []))]) rfl Tb.sl_22 Tb.zi_25 (by decide) (fill_g _ _) (by decide) rfl (by decide) (fun bO hbO => ?_)
        refine TL.appendP (x0 := i.2) (y := (y9.2.getD i.1 (none, []))) rfl rfl (by repeat (first | exact List.Mem.head _ | refine List.Mem.tail _ ?_ | refine List.mem_append_right _ ?_)) hi.g.ok (by repeat (first | exact TakeH.here _ _ _ _ | apply TakeH.tail | apply TakeH.app)) (by have := hi.g.len; have := List.length_filter_le (fun t => lieB xs t) ((allH ls).take i.1); rw [List.length_take] at this; unfold selL at *; omega) rfl (by decide) (fun hP_ hP => ?_)
        let nx : Nat × HD × List (HD × List Int) := (i.1 + 1, hP_, i.2.2 ++ [(y9.2.getD i.1 (none, []))])
        have hn1 : nx.1 = i.1 + 1 := rfl
        have hnx : SlI (fun t => lieB xs t) (allH ls) y9.2 nx.1 nx.2 := hi.put hil hre hrm hro (by first | exact hl | exact decide_eq_true hl) hP
        refine TL.pure (PV.assign rfl) rfl (by decide) ?_
        refine TL.nil ?_
        refine TQ.blkN ?_
        refine TQ.thenC ?_
        refine TC.region ?_
        refine TL.pure (PV.move rfl) rfl (by decide) ?_
        refine TL.pure (PV.add rfl rfl (by omega)) rfl (by decide) ?_
        refine TL.pure (PV.assign rfl) rfl (by decide) ?_
        refine TL.nil ?_
        refine TQ.thenN ?_
        refine TQ.backK nx (by repeat (first | exact True.intro | refine And.intro rfl ?_)) (by repeat (first | exact True.intro | refine And.intro rfl ?_)) (by first | exact List.Sublist.refl _ | exact List.Sublist.append_left (List.Sublist.cons _ (List.Sublist.refl _)) _) hnx (by omega)
      · skip
        let nx : Nat × HD × List (HD × List Int) := (i.1 + 1, i.2)
        have hn1 : nx.1 = i.1 + 1 := rfl
        have hnx : SlI (fun t => lieB xs t) (allH ls) y9.2 nx.1 nx.2 := hi.skip hil (by rw [← hre]; first | exact hl | exact decide_eq_false hl | simpa using hl)
        refine TC.skip ?_
        refine TQ.blkN ?_
        refine TQ.thenC ?_
        refine TC.region ?_
        refine TL.pure (PV.move rfl) rfl (by decide) ?_
        refine TL.pure (PV.add rfl rfl (by omega)) rfl (by decide) ?_
        refine TL.pure (PV.assign rfl) rfl (by decide) ?_
        refine TL.nil ?_
        refine TQ.thenN ?_
        refine TQ.backK nx (by repeat (first | exact True.intro | refine And.intro rfl ?_)) (by repeat (first | exact True.intro | refine And.intro rfl ?_)) (by first | exact List.Sublist.refl _ | exact List.Sublist.append_left (List.Sublist.cons _ (List.Sublist.refl _)) _) hnx (by omega)
    · skip
      refine TC.exit ?_
      refine TQ.thenE ?_
      refine TQ.thenE ?_
      refine TQ.blkS ?_
      refine TQ.thenC ?_
      refine TC.seq ?_
      have hie : i.1 = (allH ls).length := by rw [← hyl]; omega
      have hig : i.2.2.map (·.2) = selL (fun t => lieB xs t) (allH ls) := by have h7 := hi.g.eq; rw [hie, List.take_length] at h7; exact h7
      have hgl : i.2.2.length = (selL (fun t => lieB xs t) (allH ls)).length := by rw [← hig, List.length_map]
      have hpos : 0 < i.2.2.length := by rw [hgl]; exact ovr_pos hb hnb
      have hil9 : i.2.2.length ≤ 1000000 := by rw [hgl]; exact Nat.le_trans (List.length_filter_le _ _) (by omega)
      have hrows : ∀ j, j < (i.2.2.map (·.2)).length → ((i.2.2.map (·.2)).getD j []).length = ls.length := fun j hj => by rw [hig] at hj ⊢; exact ((all_ho hb _).1 (List.mem_filter.1 (getD_mem hj)).1).len
      refine TC.region ?_
      refine TL.pure (PV.move rfl) rfl (by decide) ?_
      refine TL.call rfl Tb.gofn_71 (fun a w hs => (by rw [show gvP i.2 = .slice (gp i.2.1) i.2.2.length (gc i.2.1) from gval_eq hi.g.ok]; exact least_ok w _ (gc i.2.1) (i.2.2.map (·.2)) (LsAt.gP (x := i.2) hs.new (fun yy hyy => by repeat (first | exact List.mem_append_left _ hyy | exact List.mem_append_left _ (List.mem_append_right _ hyy) | exact List.mem_append_left _ (List.mem_append_left _ hyy) | refine List.mem_append_right _ ?_ | refine List.Mem.tail _ ?_)) (fun z hz yy hyy => by have := bl_mem (hi.sub z hz) yy hyy; simp only [List.mem_append, List.mem_cons]; simp [this]) hi.g.ok hi.g.all) i.2.2.length (by simp) hpos hil9 ls.length hrows (by omega))) rfl (by decide) (fun h9 hh9 => ?_)
      refine TL.pure (PV.assign rfl) rfl (by decide) ?_
      refine TL.pure (PV.assign rfl) rfl (by decide) ?_
      refine TL.pure (PV.assign rfl) rfl (by decide) ?_
      refine TL.nil ?_
      refine TQ.thenC ?_
      refine TC.ret ?_
      refine TQ.retE3 rfl rfl rfl rfl ?_
      rw [hig] at hh9
      have hbf := fold_ovr (l := (selL (fun t => lieB xs t) (allH ls))) (fun t => ovrE hb hnb) (ovr_pos hb hnb)
      exact ⟨(h9, fldJ min ((selL (fun t => lieB xs t) (allH ls)).getD 0 []) (selL (fun t => lieB xs t) (allH ls)) (selL (fun t => lieB xs t) (allH ls)).length, true), by rw [Decidable.of_not_not hbad, hbf.ho.len], ⟨⟨fun h2 => absurd h2 hbad, fun _ => ⟨hbf, rfl⟩⟩, go_lenI hh9 hbf.ho.len⟩, by rw [hig]; exact List.sublist_append_left _ _⟩

set_option maxRecDepth 100000 in
set_option maxHeartbeats 2000000 in
theorem cutBounds_ok (w0 : World) (p : Option Addr) (cap : Nat) (ls : List (List Int)) (hr : LsAt w0 p ls) (hl2 : ls.length ≤ 9223372036854775807) (hcap : CapsAt w0 p ls) (pl : Option Addr) (cl : Nat) (xs : List Int) (hx : IntsAt w0 pl xs) (p2 : Option Addr) (c2 : Nat) (ys : List Int) (hy : IntsAt w0 p2 ys) :
    Calls Try.prog 6 #[bv p ls.length cap, .slice pl xs.length cl, .slice p2 ys.length c2] w0 (Post (X := Unit) (fun _ => .bool true) (fun _ => True) (fun _ => []) w0) := by
  refine calls Try.func6 rfl (n := 75) rfl (by simp) ?_
  refine TC.seq ?_
  refine TC.region ?_
  refine TL.box rfl rfl (by decide) (fun b0 hb0 => ?_)
  refine TL.pure (PV.assign rfl) rfl (by decide) ?_
  refine TL.nil ?_
  refine TQ.thenC ?_
  refine TC.seq ?_
  refine TC.seq ?_
  refine TC.region ?_
  refine TL.pure (PV.loadBox rfl Tb.agg_24 (by repeat (first | exact List.Mem.head _ | refine List.Mem.tail _ ?_ | refine List.mem_append_right _ ?_)) rfl) rfl (by decide) ?_
  refine TL.pure (PV.move rfl) rfl (by decide) ?_
  refine TL.pure (PV.move rfl) rfl (by decide) ?_
  refine TL.buildSlice (cs := #[.slice pl xs.length cl, .slice p2 ys.length c2]) rfl Tb.sl_22 Tb.zi_25 (by decide) (fill_oo _ _ _ _ _ _) (by decide) rfl (by decide) (fun bS hbS => ?_)
  refine TL.call rfl Tb.gofn_17 (fun a w hs => long_ok w _ _ _ (hr.new hs.new) _ 2 [xs, ys] (LsAt.two hs.new (by repeat (first | exact List.Mem.head _ | refine List.Mem.tail _ ?_ | refine List.mem_append_right _ ?_)) (hx.new hs.new) (hy.new hs.new)) (show 2 ≤ 1000 by decide) hl2) rfl (by decide) (fun _ _ => ?_)
  refine TL.nil ?_
  refine TQ.thenC ?_
  first | refine TC.condD rfl (fun hlong => ?_) (fun hlong => ?_) | refine TC.cond rfl (fun hlong => ?_) (fun hlong => ?_)
  · skip
    refine TC.seq ?_
    refine TC.region ?_
    refine TL.call rfl Tb.gofn_18 (fun a w hs => sane_ok w) rfl (by decide) (fun _ _ => ?_)
    refine TL.pure (PV.assign rfl) rfl (by decide) ?_
    refine TL.nil ?_
    refine TQ.thenC ?_
    refine TC.ret ?_
    refine TQ.thenR ?_
    refine TQ.retE1 rfl rfl ?_
    first | exact ⟨(), rfl, trivial, List.nil_sublist _⟩ | (exfalso; simp_all; done)
  · skip
    refine TC.skip ?_
    refine TQ.thenC ?_
    refine TC.seq ?_
    refine TC.region ?_
    refine TL.pure (PV.loadBox rfl Tb.agg_24 (by repeat (first | exact List.Mem.head _ | refine List.Mem.tail _ ?_ | refine List.mem_append_right _ ?_)) rfl) rfl (by decide) ?_
    refine TL.pure (PV.move rfl) rfl (by decide) ?_
    refine TL.call rfl Tb.gofn_35 (fun a w hs => Under_ok w _ _ _ (hr.new hs.new) _ _ _ (hx.new hs.new)) rfl (by decide) (fun a9 ha9 => ?_)
    refine TL.pure (PV.move rfl) rfl (by decide) ?_
    refine TL.pure (PV.extract rfl rfl) rfl (by decide) ?_
    refine TL.pure (PV.extract rfl rfl) rfl (by decide) ?_
    refine TL.pure (PV.assign rfl) rfl (by decide) ?_
    refine TL.pure (PV.assign rfl) rfl (by decide) ?_
    refine TL.nil ?_
    refine TQ.thenC ?_
    refine TC.seq ?_
    refine TC.region ?_
    refine TL.pure (PV.loadBox rfl Tb.agg_24 (by repeat (first | exact List.Mem.head _ | refine List.Mem.tail _ ?_ | refine List.mem_append_right _ ?_)) rfl) rfl (by decide) ?_
    refine TL.pure (PV.move rfl) rfl (by decide) ?_
    refine TL.call rfl Tb.gofn_36 (fun a w hs => rUnder_ok w _ _ _ (hr.new hs.new) _ _ _ (hx.new hs.new)) rfl (by decide) (fun b9 hb9 => ?_)
    refine TL.pure (PV.move rfl) rfl (by decide) ?_
    refine TL.pure (PV.extract rfl rfl) rfl (by decide) ?_
    refine TL.pure (PV.extract rfl rfl) rfl (by decide) ?_
    refine TL.pure (PV.assign rfl) rfl (by decide) ?_
    refine TL.pure (PV.assign rfl) rfl (by decide) ?_
    refine TL.nil ?_
    refine TQ.thenC ?_
    refine TC.seq ?_
    refine TC.region ?_
    refine TL.pure (PV.loadBox rfl Tb.agg_24 (by repeat (first | exact List.Mem.head _ | refine List.Mem.tail _ ?_ | refine List.mem_append_right _ ?_)) rfl) rfl (by decide) ?_
    refine TL.pure (PV.move rfl) rfl (by decide) ?_
    refine TL.call rfl Tb.gofn_37 (fun a w hs => Over_ok w _ _ _ (hr.new hs.new) _ _ _ (hy.new hs.new)) rfl (by decide) (fun c9 hc9 => ?_)
    refine TL.pure (PV.move rfl) rfl (by decide) ?_
    refine TL.pure (PV.extract rfl rfl) rfl (by decide) ?_
    refine TL.pure (PV.extract rfl rfl) rfl (by decide) ?_
    refine TL.pure (PV.extract rfl rfl) rfl (by decide) ?_
    refine TL.pure (PV.assign rfl) rfl (by decide) ?_
    refine TL.pure (PV.assign rfl) rfl (by decide) ?_
    refine TL.pure (PV.assign rfl) rfl (by decide) ?_
    refine TL.nil ?_
    refine TQ.thenC ?_
    refine TC.seq ?_
    refine TC.region ?_
    refine TL.pure (PV.loadBox rfl Tb.agg_24 (by repeat (first | exact List.Mem.head _ | refine List.Mem.tail _ ?_ | refine List.mem_append_right _ ?_)) rfl) rfl (by decide) ?_
    refine TL.pure (PV.move rfl) rfl (by decide) ?_
    refine TL.call rfl Tb.gofn_38 (fun a w hs => rOver_ok w _ _ _ (hr.new hs.new) _ _ _ (hy.new hs.new)) rfl (by decide) (fun d9 hd9 => ?_)
    refine TL.pure (PV.move rfl) rfl (by decide) ?_
    refine TL.pure (PV.extract rfl rfl) rfl (by decide) ?_
    refine TL.pure (PV.extract rfl rfl) rfl (by decide) ?_
    refine TL.pure (PV.extract rfl rfl) rfl (by decide) ?_
    refine TL.pure (PV.assign rfl) rfl (by decide) ?_
    refine TL.pure (PV.assign rfl) rfl (by decide) ?_
    refine TL.pure (PV.assign rfl) rfl (by decide) ?_
    refine TL.nil ?_
    refine TQ.thenC ?_
    refine TC.seq ?_
    have k1 := ha9.1.unique hb9.1
    obtain ⟨k3, k4⟩ := hc9.1.unique hd9.1
    refine TC.region ?_
    refine TL.pure (PV.move rfl) rfl (by decide) ?_
    refine TL.pure (PV.move rfl) rfl (by decide) ?_
    refine TL.call rfl Tb.gofn_29 (fun a w hs => sameGG w (a9.1) (a9.2) ha9.2 (IntsAt.g (x := (a9.1, a9.2)) hs.new (fun yy hyy => by repeat (first | exact List.mem_append_left _ hyy | exact List.mem_append_left _ (List.mem_append_right _ hyy) | exact List.mem_append_left _ (List.mem_append_left _ hyy) | refine List.mem_append_right _ ?_ | refine List.Mem.tail _ ?_)) ha9.2) (b9.1) (b9.2) hb9.2 (IntsAt.g (x := (b9.1, b9.2)) hs.new (fun yy hyy => by repeat (first | exact List.mem_append_left _ hyy | exact List.mem_append_left _ (List.mem_append_right _ hyy) | exact List.mem_append_left _ (List.mem_append_left _ hyy) | refine List.mem_append_right _ ?_ | refine List.Mem.tail _ ?_)) hb9.2) ha9.1.len hb9.1.len) rfl (by decide) (fun _ _ => ?_)
    refine TL.pure (PV.move rfl) rfl (by decide) ?_
    first | refine TL.splitD 52 rfl (fun h1 => ?_) (fun h1 => ?_) | refine TL.split 52 rfl (fun h1 => ?_) (fun h1 => ?_)
    · skip
      refine TL.pure (PV.move rfl) rfl (by decide) ?_
      refine TL.pure (PV.move rfl) rfl (by decide) ?_
      refine TL.pure (PV.eql rfl rfl) rfl (by decide) ?_
      refine TL.pure (PV.pickT rfl rfl) rfl (by decide) ?_
      refine TL.pure (PV.move rfl) rfl (by decide) ?_
      first | refine TL.splitD 57 rfl (fun h2 => ?_) (fun h2 => ?_) | refine TL.split 57 rfl (fun h2 => ?_) (fun h2 => ?_)
      · skip
        refine TL.pure (PV.move rfl) rfl (by decide) ?_
        refine TL.pure (PV.move rfl) rfl (by decide) ?_
        refine TL.call rfl Tb.gofn_29 (fun a w hs => sameGG w (c9.1) (c9.2.1) hc9.2 (IntsAt.g (x := (c9.1, c9.2.1)) hs.new (fun yy hyy => by repeat (first | exact List.mem_append_left _ hyy | exact List.mem_append_left _ (List.mem_append_right _ hyy) | exact List.mem_append_left _ (List.mem_append_left _ hyy) | refine List.mem_append_right _ ?_ | refine List.Mem.tail _ ?_)) hc9.2) (d9.1) (d9.2.1) hd9.2 (IntsAt.g (x := (d9.1, d9.2.1)) hs.new (fun yy hyy => by repeat (first | exact List.mem_append_left _ hyy | exact List.mem_append_left _ (List.mem_append_right _ hyy) | exact List.mem_append_left _ (List.mem_append_left _ hyy) | refine List.mem_append_right _ ?_ | refine List.Mem.tail _ ?_)) hd9.2) hc9.1.len hd9.1.len) rfl (by decide) (fun _ _ => ?_)
        refine TL.pure (PV.pickT rfl rfl) rfl (by decide) ?_
        refine TL.pure (PV.move rfl) rfl (by decide) ?_
        first | refine TL.splitD 62 rfl (fun h3 => ?_) (fun h3 => ?_) | refine TL.split 62 rfl (fun h3 => ?_) (fun h3 => ?_)
        · skip
          refine TL.pure (PV.move rfl) rfl (by decide) ?_
          refine TL.pure (PV.move rfl) rfl (by decide) ?_
          refine TL.pure (PV.eqlB rfl rfl Tb.bool_4) rfl (by decide) ?_
          refine TL.pure (PV.pickT rfl rfl) rfl (by decide) ?_
          refine TL.pure (PV.move rfl) rfl (by decide) ?_
          first | refine TL.splitD 67 rfl (fun h4 => ?_) (fun h4 => ?_) | refine TL.split 67 rfl (fun h4 => ?_) (fun h4 => ?_)
          · skip
            refine TL.pure (PV.move rfl) rfl (by decide) ?_
            refine TL.pure (PV.move rfl) rfl (by decide) ?_
            refine TL.pure (PV.eql rfl rfl) rfl (by decide) ?_
            refine TL.pure (PV.pickT rfl rfl) rfl (by decide) ?_
            refine TL.pure (PV.move rfl) rfl (by decide) ?_
            first | refine TL.splitD 72 rfl (fun h5 => ?_) (fun h5 => ?_) | refine TL.split 72 rfl (fun h5 => ?_) (fun h5 => ?_)
            · skip
              refine TL.call rfl Tb.gofn_18 (fun a w hs => sane_ok w) rfl (by decide) (fun _ _ => ?_)
              refine TL.pure (PV.pickT rfl rfl) rfl (by decide) ?_
              refine TL.pure (PV.assign rfl) rfl (by decide) ?_
              refine TL.nil ?_
              refine TQ.thenC ?_
              refine TC.ret ?_
              refine TQ.retE1 rfl rfl ?_
              first | exact ⟨(), rfl, trivial, List.nil_sublist _⟩ | (exfalso; simp_all; done)
            · skip
              refine TL.skip rfl (fun k hk => by cases hk; decide) ?_
              refine TL.pure (PV.pickF rfl rfl) rfl (by decide) ?_
              refine TL.pure (PV.assign rfl) rfl (by decide) ?_
              refine TL.nil ?_
              refine TQ.thenC ?_
              refine TC.ret ?_
              refine TQ.retE1 rfl rfl ?_
              first | exact ⟨(), rfl, trivial, List.nil_sublist _⟩ | (exfalso; simp_all; done)
          · skip
            refine TL.skip rfl (fun k hk => by cases hk; decide) ?_
            refine TL.skip rfl (fun k hk => by cases hk; decide) ?_
            refine TL.skip rfl (fun k hk => by cases hk; decide) ?_
            refine TL.pure (PV.pickF rfl rfl) rfl (by decide) ?_
            refine TL.pure (PV.move rfl) rfl (by decide) ?_
            refine TL.skip rfl (fun k hk => by cases hk; decide) ?_
            refine TL.pure (PV.pickF rfl rfl) rfl (by decide) ?_
            refine TL.pure (PV.assign rfl) rfl (by decide) ?_
            refine TL.nil ?_
            refine TQ.thenC ?_
            refine TC.ret ?_
            refine TQ.retE1 rfl rfl ?_
            first | exact ⟨(), rfl, trivial, List.nil_sublist _⟩ | (exfalso; simp_all; done)
        · skip
          refine TL.skip rfl (fun k hk => by cases hk; decide) ?_
          refine TL.skip rfl (fun k hk => by cases hk; decide) ?_
          refine TL.skip rfl (fun k hk => by cases hk; decide) ?_
          refine TL.pure (PV.pickF rfl rfl) rfl (by decide) ?_
          refine TL.pure (PV.move rfl) rfl (by decide) ?_
          refine TL.skip rfl (fun k hk => by cases hk; decide) ?_
          refine TL.skip rfl (fun k hk => by cases hk; decide) ?_
          refine TL.skip rfl (fun k hk => by cases hk; decide) ?_
          refine TL.pure (PV.pickF rfl rfl) rfl (by decide) ?_
          refine TL.pure (PV.move rfl) rfl (by decide) ?_
          refine TL.skip rfl (fun k hk => by cases hk; decide) ?_
          refine TL.pure (PV.pickF rfl rfl) rfl (by decide) ?_
          refine TL.pure (PV.assign rfl) rfl (by decide) ?_
          refine TL.nil ?_
          refine TQ.thenC ?_
          refine TC.ret ?_
          refine TQ.retE1 rfl rfl ?_
          first | exact ⟨(), rfl, trivial, List.nil_sublist _⟩ | (exfalso; simp_all; done)
      · skip
        refine TL.skip rfl (fun k hk => by cases hk; decide) ?_
        refine TL.skip rfl (fun k hk => by cases hk; decide) ?_
        refine TL.skip rfl (fun k hk => by cases hk; decide) ?_
        refine TL.pure (PV.pickF rfl rfl) rfl (by decide) ?_
        refine TL.pure (PV.move rfl) rfl (by decide) ?_
        refine TL.skip rfl (fun k hk => by cases hk; decide) ?_
        refine TL.skip rfl (fun k hk => by cases hk; decide) ?_
        refine TL.skip rfl (fun k hk => by cases hk; decide) ?_
        refine TL.pure (PV.pickF rfl rfl) rfl (by decide) ?_
        refine TL.pure (PV.move rfl) rfl (by decide) ?_
        refine TL.skip rfl (fun k hk => by cases hk; decide) ?_
        refine TL.skip rfl (fun k hk => by cases hk; decide) ?_
        refine TL.skip rfl (fun k hk => by cases hk; decide) ?_
        refine TL.pure (PV.pickF rfl rfl) rfl (by decide) ?_
        refine TL.pure (PV.move rfl) rfl (by decide) ?_
        refine TL.skip rfl (fun k hk => by cases hk; decide) ?_
        refine TL.pure (PV.pickF rfl rfl) rfl (by decide) ?_
        refine TL.pure (PV.assign rfl) rfl (by decide) ?_
        refine TL.nil ?_
        refine TQ.thenC ?_
        refine TC.ret ?_
        refine TQ.retE1 rfl rfl ?_
        first | exact ⟨(), rfl, trivial, List.nil_sublist _⟩ | (exfalso; simp_all; done)
    · skip
      refine TL.skip rfl (fun k hk => by cases hk; decide) ?_
      refine TL.skip rfl (fun k hk => by cases hk; decide) ?_
      refine TL.skip rfl (fun k hk => by cases hk; decide) ?_
      refine TL.pure (PV.pickF rfl rfl) rfl (by decide) ?_
      refine TL.pure (PV.move rfl) rfl (by decide) ?_
      refine TL.skip rfl (fun k hk => by cases hk; decide) ?_
      refine TL.skip rfl (fun k hk => by cases hk; decide) ?_
      refine TL.skip rfl (fun k hk => by cases hk; decide) ?_
      refine TL.pure (PV.pickF rfl rfl) rfl (by decide) ?_
      refine TL.pure (PV.move rfl) rfl (by decide) ?_
      refine TL.skip rfl (fun k hk => by cases hk; decide) ?_
      refine TL.skip rfl (fun k hk => by cases hk; decide) ?_
      refine TL.skip rfl (fun k hk => by cases hk; decide) ?_
      refine TL.pure (PV.pickF rfl rfl) rfl (by decide) ?_
      refine TL.pure (PV.move rfl) rfl (by decide) ?_
      refine TL.skip rfl (fun k hk => by cases hk; decide) ?_
      refine TL.skip rfl (fun k hk => by cases hk; decide) ?_
      refine TL.skip rfl (fun k hk => by cases hk; decide) ?_
      refine TL.pure (PV.pickF rfl rfl) rfl (by decide) ?_
      refine TL.pure (PV.move rfl) rfl (by decide) ?_
      refine TL.skip rfl (fun k hk => by cases hk; decide) ?_
      refine TL.pure (PV.pickF rfl rfl) rfl (by decide) ?_
      refine TL.pure (PV.assign rfl) rfl (by decide) ?_
      refine TL.nil ?_
      refine TQ.thenC ?_
      refine TC.ret ?_
      refine TQ.retE1 rfl rfl ?_
      first | exact ⟨(), rfl, trivial, List.nil_sublist _⟩ | (exfalso; simp_all; done)

end Go.Proofs.Ytfgjojoipbbacaa
