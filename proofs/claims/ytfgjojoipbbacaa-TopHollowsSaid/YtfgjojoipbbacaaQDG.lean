/- The best hollows: contracts. -/
import Derived.Test.YtfgjojoipbbacaaQDF
set_option linter.unusedVariables false
set_option linter.unusedSimpArgs false
namespace Go.Proofs.Ytfgjojoipbbacaa
open Go.Sx Go.RowKit

/-- The smaller numbers, or the greater ones. -/
def Jn (J : Int → Int → Int) : Prop := (∀ a b, J a b = min a b) ∨ ∀ a b, J a b = max a b
theorem jn_min : Jn min := .inl fun _ _ => rfl
theorem jn_max : Jn max := .inr fun _ _ => rfl
/-- The one lies on the side of the other. -/
def AbJ (J : Int → Int → Int) (xs ys : List Int) : Prop := ∀ c, J (xs.getD c 0) (ys.getD c 0) = xs.getD c 0
theorem ab_refl {J : Int → Int → Int} (hJ : Jn J) (xs : List Int) : AbJ J xs xs := fun c => by rcases hJ with h | h <;> rw [h] <;> omega
theorem ab_anti {J : Int → Int → Int} (hJ : Jn J) {xs ys : List Int} (hl : xs.length = ys.length) (h : AbJ J xs ys) (k : AbJ J ys xs) : xs = ys := ints_ext hl fun j _ => by
  have h1 := h j
  have h2 := k j
  rcases hJ with e | e <;> rw [e] at h1 h2 <;> omega
theorem zip_any {J : Int → Int → Int} (hJ : Jn J) {xs ys : List Int} {n : Nat} (hx : xs.length = n) (hy : ys.length = n) (c : Nat) : (List.zipWith J xs ys).getD c 0 = J (xs.getD c 0) (ys.getD c 0) := by
  by_cases h : c < n
  · exact zip_at (by omega) (by omega)
  · rw [zip_off (by omega)]
    have e1 : xs.getD c 0 = 0 := by rw [List.getD_eq_getElem?_getD, List.getElem?_eq_none (by omega)]; rfl
    have e2 : ys.getD c 0 = 0 := by rw [List.getD_eq_getElem?_getD, List.getElem?_eq_none (by omega)]; rfl
    rw [e1, e2]
    rcases hJ with e | e <;> rw [e] <;> rfl
theorem ab_zip1 {J : Int → Int → Int} (hJ : Jn J) {xs ys zs : List Int} {n : Nat} (hx : xs.length = n) (hy : ys.length = n) (h : AbJ J xs zs) : AbJ J (List.zipWith J xs ys) zs := fun c => by
  rw [zip_any hJ hx hy]
  have := h c
  rcases hJ with e | e <;> rw [e, e] <;> rw [e] at this <;> omega
theorem ab_zip2 {J : Int → Int → Int} (hJ : Jn J) {xs ys zs : List Int} {n : Nat} (hx : xs.length = n) (hy : ys.length = n) (h : AbJ J ys zs) : AbJ J (List.zipWith J xs ys) zs := fun c => by
  rw [zip_any hJ hx hy]
  have := h c
  rcases hJ with e | e <;> rw [e, e] <;> rw [e] at this <;> omega
theorem HO.jn {J : Int → Int → Int} (hJ : Jn J) {ls : List (List Int)} {xs ys : List Int} (hx : HO ls xs) (hy : HO ls ys) : HO ls (List.zipWith J xs ys) :=
  HO.zip (fun a b => by rcases hJ with e | e; exact .inl (e a b); exact .inr (e a b)) hJ hx hy
/-- A best hollow, on the side of all others with its worth. -/
structure BstP (J : Int → Int → Int) (ls : List (List Int)) (xs : List Int) (n : Int) : Prop where
  ho : HO ls xs
  w : worH ls xs = n
  max : ∀ ys, HO ls ys → worH ls ys ≤ n
  ab : ∀ ys, HO ls ys → worH ls ys = n → AbJ J xs ys
theorem BstP.top {J K : Int → Int → Int} {ls : List (List Int)} {xs ys : List Int} {n m : Int} (h : BstP J ls xs n) (k : BstP K ls ys m) : n = m := by
  have h1 := h.max ys k.ho
  have h2 := k.max xs h.ho
  have := h.w
  have := k.w
  omega
theorem BstP.unique {J : Int → Int → Int} (hJ : Jn J) {ls : List (List Int)} {xs ys : List Int} {n m : Int} (h : BstP J ls xs n) (k : BstP J ls ys m) : xs = ys ∧ n = m := by
  have e := h.top k
  subst e
  exact ⟨ab_anti hJ (by rw [h.ho.len, k.ho.len]) (h.ab ys k.ho k.w) (k.ab xs h.ho h.w), rfl⟩
/-- What joins two best hollows is a best one. -/
theorem best_join {J : Int → Int → Int} (hJ : Jn J) {ls : List (List Int)} {xs ys : List Int} {n : Int} (hm : ∀ zs, HO ls zs → worH ls zs ≤ n) (hx : HO ls xs) (hy : HO ls ys) (wx : worH ls xs = n) (wy : worH ls ys = n) : worH ls (List.zipWith J xs ys) = n := by
  have h1 := wor_mod (ls := ls) hx.len hy.len
  have h2 := hm _ (hx.both hy)
  have h3 := hm _ (hx.either hy)
  rcases hJ with e | e
  · rw [show J = min from funext fun a => funext fun b => e a b]; omega
  · rw [show J = max from funext fun a => funext fun b => e a b]; omega
theorem fold_best {J : Int → Int → Int} (hJ : Jn J) {ls : List (List Int)} {xss : List (List Int)} {n : Int} (hm : ∀ zs, HO ls zs → worH ls zs ≤ n) (h : ∀ i, i < xss.length → HO ls (xss.getD i []) ∧ worH ls (xss.getD i []) = n) (h0 : 0 < xss.length) : ∀ i, i ≤ xss.length → HO ls (fldJ J (xss.getD 0 []) xss i) ∧ worH ls (fldJ J (xss.getD 0 []) xss i) = n ∧ ∀ j, j < i → AbJ J (fldJ J (xss.getD 0 []) xss i) (xss.getD j [])
  | 0, _ => ⟨(h 0 h0).1, (h 0 h0).2, fun j hj => absurd hj (Nat.not_lt_zero _)⟩
  | i + 1, hi => by
    obtain ⟨h1, h2, h3⟩ := fold_best hJ hm h h0 i (by omega)
    obtain ⟨h4, h5⟩ := h i (by omega)
    rw [fld_succ (by omega)]
    refine ⟨h1.jn hJ h4, best_join hJ hm h1 h4 h2 h5, fun j hj => ?_⟩
    by_cases e : j < i
    · exact ab_zip1 hJ h1.len h4.len (h3 j e)
    · obtain rfl : j = i := by omega
      exact ab_zip2 hJ h1.len h4.len (ab_refl hJ _)
/-- The best ones of the list of all. -/
def bstL (ls : List (List Int)) (n : Int) (l : List (List Int)) : List (List Int) := l.filter fun t => decide (worH ls t = n)
theorem bst_fold {J : Int → Int → Int} (hJ : Jn J) {ls : List (List Int)} (hb : VB ls) {n : Int} (hm : ∀ t ∈ allH ls, worH ls t ≤ n) (he : ∃ t ∈ allH ls, worH ls t = n) : BstP J ls (fldJ J ((bstL ls n (allH ls)).getD 0 []) (bstL ls n (allH ls)) (bstL ls n (allH ls)).length) n := by
  have hm2 : ∀ zs, HO ls zs → worH ls zs ≤ n := fun zs hz => hm zs ((all_ho hb zs).2 hz)
  have hi : ∀ i, i < (bstL ls n (allH ls)).length → HO ls ((bstL ls n (allH ls)).getD i []) ∧ worH ls ((bstL ls n (allH ls)).getD i []) = n := fun i h => by
    have h1 := getD_mem h
    obtain ⟨h2, h3⟩ := List.mem_filter.1 h1
    exact ⟨(all_ho hb _).1 h2, of_decide_eq_true h3⟩
  have h0 : 0 < (bstL ls n (allH ls)).length := by
    obtain ⟨t, ht, hw⟩ := he
    exact List.length_pos_of_mem (List.mem_filter.2 ⟨ht, decide_eq_true hw⟩)
  obtain ⟨h1, h2, h3⟩ := fold_best hJ hm2 hi h0 _ (Nat.le_refl _)
  refine ⟨h1, h2, hm2, fun ys hy hw => ?_⟩
  have hmem : ys ∈ bstL ls n (allH ls) := List.mem_filter.2 ⟨(all_ho hb ys).2 hy, decide_eq_true hw⟩
  obtain ⟨j, hj, e⟩ := List.getElem_of_mem hmem
  have := h3 j hj
  rwa [show (bstL ls n (allH ls)).getD j [] = ys by simp [List.getD, hj, e]] at this
/-! What the program finds. -/
theorem rh_ho {ls : List (List Int)} (hb : VB ls) {k : List Int} (h : RH ls k) : HO ls (k.take ls.length) ∧ pad6 (k.take ls.length) = k := by
  have hn := hb.n
  have hl : (k.take ls.length).length = ls.length := by rw [List.length_take, h.len]; omega
  have hat : ∀ c, (k.take ls.length).getD c 0 = k.getD c 0 := fun c => by
    by_cases hc : c < ls.length
    · simp only [List.getD_eq_getElem?_getD]; rw [List.getElem?_take_of_lt hc]
    · rw [h.out c (by omega), List.getD_eq_getElem?_getD, List.getElem?_eq_none (by omega)]; rfl
  refine ⟨⟨⟨hb, hl, fun c => ?_⟩, fun c hc => by rw [hat, hat]; exact h.stp c hc⟩, ints_ext (by rw [pad_len (by omega), h.len]) fun j _ => by rw [pad_at, hat]⟩
  rw [hat]
  by_cases hc : c < ls.length
  · exact h.rng c hc
  · rw [h.out c (by omega)]; omega
theorem ho_rh {ls : List (List Int)} {xs : List Int} (h : HO ls xs) : RH ls (pad6 xs) := by
  have hn := h.vb.n
  have hl := h.len
  refine ⟨pad_len (by omega), fun c hc => by rw [pad_at]; exact h.at_ c, fun c hc => ?_, fun c hc => by rw [pad_at, pad_at]; exact h.stp c hc⟩
  rw [pad_at, List.getD_eq_getElem?_getD, List.getElem?_eq_none (by omega)]; rfl
theorem worK_pad (ls : List (List Int)) (xs : List Int) : ∀ n, worK ls (pad6 xs) n = worK ls xs n
  | 0 => rfl
  | n + 1 => by show worK ls (pad6 xs) n + _ = worK ls xs n + _; rw [worK_pad ls xs n, pad_at]
theorem worK_take {ls : List (List Int)} (hb : VB ls) {k : List Int} (h : RH ls k) : worK ls k ls.length = worH ls (k.take ls.length) := by
  obtain ⟨h1, h2⟩ := rh_ho hb h
  unfold worH
  rw [h1.len, ← worK_pad ls (k.take ls.length), h2]
/-- Of those that came so far, the best ones are joined. -/
structure FoJ (J : Int → Int → Int) (ls : List (List Int)) (es : List Ent) (top : Int) (v : List Nat) (s : List Int × Int) : Prop where
  le : s.2 ≤ top
  all : ∀ j ∈ v, (es.getD j default).2 ≤ s.2
  b : s.2 = top → RH ls s.1 ∧ worH ls (s.1.take ls.length) = top ∧ ∀ j ∈ v, (es.getD j default).2 = top → AbJ J (s.1.take ls.length) ((es.getD j default).1.take ls.length)
theorem RH.jn {J : Int → Int → Int} (hJ : Jn J) {ls : List (List Int)} (hb : VB ls) {x y : List Int} (hx : RH ls x) (hy : RH ls y) : RH ls (List.zipWith J x y) ∧ (List.zipWith J x y).take ls.length = List.zipWith J (x.take ls.length) (y.take ls.length) := by
  obtain ⟨h1, h2⟩ := rh_ho hb hx
  obtain ⟨h3, h4⟩ := rh_ho hb hy
  have h5 := h1.jn hJ h3
  have h6 := ho_rh h5
  have e : pad6 (List.zipWith J (x.take ls.length) (y.take ls.length)) = List.zipWith J x y := by
    have hn := hb.n
    refine ints_ext ?_ fun j hj => ?_
    · rw [h6.len, zip_len hx.len hy.len]
    · rw [pad_at, zip_any hJ h1.len h3.len, zip_any hJ hx.len hy.len]
      rw [← pad_at (xs := x.take ls.length), ← pad_at (xs := y.take ls.length), h2, h4]
  rw [e] at h6
  exact ⟨h6, List.take_zipWith⟩
theorem FoJ.step {J : Int → Int → Int} (hJ : Jn J) {ls : List (List Int)} (hb : VB ls) {es : List Ent} {top : Int} {v : List Nat} {s : List Int × Int} (hm : ∀ zs, HO ls zs → worH ls zs ≤ top) (hg : ∀ q ∈ es, RH ls q.1 ∧ q.2 = worK ls q.1 ls.length) {j : Nat} (hj : j < es.length) (h : FoJ J ls es top v s) : FoJ J ls es top (v ++ [j]) (joinS J s (es.getD j default)) := by
  have hq : es.getD j default ∈ es := by simp [List.getD, hj]
  obtain ⟨g1, g2⟩ := hg _ hq
  have g3 := worK_take hb g1
  have g4 := hm _ (rh_ho hb g1).1
  have hmem : ∀ {P : Nat → Prop}, (∀ i ∈ v, P i) → P j → ∀ i ∈ v ++ [j], P i := fun {P} h1 h2 i hi => by
    rcases List.mem_append.1 hi with hi | hi
    · exact h1 i hi
    · obtain rfl := List.mem_singleton.1 hi; exact h2
  unfold joinS
  by_cases c1 : s.2 < (es.getD j default).2
  · rw [if_pos c1]
    refine ⟨by omega, hmem (fun i hi => by have := h.all i hi; omega) (Int.le_refl _), fun e => ⟨g1, by omega, hmem (fun i hi h2 => ?_) fun _ => ab_refl hJ _⟩⟩
    have := h.all i hi
    omega
  · rw [if_neg c1]
    by_cases c2 : (es.getD j default).2 = s.2
    · rw [if_pos c2]
      refine ⟨h.le, hmem h.all (by show _ ≤ s.2; omega), fun e => ?_⟩
      obtain ⟨b1, b2, b3⟩ := h.b e
      obtain ⟨r1, r2⟩ := RH.jn hJ hb b1 g1
      have k1 := (rh_ho hb b1).1
      have k2 := (rh_ho hb g1).1
      refine ⟨r1, ?_, ?_⟩
      · show worH ls ((List.zipWith J s.1 (es.getD j default).1).take ls.length) = top
        rw [r2]
        exact best_join hJ hm k1 k2 b2 (by have e2 : s.2 = top := e; omega)
      · show ∀ i ∈ v ++ [j], (es.getD i default).2 = top → AbJ J ((List.zipWith J s.1 (es.getD j default).1).take ls.length) _
        rw [r2]
        exact hmem (fun i hi h2 => ab_zip1 hJ k1.len k2.len (b3 i hi h2)) fun _ => ab_zip2 hJ k1.len k2.len (ab_refl hJ _)
    · rw [if_neg c2]
      refine ⟨h.le, hmem h.all (by omega), fun e => ?_⟩
      obtain ⟨b1, b2, b3⟩ := h.b e
      exact ⟨b1, b2, hmem b3 fun h2 => by omega⟩
theorem FoJ.fold {J : Int → Int → Int} (hJ : Jn J) {ls : List (List Int)} (hb : VB ls) {es : List Ent} {top : Int} (hm : ∀ zs, HO ls zs → worH ls zs ≤ top) (hg : ∀ q ∈ es, RH ls q.1 ∧ q.2 = worK ls q.1 ls.length) : ∀ (r v : List Nat) (s : List Int × Int), FoJ J ls es top v s → (∀ j ∈ r, j < es.length) → FoJ J ls es top (v ++ r) (r.foldl (fun s j => joinS J s (es.getD j default)) s)
  | [], v, s, h, _ => by rw [List.append_nil]; exact h
  | j :: r, v, s, h, hr => by
    have h1 := FoJ.fold hJ hb hm hg r (v ++ [j]) _ (h.step hJ hb hm hg (hr j (.head _))) (fun i hi => hr i (.tail _ hi))
    rwa [List.append_assoc] at h1
theorem max_ex {α : Type} (f : α → Int) : ∀ (l : List α), l ≠ [] → ∃ x ∈ l, ∀ y ∈ l, f y ≤ f x
  | [], h => absurd rfl h
  | [a], _ => ⟨a, .head _, fun y hy => by obtain rfl := List.mem_singleton.1 hy; exact Int.le_refl _⟩
  | a :: b :: r, _ => by
    obtain ⟨x, hx, h⟩ := max_ex f (b :: r) (by simp)
    by_cases e : f x ≤ f a
    · refine ⟨a, .head _, fun y hy => ?_⟩
      rcases List.mem_cons.1 hy with rfl | hy
      · exact Int.le_refl _
      · have := h y hy; omega
    · refine ⟨x, .tail _ hx, fun y hy => ?_⟩
      rcases List.mem_cons.1 hy with rfl | hy
      · omega
      · exact h y hy
theorem zl_take {ls : List (List Int)} (hb : VB ls) : worH ls (Zl.take ls.length) = 0 := by
  have h := worK_zero ls ls.length
  have h2 : RH ls Zl := ⟨rfl, fun c _ => by rw [Zl_at]; omega, fun c _ => Zl_at c, fun c _ => by rw [Zl_at, Zl_at]; omega⟩
  rw [← worK_take hb h2, h]
theorem rh_zl {ls : List (List Int)} : RH ls Zl := ⟨rfl, fun c _ => by rw [Zl_at]; omega, fun c _ => Zl_at c, fun c _ => by rw [Zl_at, Zl_at]; omega⟩
theorem prog_best {J : Int → Int → Int} (hJ : Jn J) {ls : List (List Int)} (hb : VB ls) {es : List Ent} {v : List Nat} (hw : WI ls es []) (hv : Ord es.length v) (hc : ∀ j, j < es.length → j ∈ v) : BstP J ls ((joinF J es v).1.take ls.length) (joinF J es v).2 := by
  have hall : ∀ zs, HO ls zs → ∃ j, j < es.length ∧ (es.getD j default).1 = pad6 zs ∧ (es.getD j default).2 = worH ls zs := fun zs hz => by
    have h1 := hw.all hb _ _ (ho_rh hz) rfl
    obtain ⟨q, hq, e⟩ := List.mem_map.1 h1
    obtain ⟨j, hj, e2⟩ := List.getElem_of_mem hq
    have e3 : es.getD j default = q := by simp [List.getD, hj, e2]
    refine ⟨j, hj, by rw [e3, e], ?_⟩
    rw [e3, (hw.good q hq).2, e, worK_pad]
    unfold worH
    rw [hz.len]
  have hne : es ≠ [] := fun e => by
    obtain ⟨j, hj, _⟩ := hall _ (rh_ho hb (rh_zl (ls := ls))).1
    rw [e] at hj
    exact absurd hj (Nat.not_lt_zero _)
  obtain ⟨q, hq, hmax⟩ := max_ex (fun q : Ent => q.2) es hne
  have hm : ∀ zs, HO ls zs → worH ls zs ≤ q.2 := fun zs hz => by
    obtain ⟨j, hj, _, e⟩ := hall zs hz
    rw [← e]
    exact hmax _ (by simp [List.getD, hj])
  have h0 : FoJ J ls es q.2 [] (Zl, 0) := by
    have hz := zl_take hb
    have := hm _ (rh_ho hb (rh_zl (ls := ls))).1
    exact ⟨(by show (0 : Int) ≤ q.2; omega), (fun j hj => by cases hj), (fun e => ⟨rh_zl, (by rw [hz]; exact e), (fun j hj => by cases hj)⟩)⟩
  have hf := FoJ.fold hJ hb hm hw.good v [] _ h0 hv.lt
  rw [List.nil_append] at hf
  change FoJ J ls es q.2 v (joinF J es v) at hf
  have htop : (joinF J es v).2 = q.2 := by
    obtain ⟨j, hj, e⟩ := List.getElem_of_mem hq
    have e3 : es.getD j default = q := by simp [List.getD, hj, e]
    have h1 := hf.all j (hc j hj)
    rw [e3] at h1
    have := hf.le
    omega
  obtain ⟨b1, b2, b3⟩ := hf.b htop
  refine ⟨(rh_ho hb b1).1, by rw [b2, htop], fun ys hy => by rw [htop]; exact hm ys hy, fun ys hy hwy => ?_⟩
  obtain ⟨j, hj, e1, e2⟩ := hall ys hy
  have h1 := b3 j (hc j hj) (by rw [e2, hwy, htop])
  rw [e1, pad_take hy.len] at h1
  exact h1
theorem take_snoc {l : List (List Int)} {i : Nat} (hi : i < l.length) : l.take (i + 1) = l.take i ++ [l.getD i []] := by
  rw [List.take_add_one, List.getElem?_eq_getElem hi, Option.toList_some, show l.getD i [] = l[i] by simp [List.getD, hi]]
/-- Of the first so many hollows, the best ones. -/
structure BtI (ls : List (List Int)) (l : List (List Int)) (R : List (HD × List Int)) (i : Nat) (o : HD × List (HD × List Int)) (n : Int) : Prop where
  le : i ≤ l.length
  g : GrP (bstL ls n (l.take i)) o
  mx : ∀ t ∈ l.take i, worH ls t ≤ n
  ex : ∃ t ∈ l, worH ls t = n
  sub : ∀ z ∈ o.2, z ∈ R
theorem allH_pos {ls : List (List Int)} (hb : VB ls) : 0 < (allH ls).length := List.length_pos_of_mem ((all_ho hb _).2 (ho_zero hb))
/-- What bests returns. -/
structure BsP (ls : List (List Int)) (x : (HD × List (HD × List Int)) × (HD × List (HD × List Int)) × Int) : Prop where
  g : GrP (bstL ls x.2.2 (allH ls)) x.1
  mx : ∀ t ∈ allH ls, worH ls t ≤ x.2.2
  ex : ∃ t ∈ allH ls, worH ls t = x.2.2
  sub : ∀ z ∈ x.1.2, z ∈ x.2.1.2
structure BesP (J : Int → Int → Int) (ls : List (List Int)) (xs : List Int) (n : Int) : Prop where
  bad : validI ls ≠ 0 → xs = [] ∧ n = 0
  ok : ¬ validI ls ≠ 0 → BstP J ls xs n
theorem BesP.unique {J : Int → Int → Int} (hJ : Jn J) {ls : List (List Int)} {xs ys : List Int} {n m : Int} (h : BesP J ls xs n) (k : BesP J ls ys m) : xs = ys ∧ n = m := by
  by_cases h0 : validI ls ≠ 0
  · rw [(h.bad h0).1, (h.bad h0).2, (k.bad h0).1, (k.bad h0).2]; exact ⟨rfl, rfl⟩
  · exact (h.ok h0).unique hJ (k.ok h0)
theorem BesP.len {J : Int → Int → Int} {ls : List (List Int)} {xs : List Int} {n : Int} (h : BesP J ls xs n) : xs.length ≤ 1000000 := by
  by_cases h0 : validI ls ≠ 0
  · rw [(h.bad h0).1]; exact Nat.zero_le _
  · have := (h.ok h0).ho.len
    have := (h.ok h0).ho.vb.n
    omega
theorem best_prog {J : Int → Int → Int} (hJ : Jn J) {ls : List (List Int)} {es : List Ent} {v : List Nat} (h : validI ls = 0 → WI ls es [] ∧ Ord es.length v ∧ ∀ j, j < es.length → j ∈ v) : BesP J ls (if validI ls = 0 then (joinF J es v).1.take ls.length else []) (if validI ls = 0 then (joinF J es v).2 else 0) :=
  ⟨fun h0 => by rw [if_neg h0, if_neg h0]; exact ⟨rfl, rfl⟩, fun h0 => by
    have h1 := Decidable.of_not_not h0
    rw [if_pos h1, if_pos h1]
    exact prog_best hJ (vb_of h0) (h h1).1 (h h1).2.1 (h h1).2.2⟩
def lieB (xs ys : List Int) : Bool := decide (xs.length = ys.length ∧ ∀ c, c < xs.length → xs.getD c 0 ≤ ys.getD c 0)
theorem bests {ls : List (List Int)} {xs ys : List Int} {n m : Int} (h : BesP min ls xs n) (k : BesP max ls ys m) : n = m ∧ lieB xs ys = true := by
  by_cases h0 : validI ls ≠ 0
  · rw [(h.bad h0).1, (h.bad h0).2, (k.bad h0).1, (k.bad h0).2]
    exact ⟨rfl, decide_eq_true ⟨rfl, fun c hc => absurd hc (Nat.not_lt_zero _)⟩⟩
  · have h1 := h.ok h0
    have k1 := k.ok h0
    have e := h1.top k1
    refine ⟨e, decide_eq_true ⟨by rw [h1.ho.len, k1.ho.len], fun c _ => ?_⟩⟩
    have := h1.ab ys k1.ho (by rw [k1.w, e]) c
    omega


theorem best_ok (w0 : World) (p : Option Addr) (cap : Nat) (ls : List (List Int)) (hr : LsAt w0 p ls) : Calls Try.prog 25 #[bv p ls.length cap] w0 (Post (X := HD × List Int × Int) (fun x => .tuple #[gval x.1 x.2.1.length, .int .i64 x.2.2, .int .i64 (validI ls)]) (fun x => BesP min ls x.2.1 x.2.2 ∧ goI (x.1, x.2.1)) (fun x => gbI (x.1, x.2.1)) w0) := by
  refine (Best_ok w0 p cap ls hr).mono ?_
  rintro e w' ⟨x, he, ⟨h1, h2⟩, hN⟩
  exact ⟨(x.1, _, _), he, ⟨best_prog jn_min h2, h1⟩, hN⟩

theorem deepest_ok (w0 : World) (p : Option Addr) (cap : Nat) (ls : List (List Int)) (hr : LsAt w0 p ls) : Calls Try.prog 27 #[bv p ls.length cap] w0 (Post (X := HD × List Int × Int) (fun x => .tuple #[gval x.1 x.2.1.length, .int .i64 x.2.2, .int .i64 (validI ls)]) (fun x => BesP max ls x.2.1 x.2.2 ∧ goI (x.1, x.2.1)) (fun x => gbI (x.1, x.2.1)) w0) := by
  refine (Deepest_ok w0 p cap ls hr).mono ?_
  rintro e w' ⟨x, he, ⟨h1, h2⟩, hN⟩
  exact ⟨(x.1, _, _), he, ⟨best_prog jn_max h2, h1⟩, hN⟩

end Go.Proofs.Ytfgjojoipbbacaa
