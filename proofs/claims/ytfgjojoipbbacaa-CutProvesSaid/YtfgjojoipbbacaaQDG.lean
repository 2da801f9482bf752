/- The best hollows: contracts. -/
import Derived.Test.YtfgjojoipbbacaaQDF
set_option linter.unusedVariables false
set_option linter.unusedSimpArgs false
namespace Go.Proofs.Ytfgjojoipbbacaa
open Go.Sx Go.RowKit

/-- The smaller numbers, or the greater ones. -/
def Jn (J : Int → Int → Int) : Prop := (∀ a b, J a b = min a b) ∨ ∀ a b, J a b = max a b
theorem jn_min : Jn min := .inl fun _ _ => rfl
theorem jn_max : Jn max := .inr fun _ _ => rfl
/-- The one lies on the side of the other. -/
def AbJ (J : Int → Int → Int) (xs ys : List Int) : Prop := ∀ c, J (xs.getD c 0) (ys.getD c 0) = xs.getD c 0
theorem ab_refl {J : Int → Int → Int} (hJ : Jn J) (xs : List Int) : AbJ J xs xs := fun c => by rcases hJ with h | h <;> rw [h] <;> omega
theorem zip_any {J : Int → Int → Int} (hJ : Jn J) {xs ys : List Int} {n : Nat} (hx : xs.length = n) (hy : ys.length = n) (c : Nat) : (List.zipWith J xs ys).getD c 0 = J (xs.getD c 0) (ys.getD c 0) := by
  by_cases h : c < n
  · exact zip_at (by omega) (by omega)
  · rw [zip_off (by omega)]
    have e1 : xs.getD c 0 = 0 := by rw [List.getD_eq_getElem?_getD, List.getElem?_eq_none (by omega)]; rfl
    have e2 : ys.getD c 0 = 0 := by rw [List.getD_eq_getElem?_getD, List.getElem?_eq_none (by omega)]; rfl
    rw [e1, e2]
    rcases hJ with e | e <;> rw [e] <;> rfl
theorem ab_zip1 {J : Int → Int → Int} (hJ : Jn J) {xs ys zs : List Int} {n : Nat} (hx : xs.length = n) (hy : ys.length = n) (h : AbJ J xs zs) : AbJ J (List.zipWith J xs ys) zs := fun c => by
  rw [zip_any hJ hx hy]
  have := h c
  rcases hJ with e | e <;> rw [e, e] <;> rw [e] at this <;> omega
theorem ab_zip2 {J : Int → Int → Int} (hJ : Jn J) {xs ys zs : List Int} {n : Nat} (hx : xs.length = n) (hy : ys.length = n) (h : AbJ J ys zs) : AbJ J (List.zipWith J xs ys) zs := fun c => by
  rw [zip_any hJ hx hy]
  have := h c
  rcases hJ with e | e <;> rw [e, e] <;> rw [e] at this <;> omega
theorem HO.jn {J : Int → Int → Int} (hJ : Jn J) {ls : List (List Int)} {xs ys : List Int} (hx : HO ls xs) (hy : HO ls ys) : HO ls (List.zipWith J xs ys) :=
  HO.zip (fun a b => by rcases hJ with e | e; exact .inl (e a b); exact .inr (e a b)) hJ hx hy
/-- A best hollow, on the side of all others with its worth. -/
structure BstP (J : Int → Int → Int) (ls : List (List Int)) (xs : List Int) (n : Int) : Prop where
  ho : HO ls xs
  w : worH ls xs = n
  max : ∀ ys, HO ls ys → worH ls ys ≤ n
  ab : ∀ ys, HO ls ys → worH ls ys = n → AbJ J xs ys
theorem BstP.top {J K : Int → Int → Int} {ls : List (List Int)} {xs ys : List Int} {n m : Int} (h : BstP J ls xs n) (k : BstP K ls ys m) : n = m := by
  have h1 := h.max ys k.ho
  have h2 := k.max xs h.ho
  have := h.w
  have := k.w
  omega
/-- What joins two best hollows is a best one. -/
theorem best_join {J : Int → Int → Int} (hJ : Jn J) {ls : List (List Int)} {xs ys : List Int} {n : Int} (hm : ∀ zs, HO ls zs → worH ls zs ≤ n) (hx : HO ls xs) (hy : HO ls ys) (wx : worH ls xs = n) (wy : worH ls ys = n) : worH ls (List.zipWith J xs ys) = n := by
  have h1 := wor_mod (ls := ls) hx.len hy.len
  have h2 := hm _ (hx.both hy)
  have h3 := hm _ (hx.either hy)
  rcases hJ with e | e
  · rw [show J = min from funext fun a => funext fun b => e a b]; omega
  · rw [show J = max from funext fun a => funext fun b => e a b]; omega
theorem fold_best {J : Int → Int → Int} (hJ : Jn J) {ls : List (List Int)} {xss : List (List Int)} {n : Int} (hm : ∀ zs, HO ls zs → worH ls zs ≤ n) (h : ∀ i, i < xss.length → HO ls (xss.getD i []) ∧ worH ls (xss.getD i []) = n) (h0 : 0 < xss.length) : ∀ i, i ≤ xss.length → HO ls (fldJ J (xss.getD 0 []) xss i) ∧ worH ls (fldJ J (xss.getD 0 []) xss i) = n ∧ ∀ j, j < i → AbJ J (fldJ J (xss.getD 0 []) xss i) (xss.getD j [])
  | 0, _ => ⟨(h 0 h0).1, (h 0 h0).2, fun j hj => absurd hj (Nat.not_lt_zero _)⟩
  | i + 1, hi => by
    obtain ⟨h1, h2, h3⟩ := fold_best hJ hm h h0 i (by omega)
    obtain ⟨h4, h5⟩ := h i (by omega)
    rw [fld_succ (by omega)]
    refine ⟨h1.jn hJ h4, best_join hJ hm h1 h4 h2 h5, fun j hj => ?_⟩
    by_cases e : j < i
    · exact ab_zip1 hJ h1.len h4.len (h3 j e)
    · obtain rfl : j = i := by omega
      exact ab_zip2 hJ h1.len h4.len (ab_refl hJ _)
/-- The best ones of the list of all. -/
def bstL (ls : List (List Int)) (n : Int) (l : List (List Int)) : List (List Int) := l.filter fun t => decide (worH ls t = n)
theorem bst_fold {J : Int → Int → Int} (hJ : Jn J) {ls : List (List Int)} (hb : VB ls) {n : Int} (hm : ∀ t ∈ allH ls, worH ls t ≤ n) (he : ∃ t ∈ allH ls, worH ls t = n) : BstP J ls (fldJ J ((bstL ls n (allH ls)).getD 0 []) (bstL ls n (allH ls)) (bstL ls n (allH ls)).length) n := by
  have hm2 : ∀ zs, HO ls zs → worH ls zs ≤ n := fun zs hz => hm zs ((all_ho hb zs).2 hz)
  have hi : ∀ i, i < (bstL ls n (allH ls)).length → HO ls ((bstL ls n (allH ls)).getD i []) ∧ worH ls ((bstL ls n (allH ls)).getD i []) = n := fun i h => by
    have h1 := getD_mem h
    obtain ⟨h2, h3⟩ := List.mem_filter.1 h1
    exact ⟨(all_ho hb _).1 h2, of_decide_eq_true h3⟩
  have h0 : 0 < (bstL ls n (allH ls)).length := by
    obtain ⟨t, ht, hw⟩ := he
    exact List.length_pos_of_mem (List.mem_filter.2 ⟨ht, decide_eq_true hw⟩)
  obtain ⟨h1, h2, h3⟩ := fold_best hJ hm2 hi h0 _ (Nat.le_refl _)
  refine ⟨h1, h2, hm2, fun ys hy hw => ?_⟩
  have hmem : ys ∈ bstL ls n (allH ls) := List.mem_filter.2 ⟨(all_ho hb ys).2 hy, decide_eq_true hw⟩
  obtain ⟨j, hj, e⟩ := List.getElem_of_mem hmem
  have := h3 j hj
  rwa [show (bstL ls n (allH ls)).getD j [] = ys by simp [List.getD, hj, e]] at this
/-! What the program finds. -/
/-- Of those that came so far, the best ones are joined. -/
structure FoJ (J : Int → Int → Int) (ls : List (List Int)) (es : List Ent) (top : Int) (v : List Nat) (s : List Int × Int) : Prop where
  le : s.2 ≤ top
  all : ∀ j ∈ v, (es.getD j default).2 ≤ s.2
  b : s.2 = top → RH ls s.1 ∧ worH ls (s.1.take ls.length) = top ∧ ∀ j ∈ v, (es.getD j default).2 = top → AbJ J (s.1.take ls.length) ((es.getD j default).1.take ls.length)
theorem bst_yes {ls : List (List Int)} {n : Int} {l : List (List Int)} {t : List Int} (h : worH ls t = n) : bstL ls n (l ++ [t]) = bstL ls n l ++ [t] := by simp [bstL, List.filter_append, h]
theorem bst_no {ls : List (List Int)} {n : Int} {l : List (List Int)} {t : List Int} (h : ¬ worH ls t = n) : bstL ls n (l ++ [t]) = bstL ls n l := by simp [bstL, List.filter_append, h]
theorem bst_nil {ls : List (List Int)} {n : Int} {l : List (List Int)} (h : ∀ t ∈ l, worH ls t < n) : bstL ls n l = [] := by
  refine List.filter_eq_nil_iff.2 fun t ht => ?_
  have := h t ht
  simp
  omega
theorem take_snoc {l : List (List Int)} {i : Nat} (hi : i < l.length) : l.take (i + 1) = l.take i ++ [l.getD i []] := by
  rw [List.take_add_one, List.getElem?_eq_getElem hi, Option.toList_some, show l.getD i [] = l[i] by simp [List.getD, hi]]
/-- Of the first so many hollows, the best ones. -/
structure BtI (ls : List (List Int)) (l : List (List Int)) (R : List (HD × List Int)) (i : Nat) (o : HD × List (HD × List Int)) (n : Int) : Prop where
  le : i ≤ l.length
  g : GrP (bstL ls n (l.take i)) o
  mx : ∀ t ∈ l.take i, worH ls t ≤ n
  ex : ∃ t ∈ l, worH ls t = n
  sub : ∀ z ∈ o.2, z ∈ R
theorem BtI.put {ls : List (List Int)} {l : List (List Int)} {R : List (HD × List Int)} {i : Nat} {o : HD × List (HD × List Int)} {n : Int} {h' : HD} {r : HD × List Int} (hi : i < l.length) (h : GrP (bstL ls n (l.take i)) o) (hm : ∀ t ∈ l.take i, worH ls t ≤ n) (hs : ∀ z ∈ o.2, z ∈ R) (hr : r.2 = l.getD i []) (hrm : r ∈ R) (hro : goI r) (hw : worH ls r.2 = n) (ho : goP (h', o.2 ++ [r])) : BtI ls l R (i + 1) (h', o.2 ++ [r]) n :=
  ⟨hi, by rw [take_snoc hi, bst_yes (by rw [← hr]; exact hw), ← hr]; exact h.snoc hro ho, fun t ht => by
    rw [take_snoc hi] at ht
    rcases List.mem_append.1 ht with ht | ht
    · exact hm t ht
    · obtain rfl := List.mem_singleton.1 ht; rw [← hr]; omega, ⟨l.getD i [], getD_mem hi, by rw [← hr]; exact hw⟩, fun z hz => by
    rcases List.mem_append.1 hz with hz | hz
    · exact hs z hz
    · rw [List.mem_singleton.1 hz]; exact hrm⟩
theorem BtI.skip {ls : List (List Int)} {l : List (List Int)} {R : List (HD × List Int)} {i : Nat} {o : HD × List (HD × List Int)} {n : Int} (h : BtI ls l R i o n) (hi : i < l.length) (h1 : ¬ n < worH ls (l.getD i [])) (h2 : ¬ worH ls (l.getD i []) = n) : BtI ls l R (i + 1) o n :=
  ⟨hi, by rw [take_snoc hi, bst_no h2]; exact h.g, fun t ht => by
    rw [take_snoc hi] at ht
    rcases List.mem_append.1 ht with ht | ht
    · exact h.mx t ht
    · obtain rfl := List.mem_singleton.1 ht; omega, h.ex, h.sub⟩
theorem allH_pos {ls : List (List Int)} (hb : VB ls) : 0 < (allH ls).length := List.length_pos_of_mem ((all_ho hb _).2 (ho_zero hb))
/-- What bests returns. -/
structure BsP (ls : List (List Int)) (x : (HD × List (HD × List Int)) × (HD × List (HD × List Int)) × Int) : Prop where
  g : GrP (bstL ls x.2.2 (allH ls)) x.1
  mx : ∀ t ∈ allH ls, worH ls t ≤ x.2.2
  ex : ∃ t ∈ allH ls, worH ls t = x.2.2
  sub : ∀ z ∈ x.1.2, z ∈ x.2.1.2
theorem BsP.rows {ls : List (List Int)} (hb : VB ls) {x : (HD × List (HD × List Int)) × (HD × List (HD × List Int)) × Int} (h : BsP ls x) : 0 < x.1.2.length ∧ x.1.2.length ≤ 15625 ∧ ∀ i, i < (x.1.2.map (·.2)).length → ((x.1.2.map (·.2)).getD i []).length = ls.length := by
  refine ⟨?_, ?_, fun i hi => ?_⟩
  · rw [h.g.len]
    obtain ⟨t, ht, hw⟩ := h.ex
    exact List.length_pos_of_mem (List.mem_filter.2 ⟨ht, decide_eq_true hw⟩)
  · rw [h.g.len]
    exact Nat.le_trans (List.length_filter_le _ _) (Nat.le_trans (all_len hb.d.2 _) (pow_6 hb.n.2))
  · rw [h.g.eq] at hi ⊢
    exact ((all_ho hb _).1 (List.mem_filter.1 (getD_mem hi)).1).len
structure BesP (J : Int → Int → Int) (ls : List (List Int)) (xs : List Int) (n : Int) : Prop where
  bad : validI ls ≠ 0 → xs = [] ∧ n = 0
  ok : ¬ validI ls ≠ 0 → BstP J ls xs n
theorem BesP.len {J : Int → Int → Int} {ls : List (List Int)} {xs : List Int} {n : Int} (h : BesP J ls xs n) : xs.length ≤ 1000000 := by
  by_cases h0 : validI ls ≠ 0
  · rw [(h.bad h0).1]; exact Nat.zero_le _
  · have := (h.ok h0).ho.len
    have := (h.ok h0).ho.vb.n
    omega
def lieB (xs ys : List Int) : Bool := decide (xs.length = ys.length ∧ ∀ c, c < xs.length → xs.getD c 0 ≤ ys.getD c 0)
theorem bests {ls : List (List Int)} {xs ys : List Int} {n m : Int} (h : BesP min ls xs n) (k : BesP max ls ys m) : n = m ∧ lieB xs ys = true := by
  by_cases h0 : validI ls ≠ 0
  · rw [(h.bad h0).1, (h.bad h0).2, (k.bad h0).1, (k.bad h0).2]
    exact ⟨rfl, decide_eq_true ⟨rfl, fun c hc => absurd hc (Nat.not_lt_zero _)⟩⟩
  · have h1 := h.ok h0
    have k1 := k.ok h0
    have e := h1.top k1
    refine ⟨e, decide_eq_true ⟨by rw [h1.ho.len, k1.ho.len], fun c _ => ?_⟩⟩
    have := h1.ab ys k1.ho (by rw [k1.w, e]) c
    omega


set_option maxRecDepth 100000 in
set_option maxHeartbeats 4000000 in
theorem bests_ok (w0 : World) (p : Option Addr) (cap : Nat) (ls : List (List Int)) (hr : LsAt w0 p ls) (hb : VB ls) :
    Calls Try.prog 70 #[bv p ls.length cap] w0 (Post (X := (HD × List (HD × List Int)) × (HD × List (HD × List Int)) × Int) (fun x => .tuple #[gvP x.1, .int .i64 x.2.2]) (fun x => BsP ls x) (fun x => gbP x.1 ++ (gbP x.2.1 ++ bl x.2.1.2)) w0) := by
  have hn9 := hb.n
  have hd9 := hb.d
  have hap := allH_pos hb
  have hal : (allH ls).length ≤ 15625 := Nat.le_trans (all_len hd9.2 ls.length) (pow_6 hn9.2)
  refine calls Try.func70 rfl (n := 44) rfl (by simp) ?_
  refine TC.seq ?_
  refine TC.region ?_
  refine TL.box rfl rfl (by decide) (fun b0 hb0 => ?_)
  refine TL.pure (PV.assign rfl) rfl (by decide) ?_
  refine TL.pure (PV.assign rfl) rfl (by decide) ?_
  refine TL.nil ?_
  refine TQ.thenC ?_
  refine TC.seq ?_
  refine TC.region ?_
  refine TL.pure (PV.loadBox rfl Tb.agg_24 (by repeat (first | exact List.Mem.head _ | refine List.Mem.tail _ ?_ | refine List.mem_append_right _ ?_)) rfl) rfl (by decide) ?_
  refine TL.call rfl Tb.gofn_77 (fun a w hs => all_ok w _ _ _ (hr.new hs.new) hb) rfl (by decide) (fun y9 hy9 => ?_)
  refine TL.pure (PV.assign rfl) rfl (by decide) ?_
  refine TL.nil ?_
  refine TQ.thenC ?_
  refine TC.seq ?_
  refine TC.region ?_
  refine TL.pure (PV.assign rfl) rfl (by decide) ?_
  refine TL.nil ?_
  refine TQ.thenC ?_
  refine TC.seq ?_
  have hyl : y9.2.length = (allH ls).length := hy9.len
  obtain ⟨hro, hre, hrm⟩ := hy9.row hap
  have hnb := ((all_ho hb _).1 (getD_mem hap)).toNB
  refine TC.any Tb.mixed rfl rfl ?_
  refine TA.op (OpOK.pure (PV.loadBox rfl Tb.agg_24 (by repeat (first | exact List.Mem.head _ | refine List.Mem.tail _ ?_ | refine List.mem_append_right _ ?_)) rfl) rfl (by decide)) (by decide) ?_
  refine TA.op (OpOK.pure (PV.move rfl) rfl (by decide)) (by decide) ?_
  refine TA.op (OpOK.pure (PV.indexG (j := 0) rfl rfl hy9.ok Tb.elm_22 rfl (by omega)) rfl (by decide)) (by decide) ?_
  refine TA.op (OpOK.pure (PV.loadGP (y := y9) (j := 0) (v := gvI (y9.2.getD 0 (none, []))) rfl Tb.one_25 (fun yy hyy => by repeat (first | exact List.mem_append_left _ hyy | exact List.mem_append_left _ (List.mem_append_right _ hyy) | exact List.mem_append_left _ (List.mem_append_left _ hyy) | refine List.mem_append_right _ ?_ | refine List.Mem.tail _ ?_)) hy9.ok (by omega) rfl) rfl (by decide)) (by decide) ?_
  refine TA.op (OpOK.call rfl Tb.gofn_61 (fun a w hs => (by rw [show gvI (y9.2.getD 0 (none, [])) = .slice (gp (y9.2.getD 0 (none, [])).1) (y9.2.getD 0 (none, [])).2.length (gc (y9.2.getD 0 (none, [])).1) from gval_eq hro]; exact worth_ok w _ _ _ (hr.new hs.new) _ (gc (y9.2.getD 0 (none, [])).1) (y9.2.getD 0 (none, [])).2 (IntsAt.g (x := (y9.2.getD 0 (none, []))) hs.new (fun yy hyy => by have := bl_mem hrm yy hyy; simp only [List.mem_append, List.mem_cons]; simp [this]) hro) (by rw [hre]; exact hnb))) rfl (by decide)) (by decide) ?_
  refine TA.op (OpOK.pure (PV.assign rfl) rfl (by decide)) (by decide) ?_
  show TQ _ _ _ _ _
  refine TQ.thenC ?_
  refine TC.seq ?_
  refine TC.seq ?_
  have hre0 := hre
  refine TC.region ?_
  refine TL.pure (PV.assign rfl) rfl (by decide) ?_
  refine TL.nil ?_
  refine TQ.thenC ?_
  refine TC.block ?_
  refine TC.lit [(1, _), (2, _), (3, _), (4, _), (5, _), (6, _), (7, _)] (by repeat (first | exact True.intro | refine And.intro rfl ?_)) ?_
  refine TC.loopK [1, 2, 3, 4] (X := Nat × (HD × List (HD × List Int)) × Int) (fun i => BtI ls (allH ls) y9.2 i.1 i.2.1 i.2.2) (fun i => [(7, .int .i64 i.1), (5, gvP i.2.1), (6, .int .i64 i.2.2)]) (fun i => gbP i.2.1 ++ ((gbP y9 ++ bl y9.2) ++ [(b0, Obj.cells #[.slice p ls.length cap] 24 (0, 0))])) (fun i => (allH ls).length - i.1) (0, (none, []), worH ls (y9.2.getD 0 (none, [])).2) ⟨Nat.zero_le _, GrP.nil, (fun t ht => by cases ht), ⟨_, getD_mem hap, by rw [hre0]⟩, (fun z hz => by cases hz)⟩ (by repeat (first | exact True.intro | refine And.intro rfl ?_)) (List.Sublist.refl _) ?_
  intro i hi
  have hile := hi.le
  refine TC.lit [(1, _), (2, _), (3, _), (4, _), (5, _), (6, _), (7, _)] (by repeat (first | exact True.intro | refine And.intro rfl ?_)) ?_
  refine TC.seq ?_
  refine TC.seq ?_
  refine TC.region ?_
  refine TL.pure (PV.move rfl) rfl (by decide) ?_
  refine TL.pure (PV.move rfl) rfl (by decide) ?_
  refine TL.pure (PV.lenG rfl hy9.ok Tb.sl_22) rfl (by decide) ?_
  refine TL.pure (PV.lss rfl rfl) rfl (by decide) ?_
  refine TL.nil ?_
  refine TQ.thenC ?_
  first | refine TC.condD rfl (fun hlt => ?_) (fun hlt => ?_) | refine TC.cond rfl (fun hlt => ?_) (fun hlt => ?_)
  · skip
    refine TC.skip ?_
    refine TQ.thenC ?_
    refine TC.seq ?_
    refine TC.block ?_
    refine TC.seq ?_
    have hil : i.1 < (allH ls).length := by rw [← hyl]; omega
    clear hro hre hrm hnb
    obtain ⟨hro, hre, hrm⟩ := hy9.row hil
    have hnb := ((all_ho hb _).1 (getD_mem hil)).toNB
    refine TC.any Tb.mixed rfl rfl ?_
    refine TA.op (OpOK.pure (PV.loadBox rfl Tb.agg_24 (by repeat (first | exact List.Mem.head _ | refine List.Mem.tail _ ?_ | refine List.mem_append_right _ ?_)) rfl) rfl (by decide)) (by decide) ?_
    refine TA.op (OpOK.pure (PV.move rfl) rfl (by decide)) (by decide) ?_
    refine TA.op (OpOK.pure (PV.move rfl) rfl (by decide)) (by decide) ?_
    refine TA.op (OpOK.pure (PV.indexG (j := i.1) rfl rfl hy9.ok Tb.elm_22 rfl (by omega)) rfl (by decide)) (by decide) ?_
    refine TA.op (OpOK.pure (PV.loadGP (y := y9) (j := i.1) (v := gvI (y9.2.getD i.1 (none, []))) rfl Tb.one_25 (fun yy hyy => by repeat (first | exact List.mem_append_left _ hyy | exact List.mem_append_left _ (List.mem_append_right _ hyy) | exact List.mem_append_left _ (List.mem_append_left _ hyy) | refine List.mem_append_right _ ?_ | refine List.Mem.tail _ ?_)) hy9.ok (by omega) rfl) rfl (by decide)) (by decide) ?_
    refine TA.op (OpOK.call rfl Tb.gofn_61 (fun a w hs => (by rw [show gvI (y9.2.getD i.1 (none, [])) = .slice (gp (y9.2.getD i.1 (none, [])).1) (y9.2.getD i.1 (none, [])).2.length (gc (y9.2.getD i.1 (none, [])).1) from gval_eq hro]; exact worth_ok w _ _ _ (hr.new hs.new) _ (gc (y9.2.getD i.1 (none, [])).1) (y9.2.getD i.1 (none, [])).2 (IntsAt.g (x := (y9.2.getD i.1 (none, []))) hs.new (fun yy hyy => by have := bl_mem hrm yy hyy; simp only [List.mem_append, List.mem_cons]; simp [this]) hro) (by rw [hre]; exact hnb))) rfl (by decide)) (by decide) ?_
    refine TA.op (OpOK.pure (PV.assign rfl) rfl (by decide)) (by decide) ?_
    show TQ _ _ _ _ _
    refine TQ.thenC ?_
    refine TC.seq ?_
    refine TC.seq ?_
    refine TC.region ?_
    refine TL.pure (PV.move rfl) rfl (by decide) ?_
    refine TL.pure (PV.move rfl) rfl (by decide) ?_
    refine TL.pure (PV.gtr rfl rfl) rfl (by decide) ?_
    refine TL.nil ?_
    refine TQ.thenC ?_
    first | refine TC.condD rfl (fun hgt => ?_) (fun hgt => ?_) | refine TC.cond rfl (fun hgt => ?_) (fun hgt => ?_)
    · skip
      let o9 : HD × List (HD × List Int) := (none, [])
      let n9 : Int := worH ls (y9.2.getD i.1 (none, [])).2
      have hg9 : GrP (bstL ls n9 ((allH ls).take i.1)) o9 := by rw [bst_nil (fun t ht => by have := hi.mx t ht; show _ < worH ls (y9.2.getD i.1 (none, [])).2; omega)]; exact GrP.nil
      have hm9 : ∀ t ∈ (allH ls).take i.1, worH ls t ≤ n9 := fun t ht => by have := hi.mx t ht; show _ ≤ worH ls (y9.2.getD i.1 (none, [])).2; omega
      have hs9 : ∀ z ∈ o9.2, z ∈ y9.2 := fun z hz => by cases hz
      have hol : o9.2.length ≤ 15625 := Nat.zero_le _
      refine TC.seq ?_
      refine TC.region ?_
      refine TL.pure (PV.assign rfl) rfl (by decide) ?_
      refine TL.nil ?_
      refine TQ.thenC ?_
      refine TC.region ?_
      refine TL.pure (PV.move rfl) rfl (by decide) ?_
      refine TL.pure (PV.assign rfl) rfl (by decide) ?_
      refine TL.nil ?_
      refine TQ.thenC ?_
      refine TC.seq ?_
      refine TC.region ?_
      refine TL.pure (PV.move rfl) rfl (by decide) ?_
      refine TL.pure (PV.move rfl) rfl (by decide) ?_
      refine TL.pure (PV.eql rfl rfl) rfl (by decide) ?_
      refine TL.nil ?_
      refine TQ.thenC ?_
      first | refine TC.condD rfl (fun heq => ?_) (fun heq => ?_) | refine TC.cond rfl (fun heq => ?_) (fun heq => ?_)
      · skip
        refine TC.region ?_
        refine TL.pure (PV.move rfl) rfl (by decide) ?_
        refine TL.pure (PV.move rfl) rfl (by decide) ?_
        refine TL.pure (PV.move rfl) rfl (by decide) ?_
        refine TL.pure (PV.indexG (j := i.1) rfl rfl hy9.ok Tb.elm_22 rfl (by omega)) rfl (by decide) ?_
        refine TL.pure (PV.loadGP (y := y9) (j := i.1) (v := gvI (y9.2.getD i.1 (none, []))) rfl Tb.one_25 (fun yy hyy => by repeat (first | exact List.mem_append_left _ hyy | exact List.mem_append_left _ (List.mem_append_right _ hyy) | exact List.mem_append_left _ (List.mem_append_left _ hyy) | refine List.mem_append_right _ ?_ | refine List.Mem.tail _ ?_)) hy9.ok (by omega) rfl) rfl (by decide) ?_
        refine TL.buildSlice (cs := #[gvI (y9.2.getD i.1 (none, []))]) rfl Tb.sl_22 Tb.zi_25 (by decide) (fill_g _ _) (by decide) rfl (by decide) (fun bO hbO => ?_)
        refine TL.appendP (x0 := o9) (y := (y9.2.getD i.1 (none, []))) rfl rfl (by repeat (first | exact List.Mem.head _ | refine List.Mem.tail _ ?_ | refine List.mem_append_right _ ?_)) hg9.ok (by first | exact TakeH.nil _ _ | (repeat (first | exact TakeH.here _ _ _ _ | apply TakeH.tail | apply TakeH.app))) (by omega) rfl (by decide) (fun hP_ hP => ?_)
        let nx : Nat × (HD × List (HD × List Int)) × Int := (i.1 + 1, (hP_, o9.2 ++ [(y9.2.getD i.1 (none, []))]), n9)
        have hn1 : nx.1 = i.1 + 1 := rfl
        have hnx : BtI ls (allH ls) y9.2 nx.1 nx.2.1 nx.2.2 := BtI.put hil hg9 hm9 hs9 hre hrm hro heq hP
        refine TL.pure (PV.assign rfl) rfl (by decide) ?_
        refine TL.nil ?_
        refine TQ.blkN ?_
        refine TQ.thenC ?_
        refine TC.region ?_
        refine TL.pure (PV.move rfl) rfl (by decide) ?_
        refine TL.pure (PV.add rfl rfl (by omega)) rfl (by decide) ?_
        refine TL.pure (PV.assign rfl) rfl (by decide) ?_
        refine TL.nil ?_
        refine TQ.thenN ?_
        refine TQ.backK nx (by repeat (first | exact True.intro | refine And.intro rfl ?_)) (by repeat (first | exact True.intro | refine And.intro rfl ?_)) (by first | exact absurd rfl heq | exact List.Sublist.refl _ | exact List.Sublist.append_left (List.Sublist.cons _ (List.Sublist.refl _)) _ | exact List.Sublist.append_left (List.Sublist.cons _ (List.sublist_append_right _ _)) _) hnx (by omega)
      · skip
        let nx : Nat × (HD × List (HD × List Int)) × Int := (i.1 + 1, o9, n9)
        have hn1 : nx.1 = i.1 + 1 := rfl
        have hnx : BtI ls (allH ls) y9.2 nx.1 nx.2.1 nx.2.2 := by first | exact hi.skip hil (by rw [← hre]; omega) (by rw [← hre]; exact heq) | exact absurd rfl heq | exact absurd heq (by simp)
        refine TC.skip ?_
        refine TQ.blkN ?_
        refine TQ.thenC ?_
        refine TC.region ?_
        refine TL.pure (PV.move rfl) rfl (by decide) ?_
        refine TL.pure (PV.add rfl rfl (by omega)) rfl (by decide) ?_
        refine TL.pure (PV.assign rfl) rfl (by decide) ?_
        refine TL.nil ?_
        refine TQ.thenN ?_
        refine TQ.backK nx (by repeat (first | exact True.intro | refine And.intro rfl ?_)) (by repeat (first | exact True.intro | refine And.intro rfl ?_)) (by first | exact absurd rfl heq | exact List.Sublist.refl _ | exact List.Sublist.append_left (List.Sublist.cons _ (List.Sublist.refl _)) _ | exact List.Sublist.append_left (List.Sublist.cons _ (List.sublist_append_right _ _)) _) hnx (by omega)
    · skip
      let o9 : HD × List (HD × List Int) := i.2.1
      let n9 : Int := i.2.2
      have hg9 : GrP (bstL ls n9 ((allH ls).take i.1)) o9 := hi.g
      have hm9 := hi.mx
      have hs9 := hi.sub
      have hol : o9.2.length ≤ 15625 := by rw [hg9.len]; exact Nat.le_trans (List.length_filter_le _ _) (by rw [List.length_take]; omega)
      refine TC.skip ?_
      refine TQ.thenC ?_
      refine TC.seq ?_
      refine TC.region ?_
      refine TL.pure (PV.move rfl) rfl (by decide) ?_
      refine TL.pure (PV.move rfl) rfl (by decide) ?_
      refine TL.pure (PV.eql rfl rfl) rfl (by decide) ?_
      refine TL.nil ?_
      refine TQ.thenC ?_
      first | refine TC.condD rfl (fun heq => ?_) (fun heq => ?_) | refine TC.cond rfl (fun heq => ?_) (fun heq => ?_)
      · skip
        refine TC.region ?_
        refine TL.pure (PV.move rfl) rfl (by decide) ?_
        refine TL.pure (PV.move rfl) rfl (by decide) ?_
        refine TL.pure (PV.move rfl) rfl (by decide) ?_
        refine TL.pure (PV.indexG (j := i.1) rfl rfl hy9.ok Tb.elm_22 rfl (by omega)) rfl (by decide) ?_
        refine TL.pure (PV.loadGP (y := y9) (j := i.1) (v := gvI (y9.2.getD i.1 (none, []))) rfl Tb.one_25 (fun yy hyy => by repeat (first | exact List.mem_append_left _ hyy | exact List.mem_append_left _ (List.mem_append_right _ hyy) | exact List.mem_append_left _ (List.mem_append_left _ hyy) | refine List.mem_append_right _ ?_ | refine List.Mem.tail _ ?_)) hy9.ok (by omega) rfl) rfl (by decide) ?_
        refine TL.buildSlice (cs := #[gvI (y9.2.getD i.1 (none, []))]) rfl Tb.sl_22 Tb.zi_25 (by decide) (fill_g _ _) (by decide) rfl (by decide) (fun bO hbO => ?_)
        refine TL.appendP (x0 := o9) (y := (y9.2.getD i.1 (none, []))) rfl rfl (by repeat (first | exact List.Mem.head _ | refine List.Mem.tail _ ?_ | refine List.mem_append_right _ ?_)) hg9.ok (by first | exact TakeH.nil _ _ | (repeat (first | exact TakeH.here _ _ _ _ | apply TakeH.tail | apply TakeH.app))) (by omega) rfl (by decide) (fun hP_ hP => ?_)
        let nx : Nat × (HD × List (HD × List Int)) × Int := (i.1 + 1, (hP_, o9.2 ++ [(y9.2.getD i.1 (none, []))]), n9)
        have hn1 : nx.1 = i.1 + 1 := rfl
        have hnx : BtI ls (allH ls) y9.2 nx.1 nx.2.1 nx.2.2 := BtI.put hil hg9 hm9 hs9 hre hrm hro heq hP
        refine TL.pure (PV.assign rfl) rfl (by decide) ?_
        refine TL.nil ?_
        refine TQ.blkN ?_
        refine TQ.thenC ?_
        refine TC.region ?_
        refine TL.pure (PV.move rfl) rfl (by decide) ?_
        refine TL.pure (PV.add rfl rfl (by omega)) rfl (by decide) ?_
        refine TL.pure (PV.assign rfl) rfl (by decide) ?_
        refine TL.nil ?_
        refine TQ.thenN ?_
        refine TQ.backK nx (by repeat (first | exact True.intro | refine And.intro rfl ?_)) (by repeat (first | exact True.intro | refine And.intro rfl ?_)) (by first | exact absurd rfl heq | exact List.Sublist.refl _ | exact List.Sublist.append_left (List.Sublist.cons _ (List.Sublist.refl _)) _ | exact List.Sublist.append_left (List.Sublist.cons _ (List.sublist_append_right _ _)) _) hnx (by omega)
      · skip
        let nx : Nat × (HD × List (HD × List Int)) × Int := (i.1 + 1, o9, n9)
        have hn1 : nx.1 = i.1 + 1 := rfl
        have hnx : BtI ls (allH ls) y9.2 nx.1 nx.2.1 nx.2.2 := by first | exact hi.skip hil (by rw [← hre]; omega) (by rw [← hre]; exact heq) | exact absurd rfl heq | exact absurd heq (by simp)
        refine TC.skip ?_
        refine TQ.blkN ?_
        refine TQ.thenC ?_
        refine TC.region ?_
        refine TL.pure (PV.move rfl) rfl (by decide) ?_
        refine TL.pure (PV.add rfl rfl (by omega)) rfl (by decide) ?_
        refine TL.pure (PV.assign rfl) rfl (by decide) ?_
        refine TL.nil ?_
        refine TQ.thenN ?_
        refine TQ.backK nx (by repeat (first | exact True.intro | refine And.intro rfl ?_)) (by repeat (first | exact True.intro | refine And.intro rfl ?_)) (by first | exact absurd rfl heq | exact List.Sublist.refl _ | exact List.Sublist.append_left (List.Sublist.cons _ (List.Sublist.refl _)) _ | exact List.Sublist.append_left (List.Sublist.cons _ (List.sublist_append_right _ _)) _) hnx (by omega)
  · skip
    refine TC.exit ?_
    refine TQ.thenE ?_
    refine TQ.thenE ?_
    refine TQ.blkS ?_
    refine TQ.thenC ?_
    refine TC.seq ?_
    refine TC.region ?_
    refine TL.pure (PV.move rfl) rfl (by decide) ?_
    refine TL.pure (PV.move rfl) rfl (by decide) ?_
    refine TL.pure (PV.assign rfl) rfl (by decide) ?_
    refine TL.pure (PV.assign rfl) rfl (by decide) ?_
    refine TL.nil ?_
    refine TQ.thenC ?_
    refine TC.ret ?_
    refine TQ.retE2 rfl rfl rfl ?_
    have hie : i.1 = (allH ls).length := by rw [← hyl]; omega
    exact ⟨(i.2.1, y9, i.2.2), rfl, ⟨by have h7 := hi.g; rw [hie, List.take_length] at h7; exact h7, by have h7 := hi.mx; rw [hie, List.take_length] at h7; exact h7, hi.ex, hi.sub⟩, List.Sublist.append_left (List.sublist_append_left _ _) _⟩

set_option maxRecDepth 100000 in
set_option maxHeartbeats 2000000 in
theorem rBest_ok (w0 : World) (p : Option Addr) (cap : Nat) (ls : List (List Int)) (hr : LsAt w0 p ls) :
    Calls Try.prog 26 #[bv p ls.length cap] w0 (Post (X := HD × List Int × Int) (fun x => .tuple #[gval x.1 x.2.1.length, .int .i64 x.2.2, .int .i64 (validI ls)]) (fun x => BesP min ls x.2.1 x.2.2 ∧ goI (x.1, x.2.1)) (fun x => gbI (x.1, x.2.1)) w0) := by
  refine calls Try.func26 rfl (n := 21) rfl (by simp) ?_
  refine TC.seq ?_
  refine TC.region ?_
  refine TL.box rfl rfl (by decide) (fun b0 hb0 => ?_)
  refine TL.pure (PV.assign rfl) rfl (by decide) ?_
  refine TL.pure (PV.assign rfl) rfl (by decide) ?_
  refine TL.pure (PV.assign rfl) rfl (by decide) ?_
  refine TL.nil ?_
  refine TQ.thenC ?_
  refine TC.seq ?_
  refine TC.region ?_
  refine TL.pure (PV.loadBox rfl Tb.agg_24 (by repeat (first | exact List.Mem.head _ | refine List.Mem.tail _ ?_ | refine List.mem_append_right _ ?_)) rfl) rfl (by decide) ?_
  refine TL.call rfl Tb.gofn_22 (fun a w hs => rvalidate_ok w _ _ _ (hr.new hs.new)) rfl (by decide) (fun _ _ => ?_)
  refine TL.pure (PV.assign rfl) rfl (by decide) ?_
  refine TL.nil ?_
  refine TQ.thenC ?_
  refine TC.seq ?_
  refine TC.seq ?_
  refine TC.region ?_
  refine TL.pure (PV.move rfl) rfl (by decide) ?_
  refine TL.pure (PV.neq rfl rfl) rfl (by decide) ?_
  refine TL.nil ?_
  refine TQ.thenC ?_
  first | refine TC.condD rfl (fun hbad => ?_) (fun hbad => ?_) | refine TC.cond rfl (fun hbad => ?_) (fun hbad => ?_)
  · skip
    refine TC.seq ?_
    refine TC.region ?_
    refine TL.pure (PV.move rfl) rfl (by decide) ?_
    refine TL.pure (PV.assign rfl) rfl (by decide) ?_
    refine TL.pure (PV.assign rfl) rfl (by decide) ?_
    refine TL.pure (PV.assign rfl) rfl (by decide) ?_
    refine TL.nil ?_
    refine TQ.thenC ?_
    refine TC.ret ?_
    refine TQ.thenR ?_
    refine TQ.retE3 rfl rfl rfl rfl ?_
    exact ⟨(none, [], 0), rfl, ⟨⟨fun _ => ⟨rfl, rfl⟩, fun h2 => absurd hbad h2⟩, goI_nil⟩, List.nil_sublist _⟩
  · skip
    refine TC.skip ?_
    refine TQ.thenC ?_
    refine TC.seq ?_
    have hb := vb_of hbad
    have hn9 := hb.n
    refine TC.region ?_
    refine TL.pure (PV.loadBox rfl Tb.agg_24 (by repeat (first | exact List.Mem.head _ | refine List.Mem.tail _ ?_ | refine List.mem_append_right _ ?_)) rfl) rfl (by decide) ?_
    refine TL.call rfl Tb.gofn_70 (fun a w hs => bests_ok w _ _ _ (hr.new hs.new) hb) rfl (by decide) (fun b9 hb9 => ?_)
    refine TL.pure (PV.move rfl) rfl (by decide) ?_
    refine TL.pure (PV.extract rfl rfl) rfl (by decide) ?_
    refine TL.pure (PV.extract rfl rfl) rfl (by decide) ?_
    refine TL.pure (PV.assign rfl) rfl (by decide) ?_
    refine TL.pure (PV.assign rfl) rfl (by decide) ?_
    refine TL.nil ?_
    refine TQ.thenC ?_
    refine TC.seq ?_
    have hrw := hb9.rows hb
    have hbf := bst_fold jn_min hb hb9.mx hb9.ex
    refine TC.region ?_
    refine TL.pure (PV.move rfl) rfl (by decide) ?_
    refine TL.call rfl Tb.gofn_71 (fun a w hs => (by rw [show gvP b9.1 = .slice (gp b9.1.1) b9.1.2.length (gc b9.1.1) from gval_eq hb9.g.ok]; exact least_ok w _ (gc b9.1.1) (b9.1.2.map (·.2)) (LsAt.gP (x := b9.1) hs.new (fun yy hyy => by repeat (first | exact List.mem_append_left _ hyy | exact List.mem_append_left _ (List.mem_append_right _ hyy) | exact List.mem_append_left _ (List.mem_append_left _ hyy) | refine List.mem_append_right _ ?_ | refine List.Mem.tail _ ?_)) (fun z hz yy hyy => by have := bl_mem (hb9.sub z hz) yy hyy; simp only [List.mem_append, List.mem_cons]; simp [this]) hb9.g.ok hb9.g.all) b9.1.2.length (by simp) hrw.1 (by omega) ls.length hrw.2.2 (by omega))) rfl (by decide) (fun h9 hh9 => ?_)
    refine TL.pure (PV.move rfl) rfl (by decide) ?_
    refine TL.pure (PV.assign rfl) rfl (by decide) ?_
    refine TL.pure (PV.assign rfl) rfl (by decide) ?_
    refine TL.pure (PV.assign rfl) rfl (by decide) ?_
    refine TL.nil ?_
    refine TQ.thenC ?_
    refine TC.ret ?_
    refine TQ.retE3 rfl rfl rfl rfl ?_
    rw [hb9.g.eq] at hh9
    exact ⟨(h9, fldJ min ((bstL ls b9.2.2 (allH ls)).getD 0 []) (bstL ls b9.2.2 (allH ls)) (bstL ls b9.2.2 (allH ls)).length, b9.2.2), by rw [Decidable.of_not_not hbad, hbf.ho.len], ⟨⟨fun h2 => absurd h2 hbad, fun _ => hbf⟩, go_lenI hh9 hbf.ho.len⟩, by rw [hb9.g.eq]; exact List.sublist_append_left _ _⟩

end Go.Proofs.Ytfgjojoipbbacaa
