/- Right hollows found from the empty one: the mathematics. -/
import Derived.Test.YtfgjojoipbbacaaQCI
import Derived.Test.YtfgjojoipbbacaaQAn
set_option linter.unusedVariables false
set_option linter.unusedSimpArgs false
namespace Go.Proofs.Ytfgjojoipbbacaa
open Go.Sx Go.RowKit
/-- A right hollow of the bog. -/
structure RH (ls : List (List Int)) (k : List Int) : Prop where
  len : k.length = 6
  rng : ∀ c, c < ls.length → 0 ≤ k.getD c 0 ∧ k.getD c 0 ≤ dep ls
  out : ∀ c, ls.length ≤ c → k.getD c 0 = 0
  stp : ∀ c, c + 1 < ls.length → -1 ≤ k.getD (c + 1) 0 - k.getD c 0 ∧ k.getD (c + 1) 0 - k.getD c 0 ≤ 1
def keysE (es : List Ent) : List (List Int) := es.map (·.1)
theorem lookE_is {k : List Int} : ∀ {es : List Ent} {i : Nat}, (lookE k es i).isSome = true ↔ k ∈ keysE es
  | [], _ => by simp [lookE, keysE]
  | e :: r, i => by
    have ih := lookE_is (k := k) (es := r) (i := i + 1)
    unfold keysE at ih ⊢
    by_cases h : k = e.1
    · simp [lookE, h]
    · show (if k = e.1 then some (i, e.2) else lookE k r (i + 1)).isSome = true ↔ _
      rw [if_neg h, ih]
      simp [h]
theorem lookE_no {k : List Int} {es : List Ent} {i : Nat} (h : lookE k es i = none) : k ∉ keysE es := fun hm => by
  have := (lookE_is (i := i)).2 hm
  rw [h] at this
  cases this
theorem lookE_val {k : List Int} : ∀ {es : List Ent} {i : Nat}, k ∈ keysE es → ∃ p, lookE k es i = some p ∧ (k, p.2) ∈ es
  | [], _, h => by simp [keysE] at h
  | e :: r, i, h => by
    by_cases h1 : k = e.1
    · exact ⟨(i, e.2), by simp [lookE, h1], by rw [h1]; exact .head _⟩
    · have h2 : k ∈ keysE r := by
        unfold keysE at h ⊢
        simpa [h1] using h
      obtain ⟨p, hp, hm⟩ := lookE_val (i := i + 1) h2
      exact ⟨p, by simp only [lookE, if_neg h1]; exact hp, .tail _ hm⟩
def boxN : Nat → List (List Int)
  | 0 => [[]]
  | n + 1 => (boxN n).flatMap fun t => [0 :: t, 1 :: t, 2 :: t, 3 :: t, 4 :: t]
theorem boxN_len : ∀ n, (boxN n).length = 5 ^ n
  | 0 => rfl
  | n + 1 => by
    have h : ∀ l : List (List Int), (l.flatMap fun t => [0 :: t, 1 :: t, 2 :: t, 3 :: t, 4 :: t]).length = 5 * l.length := by
      intro l
      induction l with
      | nil => rfl
      | cons a r ih => rw [List.flatMap_cons, List.length_append, ih]; simp only [List.length_cons, List.length_nil]; omega
    rw [boxN, h, boxN_len n, Nat.pow_succ, Nat.mul_comm]
theorem boxN_mem : ∀ (k : List Int), (∀ c, 0 ≤ k.getD c 0 ∧ k.getD c 0 ≤ 4) → k ∈ boxN k.length
  | [], _ => by simp [boxN]
  | a :: r, h => by
    have ih := boxN_mem r (fun c => by simpa using h (c + 1))
    have h0 := h 0
    simp only [List.getD_cons_zero] at h0
    rw [List.length_cons, boxN, List.mem_flatMap]
    refine ⟨r, ih, ?_⟩
    have : a = 0 ∨ a = 1 ∨ a = 2 ∨ a = 3 ∨ a = 4 := by omega
    rcases this with rfl | rfl | rfl | rfl | rfl <;> simp
theorem RH.box {ls : List (List Int)} {k : List Int} (hb : VB ls) (h : RH ls k) : k ∈ boxN 6 := by
  rw [← h.len]
  refine boxN_mem k fun c => ?_
  have h2 := hb.d
  by_cases hc : c < ls.length
  · have := h.rng c hc
    omega
  · rw [h.out c (by omega)]
    omega
theorem op_ne {ls : List (List Int)} {xs : List Int} {c : Nat} (h : opB ls xs c = true) : ¬ xs.getD c 0 = (dep ls : Int) := fun e => by rw [op_full e] at h; cases h
theorem op_near {ls : List (List Int)} {xs : List Int} {c d : Nat} (h : opB ls xs c = true) (hd : d < ls.length) (hn : (d : Int) = c - 1 ∨ (d : Int) = c + 1) : xs.getD c 0 ≤ xs.getD d 0 := by
  unfold opB at h
  rw [Bool.and_eq_true] at h
  have h1 : (d : Int) ∈ nearL ls c := by
    unfold nearL
    rw [List.mem_filter]
    refine ⟨by rcases hn with e | e <;> simp [e], ?_⟩
    unfold nrB wiB
    exact decide_eq_true (by omega)
  have := of_decide_eq_true (List.all_eq_true.1 h.2 _ h1)
  simpa using this
theorem set_at {xs : List Int} {c d : Nat} {v : Int} (hc : c < xs.length) : (xs.set c v).getD d 0 = if c = d then v else xs.getD d 0 := by
  simp only [List.getD_eq_getElem?_getD, List.getElem?_set]
  by_cases h : c = d
  · subst h
    simp [hc]
  · simp [h]
theorem RH.step {ls : List (List Int)} {k : List Int} {c : Nat} (hb : VB ls) (h : RH ls k) (hc : c < ls.length) (ho : opB ls k c = true) : RH ls (k.set c (k.getD c 0 + 1)) := by
  have hn := hb.n
  have hl := h.len
  have hne := op_ne ho
  have hrc := h.rng c hc
  refine ⟨by simp [hl], fun d hd => ?_, fun d hd => ?_, fun d hd => ?_⟩
  · rw [set_at (by omega)]
    have := h.rng d hd
    split <;> omega
  · rw [set_at (by omega), if_neg (by omega)]
    exact h.out d hd
  · rw [set_at (by omega), set_at (by omega)]
    have h1 := h.stp d hd
    by_cases e1 : c = d
    · subst e1
      have h2 := op_near ho (d := c + 1) hd (.inr (by omega))
      rw [if_neg (by omega), if_pos rfl]
      omega
    · by_cases e2 : c = d + 1
      · subst e2
        have h2 := op_near ho (d := d) (by omega) (.inl (by omega))
        rw [if_pos rfl, if_neg (by omega)]
        omega
      · rw [if_neg e2, if_neg e1]
        exact h1
theorem worK_set {ls : List (List Int)} {k : List Int} {c : Nat} (hk : c < k.length) (h0 : 0 ≤ k.getD c 0) : ∀ n, worK ls (k.set c (k.getD c 0 + 1)) n = worK ls k n + if c < n then (ls.getD c []).getD (k.getD c 0).toNat 0 else 0
  | 0 => by simp [worK]
  | n + 1 => by
    have ih := worK_set hk h0 n (ls := ls)
    show worK ls (k.set c (k.getD c 0 + 1)) n + sumN (ls.getD n []) ((k.set c (k.getD c 0 + 1)).getD n 0).toNat = worK ls k n + sumN (ls.getD n []) (k.getD n 0).toNat + _
    rw [ih, set_at hk]
    by_cases e : c = n
    · subst e
      rw [if_pos rfl, if_neg (Nat.lt_irrefl _), if_pos (by omega), show (k.getD c 0 + 1).toNat = (k.getD c 0).toNat + 1 by omega]
      show _ + (sumN (ls.getD c []) _ + (ls.getD c []).getD _ 0) = _
      omega
    · rw [if_neg e]
      by_cases h : c < n
      · rw [if_pos h, if_pos (by omega)]
        omega
      · rw [if_neg h, if_neg (by omega)]
        omega
theorem worK_bd {ls : List (List Int)} {k : List Int} (hb : VB ls) (h : RH ls k) : ∀ n : Nat, -200 * (n : Int) ≤ worK ls k n ∧ worK ls k n ≤ 200 * (n : Int)
  | 0 => by simp [worK]
  | n + 1 => by
    have h1 := worK_bd hb h n
    have h2 := sum_bd hb n (k.getD n 0).toNat
    have h4 := hb.d
    have h5 : (k.getD n 0).toNat ≤ 4 := by
      by_cases hc : n < ls.length
      · have := h.rng n hc; omega
      · rw [h.out n (by omega)]; decide
    have e : worK ls k (n + 1) = worK ls k n + sumN (ls.getD n []) (k.getD n 0).toNat := rfl
    rw [e]
    omega
theorem op_get {ls : List (List Int)} {xs : List Int} : ∀ {n u : Nat}, u < (opN ls xs n).length → ∃ c : Nat, c < n ∧ (opN ls xs n).getD u 0 = c ∧ opB ls xs c = true
  | 0, u, h => by simp [opN] at h
  | n + 1, u, h => by
    unfold opN at h ⊢
    by_cases hb : opB ls xs n = true
    · rw [if_pos hb] at h ⊢
      rw [List.length_append, List.length_singleton] at h
      by_cases hu : u < (opN ls xs n).length
      · obtain ⟨c, h1, h2, h3⟩ := op_get hu
        exact ⟨c, by omega, by rw [← h2, List.getD_eq_getElem?_getD, List.getElem?_append_left hu, List.getD_eq_getElem?_getD], h3⟩
      · refine ⟨n, by omega, ?_, hb⟩
        rw [List.getD_eq_getElem?_getD, List.getElem?_append_right (by omega), show u - (opN ls xs n).length = 0 by omega]
        rfl
    · rw [if_neg hb] at h ⊢
      obtain ⟨c, h1, h2, h3⟩ := op_get h
      exact ⟨c, by omega, h2, h3⟩
theorem op_idx {ls : List (List Int)} {xs : List Int} {c : Nat} (hb : opB ls xs c = true) : ∀ {n : Nat}, c < n → ∃ u, u < (opN ls xs n).length ∧ (opN ls xs n).getD u 0 = c
  | 0, h => by omega
  | n + 1, h => by
    unfold opN
    by_cases e : c = n
    · subst e
      rw [if_pos hb]
      refine ⟨(opN ls xs c).length, by simp, ?_⟩
      rw [List.getD_eq_getElem?_getD, List.getElem?_append_right (Nat.le_refl _), Nat.sub_self]
      rfl
    · obtain ⟨u, h1, h2⟩ := op_idx hb (n := n) (by omega)
      split
      · exact ⟨u, by rw [List.length_append]; omega, by rw [← h2, List.getD_eq_getElem?_getD, List.getElem?_append_left h1, List.getD_eq_getElem?_getD]⟩
      · exact ⟨u, h1, h2⟩
abbrev Hv := Vector Int 6
def mkV (xs : List Int) (hx : xs.length = 6) : Hv := ⟨xs.toArray, by simpa using hx⟩
def Zl : List Int := [0, 0, 0, 0, 0, 0]
structure WI (ls : List (List Int)) (es : List Ent) (l : List Hv) : Prop where
  good : ∀ q ∈ es, RH ls q.1 ∧ q.2 = worK ls q.1 ls.length
  nd : (keysE es).Nodup
  ln : (l.map Vector.toList).Nodup
  sub : ∀ x ∈ l, x.toList ∈ keysE es
  zero : Zl ∈ keysE es
  clo : ∀ k ∈ keysE es, k ∉ l.map Vector.toList → ∀ c, c < ls.length → opB ls k c = true → k.set c (k.getD c 0 + 1) ∈ keysE es
structure WJ (ls : List (List Int)) (x : Hv) (u : Nat) (es : List Ent) (l : List Hv) (n0 l0 : Nat) : Prop where
  good : ∀ q ∈ es, RH ls q.1 ∧ q.2 = worK ls q.1 ls.length
  nd : (keysE es).Nodup
  ln : (l.map Vector.toList).Nodup
  sub : ∀ x ∈ l, x.toList ∈ keysE es
  zero : Zl ∈ keysE es
  here : x.toList ∈ keysE es ∧ x.toList ∉ l.map Vector.toList
  clo : ∀ k ∈ keysE es, k ∉ l.map Vector.toList → k ≠ x.toList → ∀ c, c < ls.length → opB ls k c = true → k.set c (k.getD c 0 + 1) ∈ keysE es
  clx : ∀ j, j < u → x.toList.set ((opN ls x.toList ls.length).getD j 0).toNat (x.toList.getD ((opN ls x.toList ls.length).getD j 0).toNat 0 + 1) ∈ keysE es
  le : u ≤ (opN ls x.toList ls.length).length
  cnt : es.length + l0 = n0 + l.length ∧ n0 ≤ es.length
theorem Zl_at (c : Nat) : Zl.getD c 0 = 0 := by
  match c with
  | 0 | 1 | 2 | 3 | 4 | 5 => rfl
  | n + 6 => rfl
theorem worK_zero (ls : List (List Int)) : ∀ n, worK ls Zl n = 0
  | 0 => rfl
  | n + 1 => by
    show worK ls Zl n + sumN _ (Zl.getD n 0).toNat = 0
    rw [worK_zero ls n, Zl_at]
    rfl
theorem WI.zero_ {ls : List (List Int)} (hb : VB ls) : WI ls [(Zl, 0)] [mkV Zl rfl] where
  good := fun q hq => by
    obtain rfl := List.mem_singleton.1 hq
    refine ⟨⟨rfl, fun c _ => ?_, fun c _ => Zl_at c, fun c _ => ?_⟩, (worK_zero ls _).symm⟩
    · rw [Zl_at]; omega
    · rw [Zl_at, Zl_at]; omega
  nd := by simp [keysE]
  ln := by simp
  sub := fun x hx => by obtain rfl := List.mem_singleton.1 hx; exact .head _
  zero := .head _
  clo := fun k hk hn => absurd (by obtain rfl := List.mem_singleton.1 hk; exact .head _) hn
theorem len_of {ls : List (List Int)} {es : List Ent} {l : List Hv} (hb : VB ls) (good : ∀ q ∈ es, RH ls q.1 ∧ q.2 = worK ls q.1 ls.length) (nd : (keysE es).Nodup) (ln : (l.map Vector.toList).Nodup) (sub : ∀ x ∈ l, x.toList ∈ keysE es) : es.length ≤ 15625 ∧ l.length ≤ es.length := by
  have e1 : (keysE es).length = es.length := List.length_map _
  constructor
  · have h := nd.length_le_of_subset (l₂ := boxN 6) (fun k hk => by
      obtain ⟨q, hq, rfl⟩ := List.mem_map.1 hk
      exact (good q hq).1.box hb)
    rw [boxN_len, e1] at h
    exact h
  · have h := ln.length_le_of_subset (l₂ := keysE es) (fun k hk => by
      obtain ⟨x, hx, rfl⟩ := List.mem_map.1 hk
      exact sub x hx)
    rw [List.length_map, e1] at h
    exact h
theorem WI.len_ {ls : List (List Int)} {es : List Ent} {l : List Hv} (hb : VB ls) (h : WI ls es l) : es.length ≤ 15625 ∧ l.length ≤ es.length := len_of hb h.good h.nd h.ln h.sub
theorem WJ.len_ {ls : List (List Int)} {es : List Ent} {l : List Hv} {x : Hv} {u n0 l0 : Nat} (hb : VB ls) (h : WJ ls x u es l n0 l0) : es.length ≤ 15625 ∧ l.length ≤ es.length := len_of hb h.good h.nd h.ln h.sub
theorem WI.pop {ls : List (List Int)} {es : List Ent} {l : List Hv} {x : Hv} (h : WI ls es (l ++ [x])) : WJ ls x 0 es l es.length l.length := by
  have hl := h.ln
  rw [List.map_append, List.nodup_append] at hl
  refine ⟨h.good, h.nd, hl.1, fun y hy => h.sub y (List.mem_append_left _ hy), h.zero, ⟨h.sub x (List.mem_append_right _ (.head _)), fun hm => hl.2.2 _ hm _ (.head _) rfl⟩, fun k hk hn hx => h.clo k hk fun hm => ?_, fun j hj => absurd hj (Nat.not_lt_zero _), Nat.zero_le _, ⟨rfl, Nat.le_refl _⟩⟩
  rw [List.map_append, List.mem_append] at hm
  rcases hm with hm | hm
  · exact hn hm
  · exact hx (List.mem_singleton.1 hm)
theorem WJ.skip {ls : List (List Int)} {es : List Ent} {l : List Hv} {x : Hv} {u n0 l0 c : Nat} (h : WJ ls x u es l n0 l0) (hc : (opN ls x.toList ls.length).getD u 0 = (c : Int)) (hu : u < (opN ls x.toList ls.length).length)
    (hl : (lookE (x.toList.set c (x.toList.getD c 0 + 1)) es 0).isSome = true) : WJ ls x (u + 1) es l n0 l0 :=
  { h with
    le := hu
    clx := fun j hj => by
      by_cases e : j < u
      · exact h.clx j e
      · obtain rfl : j = u := by omega
        rw [hc]
        exact lookE_is.1 hl }
theorem WJ.put {ls : List (List Int)} {es : List Ent} {l : List Hv} {x y : Hv} {u n0 l0 c : Nat} {v : Int} (hb : VB ls) (h : WJ ls x u es l n0 l0) (hc : (opN ls x.toList ls.length).getD u 0 = (c : Int)) (hcn : c < ls.length) (hco : opB ls x.toList c = true) (hu : u < (opN ls x.toList ls.length).length)
    (hy : y.toList = x.toList.set c (x.toList.getD c 0 + 1)) (hl : lookE (x.toList.set c (x.toList.getD c 0 + 1)) es 0 = none) (hv : v = ((lookE x.toList es 0).map (·.2)).getD 0 + (ls.getD c []).getD (x.toList.getD c 0).toNat 0) : WJ ls x (u + 1) (es ++ [(x.toList.set c (x.toList.getD c 0 + 1), v)]) (l ++ [y]) n0 l0 := by
  have hno := lookE_no hl
  obtain ⟨p, hp, hpm⟩ := lookE_val (i := 0) h.here.1
  obtain ⟨hx, hxv⟩ := h.good _ hpm
  have hn := hb.n
  have hk : keysE (es ++ [(x.toList.set c (x.toList.getD c 0 + 1), v)]) = keysE es ++ [x.toList.set c (x.toList.getD c 0 + 1)] := by simp [keysE]
  have hyl : y.toList ∉ l.map Vector.toList := fun hm => by
    obtain ⟨z, hz, e⟩ := List.mem_map.1 hm
    exact hno (hy ▸ e ▸ h.sub z hz)
  have hxy : x.toList ≠ y.toList := fun e => by
    have h1 := set_at (xs := x.toList) (c := c) (d := c) (v := x.toList.getD c 0 + 1) (by have := hx.len; simp only at this; omega)
    rw [← hy, ← e, if_pos rfl] at h1
    omega
  refine ⟨fun q hq => ?_, ?_, ?_, fun z hz => ?_, ?_, ⟨?_, ?_⟩, fun k hkm hkl hkx d hd ho => ?_, fun j hj => ?_, hu, ?_⟩
  · rcases List.mem_append.1 hq with hq | hq
    · exact h.good q hq
    · obtain rfl := List.mem_singleton.1 hq
      refine ⟨hx.step hb hcn hco, ?_⟩
      show v = _
      rw [worK_set (show c < x.toList.length by simp; omega) (hx.rng c hcn).1, if_pos hcn, hv, hp]
      simp only [Option.map_some, Option.getD_some]
      rw [← hxv]
  · rw [hk, List.nodup_append]
    exact ⟨h.nd, by simp, fun a ha b hb2 e => hno (by obtain rfl := List.mem_singleton.1 hb2; exact e ▸ ha)⟩
  · rw [List.map_append, List.nodup_append]
    exact ⟨h.ln, by simp, fun a ha b hb2 e => hyl (by obtain rfl := List.mem_singleton.1 hb2; exact e ▸ ha)⟩
  · rw [hk]
    rcases List.mem_append.1 hz with hz | hz
    · exact List.mem_append_left _ (h.sub z hz)
    · obtain rfl := List.mem_singleton.1 hz
      rw [hy]
      exact List.mem_append_right _ (.head _)
  · rw [hk]; exact List.mem_append_left _ h.zero
  · rw [hk]; exact List.mem_append_left _ h.here.1
  · rw [List.map_append, List.mem_append]
    rintro (hm | hm)
    · exact h.here.2 hm
    · exact hxy (List.mem_singleton.1 hm)
  · rw [hk] at hkm ⊢
    rw [List.map_append, List.mem_append] at hkl
    rcases List.mem_append.1 hkm with hm | hm
    · exact List.mem_append_left _ (h.clo k hm (fun e => hkl (.inl e)) hkx d hd ho)
    · obtain rfl := List.mem_singleton.1 hm
      exact absurd (.inr (by rw [← hy]; exact .head _)) hkl
  · rw [hk]
    by_cases e : j < u
    · exact List.mem_append_left _ (h.clx j e)
    · obtain rfl : j = u := by omega
      rw [hc]
      exact List.mem_append_right _ (.head _)
  · have := h.cnt
    simp only [List.length_append, List.length_singleton]
    omega
theorem WJ.done {ls : List (List Int)} {es : List Ent} {l : List Hv} {x : Hv} {u n0 l0 : Nat} (h : WJ ls x u es l n0 l0) (hu : (opN ls x.toList ls.length).length ≤ u) : WI ls es l :=
  ⟨h.good, h.nd, h.ln, h.sub, h.zero, fun k hk hn c hc ho => by
    by_cases e : k = x.toList
    · subst e
      obtain ⟨j, hj, hjc⟩ := op_idx ho hc
      have := h.clx j (by omega)
      rw [hjc] at this
      exact this
    · exact h.clo k hk hn e c hc ho⟩
theorem WJ.val {ls : List (List Int)} {es : List Ent} {l : List Hv} {x : Hv} {u n0 l0 : Nat} (hb : VB ls) (h : WJ ls x u es l n0 l0) : -100000 ≤ ((lookE x.toList es 0).map (·.2)).getD 0 ∧ ((lookE x.toList es 0).map (·.2)).getD 0 ≤ 100000 ∧ RH ls x.toList := by
  obtain ⟨p, hp, hpm⟩ := lookE_val (i := 0) h.here.1
  obtain ⟨hx, hxv⟩ := h.good _ hpm
  have h1 := worK_bd hb hx ls.length
  have hn := hb.n
  simp only at hxv hx h1
  rw [← hxv] at h1
  rw [hp]
  simp only [Option.map_some, Option.getD_some]
  exact ⟨by omega, by omega, hx⟩
end Go.Proofs.Ytfgjojoipbbacaa
