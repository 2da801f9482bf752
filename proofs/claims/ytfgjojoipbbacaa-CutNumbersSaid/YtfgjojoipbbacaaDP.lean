/- The order of hollows: mathematics; comparing: contracts. -/
import Derived.Test.YtfgjojoipbbacaaDO
set_option linter.unusedVariables false
set_option linter.unusedSimpArgs false
namespace Go.Proofs.Ytfgjojoipbbacaa
open Go.Sx Go.RowKit

def cmpI (i j : Int) : Int := if i < j then -1 else if j < i then 1 else 0
theorem cmpI_anti (i j : Int) : cmpI j i = - cmpI i j := by unfold cmpI; split <;> split <;> first | omega | (exfalso; omega) | rfl
theorem cmpI_0 {i j : Int} (h : cmpI i j = 0) : i = j := by unfold cmpI at h; split at h; cases h; split at h; cases h; omega
theorem cmpI_self (i : Int) : cmpI i i = 0 := by unfold cmpI; rw [if_neg (by omega), if_neg (by omega)]
def cmpL : List Int → List Int → Int
  | [], [] => 0
  | [], _ :: _ => -1
  | _ :: _, [] => 1
  | x :: xs, y :: ys => if cmpI x y ≠ 0 then cmpI x y else cmpL xs ys
theorem cmpL_diff : ∀ {xs ys : List Int} (k : Nat), k < xs.length → k < ys.length → (∀ j, j < k → xs.getD j 0 = ys.getD j 0) → cmpI (xs.getD k 0) (ys.getD k 0) ≠ 0 → cmpL xs ys = cmpI (xs.getD k 0) (ys.getD k 0)
  | x :: xs, y :: ys, 0, _, _, _, h => by
    have h' : cmpI x y ≠ 0 := h
    show (if cmpI x y ≠ 0 then cmpI x y else _) = cmpI x y
    rw [if_pos h']
  | x :: xs, y :: ys, k + 1, h1, h2, he, h => by
    have h0 : x = y := he 0 (by omega)
    show (if cmpI x y ≠ 0 then cmpI x y else cmpL xs ys) = _
    rw [if_neg (by rw [h0, cmpI_self]; decide)]
    exact cmpL_diff k (by simpa using h1) (by simpa using h2) (fun j hj => he (j + 1) (by omega)) h
theorem cmpL_self : ∀ xs : List Int, cmpL xs xs = 0
  | [] => rfl
  | x :: xs => by show (if cmpI x x ≠ 0 then cmpI x x else cmpL xs xs) = 0; rw [if_neg (by rw [cmpI_self]; decide)]; exact cmpL_self xs
theorem cmpL_anti : ∀ xs ys : List Int, cmpL ys xs = - cmpL xs ys
  | [], [] => rfl
  | [], _ :: _ => rfl
  | _ :: _, [] => rfl
  | x :: xs, y :: ys => by
    show (if cmpI y x ≠ 0 then cmpI y x else cmpL ys xs) = - (if cmpI x y ≠ 0 then cmpI x y else cmpL xs ys)
    rw [cmpI_anti x y, cmpL_anti xs ys]
    by_cases h : cmpI x y = 0
    · rw [if_neg (by omega), if_neg (by omega)]
    · rw [if_pos (by omega), if_pos h]
theorem cmpL_0 : ∀ {xs ys : List Int}, cmpL xs ys = 0 → xs = ys
  | [], [], _ => rfl
  | [], _ :: _, h => by cases h
  | _ :: _, [], h => by cases h
  | x :: xs, y :: ys, h => by
    have h' : (if cmpI x y ≠ 0 then cmpI x y else cmpL xs ys) = 0 := h
    by_cases h0 : cmpI x y = 0
    · rw [if_neg (by omega)] at h'
      rw [cmpI_0 h0, cmpL_0 h']
    · rw [if_pos h0] at h'; exact absurd h' h0
theorem cmpL_trans : ∀ {xs ys zs : List Int}, cmpL xs ys ≤ 0 → cmpL ys zs ≤ 0 → cmpL xs zs ≤ 0
  | [], _, [], _, _ => by decide
  | [], _, _ :: _, _, _ => by show (-1 : Int) ≤ 0; decide
  | _ :: _, [], _, h, _ => by have h' : (1 : Int) ≤ 0 := h; omega
  | _ :: _, _ :: _, [], _, h => by have h' : (1 : Int) ≤ 0 := h; omega
  | x :: xs, y :: ys, z :: zs, h1, h2 => by
    have h1' : (if cmpI x y ≠ 0 then cmpI x y else cmpL xs ys) ≤ 0 := h1
    have h2' : (if cmpI y z ≠ 0 then cmpI y z else cmpL ys zs) ≤ 0 := h2
    show (if cmpI x z ≠ 0 then cmpI x z else cmpL xs zs) ≤ 0
    by_cases a : cmpI x y = 0
    · obtain rfl := cmpI_0 a
      rw [if_neg (by omega)] at h1'
      by_cases b : cmpI x z = 0
      · rw [if_neg (by omega)] at h2' ⊢; exact cmpL_trans h1' h2'
      · rw [if_pos b] at h2' ⊢; exact h2'
    · rw [if_pos a] at h1'
      by_cases b : cmpI y z = 0
      · obtain rfl := cmpI_0 b
        rw [if_pos a]; exact h1'
      · rw [if_pos b] at h2'
        have h3 : x < y := by unfold cmpI at h1' a; split at h1'; assumption; split at h1'; omega; simp_all
        have h4 : y < z := by unfold cmpI at h2' b; split at h2'; assumption; split at h2'; omega; simp_all
        have e : cmpI x z = -1 := if_pos (by omega)
        rw [if_pos (by rw [e]; decide), e]; decide
theorem cmpL_app : ∀ {xs ys : List Int} (s t : List Int), xs.length = ys.length → cmpL (xs ++ s) (ys ++ t) = if cmpL xs ys ≠ 0 then cmpL xs ys else cmpL s t
  | [], [], s, t, _ => by rw [if_neg (by show ¬ (0 : Int) ≠ 0; decide)]; rfl
  | x :: xs, y :: ys, s, t, h => by
    show (if cmpI x y ≠ 0 then cmpI x y else cmpL (xs ++ s) (ys ++ t)) = if (if cmpI x y ≠ 0 then cmpI x y else cmpL xs ys) ≠ 0 then (if cmpI x y ≠ 0 then cmpI x y else cmpL xs ys) else cmpL s t
    rw [cmpL_app s t (by simpa using h)]
    by_cases a : cmpI x y = 0
    · have a' : ¬ cmpI x y ≠ 0 := fun h => h a
      simp only [if_neg a']
    · simp only [if_pos a]
/-! Hollows as arrays. -/
def toHv (xs : List Int) : Hv := Vector.ofFn fun i => xs.getD i.1 0
theorem toHv_six {xs : List Int} (h : xs.length = 6) : (toHv xs).toList = xs := by
  apply List.ext_getElem (by simp [h])
  intro i h1 h2
  simp [toHv, List.getD, h2]
theorem toHv_pad {xs : List Int} (h : xs.length ≤ 6) : (toHv xs).toList = pad6 xs := by
  apply List.ext_getElem (by simp [pad_len h])
  intro i h1 h2
  have h3 : i < 6 := by simpa using h1
  have := pad_at (xs := xs) i
  simp only [List.getD_eq_getElem?_getD] at this
  simp only [List.getElem?_eq_getElem h2, Option.getD_some] at this
  simp [toHv, List.getD_eq_getElem?_getD, this]
def cmpH (x y : Hv) : Int := cmpL x.toList y.toList
abbrev LeH (x y : Hv) : Prop := ¬ cmpH y x < 0
theorem leH_anti {x y : Hv} (h1 : LeH x y) (h2 : LeH y x) : x = y := by
  unfold LeH cmpH at *
  have := cmpL_anti x.toList y.toList
  exact Vector.toList_inj.1 (cmpL_0 (by omega))
/-- All right hollows come in ascending order. -/
theorem all_asc (d : Nat) : ∀ k : Nat, (allL d k).Pairwise fun s t => cmpL s t < 0
  | 0 => by simp [allL]
  | k + 1 => by
    show ((allL d k).flatMap (exts d)).Pairwise _
    rw [List.pairwise_flatMap]
    constructor
    · intro t _
      unfold exts extK
      rw [List.pairwise_map]
      refine List.Pairwise.sublist List.filter_sublist (List.Pairwise.imp ?_ (List.pairwise_lt_range (n := d + 1)))
      intro i j hij
      rw [cmpL_app _ _ rfl, if_neg (by rw [cmpL_self]; decide)]
      show (if cmpI (i : Int) j ≠ 0 then cmpI (i : Int) j else 0) < 0
      have e : cmpI (i : Int) j = -1 := if_pos (by omega)
      rw [e]; decide
    · have hlen : ∀ t ∈ allL d k, t.length = k := fun t ht => ((all_ph d k t).1 ht).len
      refine (List.Pairwise.imp_of_mem ?_ (all_asc d k))
      intro s t hs ht hlt x hx y hy
      obtain ⟨i, _, rfl⟩ := List.mem_map.1 hx
      obtain ⟨j, _, rfl⟩ := List.mem_map.1 hy
      rw [cmpL_app _ _ (by rw [hlen s hs, hlen t ht]), if_pos (by omega)]
      exact hlt
/-- All right hollows of a bog, as arrays. -/
def allV (ls : List (List Int)) : List Hv := (allH ls).map toHv
theorem allV_asc {ls : List (List Int)} (hb : VB ls) : (allV ls).Pairwise fun x y => cmpH x y < 0 := by
  unfold allV
  rw [List.pairwise_map]
  refine List.Pairwise.imp_of_mem ?_ (all_asc (dep ls) ls.length)
  intro s t hs ht hlt
  have h1 := ((all_ho hb s).1 hs).len
  have h2 := ((all_ho hb t).1 ht).len
  have hn := hb.n
  unfold cmpH
  rw [toHv_pad (by omega), toHv_pad (by omega)]
  unfold pad6
  rw [cmpL_app _ _ (by omega), if_pos (by omega)]
  exact hlt
theorem allV_mem {ls : List (List Int)} (hb : VB ls) (x : Hv) : x ∈ allV ls ↔ RH ls x.toList := by
  have hn := hb.n
  constructor
  · intro h
    obtain ⟨t, ht, rfl⟩ := List.mem_map.1 h
    have h1 := (all_ho hb t).1 ht
    rw [toHv_pad (by have := h1.len; omega)]
    exact ho_rh h1
  · intro h
    obtain ⟨h1, h2⟩ := rh_ho hb h
    refine List.mem_map.2 ⟨x.toList.take ls.length, (all_ho hb _).2 h1, ?_⟩
    refine Vector.toList_inj.1 ?_
    rw [toHv_pad (by have := h1.len; omega), h2]
theorem asc_nodup {l : List Hv} (h : l.Pairwise fun x y => cmpH x y < 0) : l.Nodup := h.imp fun {x y} hlt e => by subst e; unfold cmpH at hlt; rw [cmpL_self] at hlt; exact absurd hlt (by decide)
/-- Keys that are sorted are all right hollows. -/
theorem keys_sorted {ls : List (List Int)} {es : List Ent} {l m : List Hv} (hb : VB ls) (hw : WI ls es []) (hp : (l.map Vector.toList).Perm (keysE es)) (hm : m.Perm l) (hs : m.Pairwise LeH) : m = allV ls := by
  have hnd : l.Nodup := by
    have := (hp.nodup_iff).2 hw.nd
    exact List.Pairwise.of_map Vector.toList (fun a b h e => h (congrArg _ e)) this
  have hmem : ∀ x, x ∈ l ↔ x ∈ allV ls := fun x => by
    rw [allV_mem hb]
    constructor
    · intro h
      obtain ⟨q, hq, e⟩ := List.mem_map.1 ((hp.mem_iff).1 (List.mem_map.2 ⟨x, h, rfl⟩))
      rw [← e]; exact (hw.good q hq).1
    · intro h
      have := (hp.mem_iff).2 (WI.all hb hw _ _ h rfl)
      obtain ⟨y, hy, e⟩ := List.mem_map.1 this
      rwa [← Vector.toList_inj.1 e]
  refine List.Perm.eq_of_pairwise (le := LeH) (fun _ _ _ _ h1 h2 => leH_anti h1 h2) hs ?_ (hm.trans ((List.perm_ext_iff_of_nodup hnd (asc_nodup (allV_asc hb))).2 hmem))
  refine (allV_asc hb).imp ?_
  intro x y h
  unfold LeH cmpH at *
  have := cmpL_anti x.toList y.toList
  omega


set_option maxRecDepth 100000 in
theorem isNaN_ok (w0 : World) (i : Int) :
    Calls Try.prog 129 #[.int .i64 i] w0 (Post (X := Unit) (fun _ => .bool false) (fun _ => True) (fun _ => []) w0) := by
  refine calls Try.func129 rfl (n := 6) rfl (by simp) ?_
  refine TC.seq ?_
  refine TC.region ?_
  refine TL.pure (PV.assign rfl) rfl (by decide) ?_
  refine TL.nil ?_
  refine TQ.thenC ?_
  refine TC.seq ?_
  refine TC.region ?_
  refine TL.pure (PV.move rfl) rfl (by decide) ?_
  refine TL.pure (PV.move rfl) rfl (by decide) ?_
  refine TL.pure (PV.neq rfl rfl) rfl (by decide) ?_
  refine TL.pure (PV.assign rfl) rfl (by decide) ?_
  refine TL.nil ?_
  refine TQ.thenC ?_
  refine TC.ret ?_
  refine TQ.retE1 rfl rfl ?_
  exact ⟨(), by simp, trivial, List.nil_sublist _⟩

set_option maxRecDepth 100000 in
theorem cmp_ok (w0 : World) (i j : Int) :
    Calls Try.prog 117 #[.int .i64 i, .int .i64 j] w0 (Post (X := Unit) (fun _ => .int .i64 (cmpI i j)) (fun _ => True) (fun _ => []) w0) := by
  refine calls Try.func117 rfl (n := 20) rfl (by simp) ?_
  refine TC.seq ?_
  refine TC.region ?_
  refine TL.pure (PV.assign rfl) rfl (by decide) ?_
  refine TL.nil ?_
  refine TQ.thenC ?_
  refine TC.seq ?_
  refine TC.region ?_
  refine TL.pure (PV.move rfl) rfl (by decide) ?_
  refine TL.call rfl Tb.gofn_129 (fun a w hs => isNaN_ok _ _) rfl (by decide) (fun _ _ => ?_)
  refine TL.pure (PV.assign rfl) rfl (by decide) ?_
  refine TL.nil ?_
  refine TQ.thenC ?_
  refine TC.seq ?_
  refine TC.region ?_
  refine TL.pure (PV.move rfl) rfl (by decide) ?_
  refine TL.call rfl Tb.gofn_129 (fun a w hs => isNaN_ok _ _) rfl (by decide) (fun _ _ => ?_)
  refine TL.pure (PV.assign rfl) rfl (by decide) ?_
  refine TL.nil ?_
  refine TQ.thenC ?_
  refine TC.seq ?_
  refine TC.seq ?_
  refine TC.region ?_
  refine TL.pure (PV.move rfl) rfl (by decide) ?_
  refine TL.nil ?_
  refine TQ.thenC ?_
  first | refine TC.condD rfl (fun hn => ?_) (fun hn => ?_) | refine TC.cond rfl (fun hn => ?_) (fun hn => ?_)
  · skip
    refine TC.seq ?_
    refine TC.seq ?_
    refine TC.region ?_
    refine TL.pure (PV.move rfl) rfl (by decide) ?_
    refine TL.nil ?_
    refine TQ.thenC ?_
    first | refine TC.condD rfl (fun h1 => ?_) (fun h1 => ?_) | refine TC.cond rfl (fun h1 => ?_) (fun h1 => ?_)
    · skip
      refine TC.seq ?_
      refine TC.region ?_
      refine TL.pure (PV.assign rfl) rfl (by decide) ?_
      refine TL.nil ?_
      refine TQ.thenC ?_
      refine TC.ret ?_
      refine TQ.thenR ?_
      refine TQ.thenR ?_
      refine TQ.retE1 rfl rfl ?_
      first | exact (Bool.false_ne_true hn).elim | exact ⟨(), by rw [cmpI, if_pos (by omega)], trivial, List.nil_sublist _⟩ | exact ⟨(), by rw [cmpI, if_neg (by omega), if_pos (by omega)], trivial, List.nil_sublist _⟩ | exact ⟨(), by rw [cmpI, if_neg (by omega), if_neg (by omega)], trivial, List.nil_sublist _⟩
    · skip
      refine TC.skip ?_
      refine TQ.thenC ?_
      refine TC.seq ?_
      refine TC.region ?_
      refine TL.pure (PV.assign rfl) rfl (by decide) ?_
      refine TL.nil ?_
      refine TQ.thenC ?_
      refine TC.ret ?_
      refine TQ.thenR ?_
      refine TQ.retE1 rfl rfl ?_
      first | exact (Bool.false_ne_true hn).elim | exact ⟨(), by rw [cmpI, if_pos (by omega)], trivial, List.nil_sublist _⟩ | exact ⟨(), by rw [cmpI, if_neg (by omega), if_pos (by omega)], trivial, List.nil_sublist _⟩ | exact ⟨(), by rw [cmpI, if_neg (by omega), if_neg (by omega)], trivial, List.nil_sublist _⟩
  · skip
    refine TC.skip ?_
    refine TQ.thenC ?_
    refine TC.seq ?_
    refine TC.seq ?_
    refine TC.region ?_
    refine TL.pure (PV.move rfl) rfl (by decide) ?_
    refine TL.nil ?_
    refine TQ.thenC ?_
    first | refine TC.condD rfl (fun hn => ?_) (fun hn => ?_) | refine TC.cond rfl (fun hn => ?_) (fun hn => ?_)
    · skip
      refine TC.seq ?_
      refine TC.region ?_
      refine TL.pure (PV.assign rfl) rfl (by decide) ?_
      refine TL.nil ?_
      refine TQ.thenC ?_
      refine TC.ret ?_
      refine TQ.thenR ?_
      refine TQ.retE1 rfl rfl ?_
      first | exact (Bool.false_ne_true hn).elim | exact ⟨(), by rw [cmpI, if_pos (by omega)], trivial, List.nil_sublist _⟩ | exact ⟨(), by rw [cmpI, if_neg (by omega), if_pos (by omega)], trivial, List.nil_sublist _⟩ | exact ⟨(), by rw [cmpI, if_neg (by omega), if_neg (by omega)], trivial, List.nil_sublist _⟩
    · skip
      refine TC.skip ?_
      refine TQ.thenC ?_
      refine TC.seq ?_
      refine TC.seq ?_
      refine TC.region ?_
      refine TL.pure (PV.move rfl) rfl (by decide) ?_
      refine TL.pure (PV.move rfl) rfl (by decide) ?_
      refine TL.pure (PV.lss rfl rfl) rfl (by decide) ?_
      refine TL.nil ?_
      refine TQ.thenC ?_
      first | refine TC.condD rfl (fun hA => ?_) (fun hA => ?_) | refine TC.cond rfl (fun hA => ?_) (fun hA => ?_)
      · skip
        refine TC.seq ?_
        refine TC.region ?_
        refine TL.pure (PV.assign rfl) rfl (by decide) ?_
        refine TL.nil ?_
        refine TQ.thenC ?_
        refine TC.ret ?_
        refine TQ.thenR ?_
        refine TQ.retE1 rfl rfl ?_
        first | exact (Bool.false_ne_true hn).elim | exact ⟨(), by rw [cmpI, if_pos (by omega)], trivial, List.nil_sublist _⟩ | exact ⟨(), by rw [cmpI, if_neg (by omega), if_pos (by omega)], trivial, List.nil_sublist _⟩ | exact ⟨(), by rw [cmpI, if_neg (by omega), if_neg (by omega)], trivial, List.nil_sublist _⟩
      · skip
        refine TC.skip ?_
        refine TQ.thenC ?_
        refine TC.seq ?_
        refine TC.seq ?_
        refine TC.region ?_
        refine TL.pure (PV.move rfl) rfl (by decide) ?_
        refine TL.pure (PV.move rfl) rfl (by decide) ?_
        refine TL.pure (PV.gtr rfl rfl) rfl (by decide) ?_
        refine TL.nil ?_
        refine TQ.thenC ?_
        first | refine TC.condD rfl (fun hB => ?_) (fun hB => ?_) | refine TC.cond rfl (fun hB => ?_) (fun hB => ?_)
        · skip
          refine TC.seq ?_
          refine TC.region ?_
          refine TL.pure (PV.assign rfl) rfl (by decide) ?_
          refine TL.nil ?_
          refine TQ.thenC ?_
          refine TC.ret ?_
          refine TQ.thenR ?_
          refine TQ.retE1 rfl rfl ?_
          first | exact (Bool.false_ne_true hn).elim | exact ⟨(), by rw [cmpI, if_pos (by omega)], trivial, List.nil_sublist _⟩ | exact ⟨(), by rw [cmpI, if_neg (by omega), if_pos (by omega)], trivial, List.nil_sublist _⟩ | exact ⟨(), by rw [cmpI, if_neg (by omega), if_neg (by omega)], trivial, List.nil_sublist _⟩
        · skip
          refine TC.skip ?_
          refine TQ.thenC ?_
          refine TC.seq ?_
          refine TC.region ?_
          refine TL.pure (PV.assign rfl) rfl (by decide) ?_
          refine TL.nil ?_
          refine TQ.thenC ?_
          refine TC.ret ?_
          refine TQ.retE1 rfl rfl ?_
          first | exact (Bool.false_ne_true hn).elim | exact ⟨(), by rw [cmpI, if_pos (by omega)], trivial, List.nil_sublist _⟩ | exact ⟨(), by rw [cmpI, if_neg (by omega), if_pos (by omega)], trivial, List.nil_sublist _⟩ | exact ⟨(), by rw [cmpI, if_neg (by omega), if_neg (by omega)], trivial, List.nil_sublist _⟩

set_option maxRecDepth 100000 in
set_option maxHeartbeats 1000000 in
theorem compareS_ok (w0 : World) (pl : Option Addr) (cl : Nat) (xs : List Int) (hx : IntsAt w0 pl xs) (p2 : Option Addr) (c2 : Nat) (ys : List Int) (hy : IntsAt w0 p2 ys) (N : Nat) (hN : xs.length = N) (hM : ys.length = N) (hl : N ≤ 1000000) :
    Calls Try.prog 111 #[.slice pl N cl, .slice p2 N c2] w0 (Post (X := Unit) (fun _ => .int .i64 (cmpL xs ys)) (fun _ => True) (fun _ => []) w0) := by
  refine calls Try.func111 rfl (n := 36) rfl (by simp) ?_
  refine TC.seq ?_
  refine TC.region ?_
  refine TL.pure (PV.assign rfl) rfl (by decide) ?_
  refine TL.nil ?_
  refine TQ.thenC ?_
  refine TC.seq ?_
  refine TC.seq ?_
  refine TC.region ?_
  refine TL.pure (PV.move rfl) rfl (by decide) ?_
  refine TL.pure (PV.len rfl Tb.sl_25) rfl (by decide) ?_
  refine TL.pure (PV.move rfl) rfl (by decide) ?_
  refine TL.nil ?_
  refine TQ.thenC ?_
  refine TC.block ?_
  -- live and written in the loop, not told: [4]
  refine TC.loopG [0, 1, 9, 10] (X := Nat) (fun k => k ≤ N ∧ ∀ j, j < k → xs.getD j 0 = ys.getD j 0) (fun k => [(11, .int .i64 k)]) (fun k => N - k) 0 ⟨Nat.zero_le _, fun j hj => absurd hj (Nat.not_lt_zero _)⟩ (by repeat (first | exact True.intro | refine And.intro rfl ?_)) ?_
  intro k hk
  refine TC.seq ?_
  refine TC.region ?_
  refine TL.pure (PV.lss rfl rfl) rfl (by decide) ?_
  refine TL.nil ?_
  refine TQ.thenC ?_
  refine TC.seq ?_
  first | refine TC.condD rfl (fun hlt => ?_) (fun hlt => ?_) | refine TC.cond rfl (fun hlt => ?_) (fun hlt => ?_)
  · skip
    refine TC.skip ?_
    refine TQ.thenC ?_
    refine TC.seq ?_
    refine TC.block ?_
    refine TC.seq ?_
    obtain ⟨q2, hq2p, hq2⟩ := hx k (by omega)
    obtain ⟨q3, hq3p, hq3⟩ := hy k (by omega)
    refine TC.region ?_
    refine TL.pure (PV.move rfl) rfl (by decide) ?_
    refine TL.pure (PV.indexA rfl hq2p rfl Tb.elm_25 rfl (by omega)) rfl (by decide) ?_
    refine TL.pure (PV.loadOld rfl Tb.one_3 hq2) rfl (by decide) ?_
    refine TL.pure (PV.assign rfl) rfl (by decide) ?_
    refine TL.pure (PV.assign rfl) rfl (by decide) ?_
    refine TL.nil ?_
    refine TQ.thenC ?_
    refine TC.seq ?_
    refine TC.seq ?_
    refine TC.region ?_
    refine TL.pure (PV.move rfl) rfl (by decide) ?_
    refine TL.pure (PV.move rfl) rfl (by decide) ?_
    refine TL.pure (PV.len rfl Tb.sl_25) rfl (by decide) ?_
    refine TL.pure (PV.geq rfl rfl) rfl (by decide) ?_
    refine TL.nil ?_
    refine TQ.thenC ?_
    first | refine TC.condD rfl (fun hge => ?_) (fun hge => ?_) | refine TC.cond rfl (fun hge => ?_) (fun hge => ?_)
    · skip
      refine TC.seq ?_
      refine TC.region ?_
      refine TL.pure (PV.assign rfl) rfl (by decide) ?_
      refine TL.nil ?_
      refine TQ.thenC ?_
      refine TC.ret ?_
      refine TQ.thenR ?_
      refine TQ.blkR ?_
      refine TQ.thenR ?_
      refine TQ.thenR ?_
      refine TQ.blkR ?_
      refine TQ.thenR ?_
      refine TQ.retE1 rfl rfl ?_
      first | (exfalso; omega) | exact ⟨(), by rw [cmpL_diff k (by omega) (by omega) hk.2 hne], trivial, List.nil_sublist _⟩ | (have he : xs = ys := ints_ext (by omega) (fun j hj => hk.2 j (by omega)); exact ⟨(), by rw [he, cmpL_self], trivial, List.nil_sublist _⟩)
    · skip
      refine TC.skip ?_
      refine TQ.thenC ?_
      refine TC.seq ?_
      refine TC.region ?_
      refine TL.pure (PV.move rfl) rfl (by decide) ?_
      refine TL.pure (PV.move rfl) rfl (by decide) ?_
      refine TL.pure (PV.indexA rfl hq3p rfl Tb.elm_25 rfl (by omega)) rfl (by decide) ?_
      refine TL.pure (PV.loadOld rfl Tb.one_3 hq3) rfl (by decide) ?_
      refine TL.pure (PV.assign rfl) rfl (by decide) ?_
      refine TL.nil ?_
      refine TQ.thenC ?_
      refine TC.seq ?_
      refine TC.region ?_
      refine TL.pure (PV.move rfl) rfl (by decide) ?_
      refine TL.pure (PV.move rfl) rfl (by decide) ?_
      refine TL.call rfl Tb.gofn_117 (fun a w hs => cmp_ok w _ _) rfl (by decide) (fun _ _ => ?_)
      refine TL.pure (PV.assign rfl) rfl (by decide) ?_
      refine TL.nil ?_
      refine TQ.thenC ?_
      refine TC.seq ?_
      refine TC.region ?_
      refine TL.pure (PV.move rfl) rfl (by decide) ?_
      refine TL.pure (PV.neq rfl rfl) rfl (by decide) ?_
      refine TL.nil ?_
      refine TQ.thenC ?_
      first | refine TC.condD rfl (fun hne => ?_) (fun hne => ?_) | refine TC.cond rfl (fun hne => ?_) (fun hne => ?_)
      · skip
        refine TC.seq ?_
        refine TC.region ?_
        refine TL.pure (PV.move rfl) rfl (by decide) ?_
        refine TL.pure (PV.assign rfl) rfl (by decide) ?_
        refine TL.nil ?_
        refine TQ.thenC ?_
        refine TC.ret ?_
        refine TQ.blkR ?_
        refine TQ.thenR ?_
        refine TQ.thenR ?_
        refine TQ.blkR ?_
        refine TQ.thenR ?_
        refine TQ.retE1 rfl rfl ?_
        first | (exfalso; omega) | exact ⟨(), by rw [cmpL_diff k (by omega) (by omega) hk.2 hne], trivial, List.nil_sublist _⟩ | (have he : xs = ys := ints_ext (by omega) (fun j hj => hk.2 j (by omega)); exact ⟨(), by rw [he, cmpL_self], trivial, List.nil_sublist _⟩)
      · skip
        refine TC.skip ?_
        refine TQ.blkN ?_
        refine TQ.thenC ?_
        refine TC.region ?_
        refine TL.pure (PV.add rfl rfl (by omega)) rfl (by decide) ?_
        refine TL.pure (PV.move rfl) rfl (by decide) ?_
        refine TL.nil ?_
        refine TQ.thenN ?_
        refine TQ.backK (k + 1) (by repeat (first | exact True.intro | refine And.intro rfl ?_)) (by repeat (first | exact True.intro | refine And.intro rfl ?_)) (by repeat (first | exact List.Sublist.slnil | exact List.nil_sublist _ | exact List.Sublist.refl _ | refine List.Sublist.cons_cons _ ?_ | refine List.Sublist.cons _ ?_ | refine List.Sublist.trans ?_ (List.sublist_append_right _ _))) ⟨by omega, fun j hj => if e : j < k then hk.2 j e else (show k = j by omega) ▸ cmpI_0 (by omega)⟩ (by omega)
  · skip
    refine TC.exit ?_
    refine TQ.thenE ?_
    refine TQ.thenE ?_
    refine TQ.blkS ?_
    refine TQ.thenC ?_
    refine TC.seq ?_
    refine TC.seq ?_
    refine TC.region ?_
    refine TL.pure (PV.move rfl) rfl (by decide) ?_
    refine TL.pure (PV.len rfl Tb.sl_25) rfl (by decide) ?_
    refine TL.pure (PV.move rfl) rfl (by decide) ?_
    refine TL.pure (PV.len rfl Tb.sl_25) rfl (by decide) ?_
    refine TL.pure (PV.lss rfl rfl) rfl (by decide) ?_
    refine TL.nil ?_
    refine TQ.thenC ?_
    first | refine TC.condD rfl (fun hl5 => ?_) (fun hl5 => ?_) | refine TC.cond rfl (fun hl5 => ?_) (fun hl5 => ?_)
    · skip
      refine TC.seq ?_
      refine TC.region ?_
      refine TL.pure (PV.assign rfl) rfl (by decide) ?_
      refine TL.nil ?_
      refine TQ.thenC ?_
      refine TC.ret ?_
      refine TQ.thenR ?_
      refine TQ.retE1 rfl rfl ?_
      first | (exfalso; omega) | exact ⟨(), by rw [cmpL_diff k (by omega) (by omega) hk.2 hne], trivial, List.nil_sublist _⟩ | (have he : xs = ys := ints_ext (by omega) (fun j hj => hk.2 j (by omega)); exact ⟨(), by rw [he, cmpL_self], trivial, List.nil_sublist _⟩)
    · skip
      refine TC.skip ?_
      refine TQ.thenC ?_
      refine TC.seq ?_
      refine TC.region ?_
      refine TL.pure (PV.assign rfl) rfl (by decide) ?_
      refine TL.nil ?_
      refine TQ.thenC ?_
      refine TC.ret ?_
      refine TQ.retE1 rfl rfl ?_
      first | (exfalso; omega) | exact ⟨(), by rw [cmpL_diff k (by omega) (by omega) hk.2 hne], trivial, List.nil_sublist _⟩ | (have he : xs = ys := ints_ext (by omega) (fun j hj => hk.2 j (by omega)); exact ⟨(), by rw [he, cmpL_self], trivial, List.nil_sublist _⟩)

set_option maxRecDepth 100000 in
set_option maxHeartbeats 1000000 in
theorem compare_ok (w0 : World) (x y : Hv) :
    Calls Try.prog 103 #[.agg (intsA x.toList), .agg (intsA y.toList)] w0 (Post (X := Unit) (fun _ => .int .i64 (cmpH x y)) (fun _ => True) (fun _ => []) w0) := by
  refine calls Try.func103 rfl (n := 8) rfl (by simp) ?_
  refine TC.seq ?_
  refine TC.region ?_
  refine TL.box rfl rfl (by decide) (fun b0 hb0 => ?_)
  refine TL.box rfl rfl (by decide) (fun b0 hb0 => ?_)
  refine TL.pure (PV.assign rfl) rfl (by decide) ?_
  refine TL.nil ?_
  refine TQ.thenC ?_
  refine TC.seq ?_
  refine TC.mix [true, true, false, false] _ 2 Tb.mixed rfl (by kernel_rfl) (by kernel_rfl) (by kernel_rfl) (by kernel_rfl) (List.Sublist.refl _) ?_
  refine TB.op (SOK.pure (PV.sliceAll rfl arr_69 (by decide)) rfl) (by decide) ?_
  refine TB.op (SOK.pure (PV.sliceAll rfl arr_69 (by decide)) rfl) (by decide) ?_
  refine TB.no ?_
  refine TB.no ?_
  refine TB.fin ?_
  refine TX.step [2] (by kernel_rfl) (by decide) ⟨⟨_, rfl, ?_⟩, trivial⟩
  refine TL.call rfl Tb.gofn_111 (fun a w hs => compareS_ok w _ _ x.toList (IntsAt.arr (e := 69) hs.new (by repeat (first | exact List.Mem.head _ | refine List.Mem.tail _ ?_ | refine List.mem_append_right _ ?_))) _ _ y.toList (IntsAt.arr (e := 69) hs.new (by repeat (first | exact List.Mem.head _ | refine List.Mem.tail _ ?_ | refine List.mem_append_right _ ?_))) 6 (by simp) (by simp) (by decide)) rfl (by decide) (fun _ _ => ?_)
  refine TL.nil ?_
  refine TX.next (.inr (by kernel_rfl)) ?_
  refine TX.step [3] (by kernel_rfl) (by decide) ⟨⟨_, rfl, ?_⟩, trivial⟩
  refine TL.pure (PV.assign rfl) rfl (by decide) ?_
  refine TL.nil ?_
  refine TX.next (.inr (by kernel_rfl)) ?_
  refine TX.done (by kernel_rfl) ?_
  refine TQ.thenC ?_
  refine TC.ret ?_
  refine TQ.retE1 rfl rfl ?_
  exact ⟨(), rfl, trivial, List.nil_sublist _⟩

end Go.Proofs.Ytfgjojoipbbacaa
