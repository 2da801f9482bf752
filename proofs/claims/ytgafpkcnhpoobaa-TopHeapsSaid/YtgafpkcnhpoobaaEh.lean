/- Sums, limits, what lasts, scripts: contracts. -/
import Derived.Test.YtgafpkcnhpoobaaEg
set_option linter.unusedVariables false
set_option linter.unusedSimpArgs false
namespace Go.Proofs.Ytgafpkcnhpoobaa
open Go.Sx Go.RowKit Go.Sand

theorem t1_bd {t y : Int} (ht : -1 ≤ t ∧ t ≤ 1) (hy : -1000000 ≤ y ∧ y ≤ 1000000) : -1000000 ≤ t * y ∧ t * y ≤ 1000000 := by
  obtain rfl | rfl | rfl : t = -1 ∨ t = 0 ∨ t = 1 := by omega
  · omega
  · omega
  · omega
theorem rep_at (n k : Nat) : (List.replicate n (0 : Int)).getD k 0 = 0 := by
  by_cases hk : k < n <;> simp [List.getD, hk]
def adN (xs ys : List Int) (t : Int) : List Int := mk xs.length fun j => xs.getD j 0 + t * ys.getD j 0
def adK (xs ys : List Int) (t : Int) (k : Nat) : List Int := mk xs.length fun j => if j < k then xs.getD j 0 + t * ys.getD j 0 else xs.getD j 0
theorem ad_len (xs ys : List Int) (t : Int) : (adN xs ys t).length = xs.length := mk_len _ _
theorem adK_len (xs ys : List Int) (t : Int) (k : Nat) : (adK xs ys t k).length = xs.length := mk_len _ _
theorem ad_at {xs ys : List Int} {t : Int} {j : Nat} (hj : j < xs.length) : (adN xs ys t).getD j 0 = xs.getD j 0 + t * ys.getD j 0 := mk_at _ hj
theorem ad_start (xs ys : List Int) (t : Int) : xs = adK xs ys t 0 := mk_eq rfl fun j _ => by rw [if_neg (Nat.not_lt_zero j)]
theorem adK_at {xs ys : List Int} {t : Int} {k : Nat} (hk : k < xs.length) : (adK xs ys t k).getD k 0 = xs.getD k 0 := by unfold adK; rw [mk_at _ hk, if_neg (Nat.lt_irrefl k)]
theorem ad_step {xs ys : List Int} {t : Int} {k : Nat} (hk : k < xs.length) : (adK xs ys t k).set k (xs.getD k 0 + t * ys.getD k 0) = adK xs ys t (k + 1) := by
  refine mk_set hk (by rw [if_pos (Nat.lt_succ_self k)]) fun j hj hne => ?_
  have e : (j < k + 1) ↔ (j < k) := by omega
  simp only [e]
theorem ad_end {xs ys : List Int} {t : Int} {k : Nat} (hk : k = xs.length) : adK xs ys t k = adN xs ys t := mk_congr fun j hj => by rw [if_pos (by omega)]
def limL (ls : List (List Int)) (gs : List Int) : List Int := mk gs.length fun j => limI ls gs j
def liK (ls : List (List Int)) (gs : List Int) (k : Nat) : List Int := mk gs.length fun j => if j < k then limI ls gs j else 0
theorem lim_len (ls : List (List Int)) (gs : List Int) : (limL ls gs).length = gs.length := mk_len _ _
theorem liK_len (ls : List (List Int)) (gs : List Int) (k : Nat) : (liK ls gs k).length = gs.length := mk_len _ _
theorem li_start (ls : List (List Int)) (gs : List Int) : List.replicate gs.length 0 = liK ls gs 0 := mk_eq (by simp) fun j hj => by rw [if_neg (Nat.not_lt_zero j)]; simp [List.getD, hj]
theorem li_step {ls : List (List Int)} {gs : List Int} {k : Nat} (hk : k < gs.length) : (liK ls gs k).set k (limI ls gs k) = liK ls gs (k + 1) := by
  refine mk_set hk (by rw [if_pos (Nat.lt_succ_self k)]) fun j hj hne => ?_
  have e : (j < k + 1) ↔ (j < k) := by omega
  simp only [e]
theorem li_end {ls : List (List Int)} {gs : List Int} {k : Nat} (hk : k = gs.length) : liK ls gs k = limL ls gs := mk_congr fun j hj => by rw [if_pos (by omega)]
theorem limL_at {ls : List (List Int)} {gs : List Int} {j : Nat} (hj : j < gs.length) : (limL ls gs).getD j 0 = limI ls gs j := mk_at _ hj
theorem limL_bd {ls : List (List Int)} {gs : List Int} (hB : HB ls gs) (k : Nat) : 0 ≤ (limL ls gs).getD k 0 ∧ (limL ls gs).getD k 0 ≤ 12 := by
  by_cases hk : k < gs.length
  · rw [limL_at hk]; have := hB.lim hk; omega
  · have e : (limL ls gs).getD k 0 = 0 := by simp [List.getD, lim_len, hk]
    omega
theorem ad_bd {xs ys : List Int} {t A B : Int} (ht : t = 1) (hx : ∀ k, 0 ≤ xs.getD k 0 ∧ xs.getD k 0 ≤ A) (hy : ∀ k, 0 ≤ ys.getD k 0 ∧ ys.getD k 0 ≤ B) (k : Nat) : 0 ≤ (adN xs ys t).getD k 0 ∧ (adN xs ys t).getD k 0 ≤ A + B := by
  subst ht
  have h1 := hx k
  have h2 := hy k
  by_cases hk : k < xs.length
  · rw [ad_at hk]; omega
  · have e : (adN xs ys 1).getD k 0 = 0 := by simp [List.getD, ad_len, hk]
    omega
abbrev AlkL (ls : List (List Int)) (gs xs ys : List Int) : Prop := Alk gs.length (lk ls) (gd gs) (gd xs) (gd ys)
abbrev LstL (ls : List (List Int)) (gs c : List Int) : Prop := c.length = gs.length ∧ Lst gs.length (lk ls) (gd gs) (gd c)
/-- The heaping that lasts and is alike. -/
abbrev LasP (ls : List (List Int)) (gs xs c : List Int) : Prop := LstL ls gs c ∧ AlkL ls gs xs c
theorem LasP.unique {ls : List (List Int)} {gs xs c c' : List Int} (hB : HB ls gs) (h : LasP ls gs xs c) (h' : LasP ls gs xs c') : c = c' :=
  ints_ext (by rw [h.1.1, h'.1.1]) fun j hj => (h.1.2.unique hB.G h'.1.2 (h.2.symm.trans h'.2) j (by rw [← h.1.1]; exact hj)).symm
structure AmpP (ls : List (List Int)) (gs a : List Int) : Prop where
  len : a.length = gs.length
  lo : ∀ j, j < gs.length → limI ls gs j ≤ a.getD j 0
  hi : ∀ j, 0 ≤ a.getD j 0 ∧ a.getD j 0 ≤ 24
  alk : Alk gs.length (lk ls) (gd gs) (fun _ => 0) (gd a)
theorem amp_of {ls : List (List Int)} {gs c m : List Int} (hB : HB ls gs) (h : StbL ls gs (adN (limL ls gs) (limL ls gs) 1) c m) : AmpP ls gs (adN (adN (limL ls gs) (limL ls gs) 1) c (-1)) := by
  obtain ⟨h1, h2, h3⟩ := h
  have hat : ∀ j, j < gs.length → (adN (adN (limL ls gs) (limL ls gs) 1) c (-1)).getD j 0 = 2 * limI ls gs j - c.getD j 0 := fun j hj => by
    rw [ad_at (by rw [ad_len, lim_len]; exact hj), ad_at (by rw [lim_len]; exact hj), limL_at hj]; omega
  refine ⟨by rw [ad_len, ad_len, lim_len], fun j hj => ?_, fun j => ?_, ?_⟩
  · rw [hat j hj]
    have : c.getD j 0 < limI ls gs j := h3.calm j hj
    omega
  · by_cases hj : j < gs.length
    · rw [hat j hj]
      have h4 : c.getD j 0 < limI ls gs j := h3.calm j hj
      have h5 : 0 ≤ c.getD j 0 := h3.c0 j hj
      have := hB.lim hj
      omega
    · have e : (adN (adN (limL ls gs) (limL ls gs) 1) c (-1)).getD j 0 = 0 := by simp [List.getD, ad_len, lim_len, hj]
      omega
  · refine ⟨fun i => - m.getD i 0, fun i hi => ?_⟩
    have h4 := h3.eq i hi
    have h5 := dl_neg (n := gs.length) (l := lk ls) (g := gd gs) (gd m) i
    show (adN (adN (limL ls gs) (limL ls gs) 1) c (-1)).getD i 0 = _
    show (adN (adN (limL ls gs) (limL ls gs) 1) c (-1)).getD i 0 = 0 - _
    rw [hat i hi]
    have h6 : gd c i = c.getD i 0 := rfl
    have h7 : gd (adN (limL ls gs) (limL ls gs) 1) i = 2 * limI ls gs i := by
      show (adN (limL ls gs) (limL ls gs) 1).getD i 0 = _
      rw [ad_at (by rw [lim_len]; exact hi), limL_at hi]; omega
    rw [h6, h7] at h4
    rw [show (fun i => - m.getD i 0) = fun j => - gd m j from rfl, h5]
    omega
theorem las_of {ls : List (List Int)} {gs a xs c m : List Int} (hB : HB ls gs) (ha : AmpP ls gs a) (hxl : xs.length = gs.length) (hx0 : ∀ k, 0 ≤ xs.getD k 0) (h : StbL ls gs (adN a xs 1) c m) : LasP ls gs xs c := by
  obtain ⟨h1, h2, h3⟩ := h
  have hat : ∀ j, j < gs.length → gd (adN a xs 1) j = gd a j + gd xs j := fun j hj => by
    show (adN a xs 1).getD j 0 = _
    rw [ad_at (by rw [ha.len]; exact hj)]
    show a.getD j 0 + 1 * xs.getD j 0 = a.getD j 0 + xs.getD j 0
    omega
  refine ⟨⟨h1, h3.lst hB.G fun i hi => ?_⟩, ?_⟩
  · rw [hat i hi]
    have := ha.lo i hi
    have := hx0 i
    show limI ls gs i ≤ a.getD i 0 + xs.getD i 0
    omega
  · have h4 := ha.alk.add (Alk.refl (n := gs.length) (l := lk ls) (g := gd gs) (gd xs))
    exact (h4.congr (fun i _ => by show xs.getD i 0 = 0 + xs.getD i 0; omega) (fun i hi => hat i hi)).trans h3.toRun.alk
theorem stb_c {ls : List (List Int)} {gs xs c m : List Int} (hB : HB ls gs) (h : StbL ls gs xs c m) (k : Nat) : 0 ≤ c.getD k 0 ∧ c.getD k 0 ≤ 12 := by
  by_cases hk : k < gs.length
  · have h3 : 0 ≤ c.getD k 0 := h.2.2.c0 k hk
    have h4 : c.getD k 0 < limI ls gs k := h.2.2.calm k hk
    have h5 := hB.lim hk
    omega
  · have e : c.getD k 0 = 0 := by simp [List.getD, h.1, hk]
    omega
theorem lst_c {ls : List (List Int)} {gs c : List Int} (hB : HB ls gs) (h : LstL ls gs c) (k : Nat) : 0 ≤ c.getD k 0 ∧ c.getD k 0 ≤ 12 := by
  by_cases hk : k < gs.length
  · have h3 : 0 ≤ c.getD k 0 := h.2.c0 k hk
    have h4 : c.getD k 0 < limI ls gs k := h.2.calm k hk
    have h5 := hB.lim hk
    omega
  · have e : c.getD k 0 = 0 := by simp [List.getD, h.1, hk]
    omega
theorem same_no {xs ys : List Int} {k : Nat} (h : ¬ xs.getD k 0 = ys.getD k 0) : ¬ xs = ys := fun e => h (by rw [e])


set_option maxRecDepth 100000 in
set_option maxHeartbeats 1000000 in
theorem sameInts_ok (w0 : World) (pl : Option Addr) (cl : Nat) (xs : List Int) (hx : IntsAt w0 pl xs) (N : Nat) (hN : xs.length = N) (p2 : Option Addr) (c2 : Nat) (ys : List Int) (hy : IntsAt w0 p2 ys) (M : Nat) (hM : ys.length = M) (hl : N ≤ 1000000) (hl2 : M ≤ 1000000) :
    Calls Try.prog 30 #[.slice pl N cl, .slice p2 M c2] w0 (Post (X := Unit) (fun _ => .bool (decide (xs = ys))) (fun _ => True) (fun _ => []) w0) := by
  refine calls Try.func30 rfl (n := 26) rfl (by simp) ?_
  refine TC.seq ?_
  refine TC.region ?_
  refine TL.pure (PV.assign rfl) rfl (by decide) ?_
  refine TL.nil ?_
  refine TQ.thenC ?_
  refine TC.seq ?_
  refine TC.seq ?_
  refine TC.region ?_
  refine TL.pure (PV.move rfl) rfl (by decide) ?_
  refine TL.pure (PV.len rfl Tb.sl_23) rfl (by decide) ?_
  refine TL.pure (PV.move rfl) rfl (by decide) ?_
  refine TL.pure (PV.len rfl Tb.sl_23) rfl (by decide) ?_
  refine TL.pure (PV.neq rfl rfl) rfl (by decide) ?_
  refine TL.nil ?_
  refine TQ.thenC ?_
  first | refine TC.condD rfl (fun hne => ?_) (fun hne => ?_) | refine TC.cond rfl (fun hne => ?_) (fun hne => ?_)
  · skip
    refine TC.seq ?_
    refine TC.region ?_
    refine TL.pure (PV.assign rfl) rfl (by decide) ?_
    refine TL.nil ?_
    refine TQ.thenC ?_
    refine TC.ret ?_
    refine TQ.thenR ?_
    refine TQ.retE1 rfl rfl ?_
    exact ⟨(), by rw [decide_eq_false (fun e => by rw [e] at hN; omega)], trivial, List.nil_sublist _⟩
  · skip
    refine TC.skip ?_
    refine TQ.thenC ?_
    refine TC.seq ?_
    refine TC.seq ?_
    refine TC.region ?_
    refine TL.pure (PV.assign rfl) rfl (by decide) ?_
    refine TL.nil ?_
    refine TQ.thenC ?_
    refine TC.block ?_
    -- live and written in the loop, not told: [4]
    refine TC.loopG [0, 1] (X := Nat) (fun k => k ≤ N ∧ ∀ j, j < k → xs.getD j 0 = ys.getD j 0) (fun k => [(5, .int .i64 k)]) (fun k => N - k) 0 ⟨Nat.zero_le _, fun j hj => absurd hj (Nat.not_lt_zero _)⟩ (by repeat (first | exact True.intro | refine And.intro rfl ?_)) ?_
    intro k hk
    refine TC.seq ?_
    refine TC.seq ?_
    refine TC.region ?_
    refine TL.pure (PV.move rfl) rfl (by decide) ?_
    refine TL.pure (PV.move rfl) rfl (by decide) ?_
    refine TL.pure (PV.len rfl Tb.sl_23) rfl (by decide) ?_
    refine TL.pure (PV.lss rfl rfl) rfl (by decide) ?_
    refine TL.nil ?_
    refine TQ.thenC ?_
    first | refine TC.condD rfl (fun hlt => ?_) (fun hlt => ?_) | refine TC.cond rfl (fun hlt => ?_) (fun hlt => ?_)
    · skip
      refine TC.skip ?_
      refine TQ.thenC ?_
      refine TC.seq ?_
      refine TC.block ?_
      refine TC.seq ?_
      obtain ⟨q2, hq2p, hq2⟩ := hx k (by omega)
      obtain ⟨q3, hq3p, hq3⟩ := hy k (by omega)
      refine TC.any Tb.mixed rfl rfl ?_
      refine TA.op (OpOK.pure (PV.move rfl) rfl (by decide)) (by decide) ?_
      refine TA.op (OpOK.pure (PV.move rfl) rfl (by decide)) (by decide) ?_
      refine TA.op (OpOK.pure (PV.indexA rfl hq2p rfl Tb.elm_23 rfl (by omega)) rfl (by decide)) (by decide) ?_
      refine TA.op (OpOK.pure (PV.loadOld rfl Tb.one_3 hq2) rfl (by decide)) (by decide) ?_
      refine TA.op (OpOK.pure (PV.move rfl) rfl (by decide)) (by decide) ?_
      refine TA.op (OpOK.pure (PV.move rfl) rfl (by decide)) (by decide) ?_
      refine TA.op (OpOK.pure (PV.indexA rfl hq3p rfl Tb.elm_23 rfl (by omega)) rfl (by decide)) (by decide) ?_
      refine TA.op (OpOK.pure (PV.loadOld rfl Tb.one_3 hq3) rfl (by decide)) (by decide) ?_
      refine TA.op (OpOK.pure (PV.neq rfl rfl) rfl (by decide)) (by decide) ?_
      show TQ _ _ _ _ _
      refine TQ.thenC ?_
      first | refine TC.condD rfl (fun hd => ?_) (fun hd => ?_) | refine TC.cond rfl (fun hd => ?_) (fun hd => ?_)
      · skip
        refine TC.seq ?_
        refine TC.region ?_
        refine TL.pure (PV.assign rfl) rfl (by decide) ?_
        refine TL.nil ?_
        refine TQ.thenC ?_
        refine TC.ret ?_
        refine TQ.blkR ?_
        refine TQ.thenR ?_
        refine TQ.thenR ?_
        refine TQ.blkR ?_
        refine TQ.thenR ?_
        refine TQ.retE1 rfl rfl ?_
        exact ⟨(), by rw [decide_eq_false (same_no (k := k) (by omega))], trivial, List.nil_sublist _⟩
      · skip
        refine TC.skip ?_
        refine TQ.blkN ?_
        refine TQ.thenC ?_
        refine TC.region ?_
        refine TL.pure (PV.move rfl) rfl (by decide) ?_
        refine TL.pure (PV.add rfl rfl (by omega)) rfl (by decide) ?_
        refine TL.pure (PV.assign rfl) rfl (by decide) ?_
        refine TL.nil ?_
        refine TQ.thenN ?_
        refine TQ.backK (k + 1) (by repeat (first | exact True.intro | refine And.intro rfl ?_)) (by repeat (first | exact True.intro | refine And.intro rfl ?_)) (by repeat (first | exact List.Sublist.slnil | exact List.nil_sublist _ | exact List.Sublist.refl _ | refine List.Sublist.cons_cons _ ?_ | refine List.Sublist.cons _ ?_ | refine List.Sublist.trans ?_ (List.sublist_append_right _ _))) ⟨by omega, fun j hj => if e : j < k then hk.2 j e else (show k = j by omega) ▸ (by omega)⟩ (by omega)
    · skip
      refine TC.exit ?_
      refine TQ.thenE ?_
      refine TQ.thenE ?_
      refine TQ.blkS ?_
      refine TQ.thenC ?_
      refine TC.seq ?_
      refine TC.region ?_
      refine TL.pure (PV.assign rfl) rfl (by decide) ?_
      refine TL.nil ?_
      refine TQ.thenC ?_
      refine TC.ret ?_
      refine TQ.retE1 rfl rfl ?_
      exact ⟨(), by rw [decide_eq_true (ints_ext (by omega) (fun j hj => hk.2 j (by omega)))], trivial, List.nil_sublist _⟩

set_option maxRecDepth 100000 in
set_option maxHeartbeats 1000000 in
theorem equal_ok (w0 : World) (pl : Option Addr) (cl : Nat) (xs : List Int) (hx : IntsAt w0 pl xs) (N : Nat) (hN : xs.length = N) (p2 : Option Addr) (c2 : Nat) (ys : List Int) (hy : IntsAt w0 p2 ys) (M : Nat) (hM : ys.length = M) (hl : N ≤ 1000000) (hl2 : M ≤ 1000000) :
    Calls Try.prog 79 #[.slice pl N cl, .slice p2 M c2] w0 (Post (X := Unit) (fun _ => .bool (decide (xs = ys))) (fun _ => True) (fun _ => []) w0) := by
  refine calls Try.func79 rfl (n := 26) rfl (by simp) ?_
  refine TC.seq ?_
  refine TC.region ?_
  refine TL.pure (PV.assign rfl) rfl (by decide) ?_
  refine TL.nil ?_
  refine TQ.thenC ?_
  refine TC.seq ?_
  refine TC.seq ?_
  refine TC.region ?_
  refine TL.pure (PV.move rfl) rfl (by decide) ?_
  refine TL.pure (PV.len rfl Tb.sl_23) rfl (by decide) ?_
  refine TL.pure (PV.move rfl) rfl (by decide) ?_
  refine TL.pure (PV.len rfl Tb.sl_23) rfl (by decide) ?_
  refine TL.pure (PV.neq rfl rfl) rfl (by decide) ?_
  refine TL.nil ?_
  refine TQ.thenC ?_
  first | refine TC.condD rfl (fun hne => ?_) (fun hne => ?_) | refine TC.cond rfl (fun hne => ?_) (fun hne => ?_)
  · skip
    refine TC.seq ?_
    refine TC.region ?_
    refine TL.pure (PV.assign rfl) rfl (by decide) ?_
    refine TL.nil ?_
    refine TQ.thenC ?_
    refine TC.ret ?_
    refine TQ.thenR ?_
    refine TQ.retE1 rfl rfl ?_
    exact ⟨(), by rw [decide_eq_false (fun e => by rw [e] at hN; omega)], trivial, List.nil_sublist _⟩
  · skip
    refine TC.skip ?_
    refine TQ.thenC ?_
    refine TC.seq ?_
    refine TC.seq ?_
    refine TC.region ?_
    refine TL.pure (PV.move rfl) rfl (by decide) ?_
    refine TL.pure (PV.len rfl Tb.sl_23) rfl (by decide) ?_
    refine TL.pure (PV.move rfl) rfl (by decide) ?_
    refine TL.nil ?_
    refine TQ.thenC ?_
    refine TC.block ?_
    -- live and written in the loop, not told: [4]
    refine TC.loopG [0, 1, 12] (X := Nat) (fun k => k ≤ N ∧ ∀ j, j < k → xs.getD j 0 = ys.getD j 0) (fun k => [(13, .int .i64 k)]) (fun k => N - k) 0 ⟨Nat.zero_le _, fun j hj => absurd hj (Nat.not_lt_zero _)⟩ (by repeat (first | exact True.intro | refine And.intro rfl ?_)) ?_
    intro k hk
    refine TC.seq ?_
    refine TC.region ?_
    refine TL.pure (PV.lss rfl rfl) rfl (by decide) ?_
    refine TL.nil ?_
    refine TQ.thenC ?_
    refine TC.seq ?_
    first | refine TC.condD rfl (fun hlt => ?_) (fun hlt => ?_) | refine TC.cond rfl (fun hlt => ?_) (fun hlt => ?_)
    · skip
      refine TC.skip ?_
      refine TQ.thenC ?_
      refine TC.seq ?_
      refine TC.block ?_
      refine TC.seq ?_
      refine TC.region ?_
      refine TL.pure (PV.move rfl) rfl (by decide) ?_
      refine TL.pure (PV.assign rfl) rfl (by decide) ?_
      refine TL.nil ?_
      refine TQ.thenC ?_
      refine TC.seq ?_
      obtain ⟨q2, hq2p, hq2⟩ := hx k (by omega)
      obtain ⟨q3, hq3p, hq3⟩ := hy k (by omega)
      refine TC.any Tb.mixed rfl rfl ?_
      refine TA.op (OpOK.pure (PV.move rfl) rfl (by decide)) (by decide) ?_
      refine TA.op (OpOK.pure (PV.move rfl) rfl (by decide)) (by decide) ?_
      refine TA.op (OpOK.pure (PV.indexA rfl hq2p rfl Tb.elm_23 rfl (by omega)) rfl (by decide)) (by decide) ?_
      refine TA.op (OpOK.pure (PV.loadOld rfl Tb.one_3 hq2) rfl (by decide)) (by decide) ?_
      refine TA.op (OpOK.pure (PV.move rfl) rfl (by decide)) (by decide) ?_
      refine TA.op (OpOK.pure (PV.move rfl) rfl (by decide)) (by decide) ?_
      refine TA.op (OpOK.pure (PV.indexA rfl hq3p rfl Tb.elm_23 rfl (by omega)) rfl (by decide)) (by decide) ?_
      refine TA.op (OpOK.pure (PV.loadOld rfl Tb.one_3 hq3) rfl (by decide)) (by decide) ?_
      refine TA.op (OpOK.pure (PV.neq rfl rfl) rfl (by decide)) (by decide) ?_
      show TQ _ _ _ _ _
      refine TQ.thenC ?_
      first | refine TC.condD rfl (fun hd => ?_) (fun hd => ?_) | refine TC.cond rfl (fun hd => ?_) (fun hd => ?_)
      · skip
        refine TC.seq ?_
        refine TC.region ?_
        refine TL.pure (PV.assign rfl) rfl (by decide) ?_
        refine TL.nil ?_
        refine TQ.thenC ?_
        refine TC.ret ?_
        refine TQ.blkR ?_
        refine TQ.thenR ?_
        refine TQ.thenR ?_
        refine TQ.blkR ?_
        refine TQ.thenR ?_
        refine TQ.retE1 rfl rfl ?_
        exact ⟨(), by rw [decide_eq_false (same_no (k := k) (by omega))], trivial, List.nil_sublist _⟩
      · skip
        refine TC.skip ?_
        refine TQ.blkN ?_
        refine TQ.thenC ?_
        refine TC.region ?_
        refine TL.pure (PV.add rfl rfl (by omega)) rfl (by decide) ?_
        refine TL.pure (PV.move rfl) rfl (by decide) ?_
        refine TL.nil ?_
        refine TQ.thenN ?_
        refine TQ.backK (k + 1) (by repeat (first | exact True.intro | refine And.intro rfl ?_)) (by repeat (first | exact True.intro | refine And.intro rfl ?_)) (by repeat (first | exact List.Sublist.slnil | exact List.nil_sublist _ | exact List.Sublist.refl _ | refine List.Sublist.cons_cons _ ?_ | refine List.Sublist.cons _ ?_ | refine List.Sublist.trans ?_ (List.sublist_append_right _ _))) ⟨by omega, fun j hj => if e : j < k then hk.2 j e else (show k = j by omega) ▸ (by omega)⟩ (by omega)
    · skip
      refine TC.exit ?_
      refine TQ.thenE ?_
      refine TQ.thenE ?_
      refine TQ.blkS ?_
      refine TQ.thenC ?_
      refine TC.seq ?_
      refine TC.region ?_
      refine TL.pure (PV.assign rfl) rfl (by decide) ?_
      refine TL.nil ?_
      refine TQ.thenC ?_
      refine TC.ret ?_
      refine TQ.retE1 rfl rfl ?_
      exact ⟨(), by rw [decide_eq_true (ints_ext (by omega) (fun j hj => hk.2 j (by omega)))], trivial, List.nil_sublist _⟩

set_option maxRecDepth 100000 in
set_option maxHeartbeats 1000000 in
theorem added_ok (w0 : World) (pl : Option Addr) (cl : Nat) (xs : List Int) (hx : IntsAt w0 pl xs) (N : Nat) (hN : xs.length = N) (p2 : Option Addr) (c2 : Nat) (ys : List Int) (hy : IntsAt w0 p2 ys) (M : Nat) (hM : ys.length = M) (hNM : N = M) (hl : N ≤ 1000000) (t : Int) (ht : -1 ≤ t ∧ t ≤ 1) (hx9 : ∀ k, -1000000 ≤ xs.getD k 0 ∧ xs.getD k 0 ≤ 1000000) (hy9 : ∀ k, -1000000 ≤ ys.getD k 0 ∧ ys.getD k 0 ≤ 1000000) :
    Calls Try.prog 95 #[.slice pl N cl, .slice p2 M c2, .int .i64 t] w0 (Post (X := Nat) (fun b => .slice (some ⟨b, 0, none⟩) N N) (fun _ => True) (fun b => [(b, Obj.cells (intsA (adN xs ys t)) 3 (0, 0))]) w0) := by
  refine calls Try.func95 rfl (n := 30) rfl (by simp) ?_
  refine TC.seq ?_
  refine TC.region ?_
  refine TL.pure (PV.assign rfl) rfl (by decide) ?_
  refine TL.nil ?_
  refine TQ.thenC ?_
  refine TC.seq ?_
  refine TC.region ?_
  refine TL.pure (PV.move rfl) rfl (by decide) ?_
  refine TL.call rfl Tb.gofn_73 (fun a w hs => copied_ok w _ _ _ (hx.new hs.new) _ hN (by omega)) rfl (by decide) (fun b1 _ => ?_)
  refine TL.pure (PV.assign rfl) rfl (by decide) ?_
  refine TL.nil ?_
  refine TQ.thenC ?_
  refine TC.seq ?_
  refine TC.seq ?_
  refine TC.region ?_
  refine TL.pure (PV.move rfl) rfl (by decide) ?_
  refine TL.pure (PV.len rfl Tb.sl_23) rfl (by decide) ?_
  refine TL.pure (PV.move rfl) rfl (by decide) ?_
  refine TL.nil ?_
  refine TQ.thenC ?_
  refine TC.block ?_
  refine TC.loopK [1, 2, 6, 7, 12] (X := Nat) (fun k => k ≤ N) (fun k => [(13, .int .i64 k)]) (fun k => [(b1, Obj.cells (intsA (adK xs ys t k)) 3 (0, 0))]) (fun k => N - k) 0 (Nat.zero_le _) (by repeat (first | exact True.intro | refine And.intro rfl ?_)) (by rw [← ad_start]; exact List.Sublist.refl _) ?_
  intro k hk
  refine TC.seq ?_
  refine TC.region ?_
  refine TL.pure (PV.lss rfl rfl) rfl (by decide) ?_
  refine TL.nil ?_
  refine TQ.thenC ?_
  refine TC.seq ?_
  first | refine TC.condD rfl (fun h0 => ?_) (fun h0 => ?_) | refine TC.cond rfl (fun h0 => ?_) (fun h0 => ?_)
  · skip
    refine TC.skip ?_
    refine TQ.thenC ?_
    refine TC.seq ?_
    refine TC.block ?_
    refine TC.seq ?_
    refine TC.region ?_
    refine TL.pure (PV.move rfl) rfl (by decide) ?_
    refine TL.pure (PV.assign rfl) rfl (by decide) ?_
    refine TL.nil ?_
    refine TQ.thenC ?_
    obtain ⟨q3, hq3p, hq3⟩ := hy k (by omega)
    have h8 := hx9 k
    have h9 := hy9 k
    have h7 := t1_bd ht h9
    refine TC.draw 12 Tb.mixed (by kernel_rfl) ?_
    simp only [List.take_succ_cons, List.take_zero, List.drop_succ_cons, List.drop_zero]
    refine TS.pure (PV.move rfl) rfl (by decide) ?_
    refine TS.pure (PV.move rfl) rfl (by decide) ?_
    refine TS.pure (PV.index1 (j := k) rfl rfl Tb.elm_23 rfl (by omega)) rfl (by decide) ?_
    refine TS.pure (PV.loadIv (xs := adK xs ys t k) (j := k) (v := xs.getD k 0) rfl Tb.one_3 (by repeat (first | exact List.Mem.head _ | refine List.Mem.tail _ ?_ | refine List.mem_append_right _ ?_)) (by rw [adK_len]; omega) (adK_at (by omega))) rfl (by decide) ?_
    refine TS.pure (PV.move rfl) rfl (by decide) ?_
    refine TS.pure (PV.move rfl) rfl (by decide) ?_
    refine TS.pure (PV.move rfl) rfl (by decide) ?_
    refine TS.pure (PV.indexA rfl hq3p rfl Tb.elm_23 rfl (by omega)) rfl (by decide) ?_
    refine TS.pure (PV.loadOld rfl Tb.one_3 hq3) rfl (by decide) ?_
    refine TS.pure (PV.mul rfl rfl (by omega)) rfl (by decide) ?_
    refine TS.pure (PV.add rfl rfl (by omega)) rfl (by decide) ?_
    refine TS.pure (PV.index1 (j := k) rfl rfl Tb.elm_23 rfl (by omega)) rfl (by decide) ?_
    refine TS.nil ?_
    refine TL.storeIv (j := k) (xs' := adK xs ys t (k + 1)) rfl rfl Tb.cells_3 (ad_step (by omega)) (by repeat (first | exact Upd.head _ | apply Upd.tail | apply Upd.appR)) (by rw [adK_len]; omega) rfl rfl ?_
    refine TL.nil ?_
    refine TQ.blkN ?_
    refine TQ.thenC ?_
    refine TC.region ?_
    refine TL.pure (PV.add rfl rfl (by omega)) rfl (by decide) ?_
    refine TL.pure (PV.move rfl) rfl (by decide) ?_
    refine TL.nil ?_
    refine TQ.thenN ?_
    refine TQ.backK (k + 1) (by repeat (first | exact True.intro | refine And.intro rfl ?_)) (by repeat (first | exact True.intro | refine And.intro rfl ?_)) (List.Sublist.refl _) (by omega) (by omega)
  · skip
    refine TC.exit ?_
    refine TQ.thenE ?_
    refine TQ.thenE ?_
    refine TQ.blkS ?_
    refine TQ.thenC ?_
    refine TC.seq ?_
    refine TC.region ?_
    refine TL.pure (PV.move rfl) rfl (by decide) ?_
    refine TL.pure (PV.assign rfl) rfl (by decide) ?_
    refine TL.nil ?_
    refine TQ.thenC ?_
    refine TC.ret ?_
    refine TQ.retE1 rfl rfl ?_
    exact ⟨b1, rfl, trivial, by rw [ad_end (show k = xs.length by omega)]; exact List.Sublist.refl _⟩

set_option maxRecDepth 100000 in
theorem limits_ok (w0 : World) (p : Option Addr) (cp : Nat) (ls : List (List Int)) (hr : LsAt w0 p ls) (q : Option Addr) (cq : Nat) (gs : List Int) (hg : IntsAt w0 q gs) (hB : HB ls gs) :
    Calls Try.prog 98 #[hv p ls.length cp q gs.length cq] w0 (Post (X := Nat) (fun b => .slice (some ⟨b, 0, none⟩) gs.length gs.length) (fun _ => True) (fun b => [(b, Obj.cells (intsA (limL ls gs)) 3 (0, 0))]) w0) := by
  have hn9 := hB.n
  refine calls Try.func98 rfl (n := 22) rfl (by simp) ?_
  refine TC.seq ?_
  refine TC.region ?_
  refine TL.box rfl rfl (by decide) (fun b0 hb0 => ?_)
  refine TL.pure (PV.assign rfl) rfl (by decide) ?_
  refine TL.nil ?_
  refine TQ.thenC ?_
  refine TC.seq ?_
  refine TC.region ?_
  refine TL.pure (PV.fieldAddr rfl Tb.fo_25_1) rfl (by decide) ?_
  refine TL.pure (PV.load rfl Tb.one_23 (by repeat (first | exact List.Mem.head _ | refine List.Mem.tail _ ?_ | refine List.mem_append_right _ ?_)) rfl) rfl (by decide) ?_
  refine TL.pure (PV.len rfl Tb.sl_23) rfl (by decide) ?_
  refine TL.makeI (k := gs.length) rfl rfl Tb.sl_23 Tb.zi_3 rfl (by omega) (by omega) rfl (by decide) (fun b1 hb1 => ?_)
  refine TL.pure (PV.assign rfl) rfl (by decide) ?_
  refine TL.nil ?_
  refine TQ.thenC ?_
  refine TC.seq ?_
  refine TC.seq ?_
  refine TC.region ?_
  refine TL.pure (PV.move rfl) rfl (by decide) ?_
  refine TL.pure (PV.len rfl Tb.sl_23) rfl (by decide) ?_
  refine TL.pure (PV.move rfl) rfl (by decide) ?_
  refine TL.nil ?_
  refine TQ.thenC ?_
  refine TC.block ?_
  refine TC.loopK [1, 2, 3, 10] (X := Nat) (fun k => k ≤ gs.length) (fun k => [(11, .int .i64 k)]) (fun k => [(b1, Obj.cells (intsA (liK ls gs k)) 3 (0, 0)), (b0, Obj.cells #[.slice p ls.length cp, .slice q gs.length cq] 25 (0, 0))]) (fun k => gs.length - k) 0 (Nat.zero_le _) (by repeat (first | exact True.intro | refine And.intro rfl ?_)) (by rw [← li_start]; exact List.Sublist.refl _) ?_
  intro k hk
  refine TC.seq ?_
  refine TC.region ?_
  refine TL.pure (PV.lss rfl rfl) rfl (by decide) ?_
  refine TL.nil ?_
  refine TQ.thenC ?_
  refine TC.seq ?_
  first | refine TC.condD rfl (fun h0 => ?_) (fun h0 => ?_) | refine TC.cond rfl (fun h0 => ?_) (fun h0 => ?_)
  · skip
    refine TC.skip ?_
    refine TQ.thenC ?_
    refine TC.seq ?_
    refine TC.block ?_
    refine TC.seq ?_
    refine TC.region ?_
    refine TL.pure (PV.move rfl) rfl (by decide) ?_
    refine TL.pure (PV.assign rfl) rfl (by decide) ?_
    refine TL.nil ?_
    refine TQ.thenC ?_
    refine TC.region ?_
    refine TL.pure (PV.move rfl) rfl (by decide) ?_
    refine TL.pure (PV.move rfl) rfl (by decide) ?_
    refine TL.pure (PV.loadBox rfl Tb.agg_25 (by repeat (first | exact List.Mem.head _ | refine List.Mem.tail _ ?_ | refine List.mem_append_right _ ?_)) rfl) rfl (by decide) ?_
    refine TL.pure (PV.move rfl) rfl (by decide) ?_
    refine TL.call rfl Tb.gofn_61 (fun a w hs => limit_ok w _ _ _ (hr.new hs.new) _ _ _ (hg.new hs.new) hB k (by omega)) rfl (by decide) (fun _ _ => ?_)
    refine TL.pure (PV.index1 (j := k) rfl rfl Tb.elm_23 rfl (by omega)) rfl (by decide) ?_
    refine TL.storeIv (j := k) (xs' := liK ls gs (k + 1)) rfl rfl Tb.cells_3 (li_step (by omega)) (by repeat (first | exact Upd.head _ | apply Upd.tail | apply Upd.appR)) (by rw [liK_len]; omega) rfl rfl ?_
    refine TL.nil ?_
    refine TQ.blkN ?_
    refine TQ.thenC ?_
    refine TC.region ?_
    refine TL.pure (PV.add rfl rfl (by omega)) rfl (by decide) ?_
    refine TL.pure (PV.move rfl) rfl (by decide) ?_
    refine TL.nil ?_
    refine TQ.thenN ?_
    refine TQ.backK (k + 1) (by repeat (first | exact True.intro | refine And.intro rfl ?_)) (by repeat (first | exact True.intro | refine And.intro rfl ?_)) (List.Sublist.refl _) (by omega) (by omega)
  · skip
    refine TC.exit ?_
    refine TQ.thenE ?_
    refine TQ.thenE ?_
    refine TQ.blkS ?_
    refine TQ.thenC ?_
    refine TC.seq ?_
    refine TC.region ?_
    refine TL.pure (PV.move rfl) rfl (by decide) ?_
    refine TL.pure (PV.assign rfl) rfl (by decide) ?_
    refine TL.nil ?_
    refine TQ.thenC ?_
    refine TC.ret ?_
    refine TQ.retE1 rfl rfl ?_
    exact ⟨b1, rfl, trivial, by rw [li_end (show k = gs.length by omega)]; exact List.Sublist.cons_cons _ (List.nil_sublist _)⟩

set_option maxRecDepth 100000 in
set_option maxHeartbeats 1000000 in
theorem add_ok (w0 : World) (p : Option Addr) (cp : Nat) (ls : List (List Int)) (hr : LsAt w0 p ls) (q : Option Addr) (cq : Nat) (gs : List Int) (hg : IntsAt w0 q gs) (hB : HB ls gs) (pl : Option Addr) (cl : Nat) (xs : List Int) (hx : IntsAt w0 pl xs) (N : Nat) (hN : xs.length = N) (p2 : Option Addr) (c2 : Nat) (ys : List Int) (hy : IntsAt w0 p2 ys) (M : Nat) (hM : ys.length = M) (hxl : xs.length = gs.length) (hyl : ys.length = gs.length) (hx0 : ∀ k, 0 ≤ xs.getD k 0 ∧ xs.getD k 0 ≤ 500) (hy0 : ∀ k, 0 ≤ ys.getD k 0 ∧ ys.getD k 0 ≤ 500) :
    Calls Try.prog 82 #[hv p ls.length cp q gs.length cq, .slice pl N cl, .slice p2 M c2] w0 (Post (X := Nat × List Int × List Int) (fun y => .slice (some ⟨y.1, 0, none⟩) gs.length gs.length) (fun y => StbL ls gs (adN xs ys 1) y.2.1 y.2.2) (fun y => [(y.1, Obj.cells (intsA (y.2.1)) 3 (0, 0))]) w0) := by
  have hn9 := hB.n
  refine calls Try.func82 rfl (n := 18) rfl (by simp) ?_
  refine TC.seq ?_
  refine TC.region ?_
  refine TL.box rfl rfl (by decide) (fun b0 hb0 => ?_)
  refine TL.pure (PV.assign rfl) rfl (by decide) ?_
  refine TL.nil ?_
  refine TQ.thenC ?_
  refine TC.seq ?_
  refine TC.mix [true, true, true, false, false, false, false, false, false, false] _ 7 Tb.mixed rfl (by kernel_rfl) (by kernel_rfl) (by kernel_rfl) (by kernel_rfl) (List.Sublist.refl _) ?_
  refine TB.op (SOK.pure (PV.loadBox rfl Tb.agg_25 (by repeat (first | exact List.Mem.head _ | refine List.Mem.tail _ ?_ | refine List.mem_append_right _ ?_)) rfl) rfl) (by decide) ?_
  refine TB.op (SOK.pure (PV.move rfl) rfl) (by decide) ?_
  refine TB.op (SOK.pure (PV.move rfl) rfl) (by decide) ?_
  refine TB.no ?_
  refine TB.no ?_
  refine TB.no ?_
  refine TB.no ?_
  refine TB.no ?_
  refine TB.no ?_
  refine TB.no ?_
  refine TB.fin ?_
  refine TX.step [3] (by kernel_rfl) (by decide) ⟨⟨_, rfl, ?_⟩, trivial⟩
  refine TL.call rfl Tb.gofn_95 (fun a w hs => added_ok w _ _ _ (hx.new hs.new) _ hN _ _ _ (hy.new hs.new) _ hM (by omega) (by omega) 1 (by omega) (fun k => by have := hx0 k; omega) (fun k => by have := hy0 k; omega)) rfl (by decide) (fun bS _ => ?_)
  refine TL.nil ?_
  refine TX.next (.inl (by repeat (first | exact List.Sublist.slnil | exact List.nil_sublist _ | exact List.Sublist.refl _ | refine List.Sublist.cons_cons _ ?_ | refine List.Sublist.cons _ ?_ | refine List.Sublist.trans ?_ (List.sublist_append_right _ _)))) ?_
  refine TX.step [4] (by kernel_rfl) (by decide) ⟨⟨_, rfl, ?_⟩, trivial⟩
  refine TL.call rfl Tb.gofn_76 (fun a w hs => settle_ok w _ _ _ (hr.new hs.new) _ _ _ (hg.new hs.new) hB _ _ (adN xs ys 1) (IntsAt.arr hs.new (by repeat (first | exact List.Mem.head _ | refine List.Mem.tail _ ?_ | refine List.mem_append_right _ ?_))) _ ((ad_len _ _ _).trans hN) ((ad_len _ _ _).trans hxl) (fun k => by have := ad_bd rfl hx0 hy0 k; omega)) rfl (by decide) (fun y9 hy9 => ?_)
  refine TL.nil ?_
  refine TX.next (.inl (by repeat (first | exact List.Sublist.slnil | exact List.nil_sublist _ | exact List.Sublist.refl _ | refine List.Sublist.cons_cons _ ?_ | refine List.Sublist.cons _ ?_ | refine List.Sublist.trans ?_ (List.sublist_append_right _ _)))) ?_
  refine TX.step [5] (by kernel_rfl) (by decide) ⟨⟨_, rfl, ?_⟩, trivial⟩
  refine TL.pure (PV.move rfl) rfl (by decide) ?_
  refine TL.nil ?_
  refine TX.next (.inl (by repeat (first | exact List.Sublist.slnil | exact List.nil_sublist _ | exact List.Sublist.refl _ | refine List.Sublist.cons_cons _ ?_ | refine List.Sublist.cons _ ?_ | refine List.Sublist.trans ?_ (List.sublist_append_right _ _)))) ?_
  refine TX.step [6, 7] (by kernel_rfl) (by decide) ⟨⟨_, rfl, ?_⟩, ⟨_, rfl, ?_⟩, trivial⟩
  · skip
    refine TL.pure (PV.extract rfl rfl) rfl (by decide) ?_
    refine TL.nil ?_
    refine TX.next (.inl (by repeat (first | exact List.Sublist.slnil | exact List.nil_sublist _ | exact List.Sublist.refl _ | refine List.Sublist.cons_cons _ ?_ | refine List.Sublist.cons _ ?_ | refine List.Sublist.trans ?_ (List.sublist_append_right _ _)))) ?_
    refine TX.step [7, 8] (by kernel_rfl) (by decide) ⟨⟨_, rfl, ?_⟩, ⟨_, rfl, ?_⟩, trivial⟩
    · skip
      refine TL.pure (PV.extract rfl rfl) rfl (by decide) ?_
      refine TL.nil ?_
      refine TX.next (.inl (by repeat (first | exact List.Sublist.slnil | exact List.nil_sublist _ | exact List.Sublist.refl _ | refine List.Sublist.cons_cons _ ?_ | refine List.Sublist.cons _ ?_ | refine List.Sublist.trans ?_ (List.sublist_append_right _ _)))) ?_
      refine TX.step [8] (by kernel_rfl) (by decide) ⟨⟨_, rfl, ?_⟩, trivial⟩
      refine TL.pure (PV.assign rfl) rfl (by decide) ?_
      refine TL.nil ?_
      refine TX.next (.inr (by kernel_rfl)) ?_
      refine TX.step [9] (by kernel_rfl) (by decide) ⟨⟨_, rfl, ?_⟩, trivial⟩
      refine TL.pure (PV.assign rfl) rfl (by decide) ?_
      refine TL.nil ?_
      refine TX.next (.inr (by kernel_rfl)) ?_
      refine TX.done (by kernel_rfl) ?_
      refine TQ.thenC ?_
      refine TC.seq ?_
      refine TC.region ?_
      refine TL.pure (PV.move rfl) rfl (by decide) ?_
      refine TL.pure (PV.assign rfl) rfl (by decide) ?_
      refine TL.nil ?_
      refine TQ.thenC ?_
      refine TC.ret ?_
      refine TQ.retE1 rfl rfl ?_
      exact ⟨(y9.1, y9.2.2.1, y9.2.2.2), rfl, hy9, List.Sublist.cons _ (List.Sublist.cons_cons _ (List.nil_sublist _))⟩
    · skip
      refine TL.pure (PV.assign rfl) rfl (by decide) ?_
      refine TL.nil ?_
      refine TX.next (.inr (by kernel_rfl)) ?_
      refine TX.step [7] (by kernel_rfl) (by decide) ⟨⟨_, rfl, ?_⟩, trivial⟩
      refine TL.pure (PV.extract rfl rfl) rfl (by decide) ?_
      refine TL.nil ?_
      refine TX.next (.inl (by repeat (first | exact List.Sublist.slnil | exact List.nil_sublist _ | exact List.Sublist.refl _ | refine List.Sublist.cons_cons _ ?_ | refine List.Sublist.cons _ ?_ | refine List.Sublist.trans ?_ (List.sublist_append_right _ _)))) ?_
      refine TX.step [9] (by kernel_rfl) (by decide) ⟨⟨_, rfl, ?_⟩, trivial⟩
      refine TL.pure (PV.assign rfl) rfl (by decide) ?_
      refine TL.nil ?_
      refine TX.next (.inr (by kernel_rfl)) ?_
      refine TX.done (by kernel_rfl) ?_
      refine TQ.thenC ?_
      refine TC.seq ?_
      refine TC.region ?_
      refine TL.pure (PV.move rfl) rfl (by decide) ?_
      refine TL.pure (PV.assign rfl) rfl (by decide) ?_
      refine TL.nil ?_
      refine TQ.thenC ?_
      refine TC.ret ?_
      refine TQ.retE1 rfl rfl ?_
      exact ⟨(y9.1, y9.2.2.1, y9.2.2.2), rfl, hy9, List.Sublist.cons _ (List.Sublist.cons_cons _ (List.nil_sublist _))⟩
  · skip
    refine TL.pure (PV.extract rfl rfl) rfl (by decide) ?_
    refine TL.nil ?_
    refine TX.next (.inl (by repeat (first | exact List.Sublist.slnil | exact List.nil_sublist _ | exact List.Sublist.refl _ | refine List.Sublist.cons_cons _ ?_ | refine List.Sublist.cons _ ?_ | refine List.Sublist.trans ?_ (List.sublist_append_right _ _)))) ?_
    refine TX.step [6] (by kernel_rfl) (by decide) ⟨⟨_, rfl, ?_⟩, trivial⟩
    refine TL.pure (PV.extract rfl rfl) rfl (by decide) ?_
    refine TL.nil ?_
    refine TX.next (.inl (by repeat (first | exact List.Sublist.slnil | exact List.nil_sublist _ | exact List.Sublist.refl _ | refine List.Sublist.cons_cons _ ?_ | refine List.Sublist.cons _ ?_ | refine List.Sublist.trans ?_ (List.sublist_append_right _ _)))) ?_
    refine TX.step [8] (by kernel_rfl) (by decide) ⟨⟨_, rfl, ?_⟩, trivial⟩
    refine TL.pure (PV.assign rfl) rfl (by decide) ?_
    refine TL.nil ?_
    refine TX.next (.inr (by kernel_rfl)) ?_
    refine TX.step [9] (by kernel_rfl) (by decide) ⟨⟨_, rfl, ?_⟩, trivial⟩
    refine TL.pure (PV.assign rfl) rfl (by decide) ?_
    refine TL.nil ?_
    refine TX.next (.inr (by kernel_rfl)) ?_
    refine TX.done (by kernel_rfl) ?_
    refine TQ.thenC ?_
    refine TC.seq ?_
    refine TC.region ?_
    refine TL.pure (PV.move rfl) rfl (by decide) ?_
    refine TL.pure (PV.assign rfl) rfl (by decide) ?_
    refine TL.nil ?_
    refine TQ.thenC ?_
    refine TC.ret ?_
    refine TQ.retE1 rfl rfl ?_
    exact ⟨(y9.1, y9.2.2.1, y9.2.2.2), rfl, hy9, List.Sublist.cons _ (List.Sublist.cons_cons _ (List.nil_sublist _))⟩

set_option maxRecDepth 100000 in
set_option maxHeartbeats 1000000 in
theorem ample_ok (w0 : World) (p : Option Addr) (cp : Nat) (ls : List (List Int)) (hr : LsAt w0 p ls) (q : Option Addr) (cq : Nat) (gs : List Int) (hg : IntsAt w0 q gs) (hB : HB ls gs) :
    Calls Try.prog 96 #[hv p ls.length cp q gs.length cq] w0 (Post (X := Nat × List Int) (fun y => .slice (some ⟨y.1, 0, none⟩) gs.length gs.length) (fun y => AmpP ls gs y.2) (fun y => [(y.1, Obj.cells (intsA (y.2)) 3 (0, 0))]) w0) := by
  have hn9 := hB.n
  have hlb := limL_bd hB
  have hll := lim_len ls gs
  refine calls Try.func96 rfl (n := 20) rfl (by simp) ?_
  refine TC.seq ?_
  refine TC.region ?_
  refine TL.box rfl rfl (by decide) (fun b0 hb0 => ?_)
  refine TL.pure (PV.assign rfl) rfl (by decide) ?_
  refine TL.nil ?_
  refine TQ.thenC ?_
  refine TC.seq ?_
  refine TC.mix [true, false, true, false, false, false] _ 4 Tb.mixed rfl (by kernel_rfl) (by kernel_rfl) (by kernel_rfl) (by kernel_rfl) (List.Sublist.refl _) ?_
  refine TB.op (SOK.pure (PV.loadBox rfl Tb.agg_25 (by repeat (first | exact List.Mem.head _ | refine List.Mem.tail _ ?_ | refine List.mem_append_right _ ?_)) rfl) rfl) (by decide) ?_
  refine TB.no ?_
  refine TB.op (SOK.pure (PV.loadBox rfl Tb.agg_25 (by repeat (first | exact List.Mem.head _ | refine List.Mem.tail _ ?_ | refine List.mem_append_right _ ?_)) rfl) rfl) (by decide) ?_
  refine TB.no ?_
  refine TB.no ?_
  refine TB.no ?_
  refine TB.fin ?_
  refine TX.step [1] (by kernel_rfl) (by decide) ⟨⟨_, rfl, ?_⟩, trivial⟩
  refine TL.call rfl Tb.gofn_98 (fun a w hs => limits_ok w _ _ _ (hr.new hs.new) _ _ _ (hg.new hs.new) hB) rfl (by decide) (fun b1 _ => ?_)
  refine TL.nil ?_
  refine TX.next (.inl (by repeat (first | exact List.Sublist.slnil | exact List.nil_sublist _ | exact List.Sublist.refl _ | refine List.Sublist.cons_cons _ ?_ | refine List.Sublist.cons _ ?_ | refine List.Sublist.trans ?_ (List.sublist_append_right _ _)))) ?_
  refine TX.step [3] (by kernel_rfl) (by decide) ⟨⟨_, rfl, ?_⟩, trivial⟩
  refine TL.call rfl Tb.gofn_98 (fun a w hs => limits_ok w _ _ _ (hr.new hs.new) _ _ _ (hg.new hs.new) hB) rfl (by decide) (fun b2 _ => ?_)
  refine TL.nil ?_
  refine TX.next (.inl (by repeat (first | exact List.Sublist.slnil | exact List.nil_sublist _ | exact List.Sublist.refl _ | refine List.Sublist.cons_cons _ ?_ | refine List.Sublist.cons _ ?_ | refine List.Sublist.trans ?_ (List.sublist_append_right _ _)))) ?_
  refine TX.step [4] (by kernel_rfl) (by decide) ⟨⟨_, rfl, ?_⟩, trivial⟩
  refine TL.call rfl Tb.gofn_95 (fun a w hs => added_ok w _ _ (limL ls gs) (IntsAt.arr hs.new (by repeat (first | exact List.Mem.head _ | refine List.Mem.tail _ ?_ | refine List.mem_append_right _ ?_))) _ hll _ _ (limL ls gs) (IntsAt.arr hs.new (by repeat (first | exact List.Mem.head _ | refine List.Mem.tail _ ?_ | refine List.mem_append_right _ ?_))) _ hll rfl (by omega) 1 (by omega) (fun k => by have := hlb k; omega) (fun k => by have := hlb k; omega)) rfl (by decide) (fun b3 _ => ?_)
  refine TL.nil ?_
  refine TX.next (.inl (by repeat (first | exact List.Sublist.slnil | exact List.nil_sublist _ | exact List.Sublist.refl _ | refine List.Sublist.cons_cons _ ?_ | refine List.Sublist.cons _ ?_ | refine List.Sublist.trans ?_ (List.sublist_append_right _ _)))) ?_
  refine TX.step [5] (by kernel_rfl) (by decide) ⟨⟨_, rfl, ?_⟩, trivial⟩
  refine TL.pure (PV.assign rfl) rfl (by decide) ?_
  refine TL.nil ?_
  refine TX.next (.inr (by kernel_rfl)) ?_
  refine TX.done (by kernel_rfl) ?_
  refine TQ.thenC ?_
  refine TC.seq ?_
  refine TC.region ?_
  refine TL.pure (PV.loadBox rfl Tb.agg_25 (by repeat (first | exact List.Mem.head _ | refine List.Mem.tail _ ?_ | refine List.mem_append_right _ ?_)) rfl) rfl (by decide) ?_
  refine TL.pure (PV.move rfl) rfl (by decide) ?_
  refine TL.call rfl Tb.gofn_76 (fun a w hs => settle_ok w _ _ _ (hr.new hs.new) _ _ _ (hg.new hs.new) hB _ _ (adN (limL ls gs) (limL ls gs) 1) (IntsAt.arr hs.new (by repeat (first | exact List.Mem.head _ | refine List.Mem.tail _ ?_ | refine List.mem_append_right _ ?_))) _ ((ad_len _ _ _).trans hll) ((ad_len _ _ _).trans hll) (fun k => by have := ad_bd rfl hlb hlb k; omega)) rfl (by decide) (fun y9 hy9 => ?_)
  refine TL.pure (PV.move rfl) rfl (by decide) ?_
  refine TL.pure (PV.extract rfl rfl) rfl (by decide) ?_
  refine TL.pure (PV.extract rfl rfl) rfl (by decide) ?_
  refine TL.pure (PV.assign rfl) rfl (by decide) ?_
  refine TL.pure (PV.assign rfl) rfl (by decide) ?_
  refine TL.nil ?_
  refine TQ.thenC ?_
  refine TC.seq ?_
  refine TC.region ?_
  refine TL.pure (PV.move rfl) rfl (by decide) ?_
  refine TL.pure (PV.move rfl) rfl (by decide) ?_
  refine TL.call rfl Tb.gofn_95 (fun a w hs => added_ok w _ _ (adN (limL ls gs) (limL ls gs) 1) (IntsAt.arr hs.new (by repeat (first | exact List.Mem.head _ | refine List.Mem.tail _ ?_ | refine List.mem_append_right _ ?_))) _ ((ad_len _ _ _).trans hll) _ _ y9.2.2.1 (IntsAt.arr hs.new (by repeat (first | exact List.Mem.head _ | refine List.Mem.tail _ ?_ | refine List.mem_append_right _ ?_))) _ hy9.1 rfl (by omega) (-1) (by omega) (fun k => by have := ad_bd rfl hlb hlb k; omega) (fun k => by have := stb_c hB hy9 k; omega)) rfl (by decide) (fun b4 _ => ?_)
  refine TL.pure (PV.assign rfl) rfl (by decide) ?_
  refine TL.nil ?_
  refine TQ.thenC ?_
  refine TC.ret ?_
  refine TQ.retE1 rfl rfl ?_
  exact ⟨(b4, adN (adN (limL ls gs) (limL ls gs) 1) y9.2.2.1 (-1)), rfl, amp_of hB hy9, List.Sublist.cons_cons _ (List.nil_sublist _)⟩

set_option maxRecDepth 100000 in
set_option maxHeartbeats 1000000 in
theorem lasting_ok (w0 : World) (p : Option Addr) (cp : Nat) (ls : List (List Int)) (hr : LsAt w0 p ls) (q : Option Addr) (cq : Nat) (gs : List Int) (hg : IntsAt w0 q gs) (hB : HB ls gs) (pl : Option Addr) (cl : Nat) (xs : List Int) (hx : IntsAt w0 pl xs) (N : Nat) (hN : xs.length = N) (hxl : xs.length = gs.length) (hx0 : ∀ k, 0 ≤ xs.getD k 0 ∧ xs.getD k 0 ≤ 500) :
    Calls Try.prog 93 #[hv p ls.length cp q gs.length cq, .slice pl N cl] w0 (Post (X := Nat × List Int) (fun y => .slice (some ⟨y.1, 0, none⟩) gs.length gs.length) (fun y => LasP ls gs xs y.2) (fun y => [(y.1, Obj.cells (intsA (y.2)) 3 (0, 0))]) w0) := by
  refine calls Try.func93 rfl (n := 10) rfl (by simp) ?_
  refine TC.seq ?_
  refine TC.region ?_
  refine TL.box rfl rfl (by decide) (fun b0 hb0 => ?_)
  refine TL.pure (PV.assign rfl) rfl (by decide) ?_
  refine TL.nil ?_
  refine TQ.thenC ?_
  refine TC.seq ?_
  refine TC.mix [true, true, false, true, false, false] _ 3 Tb.mixed rfl (by kernel_rfl) (by kernel_rfl) (by kernel_rfl) (by kernel_rfl) (List.Sublist.refl _) ?_
  refine TB.op (SOK.pure (PV.loadBox rfl Tb.agg_25 (by repeat (first | exact List.Mem.head _ | refine List.Mem.tail _ ?_ | refine List.mem_append_right _ ?_)) rfl) rfl) (by decide) ?_
  refine TB.op (SOK.pure (PV.loadBox rfl Tb.agg_25 (by repeat (first | exact List.Mem.head _ | refine List.Mem.tail _ ?_ | refine List.mem_append_right _ ?_)) rfl) rfl) (by decide) ?_
  refine TB.no ?_
  refine TB.op (SOK.pure (PV.move rfl) rfl) (by decide) ?_
  refine TB.no ?_
  refine TB.no ?_
  refine TB.fin ?_
  refine TX.step [2] (by kernel_rfl) (by decide) ⟨⟨_, rfl, ?_⟩, trivial⟩
  refine TL.call rfl Tb.gofn_96 (fun a w hs => ample_ok w _ _ _ (hr.new hs.new) _ _ _ (hg.new hs.new) hB) rfl (by decide) (fun y1 hy1 => ?_)
  refine TL.nil ?_
  refine TX.next (.inl (by repeat (first | exact List.Sublist.slnil | exact List.nil_sublist _ | exact List.Sublist.refl _ | refine List.Sublist.cons_cons _ ?_ | refine List.Sublist.cons _ ?_ | refine List.Sublist.trans ?_ (List.sublist_append_right _ _)))) ?_
  refine TX.step [4] (by kernel_rfl) (by decide) ⟨⟨_, rfl, ?_⟩, trivial⟩
  refine TL.call rfl Tb.gofn_82 (fun a w hs => add_ok w _ _ _ (hr.new hs.new) _ _ _ (hg.new hs.new) hB _ _ y1.2 (IntsAt.arr hs.new (by repeat (first | exact List.Mem.head _ | refine List.Mem.tail _ ?_ | refine List.mem_append_right _ ?_))) _ hy1.len _ _ xs (hx.new hs.new) _ hN hy1.len hxl (fun k => by have := hy1.hi k; omega) hx0) rfl (by decide) (fun y9 hy9 => ?_)
  refine TL.nil ?_
  refine TX.next (.inl (by repeat (first | exact List.Sublist.slnil | exact List.nil_sublist _ | exact List.Sublist.refl _ | refine List.Sublist.cons_cons _ ?_ | refine List.Sublist.cons _ ?_ | refine List.Sublist.trans ?_ (List.sublist_append_right _ _)))) ?_
  refine TX.step [5] (by kernel_rfl) (by decide) ⟨⟨_, rfl, ?_⟩, trivial⟩
  refine TL.pure (PV.assign rfl) rfl (by decide) ?_
  refine TL.nil ?_
  refine TX.next (.inr (by kernel_rfl)) ?_
  refine TX.done (by kernel_rfl) ?_
  refine TQ.thenC ?_
  refine TC.ret ?_
  refine TQ.retE1 rfl rfl ?_
  exact ⟨(y9.1, y9.2.1), rfl, las_of hB hy1 hxl (fun k => (hx0 k).1) hy9, List.Sublist.cons_cons _ (List.nil_sublist _)⟩

set_option maxRecDepth 100000 in
set_option maxHeartbeats 1000000 in
theorem zero_ok (w0 : World) (p : Option Addr) (cp : Nat) (ls : List (List Int)) (hr : LsAt w0 p ls) (q : Option Addr) (cq : Nat) (gs : List Int) (hg : IntsAt w0 q gs) (hB : HB ls gs) :
    Calls Try.prog 91 #[hv p ls.length cp q gs.length cq] w0 (Post (X := Nat × List Int) (fun y => .slice (some ⟨y.1, 0, none⟩) gs.length gs.length) (fun y => LasP ls gs (List.replicate gs.length 0) y.2) (fun y => [(y.1, Obj.cells (intsA (y.2)) 3 (0, 0))]) w0) := by
  have hn9 := hB.n
  refine calls Try.func91 rfl (n := 9) rfl (by simp) ?_
  refine TC.seq ?_
  refine TC.region ?_
  refine TL.box rfl rfl (by decide) (fun b0 hb0 => ?_)
  refine TL.pure (PV.assign rfl) rfl (by decide) ?_
  refine TL.nil ?_
  refine TQ.thenC ?_
  refine TC.seq ?_
  refine TC.mix [true, true, true, true, false, false, false] _ 3 Tb.mixed rfl (by kernel_rfl) (by kernel_rfl) (by kernel_rfl) (by kernel_rfl) (List.Sublist.refl _) ?_
  refine TB.op (SOK.pure (PV.loadBox rfl Tb.agg_25 (by repeat (first | exact List.Mem.head _ | refine List.Mem.tail _ ?_ | refine List.mem_append_right _ ?_)) rfl) rfl) (by decide) ?_
  refine TB.op (SOK.pure (PV.fieldAddr rfl Tb.fo_25_1) rfl) (by decide) ?_
  refine TB.op (SOK.pure (PV.load rfl Tb.one_23 (by repeat (first | exact List.Mem.head _ | refine List.Mem.tail _ ?_ | refine List.mem_append_right _ ?_)) rfl) rfl) (by decide) ?_
  refine TB.op (SOK.pure (PV.len rfl Tb.sl_23) rfl) (by decide) ?_
  refine TB.no ?_
  refine TB.no ?_
  refine TB.no ?_
  refine TB.fin ?_
  refine TX.step [4] (by kernel_rfl) (by decide) ⟨⟨_, rfl, ?_⟩, trivial⟩
  refine TL.makeI (k := gs.length) rfl rfl Tb.sl_23 Tb.zi_3 rfl (by omega) (by omega) rfl (by decide) (fun b1 hb1 => ?_)
  refine TL.nil ?_
  refine TX.next (.inl (by repeat (first | exact List.Sublist.slnil | exact List.nil_sublist _ | exact List.Sublist.refl _ | refine List.Sublist.cons_cons _ ?_ | refine List.Sublist.cons _ ?_ | refine List.Sublist.trans ?_ (List.sublist_append_right _ _)))) ?_
  refine TX.step [5] (by kernel_rfl) (by decide) ⟨⟨_, rfl, ?_⟩, trivial⟩
  refine TL.call rfl Tb.gofn_93 (fun a w hs => lasting_ok w _ _ _ (hr.new hs.new) _ _ _ (hg.new hs.new) hB _ _ (List.replicate gs.length 0) (IntsAt.arr hs.new (by repeat (first | exact List.Mem.head _ | refine List.Mem.tail _ ?_ | refine List.mem_append_right _ ?_))) _ (by simp) (by simp) (fun k => by rw [rep_at]; omega)) rfl (by decide) (fun y9 hy9 => ?_)
  refine TL.nil ?_
  refine TX.next (.inl (by repeat (first | exact List.Sublist.slnil | exact List.nil_sublist _ | exact List.Sublist.refl _ | refine List.Sublist.cons_cons _ ?_ | refine List.Sublist.cons _ ?_ | refine List.Sublist.trans ?_ (List.sublist_append_right _ _)))) ?_
  refine TX.step [6] (by kernel_rfl) (by decide) ⟨⟨_, rfl, ?_⟩, trivial⟩
  refine TL.pure (PV.assign rfl) rfl (by decide) ?_
  refine TL.nil ?_
  refine TX.next (.inr (by kernel_rfl)) ?_
  refine TX.done (by kernel_rfl) ?_
  refine TQ.thenC ?_
  refine TC.ret ?_
  refine TQ.retE1 rfl rfl ?_
  exact ⟨y9, rfl, hy9, List.Sublist.cons_cons _ (List.nil_sublist _)⟩

end Go.Proofs.Ytgafpkcnhpoobaa
