/- Trades added: contracts. -/
import Derived.Test.YtghlkndanpegbaaBx
import Derived.Test.YtghlkndanpegbaaBq
set_option linter.unusedVariables false
set_option linter.unusedSimpArgs false
namespace Go.Proofs.Ytghlkndanpegbaa
open Go.Sx Go.RowKit Go.Sand Go.Tp

theorem nvr {n : Nat} (h : ¬ (n : Int) < 1) : 1 ≤ n := by omega
def sel2 {α : Type} (k : Nat) (a b : α) : α := if k = 0 then a else b
theorem two3 {a1 a2 a3 b1 b2 b3 : Value} {k : Nat} (hk : k < 2) (j : Nat) (v : Value) (h : [sel2 k a1 b1, sel2 k a2 b2, sel2 k a3 b3][j]? = some v) : (#[a1, a2, a3, b1, b2, b3] : Array Value)[0 + k * 3 + j]? = some v := by
  match k, hk with
  | 0, _ => match j with
    | 0 => exact h
    | 1 => exact h
    | 2 => exact h
    | j + 3 => simp at h
  | 1, _ => match j with
    | 0 => exact h
    | 1 => exact h
    | 2 => exact h
    | j + 3 => simp at h
theorem sel_one {k : Nat} {a b : Value} (h1 : a.oneCell' = true) (h2 : b.oneCell' = true) : (sel2 k a b).oneCell' = true := by
  unfold sel2
  split <;> assumption
theorem sel_is {w : World} {k : Nat} {a1 a2 a3 b1 b2 b3 : Value} {t u : Td} (h1 : IsT w (.agg #[a1, a2, a3]) t) (h2 : IsT w (.agg #[b1, b2, b3]) u) : IsT w (.agg #[sel2 k a1 b1, sel2 k a2 b2, sel2 k a3 b3]) (sel2 k t u) := by
  unfold sel2
  split
  · exact h1
  · exact h2
theorem sel_sm {k : Nat} {t u : Td} (h1 : SmT t) (h2 : SmT u) : SmT (sel2 k t u) := by
  unfold sel2
  split <;> assumption
theorem fill6 (p1 p2 p3 q1 q2 q3 : Option Addr) (a b c d e f g h i j k l : Nat) : Instr.fill (fun i => some (i * 3, 3)) ((Array.range (2 * 3)).map ((Value.agg #[.slice none 0 0, .slice none 0 0, .slice none 0 0]).cells[· % (Value.agg #[.slice none 0 0, .slice none 0 0, .slice none 0 0]).cells.size]!)) [(0, .agg #[.slice p1 a b, .slice p2 c d, .slice p3 e f]), (1, .agg #[.slice q1 g h, .slice q2 i j, .slice q3 k l])] = some #[.slice p1 a b, .slice p2 c d, .slice p3 e f, .slice q1 g h, .slice q2 i j, .slice q3 k l] := by kernel_rfl
/-- A list, of which the first are up by those of another. -/
def adL (a b : List Int) (k : Nat) : List Int := mk a.length fun i => a.getD i 0 + if i < k then b.getD i 0 else 0
theorem adL_len (a b : List Int) (k : Nat) : (adL a b k).length = a.length := mk_len _ _
theorem adL_0 (a b : List Int) : adL a b 0 = a := (mk_eq rfl fun j hj => by rw [if_neg (by omega), Int.add_zero]).symm
theorem adL_at {a b : List Int} {k : Nat} (h : k < a.length) : (adL a b k).getD k 0 = a.getD k 0 := by
  unfold adL
  rw [mk_at _ h, if_neg (by omega), Int.add_zero]
theorem adL_fin {a b : List Int} {k : Nat} (h : k < a.length) : (adL a b a.length).getD k 0 = a.getD k 0 + b.getD k 0 := by
  unfold adL
  rw [mk_at _ h, if_pos h]
theorem adL_set {a b : List Int} {k : Nat} (h : k < a.length) : (adL a b k).set k (a.getD k 0 + b.getD k 0) = adL a b (k + 1) := by
  unfold adL
  refine mk_set h (by rw [if_pos (by omega)]) fun j hj hne => ?_
  by_cases h2 : j < k
  · rw [if_pos h2, if_pos (by omega)]
  · rw [if_neg h2, if_neg (by omega)]
theorem adL_go {h : HD} {a b : List Int} (ho : goI (h, a)) (k : Nat) : goI (h, adL a b k) := go_lenI (xs := a) ho (adL_len _ _ _)
theorem adL_gk {h : HD} {a b : List Int} (ho : goI (h, a)) (k : Nat) : gok h a.length 1 (ival (adL a b k)) := by
  have h1 := adL_go (b := b) ho k
  unfold goI at h1
  simp only at h1
  rwa [adL_len] at h1
theorem adL_sum {a b : List Int} (h : a.length = b.length) : sumI (adL a b a.length) = sumI a + sumI b := by
  unfold sumI
  rw [adL_len, ← h, ← sm_add]
  exact sm_congr fun i hi => adL_fin hi
def addT (t u : Td) : Td := ⟨adL t.s u.s t.s.length, adL t.d u.d t.d.length, t.c⟩
def Ck (t : Td) : Prop := (∀ j, j < t.s.length → t.s.getD j 0 ≤ 30) ∧ ∀ j, j < t.d.length → t.d.getD j 0 ≤ 30
open Classical in
noncomputable def ifV (p : Prop) (a : Value) : Value := if p then a else .slice none 0 0
open Classical in
noncomputable def ckI (t : Td) : Int := if Ck t then 0 else 3
theorem ifV_y {p : Prop} (h : p) (a : Value) : ifV p a = a := by unfold ifV; rw [if_pos h]
theorem ifV_n {p : Prop} (h : ¬ p) (a : Value) : ifV p a = .slice none 0 0 := by unfold ifV; rw [if_neg h]
theorem ifV_one {p : Prop} {a : Value} (h : a.oneCell' = true) : (ifV p a).oneCell' = true := by
  unfold ifV
  split
  · exact h
  · rfl
theorem ck_y {t : Td} (h : Ck t) : ckI t = 0 := by unfold ckI; rw [if_pos h]
theorem ck_n {t : Td} (h : ¬ Ck t) : ckI t = 3 := by unfold ckI; rw [if_neg h]
open Classical in
noncomputable def addR (t u : Td) : Td × Int := if validI t ≠ 0 then (nilT, validI t) else if validI u ≠ 0 then (nilT, validI u) else if t.c ≠ u.c then (nilT, 1) else if Ck (addT t u) then (addT t u, 0) else (nilT, 3)
theorem valid_9 {t : Td} (h : validI t ≠ 0) : validI t = 1 := by
  unfold validI at h ⊢
  split at h
  · exact absurd rfl h
  · rename_i h2; rw [if_neg h2]
theorem add_v {t u : Td} (h : validI t ≠ 0) : addR t u = (nilT, validI t) := if_pos h
theorem add_u {t u : Td} (h : ¬ validI t ≠ 0) (h2 : validI u ≠ 0) : addR t u = (nilT, validI u) := by unfold addR; rw [if_neg h, if_pos h2]
theorem add_c {t u : Td} (h : ¬ validI t ≠ 0) (h2 : ¬ validI u ≠ 0) (h3 : t.c ≠ u.c) : addR t u = (nilT, 1) := by unfold addR; rw [if_neg h, if_neg h2, if_pos h3]
theorem add_y {t u : Td} (h : ¬ validI t ≠ 0) (h2 : ¬ validI u ≠ 0) (h3 : t.c = u.c) (h4 : Ck (addT t u)) : addR t u = (addT t u, 0) := by unfold addR; rw [if_neg h, if_neg h2, if_neg (fun hn => hn h3), if_pos h4]
theorem add_n {t u : Td} (h : ¬ validI t ≠ 0) (h2 : ¬ validI u ≠ 0) (h3 : t.c = u.c) (h4 : ¬ Ck (addT t u)) : addR t u = (nilT, 3) := by unfold addR; rw [if_neg h, if_neg h2, if_neg (fun hn => hn h3), if_neg h4]
theorem add_len {t u : Td} (h : VT t) (h2 : VT u) (e : t.c = u.c) : u.s.length = t.s.length ∧ u.d.length = t.d.length := by
  have h3 := h.c.len
  have h4 := h2.c.len
  have h5 := h.ns
  have h7 := h2.ns
  have h6 := h.c.row 0 (by omega)
  have h8 := h2.c.row 0 (by omega)
  rw [← e] at h4 h8
  omega
theorem add_e1 {t u : Td} (h : validI t ≠ 0 ∨ validI u ≠ 0 ∨ t.s.length ≠ u.s.length ∨ t.d.length ≠ u.d.length ∨ t.c ≠ u.c) : addR t u = (nilT, 1) := by
  by_cases h1 : validI t ≠ 0
  · rw [add_v h1, valid_9 h1]
  · by_cases h2 : validI u ≠ 0
    · rw [add_u h1 h2, valid_9 h2]
    · refine add_c h1 h2 fun e => ?_
      have h3 := add_len (vt_of h1) (vt_of h2) e
      rcases h with h | h | h | h | h
      · exact h1 h
      · exact h2 h
      · omega
      · omega
      · exact h e
theorem addT_vt {t u : Td} (h : VT t) (h2 : VT u) (e : t.c = u.c) (hc : Ck (addT t u)) : VT (addT t u) := by
  obtain ⟨l1, l2⟩ := add_len h h2 e
  have eS : (addT t u).s.length = t.s.length := adL_len _ _ _
  have eD : (addT t u).d.length = t.d.length := adL_len _ _ _
  refine ⟨by rw [eS]; exact h.ns, by rw [eD]; exact h.nd, fun k hk => ⟨?_, hc.1 k hk⟩, fun k hk => ⟨?_, hc.2 k hk⟩, ?_, by rw [eS, eD]; exact h.c⟩
  · rw [eS] at hk
    show 0 ≤ (adL t.s u.s t.s.length).getD k 0
    rw [adL_fin hk]
    have := h.s k hk
    have := h2.s k (by omega)
    omega
  · rw [eD] at hk
    show 0 ≤ (adL t.d u.d t.d.length).getD k 0
    rw [adL_fin hk]
    have := h.d k hk
    have := h2.d k (by omega)
    omega
  · show sumI (adL t.s u.s t.s.length) = sumI (adL t.d u.d t.d.length)
    rw [adL_sum l1.symm, adL_sum l2.symm, h.sum, h2.sum]
theorem addT_ck {t u : Td} (h : VT (addT t u)) : Ck (addT t u) := ⟨fun j hj => (h.s j hj).2, fun j hj => (h.d j hj).2⟩
theorem addT_sm {t u : Td} (h : SmT t) : SmT (addT t u) := ⟨by show (adL _ _ _).length ≤ _; rw [adL_len]; exact h.s, by show (adL _ _ _).length ≤ _; rw [adL_len]; exact h.d, h.c⟩
theorem add_sm {t u : Td} (h : SmT t) : SmT (addR t u).1 := by
  unfold addR
  split
  · exact SmT.nil
  · split
    · exact SmT.nil
    · split
      · exact SmT.nil
      · split
        · exact addT_sm h
        · exact SmT.nil
theorem add_mn {t u : Td} (h : VT t) (h2 : VT u) (e : t.c = u.c) (hc : Ck (addT t u)) : mnI (addT t u) ≤ mnI t + mnI u := by
  obtain ⟨l1, l2⟩ := add_len h h2 e
  have eS : (addT t u).s.length = t.s.length := adL_len _ _ _
  have eD : (addT t u).d.length = t.d.length := adL_len _ _ _
  have k1 := mn_is h
  have k2 : Mn t.s.length t.d.length (fS u) (fD u) (getM t.c) (mnI u) := by
    have k := mn_is h2
    unfold MnT at k
    rwa [l1, l2, ← e] at k
  have k3 := mn_is (addT_vt h h2 e hc)
  unfold MnT at k3
  rw [eS, eD] at k3
  exact Mn.add k1 k2 (k3.congr (fun i hi => adL_fin hi) (fun j hj => adL_fin hj) (fun _ _ _ _ => rfl))
theorem add_l {t u : Td} (h : (addR t u).2 = 0) : lstR (addR t u).1 = (mnI (addT t u), 0) ∧ lstR t = (mnI t, 0) ∧ lstR u = (mnI u, 0) ∧ mnI (addT t u) ≤ mnI t + mnI u ∧ VT t ∧ VT u := by
  by_cases h1 : validI t ≠ 0
  · rw [add_v h1] at h; exact absurd h h1
  · by_cases h2 : validI u ≠ 0
    · rw [add_u h1 h2] at h; exact absurd h h2
    · by_cases h3 : t.c = u.c
      · by_cases h4 : Ck (addT t u)
        · have v1 := vt_of h1
          have v2 := vt_of h2
          have v3 := addT_vt v1 v2 h3 h4
          rw [add_y h1 h2 h3 h4]
          refine ⟨?_, if_neg h1, if_neg h2, add_mn v1 v2 h3 h4, v1, v2⟩
          unfold lstR
          rw [if_neg (by rw [v3.v]; decide)]
        · rw [add_n h1 h2 h3 h4] at h; cases h
      · rw [add_c h1 h2 h3] at h; cases h
theorem max_step {xs : List Int} {k : Nat} {m : Int} (h : (∀ j, j < k → xs.getD j 0 ≤ m) ∧ ∃ j, j < k ∧ xs.getD j 0 = m) : (∀ j, j < k + 1 → xs.getD j 0 ≤ max m (xs.getD k 0)) ∧ ∃ j, j < k + 1 ∧ xs.getD j 0 = max m (xs.getD k 0) := by
  constructor
  · intro j hj
    by_cases e : j < k
    · have := h.1 j e; omega
    · have e2 : j = k := by omega
      subst e2; omega
  · obtain ⟨j, h1, h2⟩ := h.2
    by_cases h3 : m ≤ xs.getD k 0
    · exact ⟨k, by omega, by omega⟩
    · exact ⟨j, by omega, by omega⟩
theorem RdT.nilG (G : Heap) : RdT nilT (nilV, G) := ⟨none, 0, none, 0, none, 0, rfl, fun _ _ _ _ _ => ⟨fun j hj => absurd hj (Nat.not_lt_zero _), fun j hj => absurd hj (Nat.not_lt_zero _), fun j hj => absurd hj (Nat.not_lt_zero _)⟩⟩
def addG (t u : Td) (y8 : ClX) : Heap := (gbR rwR 22 y8.2.2.1 y8.2.2.2 ++ rwB y8.2.2.2) ++ (gbI (y8.2.1, adL t.d u.d t.d.length) ++ gbI (y8.1, adL t.s u.s t.s.length))
theorem add_rd {t u : Td} {y8 : ClX} (h : clP t y8) : RdT (addT t u) (.agg #[gval y8.1 t.s.length, gval y8.2.1 t.d.length, gval y8.2.2.1 t.c.length], addG t u y8) := by
  have h1 := RdT.mk (t := addT t u) (adL_go h.1 _) (adL_go h.2.1 _) (RdG.rw h.2.2.1 h.2.2.2.1 h.2.2.2.2)
  have e1 : (addT t u).s.length = t.s.length := adL_len _ _ _
  have e2 : (addT t u).d.length = t.d.length := adL_len _ _ _
  rw [e1, e2] at h1
  exact h1
open Classical in
theorem add_fin {t u : Td} {y8 : ClX} (hy : clP t y8) (h : ¬ validI t ≠ 0) (h2 : ¬ validI u ≠ 0) (h3 : t.c = u.c) : (addR t u).2 = ckI (addT t u) ∧ RdT (addR t u).1 (.agg #[ifV (Ck (addT t u)) (gval y8.1 t.s.length), ifV (Ck (addT t u)) (gval y8.2.1 t.d.length), ifV (Ck (addT t u)) (gval y8.2.2.1 t.c.length)], addG t u y8) := by
  by_cases h4 : Ck (addT t u)
  · rw [add_y h h2 h3 h4, ck_y h4, ifV_y h4, ifV_y h4, ifV_y h4]
    exact ⟨rfl, add_rd hy⟩
  · rw [add_n h h2 h3 h4, ck_n h4, ifV_n h4, ifV_n h4, ifV_n h4]
    exact ⟨rfl, RdT.nilG _⟩


set_option maxRecDepth 100000 in
theorem equalI_ok (w0 : World) (pl : Option Addr) (cl : Nat) (xs : List Int) (hx : IntsAt w0 pl xs) (p2 : Option Addr) (c2 : Nat) (ys : List Int) (hy : IntsAt w0 p2 ys) (hl : xs.length ≤ 1000000) (hl2 : ys.length ≤ 1000000) :
    Calls Try.prog 83 #[.slice pl xs.length cl, .slice p2 ys.length c2] w0 (Post (X := Unit) (fun _ => .bool (decide (xs = ys))) (fun _ => True) (fun _ => []) w0) := by
  refine calls Try.func83 rfl (n := 26) rfl (by simp) ?_
  refine TC.seq ?_
  refine TC.region ?_
  refine TL.pure (PV.assign rfl) rfl (by decide) ?_
  refine TL.nil ?_
  refine TQ.thenC ?_
  refine TC.seq ?_
  refine TC.seq ?_
  refine TC.region ?_
  refine TL.pure (PV.move rfl) rfl (by decide) ?_
  refine TL.pure (PV.len rfl Tb.sl_22) rfl (by decide) ?_
  refine TL.pure (PV.move rfl) rfl (by decide) ?_
  refine TL.pure (PV.len rfl Tb.sl_22) rfl (by decide) ?_
  refine TL.pure (PV.neq rfl rfl) rfl (by decide) ?_
  refine TL.nil ?_
  refine TQ.thenC ?_
  first | refine TC.condD rfl (fun hne => ?_) (fun hne => ?_) | refine TC.cond rfl (fun hne => ?_) (fun hne => ?_)
  · skip
    refine TC.seq ?_
    refine TC.region ?_
    refine TL.pure (PV.assign rfl) rfl (by decide) ?_
    refine TL.nil ?_
    refine TQ.thenC ?_
    refine TC.ret ?_
    refine TQ.thenR ?_
    refine TQ.retE1 rfl rfl ?_
    exact ⟨(), by rw [decide_eq_false (fun e => by subst e; omega)], trivial, List.nil_sublist _⟩
  · skip
    refine TC.skip ?_
    refine TQ.thenC ?_
    refine TC.seq ?_
    refine TC.seq ?_
    refine TC.region ?_
    refine TL.pure (PV.move rfl) rfl (by decide) ?_
    refine TL.pure (PV.len rfl Tb.sl_22) rfl (by decide) ?_
    refine TL.pure (PV.move rfl) rfl (by decide) ?_
    refine TL.nil ?_
    refine TQ.thenC ?_
    refine TC.block ?_
    -- live and written in the loop, not told: [4]
    refine TC.loopG [0, 1, 12] (X := Nat) (fun k => k ≤ xs.length ∧ ∀ j, j < k → xs.getD j 0 = ys.getD j 0) (fun k => [(13, .int .i64 k)]) (fun k => xs.length - k) 0 ⟨Nat.zero_le _, fun j hj => absurd hj (Nat.not_lt_zero _)⟩ (by repeat (first | exact True.intro | refine And.intro rfl ?_)) ?_
    intro k hk
    refine TC.seq ?_
    refine TC.region ?_
    refine TL.pure (PV.lss rfl rfl) rfl (by decide) ?_
    refine TL.nil ?_
    refine TQ.thenC ?_
    refine TC.seq ?_
    first | refine TC.condD rfl (fun hlt => ?_) (fun hlt => ?_) | refine TC.cond rfl (fun hlt => ?_) (fun hlt => ?_)
    · skip
      refine TC.skip ?_
      refine TQ.thenC ?_
      refine TC.seq ?_
      refine TC.block ?_
      refine TC.seq ?_
      refine TC.region ?_
      refine TL.pure (PV.move rfl) rfl (by decide) ?_
      refine TL.pure (PV.assign rfl) rfl (by decide) ?_
      refine TL.nil ?_
      refine TQ.thenC ?_
      refine TC.seq ?_
      obtain ⟨q1, hq1p, hq1⟩ := hx k (by omega)
      obtain ⟨q2, hq2p, hq2⟩ := hy k (by omega)
      refine TC.any Tb.mixed rfl rfl ?_
      refine TA.op (OpOK.pure (PV.move rfl) rfl (by decide)) (by decide) ?_
      refine TA.op (OpOK.pure (PV.move rfl) rfl (by decide)) (by decide) ?_
      refine TA.op (OpOK.pure (PV.indexA rfl hq1p rfl Tb.elm_22 rfl (by omega)) rfl (by decide)) (by decide) ?_
      refine TA.op (OpOK.pure (PV.loadOld rfl Tb.one_3 hq1) rfl (by decide)) (by decide) ?_
      refine TA.op (OpOK.pure (PV.move rfl) rfl (by decide)) (by decide) ?_
      refine TA.op (OpOK.pure (PV.move rfl) rfl (by decide)) (by decide) ?_
      refine TA.op (OpOK.pure (PV.indexA rfl hq2p rfl Tb.elm_22 rfl (by omega)) rfl (by decide)) (by decide) ?_
      refine TA.op (OpOK.pure (PV.loadOld rfl Tb.one_3 hq2) rfl (by decide)) (by decide) ?_
      refine TA.op (OpOK.pure (PV.neq rfl rfl) rfl (by decide)) (by decide) ?_
      show TQ _ _ _ _ _
      refine TQ.thenC ?_
      first | refine TC.condD rfl (fun hno => ?_) (fun hno => ?_) | refine TC.cond rfl (fun hno => ?_) (fun hno => ?_)
      · skip
        refine TC.seq ?_
        refine TC.region ?_
        refine TL.pure (PV.assign rfl) rfl (by decide) ?_
        refine TL.nil ?_
        refine TQ.thenC ?_
        refine TC.ret ?_
        refine TQ.blkR ?_
        refine TQ.thenR ?_
        refine TQ.thenR ?_
        refine TQ.blkR ?_
        refine TQ.thenR ?_
        refine TQ.retE1 rfl rfl ?_
        exact ⟨(), by rw [decide_eq_false (fun e => by subst e; omega)], trivial, List.nil_sublist _⟩
      · skip
        refine TC.skip ?_
        refine TQ.blkN ?_
        refine TQ.thenC ?_
        refine TC.region ?_
        refine TL.pure (PV.add rfl rfl (by omega)) rfl (by decide) ?_
        refine TL.pure (PV.move rfl) rfl (by decide) ?_
        refine TL.nil ?_
        refine TQ.thenN ?_
        refine TQ.backK (k + 1) (by repeat (first | exact True.intro | refine And.intro rfl ?_)) (by repeat (first | exact True.intro | refine And.intro rfl ?_)) (by repeat (first | exact List.Sublist.slnil | exact List.nil_sublist _ | exact List.Sublist.refl _ | refine List.Sublist.cons_cons _ ?_ | refine List.Sublist.cons _ ?_ | refine List.Sublist.trans ?_ (List.sublist_append_right _ _))) ⟨by omega, fun j hj => if e : j < k then hk.2 j e else (show k = j by omega) ▸ (by omega)⟩ (by omega)
    · skip
      refine TC.exit ?_
      refine TQ.thenE ?_
      refine TQ.thenE ?_
      refine TQ.blkS ?_
      refine TQ.thenC ?_
      refine TC.seq ?_
      refine TC.region ?_
      refine TL.pure (PV.assign rfl) rfl (by decide) ?_
      refine TL.nil ?_
      refine TQ.thenC ?_
      refine TC.ret ?_
      refine TQ.retE1 rfl rfl ?_
      exact ⟨(), by rw [decide_eq_true (ints_ext (by omega) (fun j hj => hk.2 j (by omega)))], trivial, List.nil_sublist _⟩

set_option maxRecDepth 100000 in
theorem addEq_ok (w0 : World) (pl : Option Addr) (cl : Nat) (xs : List Int) (hx : IntsAt w0 pl xs) (p2 : Option Addr) (c2 : Nat) (ys : List Int) (hy : IntsAt w0 p2 ys) (hl : xs.length ≤ 1000000) (hl2 : ys.length ≤ 1000000) :
    Calls Try.prog 82 #[.slice pl xs.length cl, .slice p2 ys.length c2] w0 (Post (X := Unit) (fun _ => .bool (decide (xs = ys))) (fun _ => True) (fun _ => []) w0) := by
  refine calls Try.func82 rfl (n := 8) rfl (by simp) ?_
  refine TC.seq ?_
  refine TC.region ?_
  refine TL.pure (PV.assign rfl) rfl (by decide) ?_
  refine TL.nil ?_
  refine TQ.thenC ?_
  refine TC.seq ?_
  refine TC.region ?_
  refine TL.pure (PV.move rfl) rfl (by decide) ?_
  refine TL.pure (PV.move rfl) rfl (by decide) ?_
  refine TL.call rfl Tb.gofn_83 (fun a w hs => equalI_ok w _ _ _ (hx.new hs.new) _ _ _ (hy.new hs.new) hl hl2) rfl (by decide) (fun _ _ => ?_)
  refine TL.pure (PV.assign rfl) rfl (by decide) ?_
  refine TL.nil ?_
  refine TQ.thenC ?_
  refine TC.ret ?_
  refine TQ.retE1 rfl rfl ?_
  exact ⟨(), rfl, trivial, List.nil_sublist _⟩

set_option maxRecDepth 100000 in
set_option maxHeartbeats 1000000 in
theorem equalFunc_ok (w0 : World) (vg : Value) (m : List (List Int)) (hg : IsG w0 vg m) (hM : SmG m) (v2 : Value) (m2 : List (List Int)) (hg2 : IsG w0 v2 m2) (hM2 : SmG m2) :
    Calls Try.prog 81 #[vg, v2, .func (.func 82) #[] #[]] w0 (Post (X := Unit) (fun _ => .bool (decide (m = m2))) (fun _ => True) (fun _ => []) w0) := by
  obtain ⟨pg, cg, rfl, g1⟩ := hg
  obtain ⟨ph, ch, rfl, g2⟩ := hg2
  have hM0 := hM.1
  refine calls Try.func81 rfl (n := 32) rfl (by simp) ?_
  refine TC.seq ?_
  refine TC.region ?_
  refine TL.pure (PV.assign rfl) rfl (by decide) ?_
  refine TL.nil ?_
  refine TQ.thenC ?_
  refine TC.seq ?_
  refine TC.seq ?_
  refine TC.region ?_
  refine TL.pure (PV.move rfl) rfl (by decide) ?_
  refine TL.pure (PV.len rfl Tb.sl_23) rfl (by decide) ?_
  refine TL.pure (PV.move rfl) rfl (by decide) ?_
  refine TL.pure (PV.len rfl Tb.sl_23) rfl (by decide) ?_
  refine TL.pure (PV.neq rfl rfl) rfl (by decide) ?_
  refine TL.nil ?_
  refine TQ.thenC ?_
  first | refine TC.condD rfl (fun hne => ?_) (fun hne => ?_) | refine TC.cond rfl (fun hne => ?_) (fun hne => ?_)
  · skip
    refine TC.seq ?_
    refine TC.region ?_
    refine TL.pure (PV.assign rfl) rfl (by decide) ?_
    refine TL.nil ?_
    refine TQ.thenC ?_
    refine TC.ret ?_
    refine TQ.thenR ?_
    refine TQ.retE1 rfl rfl ?_
    exact ⟨(), by rw [decide_eq_false (fun e => by subst e; omega)], trivial, List.nil_sublist _⟩
  · skip
    refine TC.skip ?_
    refine TQ.thenC ?_
    refine TC.seq ?_
    refine TC.seq ?_
    refine TC.region ?_
    refine TL.pure (PV.move rfl) rfl (by decide) ?_
    refine TL.pure (PV.len rfl Tb.sl_23) rfl (by decide) ?_
    refine TL.pure (PV.move rfl) rfl (by decide) ?_
    refine TL.nil ?_
    refine TQ.thenC ?_
    refine TC.block ?_
    -- live and written in the loop, not told: [6]
    refine TC.loopG [1, 2, 15, 16] (X := Nat) (fun k => k ≤ m.length ∧ ∀ j, j < k → m.getD j [] = m2.getD j []) (fun k => [(17, .int .i64 k)]) (fun k => m.length - k) 0 ⟨Nat.zero_le _, fun j hj => absurd hj (Nat.not_lt_zero _)⟩ (by repeat (first | exact True.intro | refine And.intro rfl ?_)) ?_
    intro k hk
    refine TC.seq ?_
    refine TC.region ?_
    refine TL.pure (PV.lss rfl rfl) rfl (by decide) ?_
    refine TL.nil ?_
    refine TQ.thenC ?_
    refine TC.seq ?_
    first | refine TC.condD rfl (fun hlt => ?_) (fun hlt => ?_) | refine TC.cond rfl (fun hlt => ?_) (fun hlt => ?_)
    · skip
      refine TC.skip ?_
      refine TQ.thenC ?_
      refine TC.seq ?_
      refine TC.block ?_
      refine TC.seq ?_
      obtain ⟨q1, hq1p, q1p, q1c, hq1, hq1r⟩ := g1 k (by omega)
      obtain ⟨q2, hq2p, q2p, q2c, hq2, hq2r⟩ := g2 k (by omega)
      refine TC.region ?_
      refine TL.pure (PV.move rfl) rfl (by decide) ?_
      refine TL.pure (PV.indexA rfl hq1p rfl Tb.elm_23 rfl (by omega)) rfl (by decide) ?_
      refine TL.pure (PV.loadOld rfl Tb.one_22 hq1) rfl (by decide) ?_
      refine TL.pure (PV.assign rfl) rfl (by decide) ?_
      refine TL.pure (PV.assign rfl) rfl (by decide) ?_
      refine TL.nil ?_
      refine TQ.thenC ?_
      refine TC.seq ?_
      refine TC.region ?_
      refine TL.pure (PV.move rfl) rfl (by decide) ?_
      refine TL.pure (PV.move rfl) rfl (by decide) ?_
      refine TL.pure (PV.indexA rfl hq2p rfl Tb.elm_23 rfl (by omega)) rfl (by decide) ?_
      refine TL.pure (PV.loadOld rfl Tb.one_22 hq2) rfl (by decide) ?_
      refine TL.pure (PV.assign rfl) rfl (by decide) ?_
      refine TL.nil ?_
      refine TQ.thenC ?_
      refine TC.seq ?_
      refine TC.region ?_
      refine TL.pure (PV.move rfl) rfl (by decide) ?_
      refine TL.pure (PV.move rfl) rfl (by decide) ?_
      refine TL.pure (PV.move rfl) rfl (by decide) ?_
      refine TL.callF (f := 82) (caps := []) (X := Unit) (fun _ => .bool (decide (m.getD k [] = m2.getD k []))) (fun _ => True) (fun _ => []) rfl rfl Tb.gofn_82 (fun a w hs => (addEq_ok w _ _ _ (hq1r.new hs.new) _ _ _ (hq2r.new hs.new) (hM.2 k) (hM2.2 k)).mono fun e w' ⟨x9, h1, h2, h3⟩ => ⟨x9, h1, h2, hs.new.trans h3⟩) rfl (by decide) (fun _ _ => ?_)
      refine TL.pure ((by first | exact PV.notD rfl | exact PV.not rfl)) rfl (by decide) ?_
      refine TL.nil ?_
      refine TQ.thenC ?_
      first | refine TC.condD rfl (fun hno => ?_) (fun hno => ?_) | refine TC.cond rfl (fun hno => ?_) (fun hno => ?_)
      · skip
        refine TC.seq ?_
        refine TC.region ?_
        refine TL.pure (PV.assign rfl) rfl (by decide) ?_
        refine TL.nil ?_
        refine TQ.thenC ?_
        refine TC.ret ?_
        refine TQ.blkR ?_
        refine TQ.thenR ?_
        refine TQ.thenR ?_
        refine TQ.blkR ?_
        refine TQ.thenR ?_
        refine TQ.retE1 rfl rfl ?_
        exact ⟨(), by rw [decide_eq_false (fun e => by subst e; simp at hno)], trivial, List.nil_sublist _⟩
      · skip
        refine TC.skip ?_
        refine TQ.blkN ?_
        refine TQ.thenC ?_
        refine TC.region ?_
        refine TL.pure (PV.add rfl rfl (by omega)) rfl (by decide) ?_
        refine TL.pure (PV.move rfl) rfl (by decide) ?_
        refine TL.nil ?_
        refine TQ.thenN ?_
        refine TQ.backK (k + 1) (by repeat (first | exact True.intro | refine And.intro rfl ?_)) (by repeat (first | exact True.intro | refine And.intro rfl ?_)) (by repeat (first | exact List.Sublist.slnil | exact List.nil_sublist _ | exact List.Sublist.refl _ | refine List.Sublist.cons_cons _ ?_ | refine List.Sublist.cons _ ?_ | refine List.Sublist.trans ?_ (List.sublist_append_right _ _))) ⟨by omega, fun j hj => if e : j < k then hk.2 j e else (show k = j by omega) ▸ (by simpa using hno)⟩ (by omega)
    · skip
      refine TC.exit ?_
      refine TQ.thenE ?_
      refine TQ.thenE ?_
      refine TQ.blkS ?_
      refine TQ.thenC ?_
      refine TC.seq ?_
      refine TC.region ?_
      refine TL.pure (PV.assign rfl) rfl (by decide) ?_
      refine TL.nil ?_
      refine TQ.thenC ?_
      refine TC.ret ?_
      refine TQ.retE1 rfl rfl ?_
      exact ⟨(), by rw [decide_eq_true (ls_ext (by omega) (fun j hj => hk.2 j (by omega)))], trivial, List.nil_sublist _⟩

set_option maxRecDepth 100000 in
theorem max_ok (w0 : World) (pl : Option Addr) (cl : Nat) (xs : List Int) (hx : IntsAt w0 pl xs) (hne : 1 ≤ xs.length) (hl : xs.length ≤ 1000000) :
    Calls Try.prog 100 #[.slice pl xs.length cl] w0 (Post (X := Int) (fun m => .int .i64 m) (fun m => (∀ j, j < xs.length → xs.getD j 0 ≤ m) ∧ ∃ j, j < xs.length ∧ xs.getD j 0 = m) (fun _ => []) w0) := by
  refine calls Try.func100 rfl (n := 25) rfl (by simp) ?_
  refine TC.seq ?_
  refine TC.region ?_
  refine TL.pure (PV.assign rfl) rfl (by decide) ?_
  refine TL.nil ?_
  refine TQ.thenC ?_
  refine TC.seq ?_
  refine TC.seq ?_
  refine TC.region ?_
  refine TL.pure (PV.move rfl) rfl (by decide) ?_
  refine TL.pure (PV.len rfl Tb.sl_22) rfl (by decide) ?_
  refine TL.pure (PV.lss rfl rfl) rfl (by decide) ?_
  refine TL.nil ?_
  refine TQ.thenC ?_
  first | refine TC.condD rfl (fun hpa => ?_) (fun hpa => ?_) | refine TC.cond rfl (fun hpa => ?_) (fun hpa => ?_)
  · skip
    exact absurd hpa (by omega)
  · skip
    refine TC.skip ?_
    refine TQ.thenC ?_
    refine TC.seq ?_
    obtain ⟨q1, hq1p, hq1⟩ := hx 0 (by omega)
    refine TC.region ?_
    refine TL.pure (PV.move rfl) rfl (by decide) ?_
    refine TL.pure (PV.indexA (j := 0) rfl hq1p rfl Tb.elm_22 rfl (by omega)) rfl (by decide) ?_
    refine TL.pure (PV.loadOld rfl Tb.one_3 hq1) rfl (by decide) ?_
    refine TL.pure (PV.assign rfl) rfl (by decide) ?_
    refine TL.nil ?_
    refine TQ.thenC ?_
    refine TC.seq ?_
    refine TC.seq ?_
    refine TC.region ?_
    refine TL.pure (PV.assign rfl) rfl (by decide) ?_
    refine TL.nil ?_
    refine TQ.thenC ?_
    refine TC.block ?_
    refine TC.loopG [0, 2] (X := Nat × Int) (fun x => 1 ≤ x.1 ∧ x.1 ≤ xs.length ∧ (∀ j, j < x.1 → xs.getD j 0 ≤ x.2) ∧ ∃ j, j < x.1 ∧ xs.getD j 0 = x.2) (fun x => [(4, .int .i64 (x.1 : Nat)), (3, .int .i64 x.2)]) (fun x => xs.length - x.1) (1, xs.getD 0 0) ⟨Nat.le_refl _, hne, fun j hj => (show j = 0 by simp only at hj; omega) ▸ Int.le_refl _, 0, Nat.one_pos, rfl⟩ (by repeat (first | exact True.intro | refine And.intro rfl ?_)) ?_
    intro x hx9
    refine TC.seq ?_
    refine TC.seq ?_
    refine TC.region ?_
    refine TL.pure (PV.move rfl) rfl (by decide) ?_
    refine TL.pure (PV.move rfl) rfl (by decide) ?_
    refine TL.pure (PV.len rfl Tb.sl_22) rfl (by decide) ?_
    refine TL.pure (PV.lss rfl rfl) rfl (by decide) ?_
    refine TL.nil ?_
    refine TQ.thenC ?_
    first | refine TC.condD rfl (fun hlt => ?_) (fun hlt => ?_) | refine TC.cond rfl (fun hlt => ?_) (fun hlt => ?_)
    · skip
      refine TC.skip ?_
      refine TQ.thenC ?_
      refine TC.seq ?_
      refine TC.block ?_
      obtain ⟨q2, hq2p, hq2⟩ := hx x.1 (by omega)
      refine TC.region ?_
      refine TL.pure (PV.move rfl) rfl (by decide) ?_
      refine TL.pure (PV.move rfl) rfl (by decide) ?_
      refine TL.pure (PV.move rfl) rfl (by decide) ?_
      refine TL.pure (PV.indexA (j := x.1) rfl hq2p rfl Tb.elm_22 rfl (by omega)) rfl (by decide) ?_
      refine TL.pure (PV.loadOld rfl Tb.one_3 hq2) rfl (by decide) ?_
      refine TL.pure (PV.max rfl rfl Tb.int_3) rfl (by decide) ?_
      refine TL.pure (PV.assign rfl) rfl (by decide) ?_
      refine TL.nil ?_
      refine TQ.blkN ?_
      refine TQ.thenC ?_
      refine TC.region ?_
      refine TL.pure (PV.move rfl) rfl (by decide) ?_
      refine TL.pure (PV.add rfl rfl (by omega)) rfl (by decide) ?_
      refine TL.pure (PV.assign rfl) rfl (by decide) ?_
      refine TL.nil ?_
      refine TQ.thenN ?_
      refine TQ.backK (x.1 + 1, max x.2 (xs.getD x.1 0)) (by repeat (first | exact True.intro | refine And.intro rfl ?_)) (by repeat (first | exact True.intro | refine And.intro rfl ?_)) (by repeat (first | exact List.Sublist.slnil | exact List.nil_sublist _ | exact List.Sublist.refl _ | refine List.Sublist.cons_cons _ ?_ | refine List.Sublist.cons _ ?_ | refine List.Sublist.trans ?_ (List.sublist_append_right _ _))) ⟨by simp only; omega, by simp only; omega, max_step hx9.2.2⟩ (by simp only; omega)
    · skip
      refine TC.exit ?_
      refine TQ.thenE ?_
      refine TQ.thenE ?_
      refine TQ.blkS ?_
      refine TQ.thenC ?_
      refine TC.seq ?_
      refine TC.region ?_
      refine TL.pure (PV.move rfl) rfl (by decide) ?_
      refine TL.pure (PV.assign rfl) rfl (by decide) ?_
      refine TL.nil ?_
      refine TQ.thenC ?_
      refine TC.ret ?_
      refine TQ.retE1 rfl rfl ?_
      exact ⟨x.2, rfl, ⟨fun j hj => hx9.2.2.1 j (by omega), by obtain ⟨j, h1, h2⟩ := hx9.2.2.2; exact ⟨j, by omega, h2⟩⟩, List.nil_sublist _⟩

set_option maxRecDepth 100000 in
set_option maxHeartbeats 2000000 in
theorem checked_ok (w0 : World) (vt A B C : Value) (ev : vt = .agg #[A, B, C]) (t : Td) (ht : IsT w0 vt t) (hT : SmT t) (hns : 1 ≤ t.s.length) (hnd : 1 ≤ t.d.length) :
    Calls Try.prog 84 #[vt] w0 (Post (X := Unit) (fun _ => .tuple #[.agg #[ifV (Ck t) A, ifV (Ck t) B, ifV (Ck t) C], .int .i64 (ckI t)]) (fun _ => True) (fun _ => []) w0) := by
  subst ev
  obtain ⟨p1, c1, p2, c2, p3, c3, e9, t1, t2, t3⟩ := ht
  simp only [Value.agg.injEq, Array.mk.injEq, List.cons.injEq, and_true] at e9
  obtain ⟨rfl, rfl, rfl⟩ := e9
  refine calls Try.func84 rfl (n := 16) rfl (by simp) ?_
  refine TC.seq ?_
  refine TC.region ?_
  refine TL.box rfl rfl (by decide) (fun b0 hb0 => ?_)
  refine TL.alloc Tb.zero_25 rfl (by decide) (fun b1 hb1 => ?_)
  refine TL.pure (PV.assign rfl) rfl (by decide) ?_
  refine TL.nil ?_
  refine TQ.thenC ?_
  refine TC.seq ?_
  refine TC.seq ?_
  refine TC.region ?_
  refine TL.pure (PV.fieldAddr rfl Tb.fo_25_0) rfl (by decide) ?_
  refine TL.pure (PV.load rfl Tb.one_22 (by repeat (first | exact List.Mem.head _ | refine List.Mem.tail _ ?_ | refine List.mem_append_right _ ?_)) rfl) rfl (by decide) ?_
  refine TL.call rfl Tb.gofn_100 (fun a w hs => max_ok w _ _ _ (t1.new hs.new) hns hT.s) rfl (by decide) (fun m1 hm1 => ?_)
  refine TL.pure (PV.gtr rfl rfl) rfl (by decide) ?_
  refine TL.pure (PV.move rfl) rfl (by decide) ?_
  first | refine TL.splitD 8 rfl (fun e1 => ?_) (fun e1 => ?_) | refine TL.split 8 rfl (fun e1 => ?_) (fun e1 => ?_)
  · skip
    refine TL.skip rfl (fun k hk => by cases hk; decide) ?_
    refine TL.skip rfl (fun k hk => by cases hk; decide) ?_
    refine TL.skip rfl (fun k hk => by cases hk; decide) ?_
    refine TL.skip rfl (fun k hk => by cases hk; decide) ?_
    refine TL.pure (PV.pickT rfl rfl) rfl (by decide) ?_
    refine TL.nil ?_
    refine TQ.thenC ?_
    refine TC.condT rfl ?_
    refine TC.seq ?_
    refine TC.region ?_
    refine TL.pure (PV.build rfl Tb.zero_25 Tb.pl_25 rfl) rfl (by decide) ?_
    refine TL.storeAgg (vs := [.slice none 0 0, .slice none 0 0, .slice none 0 0]) rfl rfl Tb.cells_25 (by repeat (first | exact Upd.head _ | apply Upd.tail | apply Upd.appR)) rfl rfl rfl rfl rfl ?_
    refine TL.pure (PV.assign rfl) rfl (by decide) ?_
    refine TL.nil ?_
    refine TQ.thenC ?_
    refine TC.ret ?_
    refine TQ.thenR ?_
    refine TQ.retR rfl (Res.agg rfl Tb.agg_25 (by repeat (first | exact List.Mem.head _ | refine List.Mem.tail _ ?_ | refine List.mem_append_right _ ?_)) rfl (Res.tmp rfl Res.nil)) ?_
    simp only [tup]
    have hno : ¬ Ck t := fun h => by obtain ⟨j, h1, h2⟩ := hm1.2; have := h.1 j h1; omega
    exact ⟨(), by rw [ifV_n hno, ifV_n hno, ifV_n hno, ck_n hno], trivial, List.nil_sublist _⟩
  · skip
    refine TL.pure (PV.fieldAddr rfl Tb.fo_25_1) rfl (by decide) ?_
    refine TL.pure (PV.load rfl Tb.one_22 (by repeat (first | exact List.Mem.head _ | refine List.Mem.tail _ ?_ | refine List.mem_append_right _ ?_)) rfl) rfl (by decide) ?_
    refine TL.call rfl Tb.gofn_100 (fun a w hs => max_ok w _ _ _ (t2.new hs.new) hnd hT.d) rfl (by decide) (fun m2 hm2 => ?_)
    refine TL.pure (PV.gtr rfl rfl) rfl (by decide) ?_
    refine TL.pure (PV.pickF rfl rfl) rfl (by decide) ?_
    refine TL.nil ?_
    refine TQ.thenC ?_
    first | refine TC.condD rfl (fun e2 => ?_) (fun e2 => ?_) | refine TC.cond rfl (fun e2 => ?_) (fun e2 => ?_)
    · skip
      refine TC.seq ?_
      refine TC.region ?_
      refine TL.pure (PV.build rfl Tb.zero_25 Tb.pl_25 rfl) rfl (by decide) ?_
      refine TL.storeAgg (vs := [.slice none 0 0, .slice none 0 0, .slice none 0 0]) rfl rfl Tb.cells_25 (by repeat (first | exact Upd.head _ | apply Upd.tail | apply Upd.appR)) rfl rfl rfl rfl rfl ?_
      refine TL.pure (PV.assign rfl) rfl (by decide) ?_
      refine TL.nil ?_
      refine TQ.thenC ?_
      refine TC.ret ?_
      refine TQ.thenR ?_
      refine TQ.retR rfl (Res.agg rfl Tb.agg_25 (by repeat (first | exact List.Mem.head _ | refine List.Mem.tail _ ?_ | refine List.mem_append_right _ ?_)) rfl (Res.tmp rfl Res.nil)) ?_
      simp only [tup]
      have hno : ¬ Ck t := fun h => by obtain ⟨j, h1, h2⟩ := hm2.2; have := h.2 j h1; omega
      exact ⟨(), by rw [ifV_n hno, ifV_n hno, ifV_n hno, ck_n hno], trivial, List.nil_sublist _⟩
    · skip
      refine TC.skip ?_
      refine TQ.thenC ?_
      refine TC.seq ?_
      refine TC.region ?_
      refine TL.pure (PV.loadBox rfl Tb.agg_25 (by repeat (first | exact List.Mem.head _ | refine List.Mem.tail _ ?_ | refine List.mem_append_right _ ?_)) rfl) rfl (by decide) ?_
      refine TL.storeAgg (vs := [.slice p1 t.s.length c1, .slice p2 t.d.length c2, .slice p3 t.c.length c3]) rfl rfl Tb.cells_25 (by repeat (first | exact Upd.head _ | apply Upd.tail | apply Upd.appR)) rfl rfl rfl rfl rfl ?_
      refine TL.pure (PV.assign rfl) rfl (by decide) ?_
      refine TL.nil ?_
      refine TQ.thenC ?_
      refine TC.ret ?_
      refine TQ.retR rfl (Res.agg rfl Tb.agg_25 (by repeat (first | exact List.Mem.head _ | refine List.Mem.tail _ ?_ | refine List.mem_append_right _ ?_)) rfl (Res.tmp rfl Res.nil)) ?_
      simp only [tup]
      have hok : Ck t := ⟨fun j hj => by have := hm1.1 j hj; omega, fun j hj => by have := hm2.1 j hj; omega⟩
      exact ⟨(), by rw [ifV_y hok, ifV_y hok, ifV_y hok, ck_y hok], trivial, List.nil_sublist _⟩

end Go.Proofs.Ytghlkndanpegbaa
