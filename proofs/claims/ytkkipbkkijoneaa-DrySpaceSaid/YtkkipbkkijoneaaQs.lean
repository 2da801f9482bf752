/- Siphons and traps: the laws' contracts. -/
import Derived.Test.YtkkipbkkijoneaaDp
import Derived.Test.YtkkipbkkijoneaaDj
set_option linter.unusedVariables false
set_option linter.unusedSimpArgs false
namespace Go.Proofs.Ytkkipbkkijoneaa
open Go.Sx Go.RowKit Go.Sand

theorem gs_sip (ss : List St) (S : List Int) : Sip ss (gsL ss S) := fun s hs hg => by
  obtain ⟨q, hq, hq2⟩ := tou_iff.1 hg
  obtain ⟨T, h1, h2, h3⟩ := mem_gs.1 hq
  obtain ⟨r, hr, hr2⟩ := tou_iff.1 (h2 s hs (tou_iff.2 ⟨q, h3, hq2⟩))
  exact tou_iff.2 ⟨r, mem_gs.2 ⟨T, h1, h2, hr⟩, hr2⟩
theorem gs_in {n : Int} {ss : List St} {S : List Int} (h : InP n S) : InP n (gsL ss S) := fun x hx => h x ((List.filter_sublist (l := S)).subset hx)
def ctV (m : List Int) (q : Int) : Int := if 0 ≤ q ∧ q < m.length then m.getD q.toNat 0 else 0
def csK (m T : List Int) (k : Nat) : Int := sm k fun i => ctV m (T.getD i 0)
def csN (m T : List Int) : Int := csK m T T.length
theorem ct_bd {m : List Int} (hm : ∀ k, -1000 ≤ m.getD k 0 ∧ m.getD k 0 ≤ 1000) (q : Int) : -1000 ≤ ctV m q ∧ ctV m q ≤ 1000 := by
  unfold ctV
  split
  · exact hm _
  · exact ⟨by decide, by decide⟩
theorem cs_bd {m T : List Int} (hm : ∀ k, -1000 ≤ m.getD k 0 ∧ m.getD k 0 ≤ 1000) {k : Nat} (hk : k ≤ 1000000) : -1000000000 ≤ csK m T k ∧ csK m T k ≤ 1000000000 := by
  have := sm_bd (f := fun i => ctV m (T.getD i 0)) (B := 1000) (by decide) (n := k) (fun i _ => ct_bd hm _)
  unfold csK
  omega
theorem cs_zero {m T : List Int} {n : Int} (hm : ∀ k, 0 ≤ m.getD k 0) (hl : (m.length : Int) = n) (hT : InP n T) : csN m T = 0 ↔ ∀ q ∈ T, m.getD q.toNat 0 = 0 := by
  have h0 : ∀ i, i < T.length → 0 ≤ ctV m (T.getD i 0) := fun i _ => by unfold ctV; split; exact hm _; exact Int.le_refl _
  have hv : ∀ i, i < T.length → ctV m (T.getD i 0) = m.getD (T.getD i 0).toNat 0 := fun i hi => if_pos (by have := hT.at hi; omega)
  constructor
  · intro h q hq
    obtain ⟨i, hi, e⟩ := List.getElem_of_mem hq
    have e2 : T.getD i 0 = q := by rw [List.getD_eq_getElem?_getD, List.getElem?_eq_getElem hi]; exact e
    have h1 := sm_one (f := fun i => ctV m (T.getD i 0)) h0 i hi
    have h2 := h0 i hi
    have h3 : sm T.length (fun i => ctV m (T.getD i 0)) = 0 := h
    have h4 := hv i hi
    rw [e2] at h4 h2 h1
    omega
  · intro h
    show sm T.length (fun i => ctV m (T.getD i 0)) = 0
    rw [sm_congr (h := fun _ => 0) fun i hi => by rw [hv i hi]; exact h _ (getD_mem hi), sm_zero]
theorem cs_pos {m T : List Int} {n : Int} (hm : ∀ k, 0 ≤ m.getD k 0) (hl : (m.length : Int) = n) (hT : InP n T) : 0 < csN m T ↔ ∃ q ∈ T, 0 < m.getD q.toNat 0 := by
  have h1 := cs_zero hm hl hT
  have h2 : 0 ≤ csN m T := sm_nonneg fun i _ => by unfold ctV; split; exact hm _; exact Int.le_refl _
  constructor
  · intro h
    refine Classical.byContradiction fun hn => ?_
    have := h1.2 fun q hq => by
      have h3 := hm q.toNat
      by_cases h4 : 0 < m.getD q.toNat 0
      · exact absurd ⟨q, hq, h4⟩ hn
      · omega
    omega
  · rintro ⟨q, hq, h⟩
    by_cases h0 : csN m T = 0
    · have := h1.1 h0 q hq
      omega
    · omega
theorem stS_mem {ss : List St} {i : Int} (h : 0 ≤ i ∧ i < ss.length) : stS ss i ∈ ss := by
  unfold stS
  have : i.toNat < ss.length := by omega
  simp [List.getD, this]
theorem doN_q {n : Int} {ss : List St} {m : List Int} (hV : VM n ss m) {i : Int} (hi : 0 ≤ i ∧ i < ss.length) (p : Nat) : (doN m (stS ss i)).getD p 0 = m.getD p 0 + ((stS ss i).g.getD p 0 - (stS ss i).t.getD p 0) := doN_dd hV (by omega) p
theorem can_q {n : Int} {ss : List St} {m : List Int} (hV : VM n ss m) {i : Int} (hi : 0 ≤ i ∧ i < ss.length) (hc : canB m (stS ss i) = true) (p : Nat) : (stS ss i).t.getD p 0 ≤ m.getD p 0 := by
  by_cases hp : p < (stS ss i).t.length
  · exact can_at hc hp
  · rw [List.getD_eq_getElem?_getD, List.getElem?_eq_none (by omega)]
    exact (hV.mb p).1
theorem rn_sip {n : Int} {ss : List St} {T : List Int} (hT : Sip ss T) : ∀ (l m : List Int) (k : Nat), VM n ss m → (∀ j, j < l.length → 0 ≤ l.getD j 0 ∧ l.getD j 0 < ss.length) → (rn ss m l k).2.2 = 0 → (∀ q ∈ T, m.getD q.toNat 0 = 0) → ∀ q ∈ T, (rn ss m l k).1.getD q.toNat 0 = 0
  | [], _, _, _, _, _, h => h
  | i :: l, m, k, hV, hl, h0, h => by
    have hi := hl 0 (by simp)
    simp only [List.getD_cons_zero] at hi
    have hk : i.toNat < ss.length := by omega
    by_cases hd : doI m (stS ss i) = 0
    · rw [rn, if_pos hd] at h0 ⊢
      refine rn_sip hT l (doN m (stS ss i)) (k + 1) (hV.next hk hd) (fun j hj => by have := hl (j + 1) (by simpa using hj); simpa using this) h0 fun q hq => ?_
      have hc := (do_of hd).1
      have hb := hV.tb hk
      have ht : ∀ q ∈ T, (stS ss i).t.getD q.toNat 0 = 0 := fun q hq => by
        have h1 := can_q hV hi hc q.toNat
        have h2 := (hb q.toNat).1.1
        have h3 := h q hq
        have h4 : (stS ss i).t.getD q.toNat 0 = (ss.getD i.toNat default).t.getD q.toNat 0 := rfl
        omega
      have hg : (stS ss i).g.getD q.toNat 0 = 0 := by
        have h1 := (hb q.toNat).2.1
        have h4 : (stS ss i).g.getD q.toNat 0 = (ss.getD i.toNat default).g.getD q.toNat 0 := rfl
        by_cases h5 : 0 < (stS ss i).g.getD q.toNat 0
        · obtain ⟨r, hr, hr2⟩ := tou_iff.1 (hT _ (stS_mem hi) (tou_iff.2 ⟨q, hq, h5⟩))
          have := ht r hr
          omega
        · omega
      rw [doN_q hV hi, h q hq, hg, ht q hq]
      rfl
    · rw [rn, if_neg hd] at h0
      exact absurd h0 hd
theorem rn_trap {n : Int} {ss : List St} {T : List Int} (hT : Sip (ss.map swS) T) : ∀ (l m : List Int) (k : Nat), VM n ss m → (∀ j, j < l.length → 0 ≤ l.getD j 0 ∧ l.getD j 0 < ss.length) → (rn ss m l k).2.2 = 0 → (∃ q ∈ T, 0 < m.getD q.toNat 0) → ∃ q ∈ T, 0 < (rn ss m l k).1.getD q.toNat 0
  | [], _, _, _, _, _, h => h
  | i :: l, m, k, hV, hl, h0, h => by
    have hi := hl 0 (by simp)
    simp only [List.getD_cons_zero] at hi
    have hk : i.toNat < ss.length := by omega
    by_cases hd : doI m (stS ss i) = 0
    · rw [rn, if_pos hd] at h0 ⊢
      refine rn_trap hT l (doN m (stS ss i)) (k + 1) (hV.next hk hd) (fun j hj => by have := hl (j + 1) (by simpa using hj); simpa using this) h0 ?_
      have hc := (do_of hd).1
      have hb := hV.tb hk
      by_cases ht : touB (stS ss i).t T = true
      · obtain ⟨r, hr, hr2⟩ := tou_iff.1 (hT (swS (stS ss i)) (List.mem_map_of_mem (stS_mem hi)) ht)
        refine ⟨r, hr, ?_⟩
        have h1 := can_q hV hi hc r.toNat
        have h2 : 0 < (stS ss i).g.getD r.toNat 0 := hr2
        rw [doN_q hV hi]
        omega
      · obtain ⟨q, hq, hq2⟩ := h
        refine ⟨q, hq, ?_⟩
        have h1 : ¬ 0 < (stS ss i).t.getD q.toNat 0 := fun h9 => ht (tou_iff.2 ⟨q, hq, h9⟩)
        have h2 := (hb q.toNat).2.1
        have h4 : (stS ss i).g.getD q.toNat 0 = (ss.getD i.toNat default).g.getD q.toNat 0 := rfl
        rw [doN_q hV hi]
        omega
    · rw [rn, if_neg hd] at h0
      exact absurd h0 hd
theorem run_sip {n : Int} {ss : List St} {xs ls S : List Int} (h : RunOk n ss xs ls) (hS : ¬ (grR 0 n ss S).2 ≠ 0) (h0 : csN xs (grR 0 n ss S).1 = 0) : csN (runR n ss xs ls).1 (grR 0 n ss S).1 = 0 := by
  have hs : ¬ setI n ss S ≠ 0 := fun h9 => by rw [gr_1 h9] at hS; exact hS h9
  have hP := (set_of hs).2
  rw [gr_0 hs, kS0] at h0 ⊢
  have hin := gs_in (ss := ss) hP.inp
  rw [cs_zero (fun k => (h.vm.mb k).1) h.vm.ml hin] at h0
  rw [cs_zero (fun k => (h.vme.mb k).1) h.vme.ml hin]
  have h9 := h.ok
  rw [h.rn] at h9 ⊢
  exact rn_sip (gs_sip _ _) ls xs 0 h.vm (list_at h.li).2 h9 h0
theorem run_trap {n : Int} {ss : List St} {xs ls S : List Int} (h : RunOk n ss xs ls) (hS : ¬ (grR 1 n ss S).2 ≠ 0) (h0 : ¬ csN xs (grR 1 n ss S).1 = 0) : 0 < csN (runR n ss xs ls).1 (grR 1 n ss S).1 := by
  have hs : ¬ setI n ss S ≠ 0 := fun h9 => by rw [gr_1 h9] at hS; exact hS h9
  have hP := (set_of hs).2
  rw [gr_0 hs, kS1] at h0 ⊢
  have hin := gs_in (ss := ss.map swS) hP.inp
  have h1 : 0 < csN xs (gsL (ss.map swS) S) := by
    have h2 : 0 ≤ csN xs (gsL (ss.map swS) S) := sm_nonneg fun i _ => by unfold ctV; split; exact (h.vm.mb _).1; exact Int.le_refl _
    simp only at h0
    omega
  rw [cs_pos (fun k => (h.vm.mb k).1) h.vm.ml hin] at h1
  rw [cs_pos (fun k => (h.vme.mb k).1) h.vme.ml hin]
  have h9 := h.ok
  rw [h.rn] at h9 ⊢
  exact rn_trap (gs_sip _ _) ls xs 0 h.vm (list_at h.li).2 h9 h1
theorem VM.b1000 {n : Int} {ss : List St} {xs : List Int} (h : VM n ss xs) : ∀ k, -1000 ≤ xs.getD k 0 ∧ xs.getD k 0 ≤ 1000 := fun k => by have := h.mb k; omega


set_option maxRecDepth 100000 in
set_option maxHeartbeats 1000000 in
theorem count_ok (w0 : World) (vx : Value) (xs : List Int) (hv : IsI w0 vx xs) (vy : Value) (ys : List Int) (hu : IsI w0 vy ys) (hl2 : ys.length ≤ 1000000) (hm : ∀ k, -1000 ≤ xs.getD k 0 ∧ xs.getD k 0 ≤ 1000) :
    Calls Try.prog 56 #[vx, vy] w0 (Post (X := Unit) (fun _ => .int .i64 (csN xs ys)) (fun _ => True) (fun _ => []) w0) := by
  obtain ⟨pl, cl, rfl, hx⟩ := hv
  obtain ⟨p2, c2, rfl, hy⟩ := hu
  refine calls Try.func56 rfl (n := 37) rfl (by simp) ?_
  refine TC.seq ?_
  refine TC.region ?_
  refine TL.pure (PV.assign rfl) rfl (by decide) ?_
  refine TL.nil ?_
  refine TQ.thenC ?_
  refine TC.seq ?_
  refine TC.region ?_
  refine TL.pure (PV.assign rfl) rfl (by decide) ?_
  refine TL.nil ?_
  refine TQ.thenC ?_
  refine TC.seq ?_
  refine TC.seq ?_
  refine TC.region ?_
  refine TL.pure (PV.assign rfl) rfl (by decide) ?_
  refine TL.nil ?_
  refine TQ.thenC ?_
  refine TC.block ?_
  refine TC.lit [(0, _), (1, _), (4, _), (5, _), (6, _)] (by repeat (first | exact True.intro | refine And.intro rfl ?_)) ?_
  refine TC.loopG [0, 1, 4] (X := Nat) (fun k => k ≤ ys.length) (fun k => [(6, .int .i64 k), (5, .int .i64 (csK xs ys k))]) (fun k => ys.length - k) 0 (Nat.zero_le _) (by repeat (first | exact True.intro | refine And.intro rfl ?_)) ?_
  intro k hk
  refine TC.lit [(0, _), (1, _), (4, _), (5, _), (6, _)] (by repeat (first | exact True.intro | refine And.intro rfl ?_)) ?_
  refine TC.seq ?_
  refine TC.seq ?_
  refine TC.region ?_
  refine TL.pure (PV.move rfl) rfl (by decide) ?_
  refine TL.pure (PV.move rfl) rfl (by decide) ?_
  refine TL.pure (PV.len rfl Tb.sl_25) rfl (by decide) ?_
  refine TL.pure (PV.lss rfl rfl) rfl (by decide) ?_
  refine TL.nil ?_
  refine TQ.thenC ?_
  first | refine TC.condD rfl (fun hlt => ?_) (fun hlt => ?_) | refine TC.cond rfl (fun hlt => ?_) (fun hlt => ?_)
  · skip
    refine TC.skip ?_
    refine TQ.thenC ?_
    refine TC.seq ?_
    refine TC.block ?_
    refine TC.seq ?_
    obtain ⟨q1, hq1p, hq1⟩ := hy k (by omega)
    have hbk := cs_bd (T := ys) hm (k := k) (by omega)
    refine TC.region ?_
    refine TL.pure (PV.move rfl) rfl (by decide) ?_
    refine TL.pure (PV.move rfl) rfl (by decide) ?_
    refine TL.pure (PV.indexA rfl hq1p rfl Tb.elm_25 rfl (by omega)) rfl (by decide) ?_
    refine TL.pure (PV.loadOld rfl Tb.one_3 hq1) rfl (by decide) ?_
    refine TL.pure (PV.geq rfl rfl) rfl (by decide) ?_
    refine TL.pure (PV.move rfl) rfl (by decide) ?_
    first | refine TL.splitD 18 rfl (fun b1 => ?_) (fun b1 => ?_) | refine TL.split 18 rfl (fun b1 => ?_) (fun b1 => ?_)
    · skip
      refine TL.pure (PV.move rfl) rfl (by decide) ?_
      refine TL.pure (PV.move rfl) rfl (by decide) ?_
      refine TL.pure (PV.indexA rfl hq1p rfl Tb.elm_25 rfl (by omega)) rfl (by decide) ?_
      refine TL.pure (PV.loadOld rfl Tb.one_3 hq1) rfl (by decide) ?_
      refine TL.pure (PV.move rfl) rfl (by decide) ?_
      refine TL.pure (PV.len rfl Tb.sl_25) rfl (by decide) ?_
      refine TL.pure (PV.lss rfl rfl) rfl (by decide) ?_
      refine TL.pure (PV.pickT rfl rfl) rfl (by decide) ?_
      refine TL.nil ?_
      refine TQ.thenC ?_
      first | refine TC.condD rfl (fun b2 => ?_) (fun b2 => ?_) | refine TC.cond rfl (fun b2 => ?_) (fun b2 => ?_)
      · skip
        obtain ⟨q2, hq2p, hq2⟩ := hx (ys.getD k 0).toNat (by omega)
        have hct : ctV xs (ys.getD k 0) = xs.getD (ys.getD k 0).toNat 0 := if_pos (by omega)
        have hm2 := hm (ys.getD k 0).toNat
        refine TC.region ?_
        refine TL.pure (PV.move rfl) rfl (by decide) ?_
        refine TL.pure (PV.move rfl) rfl (by decide) ?_
        refine TL.pure (PV.move rfl) rfl (by decide) ?_
        refine TL.pure (PV.move rfl) rfl (by decide) ?_
        refine TL.pure (PV.indexA rfl hq1p rfl Tb.elm_25 rfl (by omega)) rfl (by decide) ?_
        refine TL.pure (PV.loadOld rfl Tb.one_3 hq1) rfl (by decide) ?_
        refine TL.pure (PV.indexA (j := (ys.getD k 0).toNat) rfl hq2p rfl Tb.elm_25 (by omega) (by omega)) rfl (by decide) ?_
        refine TL.pure (PV.loadOld rfl Tb.one_3 hq2) rfl (by decide) ?_
        refine TL.pure (PV.add rfl rfl (by omega)) rfl (by decide) ?_
        refine TL.pure (PV.assign rfl) rfl (by decide) ?_
        refine TL.nil ?_
        refine TQ.blkN ?_
        refine TQ.thenC ?_
        refine TC.region ?_
        refine TL.pure (PV.move rfl) rfl (by decide) ?_
        refine TL.pure (PV.add rfl rfl (by omega)) rfl (by decide) ?_
        refine TL.pure (PV.assign rfl) rfl (by decide) ?_
        refine TL.nil ?_
        refine TQ.thenN ?_
        refine TQ.backK (k + 1) (by refine And.intro rfl (And.intro ?_ True.intro); show some (Value.int .i64 _) = some (Value.int .i64 (csK xs ys k + ctV xs (ys.getD k 0))); rw [hct]; try (rw [Int.add_zero])) (by repeat (first | exact True.intro | refine And.intro rfl ?_)) (by repeat (first | exact List.Sublist.slnil | exact List.nil_sublist _ | exact List.Sublist.refl _ | refine List.Sublist.cons_cons _ ?_ | refine List.Sublist.cons _ ?_ | refine List.Sublist.trans ?_ (List.sublist_append_right _ _))) (by omega) (by omega)
      · skip
        have hct : ctV xs (ys.getD k 0) = 0 := if_neg (by omega)
        refine TC.skip ?_
        refine TQ.blkN ?_
        refine TQ.thenC ?_
        refine TC.region ?_
        refine TL.pure (PV.move rfl) rfl (by decide) ?_
        refine TL.pure (PV.add rfl rfl (by omega)) rfl (by decide) ?_
        refine TL.pure (PV.assign rfl) rfl (by decide) ?_
        refine TL.nil ?_
        refine TQ.thenN ?_
        refine TQ.backK (k + 1) (by refine And.intro rfl (And.intro ?_ True.intro); show some (Value.int .i64 _) = some (Value.int .i64 (csK xs ys k + ctV xs (ys.getD k 0))); rw [hct]; try (rw [Int.add_zero])) (by repeat (first | exact True.intro | refine And.intro rfl ?_)) (by repeat (first | exact List.Sublist.slnil | exact List.nil_sublist _ | exact List.Sublist.refl _ | refine List.Sublist.cons_cons _ ?_ | refine List.Sublist.cons _ ?_ | refine List.Sublist.trans ?_ (List.sublist_append_right _ _))) (by omega) (by omega)
    · skip
      refine TL.skip rfl (fun k hk => by cases hk; decide) ?_
      refine TL.skip rfl (fun k hk => by cases hk; decide) ?_
      refine TL.skip rfl (fun k hk => by cases hk; decide) ?_
      refine TL.skip rfl (fun k hk => by cases hk; decide) ?_
      refine TL.skip rfl (fun k hk => by cases hk; decide) ?_
      refine TL.skip rfl (fun k hk => by cases hk; decide) ?_
      refine TL.skip rfl (fun k hk => by cases hk; decide) ?_
      refine TL.pure (PV.pickF rfl rfl) rfl (by decide) ?_
      refine TL.nil ?_
      refine TQ.thenC ?_
      refine TC.condF rfl ?_
      have hct : ctV xs (ys.getD k 0) = 0 := if_neg (by omega)
      refine TC.skip ?_
      refine TQ.blkN ?_
      refine TQ.thenC ?_
      refine TC.region ?_
      refine TL.pure (PV.move rfl) rfl (by decide) ?_
      refine TL.pure (PV.add rfl rfl (by omega)) rfl (by decide) ?_
      refine TL.pure (PV.assign rfl) rfl (by decide) ?_
      refine TL.nil ?_
      refine TQ.thenN ?_
      refine TQ.backK (k + 1) (by refine And.intro rfl (And.intro ?_ True.intro); show some (Value.int .i64 _) = some (Value.int .i64 (csK xs ys k + ctV xs (ys.getD k 0))); rw [hct]; try (rw [Int.add_zero])) (by repeat (first | exact True.intro | refine And.intro rfl ?_)) (by repeat (first | exact List.Sublist.slnil | exact List.nil_sublist _ | exact List.Sublist.refl _ | refine List.Sublist.cons_cons _ ?_ | refine List.Sublist.cons _ ?_ | refine List.Sublist.trans ?_ (List.sublist_append_right _ _))) (by omega) (by omega)
  · skip
    refine TC.exit ?_
    refine TQ.thenE ?_
    refine TQ.thenE ?_
    refine TQ.blkS ?_
    refine TQ.thenC ?_
    refine TC.seq ?_
    refine TC.region ?_
    refine TL.pure (PV.move rfl) rfl (by decide) ?_
    refine TL.pure (PV.assign rfl) rfl (by decide) ?_
    refine TL.nil ?_
    refine TQ.thenC ?_
    refine TC.ret ?_
    refine TQ.retE1 rfl rfl ?_
    exact ⟨(), by rw [show k = ys.length by omega]; rfl, trivial, List.nil_sublist _⟩

set_option maxRecDepth 100000 in
set_option maxHeartbeats 1000000 in
theorem held_ok (w0 : World) (vx : Value) (xs : List Int) (hv : IsI w0 vx xs) (vy : Value) (ys : List Int) (hu : IsI w0 vy ys) (hl2 : ys.length ≤ 1000000) (hm : ∀ k, -1000 ≤ xs.getD k 0 ∧ xs.getD k 0 ≤ 1000) :
    Calls Try.prog 60 #[vx, vy] w0 (Post (X := Unit) (fun _ => .int .i64 (csN xs ys)) (fun _ => True) (fun _ => []) w0) := by
  obtain ⟨pl, cl, rfl, hx⟩ := hv
  obtain ⟨p2, c2, rfl, hy⟩ := hu
  refine calls Try.func60 rfl (n := 37) rfl (by simp) ?_
  refine TC.seq ?_
  refine TC.region ?_
  refine TL.pure (PV.assign rfl) rfl (by decide) ?_
  refine TL.nil ?_
  refine TQ.thenC ?_
  refine TC.seq ?_
  refine TC.region ?_
  refine TL.pure (PV.assign rfl) rfl (by decide) ?_
  refine TL.nil ?_
  refine TQ.thenC ?_
  refine TC.seq ?_
  refine TC.seq ?_
  refine TC.region ?_
  refine TL.pure (PV.assign rfl) rfl (by decide) ?_
  refine TL.nil ?_
  refine TQ.thenC ?_
  refine TC.block ?_
  refine TC.lit [(0, _), (1, _), (4, _), (5, _), (6, _)] (by repeat (first | exact True.intro | refine And.intro rfl ?_)) ?_
  refine TC.loopG [0, 1, 4] (X := Nat) (fun k => k ≤ ys.length) (fun k => [(6, .int .i64 k), (5, .int .i64 (csK xs ys k))]) (fun k => ys.length - k) 0 (Nat.zero_le _) (by repeat (first | exact True.intro | refine And.intro rfl ?_)) ?_
  intro k hk
  refine TC.lit [(0, _), (1, _), (4, _), (5, _), (6, _)] (by repeat (first | exact True.intro | refine And.intro rfl ?_)) ?_
  refine TC.seq ?_
  refine TC.seq ?_
  refine TC.region ?_
  refine TL.pure (PV.move rfl) rfl (by decide) ?_
  refine TL.pure (PV.move rfl) rfl (by decide) ?_
  refine TL.pure (PV.len rfl Tb.sl_25) rfl (by decide) ?_
  refine TL.pure (PV.lss rfl rfl) rfl (by decide) ?_
  refine TL.nil ?_
  refine TQ.thenC ?_
  first | refine TC.condD rfl (fun hlt => ?_) (fun hlt => ?_) | refine TC.cond rfl (fun hlt => ?_) (fun hlt => ?_)
  · skip
    refine TC.skip ?_
    refine TQ.thenC ?_
    refine TC.seq ?_
    refine TC.block ?_
    refine TC.seq ?_
    obtain ⟨q1, hq1p, hq1⟩ := hy k (by omega)
    have hbk := cs_bd (T := ys) hm (k := k) (by omega)
    refine TC.region ?_
    refine TL.pure (PV.move rfl) rfl (by decide) ?_
    refine TL.pure (PV.move rfl) rfl (by decide) ?_
    refine TL.pure (PV.indexA rfl hq1p rfl Tb.elm_25 rfl (by omega)) rfl (by decide) ?_
    refine TL.pure (PV.loadOld rfl Tb.one_3 hq1) rfl (by decide) ?_
    refine TL.pure (PV.geq rfl rfl) rfl (by decide) ?_
    refine TL.pure (PV.move rfl) rfl (by decide) ?_
    first | refine TL.splitD 18 rfl (fun b1 => ?_) (fun b1 => ?_) | refine TL.split 18 rfl (fun b1 => ?_) (fun b1 => ?_)
    · skip
      refine TL.pure (PV.move rfl) rfl (by decide) ?_
      refine TL.pure (PV.move rfl) rfl (by decide) ?_
      refine TL.pure (PV.indexA rfl hq1p rfl Tb.elm_25 rfl (by omega)) rfl (by decide) ?_
      refine TL.pure (PV.loadOld rfl Tb.one_3 hq1) rfl (by decide) ?_
      refine TL.pure (PV.move rfl) rfl (by decide) ?_
      refine TL.pure (PV.len rfl Tb.sl_25) rfl (by decide) ?_
      refine TL.pure (PV.lss rfl rfl) rfl (by decide) ?_
      refine TL.pure (PV.pickT rfl rfl) rfl (by decide) ?_
      refine TL.nil ?_
      refine TQ.thenC ?_
      first | refine TC.condD rfl (fun b2 => ?_) (fun b2 => ?_) | refine TC.cond rfl (fun b2 => ?_) (fun b2 => ?_)
      · skip
        obtain ⟨q2, hq2p, hq2⟩ := hx (ys.getD k 0).toNat (by omega)
        have hct : ctV xs (ys.getD k 0) = xs.getD (ys.getD k 0).toNat 0 := if_pos (by omega)
        have hm2 := hm (ys.getD k 0).toNat
        refine TC.region ?_
        refine TL.pure (PV.move rfl) rfl (by decide) ?_
        refine TL.pure (PV.move rfl) rfl (by decide) ?_
        refine TL.pure (PV.move rfl) rfl (by decide) ?_
        refine TL.pure (PV.move rfl) rfl (by decide) ?_
        refine TL.pure (PV.indexA rfl hq1p rfl Tb.elm_25 rfl (by omega)) rfl (by decide) ?_
        refine TL.pure (PV.loadOld rfl Tb.one_3 hq1) rfl (by decide) ?_
        refine TL.pure (PV.indexA (j := (ys.getD k 0).toNat) rfl hq2p rfl Tb.elm_25 (by omega) (by omega)) rfl (by decide) ?_
        refine TL.pure (PV.loadOld rfl Tb.one_3 hq2) rfl (by decide) ?_
        refine TL.pure (PV.add rfl rfl (by omega)) rfl (by decide) ?_
        refine TL.pure (PV.assign rfl) rfl (by decide) ?_
        refine TL.nil ?_
        refine TQ.blkN ?_
        refine TQ.thenC ?_
        refine TC.region ?_
        refine TL.pure (PV.move rfl) rfl (by decide) ?_
        refine TL.pure (PV.add rfl rfl (by omega)) rfl (by decide) ?_
        refine TL.pure (PV.assign rfl) rfl (by decide) ?_
        refine TL.nil ?_
        refine TQ.thenN ?_
        refine TQ.backK (k + 1) (by refine And.intro rfl (And.intro ?_ True.intro); show some (Value.int .i64 _) = some (Value.int .i64 (csK xs ys k + ctV xs (ys.getD k 0))); rw [hct]; try (rw [Int.add_zero])) (by repeat (first | exact True.intro | refine And.intro rfl ?_)) (by repeat (first | exact List.Sublist.slnil | exact List.nil_sublist _ | exact List.Sublist.refl _ | refine List.Sublist.cons_cons _ ?_ | refine List.Sublist.cons _ ?_ | refine List.Sublist.trans ?_ (List.sublist_append_right _ _))) (by omega) (by omega)
      · skip
        have hct : ctV xs (ys.getD k 0) = 0 := if_neg (by omega)
        refine TC.skip ?_
        refine TQ.blkN ?_
        refine TQ.thenC ?_
        refine TC.region ?_
        refine TL.pure (PV.move rfl) rfl (by decide) ?_
        refine TL.pure (PV.add rfl rfl (by omega)) rfl (by decide) ?_
        refine TL.pure (PV.assign rfl) rfl (by decide) ?_
        refine TL.nil ?_
        refine TQ.thenN ?_
        refine TQ.backK (k + 1) (by refine And.intro rfl (And.intro ?_ True.intro); show some (Value.int .i64 _) = some (Value.int .i64 (csK xs ys k + ctV xs (ys.getD k 0))); rw [hct]; try (rw [Int.add_zero])) (by repeat (first | exact True.intro | refine And.intro rfl ?_)) (by repeat (first | exact List.Sublist.slnil | exact List.nil_sublist _ | exact List.Sublist.refl _ | refine List.Sublist.cons_cons _ ?_ | refine List.Sublist.cons _ ?_ | refine List.Sublist.trans ?_ (List.sublist_append_right _ _))) (by omega) (by omega)
    · skip
      refine TL.skip rfl (fun k hk => by cases hk; decide) ?_
      refine TL.skip rfl (fun k hk => by cases hk; decide) ?_
      refine TL.skip rfl (fun k hk => by cases hk; decide) ?_
      refine TL.skip rfl (fun k hk => by cases hk; decide) ?_
      refine TL.skip rfl (fun k hk => by cases hk; decide) ?_
      refine TL.skip rfl (fun k hk => by cases hk; decide) ?_
      refine TL.skip rfl (fun k hk => by cases hk; decide) ?_
      refine TL.pure (PV.pickF rfl rfl) rfl (by decide) ?_
      refine TL.nil ?_
      refine TQ.thenC ?_
      refine TC.condF rfl ?_
      have hct : ctV xs (ys.getD k 0) = 0 := if_neg (by omega)
      refine TC.skip ?_
      refine TQ.blkN ?_
      refine TQ.thenC ?_
      refine TC.region ?_
      refine TL.pure (PV.move rfl) rfl (by decide) ?_
      refine TL.pure (PV.add rfl rfl (by omega)) rfl (by decide) ?_
      refine TL.pure (PV.assign rfl) rfl (by decide) ?_
      refine TL.nil ?_
      refine TQ.thenN ?_
      refine TQ.backK (k + 1) (by refine And.intro rfl (And.intro ?_ True.intro); show some (Value.int .i64 _) = some (Value.int .i64 (csK xs ys k + ctV xs (ys.getD k 0))); rw [hct]; try (rw [Int.add_zero])) (by repeat (first | exact True.intro | refine And.intro rfl ?_)) (by repeat (first | exact List.Sublist.slnil | exact List.nil_sublist _ | exact List.Sublist.refl _ | refine List.Sublist.cons_cons _ ?_ | refine List.Sublist.cons _ ?_ | refine List.Sublist.trans ?_ (List.sublist_append_right _ _))) (by omega) (by omega)
  · skip
    refine TC.exit ?_
    refine TQ.thenE ?_
    refine TQ.thenE ?_
    refine TQ.blkS ?_
    refine TQ.thenC ?_
    refine TC.seq ?_
    refine TC.region ?_
    refine TL.pure (PV.move rfl) rfl (by decide) ?_
    refine TL.pure (PV.assign rfl) rfl (by decide) ?_
    refine TL.nil ?_
    refine TQ.thenC ?_
    refine TC.ret ?_
    refine TQ.retE1 rfl rfl ?_
    exact ⟨(), by rw [show k = ys.length by omega]; rfl, trivial, List.nil_sublist _⟩

end Go.Proofs.Ytkkipbkkijoneaa
