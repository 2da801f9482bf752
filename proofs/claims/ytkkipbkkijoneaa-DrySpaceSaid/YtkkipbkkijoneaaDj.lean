/- What a list changes, what an invariant weighs: the mathematics, and the laws' contracts. -/
import Derived.Test.YtkkipbkkijoneaaDi
set_option linter.unusedVariables false
set_option linter.unusedSimpArgs false
namespace Go.Proofs.Ytkkipbkkijoneaa
open Go.Sx Go.RowKit Go.Sand

theorem efS_cons {ss : List St} {i : Int} {l : List Int} (h : 0 ≤ i ∧ i < ss.length) (q : Nat) : efS ss (cntN ss.length (i :: l)) ss.length q = efS ss (cntN ss.length l) ss.length q + dd ss i.toNat q := by
  have h1 : efS ss (cntN ss.length (i :: l)) ss.length q = sm ss.length (fun j => (cntN ss.length l).getD j 0 * dd ss j q + dd ss j q * (if j = i.toNat then 1 else 0)) := sm_congr fun j hj => by
    unfold cntN
    rw [mk_at _ hj, mk_at _ hj, List.count_cons]
    by_cases e : j = i.toNat
    · rw [if_pos (show (i == (j : Int)) = true by rw [beq_iff_eq]; omega), if_pos e, Int.mul_one, show ((l.count (j : Int) + 1 : Nat) : Int) = (l.count (j : Int) : Nat) + 1 by omega, Int.add_mul, Int.one_mul]
    · rw [if_neg (show ¬ (i == (j : Int)) = true by rw [beq_iff_eq]; omega), if_neg e, Int.mul_zero, Int.add_zero]
      rfl
  rw [h1, sm_add, sm_pt, if_pos (by omega), Int.mul_one]
  rfl
theorem efS_nil (ss : List St) (q : Nat) : efS ss (cntN ss.length []) ss.length q = 0 := by
  have h1 : efS ss (cntN ss.length []) ss.length q = sm ss.length (fun _ => 0) := sm_congr fun j hj => by
    unfold cntN
    rw [mk_at _ hj]; simp
  rw [h1, sm_zero]
theorem doN_dd {n : Int} {ss : List St} {m : List Int} (hV : VM n ss m) {k : Nat} (hk : k < ss.length) (p : Nat) : (doN m (ss.getD k default)).getD p 0 = m.getD p 0 + dd ss k p := by
  have hF := hV.fits hk
  by_cases hp : p < m.length
  · rw [doN_at hp]; unfold dd; omega
  · have := eff_all hV.toVY hk p
    rw [← this, List.getD_eq_getElem?_getD, List.getElem?_eq_none (by rw [doN_len]; omega), List.getD_eq_getElem?_getD, List.getElem?_eq_none (by omega), List.getD_eq_getElem?_getD, List.getElem?_eq_none (by rw [eff_len, hF.gl]; omega)]
    rfl
theorem rn_eff {n : Int} {ss : List St} : ∀ (l m : List Int) (k : Nat), VM n ss m → (∀ j, j < l.length → 0 ≤ l.getD j 0 ∧ l.getD j 0 < ss.length) → (rn ss m l k).2.2 = 0 →
    VM n ss (rn ss m l k).1 ∧ (rn ss m l k).1.length = m.length ∧ (rn ss m l k).2.1 = k + l.length ∧ ∀ p, (rn ss m l k).1.getD p 0 = m.getD p 0 + efS ss (cntN ss.length l) ss.length p
  | [], m, k, hV, _, _ => ⟨hV, rfl, rfl, fun p => by rw [efS_nil, Int.add_zero]; rfl⟩
  | i :: l, m, k, hV, hl, h0 => by
    have hi := hl 0 (by simp)
    simp only [List.getD_cons_zero] at hi
    have hk : i.toNat < ss.length := by omega
    by_cases h : doI m (stS ss i) = 0
    · rw [rn, if_pos h] at h0 ⊢
      obtain ⟨h1, h2, h3, h4⟩ := rn_eff l (doN m (stS ss i)) (k + 1) (hV.next hk h) (fun j hj => by have := hl (j + 1) (by simpa using hj); simpa using this) h0
      refine ⟨h1, by rw [h2, doN_len], by rw [h3, List.length_cons]; omega, fun p => ?_⟩
      rw [h4 p, efS_cons hi, show doN m (stS ss i) = doN m (ss.getD i.toNat default) from rfl, doN_dd hV hk p]
      omega
    · rw [rn, if_neg h] at h0
      exact absurd h0 h
structure RunOk (n : Int) (ss : List St) (xs ls : List Int) : Prop where
  vm : VM n ss xs
  li : ¬ listI ss.length ls ≠ 0
  vme : VM n ss (runR n ss xs ls).1
  len : (runR n ss xs ls).1.length = xs.length
  num : (runR n ss xs ls).2.1 = ls.length
  eq : ∀ p, (runR n ss xs ls).1.getD p 0 = xs.getD p 0 + efS ss (cntN ss.length ls) ss.length p
  rn : runR n ss xs ls = rn ss xs ls 0
  ok : (runR n ss xs ls).2.2 = 0
theorem run_ok {n : Int} {ss : List St} {xs ls : List Int} (h : ¬ (runR n ss xs ls).2.2 ≠ 0) : RunOk n ss xs ls := by
  have h := Decidable.of_not_not h
  by_cases h1 : filI n ss [xs] ≠ 0
  · rw [run_1 h1] at h; exact absurd h h1
  · by_cases h2 : listI ss.length ls ≠ 0
    · rw [run_2 h1 h2] at h; exact absurd h h2
    · have h3 := run_3 h1 h2
      rw [h3] at h
      obtain ⟨h4, h5, h6, h7⟩ := rn_eff ls xs 0 (vm_of h1) (list_at h2).2 h
      exact ⟨vm_of h1, h2, by rw [h3]; exact h4, by rw [h3]; exact h5, by rw [h3, h6]; omega, by rw [h3]; exact h7, h3, by rw [h3]; exact h⟩
theorem cnt_num {S : Nat} {ls : List Int} (h : ¬ listI S ls ≠ 0) : numB S 0 40 (cntN S ls) = true := num_3 (by unfold cntN; rw [mk_len]) fun k hk => by
  have h1 := (list_at h).1
  unfold cntN at hk ⊢
  rw [mk_len] at hk
  rw [mk_at _ hk]
  have := List.count_le_length (a := (k : Int)) (l := ls)
  omega
theorem RunOk.cnt {n : Int} {ss : List St} {xs ls : List Int} (h : RunOk n ss xs ls) : cntR n ss ls = (cntN ss.length ls, 0) := cntR_3 (by rw [h.vm.v]; decide) h.li
theorem RunOk.eff {n : Int} {ss : List St} {xs ls : List Int} (h : RunOk n ss xs ls) : effR n ss (cntN ss.length ls) = (effN ss (cntN ss.length ls) xs.length, 0) := by
  rw [effR_3 (by rw [h.vm.v]; decide) (cnt_num h.li), show n.toNat = xs.length by have := h.vm.ml; omega]
theorem rn_mono {n : Int} {ss : List St} : ∀ (l m m' : List Int) (k k' : Nat), VM n ss m → VM n ss m' → (∀ p, m.getD p 0 ≤ m'.getD p 0) → (∀ j, j < l.length → 0 ≤ l.getD j 0 ∧ l.getD j 0 < ss.length) → (rn ss m l k).2.2 = 0 → (rn ss m' l k').2.2 ≠ 6
  | [], m, m', k, k', _, _, _, _, _ => by show (0 : Int) ≠ 6; decide
  | i :: l, m, m', k, k', hV, hV', hle, hl, h0 => by
    have hi := hl 0 (by simp)
    simp only [List.getD_cons_zero] at hi
    have hk : i.toNat < ss.length := by omega
    by_cases h : doI m (stS ss i) = 0
    · rw [rn, if_pos h] at h0
      by_cases h' : doI m' (stS ss i) = 0
      · rw [rn, if_pos h']
        refine rn_mono l (doN m (stS ss i)) (doN m' (stS ss i)) (k + 1) (k' + 1) (hV.next hk h) (hV'.next hk h') (fun p => ?_) (fun j hj => by have := hl (j + 1) (by simpa using hj); simpa using this) h0
        have e1 := doN_dd hV hk p
        have e2 := doN_dd hV' hk p
        have := hle p
        show (doN m (ss.getD i.toNat default)).getD p 0 ≤ (doN m' (ss.getD i.toNat default)).getD p 0
        omega
      · rw [rn, if_neg h']
        have hc := (do_of h).1
        have hc' : canB m' (stS ss i) = true := can_yes fun p hp => Int.le_trans (can_at hc hp) (hle p)
        show doI m' (stS ss i) ≠ 6
        unfold doI
        rw [if_pos hc']
        split <;> decide
    · rw [rn, if_neg h] at h0
      exact absurd h0 h
theorem run_more {n : Int} {ss : List St} {xs ys ls : List Int} (h : RunOk n ss xs ls) (hl : ys.length = xs.length) (hle : ∀ p, xs.getD p 0 ≤ ys.getD p 0) : (runR n ss ys ls).2.2 ≠ 6 := by
  by_cases h1 : filI n ss [ys] ≠ 0
  · rw [run_1 h1]
    show filI n ss [ys] ≠ 6
    unfold filI
    rw [if_neg (by rw [h.vm.v]; decide)]
    split <;> decide
  · rw [run_3 h1 h.li]
    refine rn_mono ls xs ys 0 0 h.vm (vm_of h1) hle (list_at h.li).2 ?_
    have h9 := h.ok
    rw [h.rn] at h9
    exact h9
theorem wg_keeps {n : Int} {ss : List St} {xs ls ws : List Int} (h : RunOk n ss xs ls) (hi : invB ss ws = true) : wgN ws (runR n ss xs ls).1 = wgN ws xs := by
  have h0 : ∀ i, i < ss.length → sm ws.length (fun p => ws.getD p 0 * dd ss i p) = 0 := fun i hi2 => by
    unfold invB at hi
    have h1 : (ss.any fun s => decide (wgN ws (effL s) ≠ 0)) = false := by simpa using hi
    have h2 := List.any_eq_false.1 h1 (ss.getD i default) (by simp [List.getD, hi2])
    have h3 : wgN ws (effL (ss.getD i default)) = 0 := by simpa using h2
    rw [iw_eq h.vm.toVY hi2] at h3
    exact h3
  have h1 : wgN ws (runR n ss xs ls).1 = sm ws.length (fun p => ws.getD p 0 * xs.getD p 0 + sm ss.length (fun i => (cntN ss.length ls).getD i 0 * (ws.getD p 0 * dd ss i p))) := sm_congr fun p _ => by
    rw [h.eq p, Int.mul_add]
    congr 1
    unfold efS
    rw [← sm_mul]
    exact sm_congr fun i _ => by grind
  rw [h1, sm_add, sm_swap]
  have h2 : sm ss.length (fun j => sm ws.length fun i => (cntN ss.length ls).getD j 0 * (ws.getD i 0 * dd ss j i)) = sm ss.length (fun _ => 0) := sm_congr fun j hj => by
    rw [sm_mul, h0 j hj, Int.mul_zero]
  rw [h2, sm_zero, Int.add_zero]
  rfl
def maxL (xs ys : List Int) (p : Nat) : Int := max (xs.getD p 0) (ys.getD p 0)
theorem mk_max {xs ys : List Int} {k : Nat} (hk : xs.length ≤ k) (p : Nat) : xs.getD p 0 ≤ (mk k (maxL xs ys)).getD p 0 := by
  by_cases h9 : p < k
  · rw [mk_at _ h9]; unfold maxL; omega
  · rw [List.getD_eq_getElem?_getD, List.getElem?_eq_none (by omega), List.getD_eq_getElem?_getD, List.getElem?_eq_none (by rw [mk_len]; omega)]
    exact Int.le_refl _
def tenK (N k : Nat) : List Int := mk N fun q => if q < k then 10 + (q : Int) else 0
theorem tenK_len (N k : Nat) : (tenK N k).length = N := mk_len _ _
theorem tenK_zero (N : Nat) : List.replicate N 0 = tenK N 0 := mk_eq (by simp) fun j hj => by simp [List.getD, hj]
theorem tenK_put {N k : Nat} (hk : k < N) : (tenK N k).set k (10 + (k : Int)) = tenK N (k + 1) :=
  mk_set hk (by simp) fun j _ hj => by
    show (if j < k then _ else _) = (if j < k + 1 then _ else _)
    by_cases h : j < k
    · rw [if_pos h, if_pos (by omega)]
    · rw [if_neg h, if_neg (by omega)]


set_option maxRecDepth 100000 in
set_option maxHeartbeats 4000000 in
theorem dryAdds_ok (w0 : World) (n : Int) (p : Option Addr) (cp : Nat) (ss : List St) (hr : StsAt w0 p ss) (pl : Option Addr) (cl : Nat) (xs : List Int) (hx : IntsAt w0 pl xs) (p2 : Option Addr) (c2 : Nat) (ys : List Int) (hy : IntsAt w0 p2 ys) (pz : Option Addr) (cz : Nat) (ls : List Int) (hz : IntsAt w0 pz ls) :
    Calls Try.prog 7 #[yv n p ss.length cp, .agg #[.slice pl xs.length cl, .slice p2 ys.length c2], .slice pz ls.length cz] w0 (Post (X := Unit) (fun _ => .bool true) (fun _ => True) (fun _ => []) w0) := by
  refine calls Try.func7 rfl (n := 146) rfl (by simp) ?_
  refine TC.seq ?_
  refine TC.region ?_
  refine TL.box rfl rfl (by decide) (fun b0 hb0 => ?_)
  refine TL.box rfl rfl (by decide) (fun b1 hb1 => ?_)
  refine TL.pure (PV.assign rfl) rfl (by decide) ?_
  refine TL.nil ?_
  refine TQ.thenC ?_
  refine TC.seq ?_
  refine TC.seq ?_
  refine TC.region ?_
  refine TL.pure (PV.loadBox rfl Tb.agg_24 (by repeat (first | exact List.Mem.head _ | refine List.Mem.tail _ ?_ | refine List.mem_append_right _ ?_)) rfl) rfl (by decide) ?_
  refine TL.call rfl Tb.gofn_17 (fun a w hs => long_ok w _ _ _ _ (hr.new hs.new)) rfl (by decide) (fun _ _ => ?_)
  refine TL.pure (PV.move rfl) rfl (by decide) ?_
  first | refine TL.splitD 22 rfl (fun e1 => ?_) (fun e1 => ?_) | refine TL.split 22 rfl (fun e1 => ?_) (fun e1 => ?_)
  · skip
    refine TL.skip rfl (fun k hk => by cases hk; decide) ?_
    refine TL.skip rfl (fun k hk => by cases hk; decide) ?_
    refine TL.skip rfl (fun k hk => by cases hk; decide) ?_
    refine TL.pure (PV.pickT rfl rfl) rfl (by decide) ?_
    refine TL.pure (PV.move rfl) rfl (by decide) ?_
    refine TL.skip rfl (fun k hk => by cases hk; decide) ?_
    refine TL.skip rfl (fun k hk => by cases hk; decide) ?_
    refine TL.skip rfl (fun k hk => by cases hk; decide) ?_
    refine TL.pure (PV.pickT rfl rfl) rfl (by decide) ?_
    refine TL.pure (PV.move rfl) rfl (by decide) ?_
    refine TL.skip rfl (fun k hk => by cases hk; decide) ?_
    refine TL.skip rfl (fun k hk => by cases hk; decide) ?_
    refine TL.pure (PV.pickT rfl rfl) rfl (by decide) ?_
    refine TL.nil ?_
    refine TQ.thenC ?_
    refine TC.condT rfl ?_
    refine TC.seq ?_
    refine TC.region ?_
    refine TL.call rfl Tb.gofn_19 (fun a w hs => known_ok w) rfl (by decide) (fun _ _ => ?_)
    refine TL.pure (PV.assign rfl) rfl (by decide) ?_
    refine TL.nil ?_
    refine TQ.thenC ?_
    refine TC.ret ?_
    refine TQ.thenR ?_
    refine TQ.retE1 rfl rfl ?_
    first | exact ⟨(), rfl, trivial, List.nil_sublist _⟩ | (exfalso; simp_all; done)
  · skip
    refine TL.pure (PV.fieldAddr rfl Tb.fo_43_0) rfl (by decide) ?_
    refine TL.pure (PV.load rfl Tb.one_25 (by repeat (first | exact List.Mem.head _ | refine List.Mem.tail _ ?_ | refine List.mem_append_right _ ?_)) rfl) rfl (by decide) ?_
    refine TL.call rfl Tb.gofn_18 (fun a w hs => large_ok w _ _ (IsI.of (hx.new hs.new))) rfl (by decide) (fun _ _ => ?_)
    refine TL.pure (PV.pickF rfl rfl) rfl (by decide) ?_
    refine TL.pure (PV.move rfl) rfl (by decide) ?_
    first | refine TL.splitD 27 rfl (fun e2 => ?_) (fun e2 => ?_) | refine TL.split 27 rfl (fun e2 => ?_) (fun e2 => ?_)
    · skip
      refine TL.skip rfl (fun k hk => by cases hk; decide) ?_
      refine TL.skip rfl (fun k hk => by cases hk; decide) ?_
      refine TL.skip rfl (fun k hk => by cases hk; decide) ?_
      refine TL.pure (PV.pickT rfl rfl) rfl (by decide) ?_
      refine TL.pure (PV.move rfl) rfl (by decide) ?_
      refine TL.skip rfl (fun k hk => by cases hk; decide) ?_
      refine TL.skip rfl (fun k hk => by cases hk; decide) ?_
      refine TL.pure (PV.pickT rfl rfl) rfl (by decide) ?_
      refine TL.nil ?_
      refine TQ.thenC ?_
      refine TC.condT rfl ?_
      refine TC.seq ?_
      refine TC.region ?_
      refine TL.call rfl Tb.gofn_19 (fun a w hs => known_ok w) rfl (by decide) (fun _ _ => ?_)
      refine TL.pure (PV.assign rfl) rfl (by decide) ?_
      refine TL.nil ?_
      refine TQ.thenC ?_
      refine TC.ret ?_
      refine TQ.thenR ?_
      refine TQ.retE1 rfl rfl ?_
      first | exact ⟨(), rfl, trivial, List.nil_sublist _⟩ | (exfalso; simp_all; done)
    · skip
      refine TL.pure (PV.fieldAddr rfl Tb.fo_43_1) rfl (by decide) ?_
      refine TL.pure (PV.load rfl Tb.one_25 (by repeat (first | exact List.Mem.head _ | refine List.Mem.tail _ ?_ | refine List.mem_append_right _ ?_)) rfl) rfl (by decide) ?_
      refine TL.call rfl Tb.gofn_18 (fun a w hs => large_ok w _ _ (IsI.of (hy.new hs.new))) rfl (by decide) (fun _ _ => ?_)
      refine TL.pure (PV.pickF rfl rfl) rfl (by decide) ?_
      refine TL.pure (PV.move rfl) rfl (by decide) ?_
      first | refine TL.splitD 32 rfl (fun e3 => ?_) (fun e3 => ?_) | refine TL.split 32 rfl (fun e3 => ?_) (fun e3 => ?_)
      · skip
        refine TL.skip rfl (fun k hk => by cases hk; decide) ?_
        refine TL.skip rfl (fun k hk => by cases hk; decide) ?_
        refine TL.pure (PV.pickT rfl rfl) rfl (by decide) ?_
        refine TL.nil ?_
        refine TQ.thenC ?_
        refine TC.condT rfl ?_
        refine TC.seq ?_
        refine TC.region ?_
        refine TL.call rfl Tb.gofn_19 (fun a w hs => known_ok w) rfl (by decide) (fun _ _ => ?_)
        refine TL.pure (PV.assign rfl) rfl (by decide) ?_
        refine TL.nil ?_
        refine TQ.thenC ?_
        refine TC.ret ?_
        refine TQ.thenR ?_
        refine TQ.retE1 rfl rfl ?_
        first | exact ⟨(), rfl, trivial, List.nil_sublist _⟩ | (exfalso; simp_all; done)
      · skip
        refine TL.pure (PV.move rfl) rfl (by decide) ?_
        refine TL.call rfl Tb.gofn_18 (fun a w hs => large_ok w _ _ (IsI.of (hz.new hs.new))) rfl (by decide) (fun _ _ => ?_)
        refine TL.pure (PV.pickF rfl rfl) rfl (by decide) ?_
        refine TL.nil ?_
        refine TQ.thenC ?_
        first | refine TC.condD rfl (fun e4 => ?_) (fun e4 => ?_) | refine TC.cond rfl (fun e4 => ?_) (fun e4 => ?_)
        · skip
          refine TC.seq ?_
          refine TC.region ?_
          refine TL.call rfl Tb.gofn_19 (fun a w hs => known_ok w) rfl (by decide) (fun _ _ => ?_)
          refine TL.pure (PV.assign rfl) rfl (by decide) ?_
          refine TL.nil ?_
          refine TQ.thenC ?_
          refine TC.ret ?_
          refine TQ.thenR ?_
          refine TQ.retE1 rfl rfl ?_
          first | exact ⟨(), rfl, trivial, List.nil_sublist _⟩ | (exfalso; simp_all; done)
        · skip
          refine TC.skip ?_
          refine TQ.thenC ?_
          refine TC.seq ?_
          have hS := long_0 e1
          have hl : xs.length ≤ 1000000 := by omega
          have hl2 : ys.length ≤ 1000000 := by omega
          have hll : ls.length ≤ 1000000 := by omega
          refine TC.region ?_
          refine TL.pure (PV.loadBox rfl Tb.agg_24 (by repeat (first | exact List.Mem.head _ | refine List.Mem.tail _ ?_ | refine List.mem_append_right _ ?_)) rfl) rfl (by decide) ?_
          refine TL.pure (PV.fieldAddr rfl Tb.fo_43_0) rfl (by decide) ?_
          refine TL.pure (PV.load rfl Tb.one_25 (by repeat (first | exact List.Mem.head _ | refine List.Mem.tail _ ?_ | refine List.mem_append_right _ ?_)) rfl) rfl (by decide) ?_
          refine TL.pure (PV.move rfl) rfl (by decide) ?_
          refine TL.call rfl Tb.gofn_27 (fun a w hs => Run_ok w _ _ _ _ (hr.new hs.new) hS _ _ (IsI.of (hx.new hs.new)) hl _ _ (IsI.of (hz.new hs.new)) hll) rfl (by decide) (fun hA hhA => ?_)
          refine TL.pure (PV.move rfl) rfl (by decide) ?_
          refine TL.pure (PV.extract rfl rfl) rfl (by decide) ?_
          refine TL.pure (PV.extract rfl rfl) rfl (by decide) ?_
          refine TL.pure (PV.extract rfl rfl) rfl (by decide) ?_
          refine TL.pure (PV.assign rfl) rfl (by decide) ?_
          refine TL.pure (PV.assign rfl) rfl (by decide) ?_
          refine TL.pure (PV.assign rfl) rfl (by decide) ?_
          refine TL.nil ?_
          refine TQ.thenC ?_
          refine TC.seq ?_
          refine TC.seq ?_
          refine TC.region ?_
          refine TL.pure (PV.move rfl) rfl (by decide) ?_
          refine TL.pure (PV.neq rfl rfl) rfl (by decide) ?_
          refine TL.nil ?_
          refine TQ.thenC ?_
          first | refine TC.condD rfl (fun a1 => ?_) (fun a1 => ?_) | refine TC.cond rfl (fun a1 => ?_) (fun a1 => ?_)
          · skip
            refine TC.seq ?_
            refine TC.region ?_
            refine TL.call rfl Tb.gofn_19 (fun a w hs => known_ok w) rfl (by decide) (fun _ _ => ?_)
            refine TL.pure (PV.assign rfl) rfl (by decide) ?_
            refine TL.nil ?_
            refine TQ.thenC ?_
            refine TC.ret ?_
            refine TQ.thenR ?_
            refine TQ.retE1 rfl rfl ?_
            first | exact ⟨(), rfl, trivial, List.nil_sublist _⟩ | (exfalso; simp_all; done)
          · skip
            refine TC.skip ?_
            refine TQ.thenC ?_
            refine TC.seq ?_
            have hrk := run_ok a1
            have hel : (effN ss (cntN ss.length ls) xs.length).length = xs.length := by unfold effN; rw [mk_len]
            have hrl := hrk.len
            refine TC.region ?_
            refine TL.pure (PV.loadBox rfl Tb.agg_24 (by repeat (first | exact List.Mem.head _ | refine List.Mem.tail _ ?_ | refine List.mem_append_right _ ?_)) rfl) rfl (by decide) ?_
            refine TL.pure (PV.move rfl) rfl (by decide) ?_
            refine TL.call rfl Tb.gofn_33 (fun a w hs => Counts_ok w _ _ _ _ (hr.new hs.new) hS _ _ (IsI.of (hz.new hs.new)) hll) rfl (by decide) (fun hC hhC => ?_)
            rw [hrk.cnt] at hhC
            rw [hrk.cnt]
            refine TL.pure (PV.move rfl) rfl (by decide) ?_
            refine TL.pure (PV.extract rfl rfl) rfl (by decide) ?_
            refine TL.pure (PV.extract rfl rfl) rfl (by decide) ?_
            refine TL.pure (PV.assign rfl) rfl (by decide) ?_
            refine TL.pure (PV.assign rfl) rfl (by decide) ?_
            refine TL.nil ?_
            refine TQ.thenC ?_
            refine TC.seq ?_
            refine TC.region ?_
            refine TL.pure (PV.loadBox rfl Tb.agg_24 (by repeat (first | exact List.Mem.head _ | refine List.Mem.tail _ ?_ | refine List.mem_append_right _ ?_)) rfl) rfl (by decide) ?_
            refine TL.pure (PV.move rfl) rfl (by decide) ?_
            refine TL.call rfl Tb.gofn_31 (fun a w hs => Effect_ok w _ _ _ _ (hr.new hs.new) hS _ (cntN ss.length ls) (IsI.g hs.new (fun yy hyy => by repeat (first | exact List.mem_append_left _ hyy | exact List.mem_append_left _ (List.mem_append_right _ hyy) | exact List.mem_append_left _ (List.mem_append_left _ hyy) | refine List.mem_append_right _ ?_ | refine List.Mem.tail _ ?_)) hhC) (by unfold cntN; rw [mk_len]; have := hrk.vm.len; omega)) rfl (by decide) (fun hE hhE => ?_)
            rw [hrk.eff] at hhE
            rw [hrk.eff]
            refine TL.pure (PV.move rfl) rfl (by decide) ?_
            refine TL.pure (PV.extract rfl rfl) rfl (by decide) ?_
            refine TL.pure (PV.extract rfl rfl) rfl (by decide) ?_
            refine TL.pure (PV.assign rfl) rfl (by decide) ?_
            refine TL.pure (PV.assign rfl) rfl (by decide) ?_
            refine TL.nil ?_
            refine TQ.thenC ?_
            refine TC.seq ?_
            refine TC.seq ?_
            refine TC.region ?_
            refine TL.pure (PV.move rfl) rfl (by decide) ?_
            refine TL.pure (PV.neq rfl rfl) rfl (by decide) ?_
            refine TL.pure (PV.move rfl) rfl (by decide) ?_
            first | refine TL.splitD 63 rfl (fun h5 => ?_) (fun h5 => ?_) | refine TL.split 63 rfl (fun h5 => ?_) (fun h5 => ?_)
            · skip
              refine TL.skip rfl (fun k hk => by cases hk; decide) ?_
              refine TL.skip rfl (fun k hk => by cases hk; decide) ?_
              refine TL.pure (PV.pickT rfl rfl) rfl (by decide) ?_
              refine TL.pure (PV.move rfl) rfl (by decide) ?_
              refine TL.skip rfl (fun k hk => by cases hk; decide) ?_
              refine TL.skip rfl (fun k hk => by cases hk; decide) ?_
              refine TL.skip rfl (fun k hk => by cases hk; decide) ?_
              refine TL.skip rfl (fun k hk => by cases hk; decide) ?_
              refine TL.skip rfl (fun k hk => by cases hk; decide) ?_
              refine TL.skip rfl (fun k hk => by cases hk; decide) ?_
              refine TL.pure (PV.pickT rfl rfl) rfl (by decide) ?_
              refine TL.pure (PV.move rfl) rfl (by decide) ?_
              refine TL.skip rfl (fun k hk => by cases hk; decide) ?_
              refine TL.skip rfl (fun k hk => by cases hk; decide) ?_
              refine TL.skip rfl (fun k hk => by cases hk; decide) ?_
              refine TL.skip rfl (fun k hk => by cases hk; decide) ?_
              refine TL.skip rfl (fun k hk => by cases hk; decide) ?_
              refine TL.skip rfl (fun k hk => by cases hk; decide) ?_
              refine TL.pure (PV.pickT rfl rfl) rfl (by decide) ?_
              refine TL.nil ?_
              refine TQ.thenC ?_
              refine TC.condT rfl ?_
              refine TC.seq ?_
              refine TC.region ?_
              refine TL.pure (PV.assign rfl) rfl (by decide) ?_
              refine TL.nil ?_
              refine TQ.thenC ?_
              refine TC.ret ?_
              refine TQ.thenR ?_
              refine TQ.retE1 rfl rfl ?_
              first | exact ⟨(), rfl, trivial, List.nil_sublist _⟩ | (exfalso; simp_all; done)
            · skip
              refine TL.pure (PV.move rfl) rfl (by decide) ?_
              refine TL.pure (PV.neq rfl rfl) rfl (by decide) ?_
              refine TL.pure (PV.pickF rfl rfl) rfl (by decide) ?_
              refine TL.pure (PV.move rfl) rfl (by decide) ?_
              first | refine TL.splitD 67 rfl (fun h6 => ?_) (fun h6 => ?_) | refine TL.split 67 rfl (fun h6 => ?_) (fun h6 => ?_)
              · skip
                refine TL.skip rfl (fun k hk => by cases hk; decide) ?_
                refine TL.skip rfl (fun k hk => by cases hk; decide) ?_
                refine TL.skip rfl (fun k hk => by cases hk; decide) ?_
                refine TL.skip rfl (fun k hk => by cases hk; decide) ?_
                refine TL.skip rfl (fun k hk => by cases hk; decide) ?_
                refine TL.skip rfl (fun k hk => by cases hk; decide) ?_
                refine TL.pure (PV.pickT rfl rfl) rfl (by decide) ?_
                refine TL.pure (PV.move rfl) rfl (by decide) ?_
                refine TL.skip rfl (fun k hk => by cases hk; decide) ?_
                refine TL.skip rfl (fun k hk => by cases hk; decide) ?_
                refine TL.skip rfl (fun k hk => by cases hk; decide) ?_
                refine TL.skip rfl (fun k hk => by cases hk; decide) ?_
                refine TL.skip rfl (fun k hk => by cases hk; decide) ?_
                refine TL.skip rfl (fun k hk => by cases hk; decide) ?_
                refine TL.pure (PV.pickT rfl rfl) rfl (by decide) ?_
                refine TL.nil ?_
                refine TQ.thenC ?_
                refine TC.condT rfl ?_
                refine TC.seq ?_
                refine TC.region ?_
                refine TL.pure (PV.assign rfl) rfl (by decide) ?_
                refine TL.nil ?_
                refine TQ.thenC ?_
                refine TC.ret ?_
                refine TQ.thenR ?_
                refine TQ.retE1 rfl rfl ?_
                first | exact ⟨(), rfl, trivial, List.nil_sublist _⟩ | (exfalso; simp_all; done)
              · skip
                refine TL.pure (PV.move rfl) rfl (by decide) ?_
                refine TL.pure (PV.lenG rfl hhE Tb.sl_25) rfl (by decide) ?_
                refine TL.pure (PV.fieldAddr rfl Tb.fo_43_0) rfl (by decide) ?_
                refine TL.pure (PV.load rfl Tb.one_25 (by repeat (first | exact List.Mem.head _ | refine List.Mem.tail _ ?_ | refine List.mem_append_right _ ?_)) rfl) rfl (by decide) ?_
                refine TL.pure (PV.len rfl Tb.sl_25) rfl (by decide) ?_
                refine TL.pure (PV.neq rfl rfl) rfl (by decide) ?_
                refine TL.pure (PV.pickF rfl rfl) rfl (by decide) ?_
                refine TL.pure (PV.move rfl) rfl (by decide) ?_
                first | refine TL.splitD 75 rfl (fun h7 => ?_) (fun h7 => ?_) | refine TL.split 75 rfl (fun h7 => ?_) (fun h7 => ?_)
                · skip
                  refine TL.skip rfl (fun k hk => by cases hk; decide) ?_
                  refine TL.skip rfl (fun k hk => by cases hk; decide) ?_
                  refine TL.skip rfl (fun k hk => by cases hk; decide) ?_
                  refine TL.skip rfl (fun k hk => by cases hk; decide) ?_
                  refine TL.skip rfl (fun k hk => by cases hk; decide) ?_
                  refine TL.skip rfl (fun k hk => by cases hk; decide) ?_
                  refine TL.pure (PV.pickT rfl rfl) rfl (by decide) ?_
                  refine TL.nil ?_
                  refine TQ.thenC ?_
                  refine TC.condT rfl ?_
                  refine TC.seq ?_
                  refine TC.region ?_
                  refine TL.pure (PV.assign rfl) rfl (by decide) ?_
                  refine TL.nil ?_
                  refine TQ.thenC ?_
                  refine TC.ret ?_
                  refine TQ.thenR ?_
                  refine TQ.retE1 rfl rfl ?_
                  first | exact ⟨(), rfl, trivial, List.nil_sublist _⟩ | (exfalso; simp_all; done)
                · skip
                  refine TL.pure (PV.move rfl) rfl (by decide) ?_
                  refine TL.pure (PV.lenG rfl hhA Tb.sl_25) rfl (by decide) ?_
                  refine TL.pure (PV.fieldAddr rfl Tb.fo_43_0) rfl (by decide) ?_
                  refine TL.pure (PV.load rfl Tb.one_25 (by repeat (first | exact List.Mem.head _ | refine List.Mem.tail _ ?_ | refine List.mem_append_right _ ?_)) rfl) rfl (by decide) ?_
                  refine TL.pure (PV.len rfl Tb.sl_25) rfl (by decide) ?_
                  refine TL.pure (PV.neq rfl rfl) rfl (by decide) ?_
                  refine TL.pure (PV.pickF rfl rfl) rfl (by decide) ?_
                  refine TL.nil ?_
                  refine TQ.thenC ?_
                  first | refine TC.condD rfl (fun h8 => ?_) (fun h8 => ?_) | refine TC.cond rfl (fun h8 => ?_) (fun h8 => ?_)
                  · skip
                    refine TC.seq ?_
                    refine TC.region ?_
                    refine TL.pure (PV.assign rfl) rfl (by decide) ?_
                    refine TL.nil ?_
                    refine TQ.thenC ?_
                    refine TC.ret ?_
                    refine TQ.thenR ?_
                    refine TQ.retE1 rfl rfl ?_
                    first | exact ⟨(), rfl, trivial, List.nil_sublist _⟩ | (exfalso; simp_all; done)
                  · skip
                    refine TC.skip ?_
                    refine TQ.thenC ?_
                    refine TC.seq ?_
                    refine TC.seq ?_
                    refine TC.region ?_
                    refine TL.pure (PV.assign rfl) rfl (by decide) ?_
                    refine TL.nil ?_
                    refine TQ.thenC ?_
                    refine TC.block ?_
                    -- live and written in the loop, not told: [6]
                    refine TC.lit [(2, _), (3, _), (4, _), (7, _), (12, _), (14, _)] (by repeat (first | exact True.intro | refine And.intro rfl ?_)) ?_
                    refine TC.loopK [2, 3, 4, 7, 12] (X := Nat) (fun k => k ≤ xs.length) (fun k => [(14, .int .i64 k)]) (fun k => gbI (hE, (effN ss (cntN ss.length ls) xs.length)) ++ (gbI (hC, cntN ss.length ls) ++ (gbI (hA, (runR n ss xs ls).1) ++ [(b1, Obj.cells #[.slice pl xs.length cl, .slice p2 ys.length c2] 43 (0, 0)), (b0, Obj.cells #[.int .i64 n, .slice p ss.length cp] 24 (0, 0))]))) (fun k => xs.length - k) 0 (Nat.zero_le _) (by repeat (first | exact True.intro | refine And.intro rfl ?_)) (List.Sublist.refl _) ?_
                    intro k hk
                    refine TC.lit [(2, _), (3, _), (4, _), (7, _), (12, _), (14, _)] (by repeat (first | exact True.intro | refine And.intro rfl ?_)) ?_
                    refine TC.seq ?_
                    refine TC.seq ?_
                    refine TC.region ?_
                    refine TL.pure (PV.move rfl) rfl (by decide) ?_
                    refine TL.pure (PV.move rfl) rfl (by decide) ?_
                    refine TL.pure (PV.lenG rfl hhA Tb.sl_25) rfl (by decide) ?_
                    refine TL.pure (PV.lss rfl rfl) rfl (by decide) ?_
                    refine TL.nil ?_
                    refine TQ.thenC ?_
                    first | refine TC.condD rfl (fun hlt => ?_) (fun hlt => ?_) | refine TC.cond rfl (fun hlt => ?_) (fun hlt => ?_)
                    · skip
                      refine TC.skip ?_
                      refine TQ.thenC ?_
                      refine TC.seq ?_
                      refine TC.block ?_
                      refine TC.seq ?_
                      obtain ⟨q1, hq1p, hq1⟩ := hx k (by omega)
                      have hea : (effN ss (cntN ss.length ls) xs.length).getD k 0 = efS ss (cntN ss.length ls) ss.length k := by unfold effN; rw [mk_at _ (by omega)]
                      have heq := hrk.eq k
                      have hb1 := hrk.vm.mb k
                      have hb2 := hrk.vme.mb k
                      refine TC.mixV [true, true, true, true, true, true, true, true, true, true, true, true, true, true, true] _ 15 Tb.mixed rfl (by kernel_rfl) (by kernel_rfl) (by kernel_rfl) (by kernel_rfl) (List.Sublist.refl _) ?_
                      refine TV.virt 0 rfl rfl (by decide) rfl (by kernel_rfl) (SOK.pure (PV.move rfl) rfl) ?_
                      refine TV.virt 1 rfl rfl (by decide) rfl (by kernel_rfl) (SOK.pure (PV.move rfl) rfl) ?_
                      refine TV.virt 2 rfl rfl (by decide) rfl (by kernel_rfl) (SOK.pure (PV.indexG (j := k) rfl rfl hhA Tb.elm_25 rfl (by omega)) rfl) ?_
                      refine TV.virt 3 rfl rfl (by decide) rfl (by kernel_rfl) (SOK.pure (PV.loadGI (y := (hA, (runR n ss xs ls).1)) (j := k) (v := (runR n ss xs ls).1.getD k 0) rfl Tb.one_3 (fun yy hyy => by repeat (first | exact List.mem_append_left _ hyy | exact List.mem_append_left _ (List.mem_append_right _ hyy) | exact List.mem_append_left _ (List.mem_append_left _ hyy) | refine List.mem_append_right _ ?_ | refine List.Mem.tail _ ?_)) hhA (by show k < (runR n ss xs ls).1.length; omega) rfl) rfl) ?_
                      refine TV.virt 4 rfl rfl (by decide) rfl (by kernel_rfl) (SOK.pure (PV.fieldAddr rfl Tb.fo_43_0) rfl) ?_
                      refine TV.virt 5 rfl rfl (by decide) rfl (by kernel_rfl) (SOK.pure (PV.load rfl Tb.one_25 (by repeat (first | exact List.Mem.head _ | refine List.Mem.tail _ ?_ | refine List.mem_append_right _ ?_)) rfl) rfl) ?_
                      refine TV.virt 6 rfl rfl (by decide) rfl (by kernel_rfl) (SOK.pure (PV.move rfl) rfl) ?_
                      refine TV.virt 7 rfl rfl (by decide) rfl (by kernel_rfl) (SOK.pure (PV.indexA rfl hq1p rfl Tb.elm_25 rfl (by omega)) rfl) ?_
                      refine TV.virt 8 rfl rfl (by decide) rfl (by kernel_rfl) (SOK.pure (PV.loadOld rfl Tb.one_3 hq1) rfl) ?_
                      refine TV.virt 9 rfl rfl (by decide) rfl (by kernel_rfl) (SOK.pure (PV.move rfl) rfl) ?_
                      refine TV.virt 10 rfl rfl (by decide) rfl (by kernel_rfl) (SOK.pure (PV.move rfl) rfl) ?_
                      refine TV.virt 11 rfl rfl (by decide) rfl (by kernel_rfl) (SOK.pure (PV.indexG (j := k) rfl rfl hhE Tb.elm_25 rfl (by omega)) rfl) ?_
                      refine TV.virt 12 rfl rfl (by decide) rfl (by kernel_rfl) (SOK.pure (PV.loadGI (y := (hE, (effN ss (cntN ss.length ls) xs.length))) (j := k) (v := efS ss (cntN ss.length ls) ss.length k) rfl Tb.one_3 (fun yy hyy => by repeat (first | exact List.mem_append_left _ hyy | exact List.mem_append_left _ (List.mem_append_right _ hyy) | exact List.mem_append_left _ (List.mem_append_left _ hyy) | refine List.mem_append_right _ ?_ | refine List.Mem.tail _ ?_)) hhE (by show k < (effN ss (cntN ss.length ls) xs.length).length; omega) hea) rfl) ?_
                      refine TV.virt 13 rfl rfl (by decide) rfl (by kernel_rfl) (SOK.pure (PV.add rfl rfl (by omega)) rfl) ?_
                      refine TV.virt 14 rfl rfl (by decide) rfl (by kernel_rfl) (SOK.pure (PV.neq rfl rfl) rfl) ?_
                      refine TV.done (by kernel_rfl) ?_
                      refine TQ.thenC ?_
                      first | refine TC.condD rfl (fun hne => ?_) (fun hne => ?_) | refine TC.cond rfl (fun hne => ?_) (fun hne => ?_)
                      · skip
                        refine TC.seq ?_
                        refine TC.region ?_
                        refine TL.pure (PV.assign rfl) rfl (by decide) ?_
                        refine TL.nil ?_
                        refine TQ.thenC ?_
                        refine TC.ret ?_
                        refine TQ.blkR ?_
                        refine TQ.thenR ?_
                        refine TQ.thenR ?_
                        refine TQ.blkR ?_
                        refine TQ.thenR ?_
                        refine TQ.retE1 rfl rfl ?_
                        first | exact ⟨(), rfl, trivial, List.nil_sublist _⟩ | (exfalso; simp_all; done)
                      · skip
                        refine TC.skip ?_
                        refine TQ.blkN ?_
                        refine TQ.thenC ?_
                        refine TC.region ?_
                        refine TL.pure (PV.move rfl) rfl (by decide) ?_
                        refine TL.pure (PV.add rfl rfl (by omega)) rfl (by decide) ?_
                        refine TL.pure (PV.assign rfl) rfl (by decide) ?_
                        refine TL.nil ?_
                        refine TQ.thenN ?_
                        refine TQ.backK (k + 1) (by repeat (first | exact True.intro | refine And.intro rfl ?_)) (by repeat (first | exact True.intro | refine And.intro rfl ?_)) (List.Sublist.refl _) (by omega) (by omega)
                    · skip
                      refine TC.exit ?_
                      refine TQ.thenE ?_
                      refine TQ.thenE ?_
                      refine TQ.blkS ?_
                      refine TQ.thenC ?_
                      refine TC.seq ?_
                      refine TC.seq ?_
                      refine TC.region ?_
                      refine TL.pure (PV.fieldAddr rfl Tb.fo_43_1) rfl (by decide) ?_
                      refine TL.pure (PV.load rfl Tb.one_25 (by repeat (first | exact List.Mem.head _ | refine List.Mem.tail _ ?_ | refine List.mem_append_right _ ?_)) rfl) rfl (by decide) ?_
                      refine TL.pure (PV.len rfl Tb.sl_25) rfl (by decide) ?_
                      refine TL.pure (PV.fieldAddr rfl Tb.fo_43_0) rfl (by decide) ?_
                      refine TL.pure (PV.load rfl Tb.one_25 (by repeat (first | exact List.Mem.head _ | refine List.Mem.tail _ ?_ | refine List.mem_append_right _ ?_)) rfl) rfl (by decide) ?_
                      refine TL.pure (PV.len rfl Tb.sl_25) rfl (by decide) ?_
                      refine TL.pure (PV.neq rfl rfl) rfl (by decide) ?_
                      refine TL.nil ?_
                      refine TQ.thenC ?_
                      first | refine TC.condD rfl (fun hln => ?_) (fun hln => ?_) | refine TC.cond rfl (fun hln => ?_) (fun hln => ?_)
                      · skip
                        refine TC.seq ?_
                        refine TC.region ?_
                        refine TL.call rfl Tb.gofn_19 (fun a w hs => known_ok w) rfl (by decide) (fun _ _ => ?_)
                        refine TL.pure (PV.assign rfl) rfl (by decide) ?_
                        refine TL.nil ?_
                        refine TQ.thenC ?_
                        refine TC.ret ?_
                        refine TQ.thenR ?_
                        refine TQ.retE1 rfl rfl ?_
                        first | exact ⟨(), rfl, trivial, List.nil_sublist _⟩ | (exfalso; simp_all; done)
                      · skip
                        refine TC.skip ?_
                        refine TQ.thenC ?_
                        refine TC.seq ?_
                        refine TC.region ?_
                        refine TL.pure (PV.assign rfl) rfl (by decide) ?_
                        refine TL.nil ?_
                        refine TQ.thenC ?_
                        refine TC.seq ?_
                        refine TC.seq ?_
                        refine TC.region ?_
                        refine TL.pure (PV.assign rfl) rfl (by decide) ?_
                        refine TL.nil ?_
                        refine TQ.thenC ?_
                        refine TC.block ?_
                        refine TC.lit [(2, _), (3, _), (4, _), (15, _), (16, _)] (by repeat (first | exact True.intro | refine And.intro rfl ?_)) ?_
                        refine TC.loopK [2, 3, 4, 6] (X := Nat × HD) (fun x => x.1 ≤ xs.length ∧ goI (x.2, mk x.1 (maxL xs ys))) (fun x => [(16, .int .i64 x.1), (15, gval x.2 x.1)]) (fun x => gbI (x.2, mk x.1 (maxL xs ys)) ++ [(b1, Obj.cells #[.slice pl xs.length cl, .slice p2 ys.length c2] 43 (0, 0)), (b0, Obj.cells #[.int .i64 n, .slice p ss.length cp] 24 (0, 0))]) (fun x => xs.length - x.1) (0, none) ⟨Nat.zero_le _, goI_nil⟩ (by repeat (first | exact True.intro | refine And.intro rfl ?_)) (List.Sublist.trans (List.Sublist.trans (List.sublist_append_right _ _) (List.sublist_append_right _ _)) (List.sublist_append_right _ _)) ?_
                        intro x hx9
                        refine TC.lit [(2, _), (3, _), (4, _), (15, _), (16, _)] (by repeat (first | exact True.intro | refine And.intro rfl ?_)) ?_
                        refine TC.seq ?_
                        refine TC.seq ?_
                        refine TC.region ?_
                        refine TL.pure (PV.move rfl) rfl (by decide) ?_
                        refine TL.pure (PV.fieldAddr rfl Tb.fo_43_0) rfl (by decide) ?_
                        refine TL.pure (PV.load rfl Tb.one_25 (by repeat (first | exact List.Mem.head _ | refine List.Mem.tail _ ?_ | refine List.mem_append_right _ ?_)) rfl) rfl (by decide) ?_
                        refine TL.pure (PV.len rfl Tb.sl_25) rfl (by decide) ?_
                        refine TL.pure (PV.lss rfl rfl) rfl (by decide) ?_
                        refine TL.nil ?_
                        refine TQ.thenC ?_
                        first | refine TC.condD rfl (fun hlt2 => ?_) (fun hlt2 => ?_) | refine TC.cond rfl (fun hlt2 => ?_) (fun hlt2 => ?_)
                        · skip
                          refine TC.skip ?_
                          refine TQ.thenC ?_
                          refine TC.seq ?_
                          refine TC.block ?_
                          obtain ⟨q1, hq1p, hq1⟩ := hx x.1 (by omega)
                          obtain ⟨q2, hq2p, hq2⟩ := hy x.1 (by omega)
                          refine TC.mixE [false, true, true, true, true, true, true, true, true, true, true, true, false, false, false] [(b1, Obj.cells #[.slice pl xs.length cl, .slice p2 ys.length c2] 43 (0, 0))] 4 Tb.mixed rfl (by kernel_rfl) (by kernel_rfl) (by kernel_rfl) (by kernel_rfl) (by repeat (first | exact List.Sublist.slnil | exact List.nil_sublist _ | exact List.Sublist.refl _ | refine List.Sublist.cons_cons _ ?_ | refine List.Sublist.cons _ ?_ | refine List.Sublist.trans ?_ (List.sublist_append_right _ _))) ?_
                          refine TY.no ?_
                          refine TY.op (SOK.pure (PV.fieldAddr rfl Tb.fo_43_0) rfl) (by decide) ?_
                          refine TY.op (SOK.pure (PV.load rfl Tb.one_25 (by repeat (first | exact List.Mem.head _ | refine List.Mem.tail _ ?_ | refine List.mem_append_right _ ?_)) rfl) rfl) (by decide) ?_
                          refine TY.op (SOK.pure (PV.move rfl) rfl) (by decide) ?_
                          refine TY.op (SOK.pure (PV.indexA rfl hq1p rfl Tb.elm_25 rfl (by omega)) rfl) (by decide) ?_
                          refine TY.op (SOK.pure (PV.loadOld rfl Tb.one_3 hq1) rfl) (by decide) ?_
                          refine TY.op (SOK.pure (PV.fieldAddr rfl Tb.fo_43_1) rfl) (by decide) ?_
                          refine TY.op (SOK.pure (PV.load rfl Tb.one_25 (by repeat (first | exact List.Mem.head _ | refine List.Mem.tail _ ?_ | refine List.mem_append_right _ ?_)) rfl) rfl) (by decide) ?_
                          refine TY.op (SOK.pure (PV.move rfl) rfl) (by decide) ?_
                          refine TY.op (SOK.pure (PV.indexA rfl hq2p rfl Tb.elm_25 rfl (by omega)) rfl) (by decide) ?_
                          refine TY.op (SOK.pure (PV.loadOld rfl Tb.one_3 hq2) rfl) (by decide) ?_
                          refine TY.op (SOK.pure (PV.max rfl rfl Tb.int_3) rfl) (by decide) ?_
                          refine TY.no ?_
                          refine TY.no ?_
                          refine TY.no ?_
                          refine TY.fin ?_
                          refine TX.step [0, 12] (by kernel_rfl) (by decide) ⟨⟨_, rfl, ?_⟩, ⟨_, rfl, ?_⟩, trivial⟩
                          · skip
                            refine TL.pure (PV.move rfl) rfl (by decide) ?_
                            refine TL.nil ?_
                            refine TX.next (.inl (by repeat (first | exact List.Sublist.slnil | exact List.nil_sublist _ | exact List.Sublist.refl _ | refine List.Sublist.cons_cons _ ?_ | refine List.Sublist.cons _ ?_ | refine List.Sublist.trans ?_ (List.sublist_append_right _ _)))) ?_
                            refine TX.step [12] (by kernel_rfl) (by decide) ⟨⟨_, rfl, ?_⟩, trivial⟩
                            refine TL.buildSlice (cs := #[.int .i64 (maxL xs ys x.1)]) rfl Tb.sl_25 Tb.zi_3 (by decide) (fill_i _) (by decide) rfl (by decide) (fun bE hbE => ?_)
                            refine TL.nil ?_
                            refine TX.next (.inl (by repeat (first | exact List.Sublist.slnil | exact List.nil_sublist _ | exact List.Sublist.refl _ | refine List.Sublist.cons_cons _ ?_ | refine List.Sublist.cons _ ?_ | refine List.Sublist.trans ?_ (List.sublist_append_right _ _)))) ?_
                            refine TX.step [13] (by kernel_rfl) (by decide) ⟨⟨_, rfl, ?_⟩, trivial⟩
                            refine TL.appendI (x0 := (x.2, mk x.1 (maxL xs ys))) (by show some (gval x.2 x.1) = some (gval x.2 (mk x.1 _).length); rw [mk_len]) rfl (by repeat (first | exact List.Mem.head _ | refine List.Mem.tail _ ?_ | refine List.mem_append_right _ ?_)) hx9.2 (by repeat (first | exact TakeH.here _ _ _ _ | apply TakeH.tail | apply TakeH.app)) (by show (mk x.1 _).length ≤ 1000000; rw [mk_len]; omega) rfl (by decide) (fun hh hho => ?_)
                            refine TL.nil ?_
                            refine TX.next (.inl (by repeat (first | exact List.Sublist.slnil | exact List.nil_sublist _ | exact List.Sublist.refl _ | refine List.Sublist.cons_cons _ ?_ | refine List.Sublist.cons _ ?_ | refine List.Sublist.trans ?_ (List.sublist_append_right _ _)))) ?_
                            refine TX.step [14] (by kernel_rfl) (by decide) ⟨⟨_, rfl, ?_⟩, trivial⟩
                            refine TL.pure (PV.assign rfl) rfl (by decide) ?_
                            refine TL.nil ?_
                            refine TX.next (.inr (by kernel_rfl)) ?_
                            refine TX.done (by kernel_rfl) ?_
                            refine TQ.blkN ?_
                            refine TQ.thenC ?_
                            refine TC.region ?_
                            refine TL.pure (PV.move rfl) rfl (by decide) ?_
                            refine TL.pure (PV.add rfl rfl (by omega)) rfl (by decide) ?_
                            refine TL.pure (PV.assign rfl) rfl (by decide) ?_
                            refine TL.nil ?_
                            refine TQ.thenN ?_
                            refine TQ.backK (x.1 + 1, hh) (And.intro rfl (And.intro (by show some (gval hh (mk x.1 _ ++ [_]).length) = some (gval hh (x.1 + 1)); rw [List.length_append, mk_len]; rfl) True.intro)) (by repeat (first | exact True.intro | refine And.intro rfl ?_)) (by simp only [mk_succ]; exact List.Sublist.append_left (List.sublist_cons_self _ _) _) ⟨by simp only; omega, by simp only; rw [mk_succ]; exact hho⟩ (by simp only; omega)
                          · skip
                            refine TL.buildSlice (cs := #[.int .i64 (maxL xs ys x.1)]) rfl Tb.sl_25 Tb.zi_3 (by decide) (fill_i _) (by decide) rfl (by decide) (fun bE hbE => ?_)
                            refine TL.nil ?_
                            refine TX.next (.inl (by repeat (first | exact List.Sublist.slnil | exact List.nil_sublist _ | exact List.Sublist.refl _ | refine List.Sublist.cons_cons _ ?_ | refine List.Sublist.cons _ ?_ | refine List.Sublist.trans ?_ (List.sublist_append_right _ _)))) ?_
                            refine TX.step [0] (by kernel_rfl) (by decide) ⟨⟨_, rfl, ?_⟩, trivial⟩
                            refine TL.pure (PV.move rfl) rfl (by decide) ?_
                            refine TL.nil ?_
                            refine TX.next (.inl (by repeat (first | exact List.Sublist.slnil | exact List.nil_sublist _ | exact List.Sublist.refl _ | refine List.Sublist.cons_cons _ ?_ | refine List.Sublist.cons _ ?_ | refine List.Sublist.trans ?_ (List.sublist_append_right _ _)))) ?_
                            refine TX.step [13] (by kernel_rfl) (by decide) ⟨⟨_, rfl, ?_⟩, trivial⟩
                            refine TL.appendI (x0 := (x.2, mk x.1 (maxL xs ys))) (by show some (gval x.2 x.1) = some (gval x.2 (mk x.1 _).length); rw [mk_len]) rfl (by repeat (first | exact List.Mem.head _ | refine List.Mem.tail _ ?_ | refine List.mem_append_right _ ?_)) hx9.2 (by repeat (first | exact TakeH.here _ _ _ _ | apply TakeH.tail | apply TakeH.app)) (by show (mk x.1 _).length ≤ 1000000; rw [mk_len]; omega) rfl (by decide) (fun hh hho => ?_)
                            refine TL.nil ?_
                            refine TX.next (.inl (by repeat (first | exact List.Sublist.slnil | exact List.nil_sublist _ | exact List.Sublist.refl _ | refine List.Sublist.cons_cons _ ?_ | refine List.Sublist.cons _ ?_ | refine List.Sublist.trans ?_ (List.sublist_append_right _ _)))) ?_
                            refine TX.step [14] (by kernel_rfl) (by decide) ⟨⟨_, rfl, ?_⟩, trivial⟩
                            refine TL.pure (PV.assign rfl) rfl (by decide) ?_
                            refine TL.nil ?_
                            refine TX.next (.inr (by kernel_rfl)) ?_
                            refine TX.done (by kernel_rfl) ?_
                            refine TQ.blkN ?_
                            refine TQ.thenC ?_
                            refine TC.region ?_
                            refine TL.pure (PV.move rfl) rfl (by decide) ?_
                            refine TL.pure (PV.add rfl rfl (by omega)) rfl (by decide) ?_
                            refine TL.pure (PV.assign rfl) rfl (by decide) ?_
                            refine TL.nil ?_
                            refine TQ.thenN ?_
                            refine TQ.backK (x.1 + 1, hh) (And.intro rfl (And.intro (by show some (gval hh (mk x.1 _ ++ [_]).length) = some (gval hh (x.1 + 1)); rw [List.length_append, mk_len]; rfl) True.intro)) (by repeat (first | exact True.intro | refine And.intro rfl ?_)) (by simp only [mk_succ]; exact List.Sublist.append_left (List.sublist_cons_self _ _) _) ⟨by simp only; omega, by simp only; rw [mk_succ]; exact hho⟩ (by simp only; omega)
                        · skip
                          refine TC.exit ?_
                          refine TQ.thenE ?_
                          refine TQ.thenE ?_
                          refine TQ.blkS ?_
                          refine TQ.thenC ?_
                          refine TC.seq ?_
                          refine TC.region ?_
                          refine TL.pure (PV.loadBox rfl Tb.agg_24 (by repeat (first | exact List.Mem.head _ | refine List.Mem.tail _ ?_ | refine List.mem_append_right _ ?_)) rfl) rfl (by decide) ?_
                          refine TL.pure (PV.move rfl) rfl (by decide) ?_
                          refine TL.pure (PV.move rfl) rfl (by decide) ?_
                          refine TL.call rfl Tb.gofn_27 (fun a w hs => Run_ok w _ _ _ _ (hr.new hs.new) hS _ (mk x.1 (maxL xs ys)) (IsI.gl (mk_len _ _) hs.new (fun yy hyy => by repeat (first | exact List.mem_append_left _ hyy | exact List.mem_append_left _ (List.mem_append_right _ hyy) | exact List.mem_append_left _ (List.mem_append_left _ hyy) | refine List.mem_append_right _ ?_ | refine List.Mem.tail _ ?_)) hx9.2) (by rw [mk_len]; omega) _ _ (IsI.of (hz.new hs.new)) hll) rfl (by decide) (fun hR hhR => ?_)
                          refine TL.pure (PV.move rfl) rfl (by decide) ?_
                          refine TL.pure (PV.extract rfl rfl) rfl (by decide) ?_
                          refine TL.pure (PV.extract rfl rfl) rfl (by decide) ?_
                          refine TL.pure (PV.extract rfl rfl) rfl (by decide) ?_
                          refine TL.pure (PV.assign rfl) rfl (by decide) ?_
                          refine TL.pure (PV.assign rfl) rfl (by decide) ?_
                          refine TL.pure (PV.assign rfl) rfl (by decide) ?_
                          refine TL.nil ?_
                          refine TQ.thenC ?_
                          refine TC.seq ?_
                          have hmo := run_more (ys := mk x.1 (maxL xs ys)) hrk (by rw [mk_len]; omega) (mk_max (by omega))
                          refine TC.region ?_
                          refine TL.pure (PV.move rfl) rfl (by decide) ?_
                          refine TL.pure (PV.neq rfl rfl) rfl (by decide) ?_
                          refine TL.pure (PV.move rfl) rfl (by decide) ?_
                          first | refine TL.splitD 143 rfl (fun h13 => ?_) (fun h13 => ?_) | refine TL.split 143 rfl (fun h13 => ?_) (fun h13 => ?_)
                          · skip
                            refine TL.call rfl Tb.gofn_19 (fun a w hs => known_ok w) rfl (by decide) (fun _ _ => ?_)
                            refine TL.pure (PV.pickT rfl rfl) rfl (by decide) ?_
                            refine TL.pure (PV.assign rfl) rfl (by decide) ?_
                            refine TL.nil ?_
                            refine TQ.thenC ?_
                            refine TC.ret ?_
                            refine TQ.retE1 rfl rfl ?_
                            first | exact ⟨(), rfl, trivial, List.nil_sublist _⟩ | (exfalso; simp_all; done)
                          · skip
                            refine TL.skip rfl (fun k hk => by cases hk; decide) ?_
                            refine TL.pure (PV.pickF rfl rfl) rfl (by decide) ?_
                            refine TL.pure (PV.assign rfl) rfl (by decide) ?_
                            refine TL.nil ?_
                            refine TQ.thenC ?_
                            refine TC.ret ?_
                            refine TQ.retE1 rfl rfl ?_
                            first | exact ⟨(), rfl, trivial, List.nil_sublist _⟩ | (exfalso; simp_all; done)

end Go.Proofs.Ytkkipbkkijoneaa
