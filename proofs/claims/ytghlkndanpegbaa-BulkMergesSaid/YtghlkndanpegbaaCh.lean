/- Stores merged, by the reference: contract. -/
import Derived.Test.YtghlkndanpegbaaCg
set_option linter.unusedVariables false
set_option linter.unusedSimpArgs false
namespace Go.Proofs.Ytghlkndanpegbaa
open Go.Sx Go.RowKit Go.Sand Go.Tp

def cn (j k : Nat) : Nat := if k ≤ j then k else k - 1
theorem cn_up {j k : Nat} (h : k ≠ j) : up j (cn j k) = k := by
  unfold up cn
  split <;> split <;> omega
theorem cn_succ {j k : Nat} (h : k ≠ j) : cn j (k + 1) = cn j k + 1 := by
  unfold cn
  split <;> split <;> omega
theorem cn_same {j k : Nat} (h : k = j) : cn j (k + 1) = cn j k := by
  unfold cn
  split <;> split <;> omega
theorem cn_fin {j S : Nat} (h : j < S) : cn j S = S - 1 := by
  unfold cn
  split <;> omega
theorem cn_le (j k : Nat) : cn j k ≤ k := by
  unfold cn
  split <;> omega
theorem cn_lt {j k S : Nat} (h : k ≠ j) (hk : k < S) (hj : j < S) : cn j k < S - 1 := by
  unfold cn
  split <;> omega
def lnM (t : Td) (k j q : Nat) : Nat → Int := fun b => if b < q then min (getM t.c k b) (getM t.c j b) else getM t.c k b
theorem lnM_0 (t : Td) (k j n : Nat) : mk n (lnM t k j 0) = mk n (getM t.c k) := mk_congr fun b _ => if_neg (Nat.not_lt_zero b)
theorem lnM_at {t : Td} {k j q : Nat} : lnM t k j q q = getM t.c k q := if_neg (Nat.lt_irrefl q)
theorem lnM_set {t : Td} {k j q n : Nat} (h : q < n) : (mk n (lnM t k j q)).set q (min (getM t.c k q) (getM t.c j q)) = mk n (lnM t k j (q + 1)) := by
  refine mk_set h (by unfold lnM; rw [if_pos (by omega)]) fun b hb hne => ?_
  unfold lnM
  by_cases h2 : b < q
  · rw [if_pos h2, if_pos (by omega)]
  · rw [if_neg h2, if_neg (by omega)]
theorem row_i {t : Td} {i j k : Nat} (hk : k ≠ j) (h : k = i) : mk t.d.length (lnM t k j t.d.length) = mk t.d.length (merM t i j (cn j k)) := mk_congr fun b hb => by
  unfold lnM merM
  rw [if_pos hb, cn_up hk, if_pos h, h]
theorem row_k {t : Td} {i j k : Nat} (hk : k ≠ j) (h : k ≠ i) : mk t.d.length (getM t.c k) = mk t.d.length (merM t i j (cn j k)) := mk_congr fun b hb => by
  unfold merM
  rw [cn_up hk, if_neg h]
theorem sto_i {t : Td} {i j k : Nat} (hk : k ≠ j) (h : k = i) : t.s.getD k 0 + t.s.getD j 0 = merS t i j (cn j k) := by
  unfold merS
  rw [cn_up hk, if_pos h]
theorem sto_k {t : Td} {i j k : Nat} (hk : k ≠ j) (h : k ≠ i) : t.s.getD k 0 = merS t i j (cn j k) := by
  unfold merS
  rw [cn_up hk, if_neg h, Int.add_zero]
theorem up_lt {j q S : Nat} (hq : q < S - 1) : up j q < S := by
  unfold up
  split <;> omega
theorem up_ne {j q : Nat} : up j q ≠ j := by
  unfold up
  split <;> omega
theorem mer_sum {t : Td} {i j : Nat} (hi : i < t.s.length) (hj : j < t.s.length) (hij : i ≠ j) : (sm (t.s.length - 1) (merS t i j)) = sm t.s.length fun k => t.s.getD k 0 := by
  obtain ⟨n, hn⟩ : ∃ n, t.s.length = n + 1 := ⟨t.s.length - 1, by omega⟩
  rw [hn]
  show sm (n + 1 - 1) _ = _
  rw [show n + 1 - 1 = n by omega, sm_up (j := j) (n := n) (by omega)]
  unfold merS
  rw [sm_add]
  congr 1
  have h2 : cn j i < n := by have := cn_lt hij hi hj; omega
  rw [sm_at h2 (fun q hq hne => if_neg fun h => hne (by rw [← h]; unfold cn up; split <;> split <;> omega))]
  rw [if_pos (cn_up hij)]
theorem merT_vt {t : Td} {i j : Nat} (hV : VT t) (hi : i < t.s.length) (hj : j < t.s.length) (hij : i ≠ j) (hc : Ck (merT t i j)) : VT (merT t i j) := by
  have hns := hV.ns
  have eS : (merT t i j).s.length = t.s.length - 1 := mk_len _ _
  refine ⟨by rw [eS]; omega, hV.nd, fun k hk => ⟨?_, hc.1 k hk⟩, hV.d, ?_, ?_⟩
  · rw [eS] at hk
    show 0 ≤ (mk _ _).getD k 0
    rw [mk_at _ hk]
    unfold merS
    have h1 := hV.s (up j k) (up_lt hk)
    have h2 := hV.s j hj
    split <;> omega
  · show sumI (mk _ _) = sumI t.d
    rw [← hV.sum]
    unfold sumI
    rw [mk_len, ← mer_sum hi hj hij]
    exact sm_congr fun k hk => mk_at _ hk
  · rw [eS]
    refine ⟨tab_len _ _ _, fun p hp => by show ((tabL _ _ _).getD p []).length = _; rw [tab_row _ hp, mk_len]; rfl, fun p q hp hq => ?_⟩
    show 0 ≤ getM (tabL _ _ _) p q ∧ getM (tabL _ _ _) p q ≤ 99
    rw [tab_at (B := t.d.length) _ hp hq]
    have h1 := hV.c.bd (up j p) q (up_lt hp) hq
    have h2 := hV.c.bd i q hi hq
    have h3 := hV.c.bd j q hj hq
    unfold merM
    split <;> omega
theorem merT_ck {t : Td} {i j : Nat} (h : VT (merT t i j)) : Ck (merT t i j) := ⟨fun j hj => (h.s j hj).2, fun j hj => (h.d j hj).2⟩
theorem merT_mn {t : Td} {i j : Nat} (hV : VT t) (hi : i < t.s.length) (hj : j < t.s.length) (hij : i ≠ j) (hc : Ck (merT t i j)) : mnI (merT t i j) ≤ mnI t := by
  have eS : (merT t i j).s.length = t.s.length - 1 := mk_len _ _
  have k1 := mn_is hV
  have k3 := mn_is (merT_vt hV hi hj hij hc)
  unfold MnT at k1 k3
  rw [eS] at k3
  obtain ⟨n, hn⟩ : ∃ n, t.s.length = n + 1 := ⟨t.s.length - 1, by omega⟩
  rw [hn] at k1
  rw [show t.s.length - 1 = n by omega] at k3
  refine Mn.merge (i := i) (j := j) (by omega) (by omega) hij k1 k3 (fun k hk => ?_) (fun k q hk hq => ?_)
  · show (mk _ _).getD k 0 = _
    rw [mk_at _ (by omega)]
    rfl
  · show getM (tabL _ _ _) k q ≤ _ ∧ (_ → getM (tabL _ _ _) k q ≤ _)
    rw [tab_at (B := t.d.length) _ (by omega) hq]
    unfold merM
    by_cases h : up j k = i
    · rw [if_pos h, h]
      exact ⟨by omega, fun _ => by omega⟩
    · rw [if_neg h]
      exact ⟨Int.le_refl _, fun h2 => absurd h2 h⟩
theorem mer_l {t : Td} {ii jj : Int} (h : (merR t ii jj).2 = 0) : ∃ a, lstR (merR t ii jj).1 = (a, 0) ∧ lstR t = (mnI t, 0) ∧ a ≤ mnI t := by
  by_cases h1 : validI t ≠ 0
  · rw [mer_v h1] at h; exact absurd h h1
  · by_cases h2 : (0 ≤ ii ∧ ii < t.s.length) ∧ 0 ≤ jj ∧ jj < t.s.length
    · obtain ⟨i, rfl⟩ : ∃ k : Nat, ii = (k : Int) := ⟨ii.toNat, by omega⟩
      obtain ⟨j, rfl⟩ : ∃ k : Nat, jj = (k : Int) := ⟨jj.toNat, by omega⟩
      have hi : i < t.s.length := by omega
      have hj : j < t.s.length := by omega
      by_cases h3 : i = j
      · rw [mer_1 h1 h2 (by omega)] at h; cases h
      · by_cases h4 : Ck (merT t i j)
        · have hV := vt_of h1
          refine ⟨mnI (merT t i j), ?_, if_neg h1, merT_mn hV hi hj h3 h4⟩
          rw [mer_y h1 hi hj h3 h4]
          unfold lstR
          rw [if_neg (by rw [(merT_vt hV hi hj h3 h4).v]; decide)]
        · rw [mer_n h1 hi hj h3 h4] at h; cases h
    · rw [mer_4 h1 h2] at h; cases h
theorem mk_mem {b : Nat} {h : HD} {n : Nat} {f : Nat → Int} {G : Heap} (hm : (b, Obj.cells #[gval h n] 22 (0, 0)) ∈ G) : (b, Obj.cells #[gval h (mk n f).length] 22 (0, 0)) ∈ G := by
  rw [mk_len]
  exact hm
theorem fill1d {u : Value} (hu : u.cells = #[u]) : Instr.fill ([(0, 1), (1, 1), (2, 1)][·]?) #[.slice none 0 0, .slice none 0 0, .slice none 0 0] [(1, u)] = some #[.slice none 0 0, u, .slice none 0 0] := by
  simp [Instr.fill, hu]


set_option maxRecDepth 100000 in
set_option maxHeartbeats 16000000 in
theorem rMerge_ok (w0 : World) (vt : Value) (t : Td) (ht : IsT w0 vt t) (hT : SmT t) (ii jj : Int) :
    Calls Try.prog 53 #[vt, .int .i64 ii, .int .i64 jj] w0 (Post (X := Value × Heap) (fun y => .tuple #[y.1, .int .i64 (merR t ii jj).2]) (fun y => RdT (merR t ii jj).1 y) (fun y => y.2) w0) := by
  obtain ⟨p1, c1, p2, c2, p3, c3, rfl, t1, t2, t3⟩ := ht
  have hTd := hT.d
  refine calls Try.func53 rfl (n := 117) rfl (by simp) ?_
  refine TC.seq ?_
  refine TC.region ?_
  refine TL.box rfl rfl (by decide) (fun b0 hb0 => ?_)
  refine TL.alloc Tb.zero_25 rfl (by decide) (fun bo hbo => ?_)
  refine TL.pure (PV.assign rfl) rfl (by decide) ?_
  refine TL.nil ?_
  refine TQ.thenC ?_
  refine TC.seq ?_
  refine TC.region ?_
  refine TL.pure (PV.loadBox rfl Tb.agg_25 (by repeat (first | exact List.Mem.head _ | refine List.Mem.tail _ ?_ | refine List.mem_append_right _ ?_)) rfl) rfl (by decide) ?_
  refine TL.call rfl Tb.gofn_22 (fun a w hs => rvalidate_ok w _ t (IsT.mk (t1.new hs.new) (t2.new hs.new) (t3.new hs.new)) hT) rfl (by decide) (fun _ _ => ?_)
  refine TL.pure (PV.assign rfl) rfl (by decide) ?_
  refine TL.nil ?_
  refine TQ.thenC ?_
  refine TC.seq ?_
  refine TC.seq ?_
  refine TC.region ?_
  refine TL.pure (PV.move rfl) rfl (by decide) ?_
  refine TL.pure (PV.neq rfl rfl) rfl (by decide) ?_
  refine TL.nil ?_
  refine TQ.thenC ?_
  first | refine TC.condD rfl (fun a1 => ?_) (fun a1 => ?_) | refine TC.cond rfl (fun a1 => ?_) (fun a1 => ?_)
  · skip
    refine TC.seq ?_
    refine TC.region ?_
    refine TL.pure (PV.build rfl Tb.zero_25 Tb.pl_25 rfl) rfl (by decide) ?_
    refine TL.pure (PV.move rfl) rfl (by decide) ?_
    refine TL.storeAgg (vs := [.slice none 0 0, .slice none 0 0, .slice none 0 0]) rfl rfl Tb.cells_25 (by repeat (first | exact Upd.head _ | apply Upd.tail | apply Upd.appR)) rfl rfl rfl rfl rfl ?_
    refine TL.pure (PV.assign rfl) rfl (by decide) ?_
    refine TL.nil ?_
    refine TQ.thenC ?_
    refine TC.ret ?_
    refine TQ.thenR ?_
    refine TQ.retR rfl (Res.agg rfl Tb.agg_25 (by repeat (first | exact List.Mem.head _ | refine List.Mem.tail _ ?_ | refine List.mem_append_right _ ?_)) rfl (Res.tmp rfl Res.nil)) ?_
    simp only [tup]
    exact ⟨(nilV, []), by rw [mer_v a1]; rfl, by rw [mer_v a1]; exact RdT.nil, List.nil_sublist _⟩
  · skip
    refine TC.skip ?_
    refine TQ.thenC ?_
    refine TC.seq ?_
    refine TC.seq ?_
    have hV := vt_of a1
    have hns := hV.ns
    have hnd := hV.nd
    refine TC.region ?_
    refine TL.pure (PV.move rfl) rfl (by decide) ?_
    refine TL.pure (PV.fieldAddr rfl Tb.fo_25_0) rfl (by decide) ?_
    refine TL.pure (PV.load rfl Tb.one_22 (by repeat (first | exact List.Mem.head _ | refine List.Mem.tail _ ?_ | refine List.mem_append_right _ ?_)) rfl) rfl (by decide) ?_
    refine TL.pure (PV.len rfl Tb.sl_22) rfl (by decide) ?_
    refine TL.pure (PV.sub rfl rfl (by omega)) rfl (by decide) ?_
    refine TL.call rfl Tb.gofn_73 (fun a w hs => within_ok w _ _ _) rfl (by decide) (fun _ _ => ?_)
    refine TL.pure ((by first | exact PV.notD rfl | exact PV.not rfl)) rfl (by decide) ?_
    refine TL.pure (PV.move rfl) rfl (by decide) ?_
    first | refine TL.splitD 27 rfl (fun a2 => ?_) (fun a2 => ?_) | refine TL.split 27 rfl (fun a2 => ?_) (fun a2 => ?_)
    · skip
      refine TL.skip rfl (fun k hk => by cases hk; decide) ?_
      refine TL.skip rfl (fun k hk => by cases hk; decide) ?_
      refine TL.skip rfl (fun k hk => by cases hk; decide) ?_
      refine TL.skip rfl (fun k hk => by cases hk; decide) ?_
      refine TL.skip rfl (fun k hk => by cases hk; decide) ?_
      refine TL.skip rfl (fun k hk => by cases hk; decide) ?_
      refine TL.skip rfl (fun k hk => by cases hk; decide) ?_
      refine TL.pure (PV.pickT rfl rfl) rfl (by decide) ?_
      refine TL.nil ?_
      refine TQ.thenC ?_
      refine TC.condT rfl ?_
      refine TC.seq ?_
      refine TC.region ?_
      refine TL.pure (PV.build rfl Tb.zero_25 Tb.pl_25 rfl) rfl (by decide) ?_
      refine TL.storeAgg (vs := [.slice none 0 0, .slice none 0 0, .slice none 0 0]) rfl rfl Tb.cells_25 (by repeat (first | exact Upd.head _ | apply Upd.tail | apply Upd.appR)) rfl rfl rfl rfl rfl ?_
      refine TL.pure (PV.assign rfl) rfl (by decide) ?_
      refine TL.nil ?_
      refine TQ.thenC ?_
      refine TC.ret ?_
      refine TQ.thenR ?_
      refine TQ.retR rfl (Res.agg rfl Tb.agg_25 (by repeat (first | exact List.Mem.head _ | refine List.Mem.tail _ ?_ | refine List.mem_append_right _ ?_)) rfl (Res.tmp rfl Res.nil)) ?_
      simp only [tup]
      exact ⟨(nilV, []), by rw [mer_4 a1 (by first | omega | (simp [wiB] at a2; omega) | (simp [wiB] at a3; omega))]; rfl, by rw [mer_4 a1 (by first | omega | (simp [wiB] at a2; omega) | (simp [wiB] at a3; omega))]; exact RdT.nil, List.nil_sublist _⟩
    · skip
      refine TL.pure (PV.move rfl) rfl (by decide) ?_
      refine TL.pure (PV.fieldAddr rfl Tb.fo_25_0) rfl (by decide) ?_
      refine TL.pure (PV.load rfl Tb.one_22 (by repeat (first | exact List.Mem.head _ | refine List.Mem.tail _ ?_ | refine List.mem_append_right _ ?_)) rfl) rfl (by decide) ?_
      refine TL.pure (PV.len rfl Tb.sl_22) rfl (by decide) ?_
      refine TL.pure (PV.sub rfl rfl (by omega)) rfl (by decide) ?_
      refine TL.call rfl Tb.gofn_73 (fun a w hs => within_ok w _ _ _) rfl (by decide) (fun _ _ => ?_)
      refine TL.pure ((by first | exact PV.notD rfl | exact PV.not rfl)) rfl (by decide) ?_
      refine TL.pure (PV.pickF rfl rfl) rfl (by decide) ?_
      refine TL.nil ?_
      refine TQ.thenC ?_
      first | refine TC.condD rfl (fun a3 => ?_) (fun a3 => ?_) | refine TC.cond rfl (fun a3 => ?_) (fun a3 => ?_)
      · skip
        refine TC.seq ?_
        refine TC.region ?_
        refine TL.pure (PV.build rfl Tb.zero_25 Tb.pl_25 rfl) rfl (by decide) ?_
        refine TL.storeAgg (vs := [.slice none 0 0, .slice none 0 0, .slice none 0 0]) rfl rfl Tb.cells_25 (by repeat (first | exact Upd.head _ | apply Upd.tail | apply Upd.appR)) rfl rfl rfl rfl rfl ?_
        refine TL.pure (PV.assign rfl) rfl (by decide) ?_
        refine TL.nil ?_
        refine TQ.thenC ?_
        refine TC.ret ?_
        refine TQ.thenR ?_
        refine TQ.retR rfl (Res.agg rfl Tb.agg_25 (by repeat (first | exact List.Mem.head _ | refine List.Mem.tail _ ?_ | refine List.mem_append_right _ ?_)) rfl (Res.tmp rfl Res.nil)) ?_
        simp only [tup]
        exact ⟨(nilV, []), by rw [mer_4 a1 (by first | omega | (simp [wiB] at a2; omega) | (simp [wiB] at a3; omega))]; rfl, by rw [mer_4 a1 (by first | omega | (simp [wiB] at a2; omega) | (simp [wiB] at a3; omega))]; exact RdT.nil, List.nil_sublist _⟩
      · skip
        refine TC.skip ?_
        refine TQ.thenC ?_
        refine TC.seq ?_
        refine TC.seq ?_
        have hb9 : (0 ≤ ii ∧ ii < t.s.length) ∧ 0 ≤ jj ∧ jj < t.s.length := by first | omega | (simp [wiB] at a2 a3; omega)
        refine TC.region ?_
        refine TL.pure (PV.move rfl) rfl (by decide) ?_
        refine TL.pure (PV.move rfl) rfl (by decide) ?_
        refine TL.pure (PV.eql rfl rfl) rfl (by decide) ?_
        refine TL.nil ?_
        refine TQ.thenC ?_
        first | refine TC.condD rfl (fun a4 => ?_) (fun a4 => ?_) | refine TC.cond rfl (fun a4 => ?_) (fun a4 => ?_)
        · skip
          refine TC.seq ?_
          refine TC.region ?_
          refine TL.pure (PV.build rfl Tb.zero_25 Tb.pl_25 rfl) rfl (by decide) ?_
          refine TL.storeAgg (vs := [.slice none 0 0, .slice none 0 0, .slice none 0 0]) rfl rfl Tb.cells_25 (by repeat (first | exact Upd.head _ | apply Upd.tail | apply Upd.appR)) rfl rfl rfl rfl rfl ?_
          refine TL.pure (PV.assign rfl) rfl (by decide) ?_
          refine TL.nil ?_
          refine TQ.thenC ?_
          refine TC.ret ?_
          refine TQ.thenR ?_
          refine TQ.retR rfl (Res.agg rfl Tb.agg_25 (by repeat (first | exact List.Mem.head _ | refine List.Mem.tail _ ?_ | refine List.mem_append_right _ ?_)) rfl (Res.tmp rfl Res.nil)) ?_
          simp only [tup]
          exact ⟨(nilV, []), by rw [mer_1 a1 hb9 a4]; rfl, by rw [mer_1 a1 hb9 a4]; exact RdT.nil, List.nil_sublist _⟩
        · skip
          refine TC.skip ?_
          refine TQ.thenC ?_
          refine TC.seq ?_
          obtain ⟨i, rfl⟩ : ∃ k : Nat, ii = (k : Int) := ⟨ii.toNat, by omega⟩
          obtain ⟨j, rfl⟩ : ∃ k : Nat, jj = (k : Int) := ⟨jj.toNat, by omega⟩
          have hi : i < t.s.length := by omega
          have hj : j < t.s.length := by omega
          have hij : i ≠ j := by omega
          have hcl := hV.c.len
          have hrj := hV.c.row j hj
          refine TC.region ?_
          refine TL.buildSlice0 Tb.sl_22 Tb.zi_3 rfl (by decide) (fun bA hbA => ?_)
          refine TL.pure (PV.fieldAddr rfl Tb.fo_25_1) rfl (by decide) ?_
          refine TL.pure (PV.load rfl Tb.one_22 (by repeat (first | exact List.Mem.head _ | refine List.Mem.tail _ ?_ | refine List.mem_append_right _ ?_)) rfl) rfl (by decide) ?_
          refine TL.append0 (m := t.d.length) (news := ival t.d) rfl rfl Tb.sl_22 Tb.zi_3 rfl (by repeat (first | exact Take.head _ | apply Take.tail | apply Take.appR)) (fun w' hN => ints_src Tb.sl_22 rfl (t2.new hN)) (by omega) (by omega) rfl (by decide) (fun h9 hh9 => ?_)
          refine TL.pure (PV.build rfl Tb.zero_25 Tb.pl_25 (fill1d (gval_cells _ _))) rfl (by decide) ?_
          refine TL.alloc Tb.zero_25 rfl (by decide) (fun bq hbq => ?_)
          refine TL.storeAgg (vs := [.slice none 0 0, gval h9 t.d.length, .slice none 0 0]) rfl rfl Tb.cells_25 (by repeat (first | exact Upd.head _ | apply Upd.tail | apply Upd.appR)) rfl rfl (all3 rfl (gval_one _ _) rfl) rfl rfl ?_
          refine TL.nil ?_
          refine TQ.thenC ?_
          refine TC.seq ?_
          refine TC.seq ?_
          refine TC.region ?_
          refine TL.pure (PV.assign rfl) rfl (by decide) ?_
          refine TL.nil ?_
          refine TQ.thenC ?_
          refine TC.block ?_
          refine TC.perm (G' := gbI (h9, t.d) ++ [(bq, Obj.cells #[.slice none 0 0, gval h9 t.d.length, .slice none 0 0] 25 (0, 0)), (bo, Obj.cells #[.slice none 0 0, .slice none 0 0, .slice none 0 0] 25 (0, 0)), (b0, Obj.cells #[.slice p1 t.s.length c1, .slice p2 t.d.length c2, .slice p3 t.c.length c3] 25 (0, 0))]) (perm_of fun c9 => by simp only [gbI, List.map_append, List.sum_append, List.map_cons, List.sum_cons, List.map_nil, List.sum_nil, Value.cells]; try omega) ?_
          refine TC.loopK [1, 2, 3, 6, 7, 9] (X := Nat × Nat × HD × HD × List RW) (fun x => x.1 ≤ t.s.length ∧ x.2.1 = cn j x.1 ∧ goI (x.2.2.1, mk x.2.1 (merS t i j)) ∧ CtS (tabL (t.s.length - 1) t.d.length (merM t i j)) x.2.1 x.2.2.2.1 x.2.2.2.2) (fun x => [(10, .int .i64 (x.1 : Nat))]) (fun x => gbI (x.2.2.1, mk x.2.1 (merS t i j)) ++ (gbR rwR 22 x.2.2.2.1 x.2.2.2.2 ++ (rwB x.2.2.2.2 ++ (gbI (h9, t.d) ++ [(bq, Obj.cells #[gval x.2.2.1 (mk x.2.1 (merS t i j)).length, gval h9 t.d.length, gval x.2.2.2.1 x.2.2.2.2.length] 25 (0, 0)), (bo, Obj.cells #[.slice none 0 0, .slice none 0 0, .slice none 0 0] 25 (0, 0)), (b0, Obj.cells #[.slice p1 t.s.length c1, .slice p2 t.d.length c2, .slice p3 t.c.length c3] 25 (0, 0))])))) (fun x => t.s.length - x.1) (0, 0, none, none, []) ⟨Nat.zero_le _, (Nat.le_zero.1 (cn_le j 0)).symm, ⟨rfl, rfl⟩, cts_zero _⟩ (by repeat (first | exact True.intro | refine And.intro rfl ?_)) (List.Sublist.refl _) ?_
          intro x hx9
          refine TC.seq ?_
          refine TC.seq ?_
          refine TC.region ?_
          refine TL.pure (PV.move rfl) rfl (by decide) ?_
          refine TL.pure (PV.fieldAddr rfl Tb.fo_25_0) rfl (by decide) ?_
          refine TL.pure (PV.load rfl Tb.one_22 (by repeat (first | exact List.Mem.head _ | refine List.Mem.tail _ ?_ | refine List.mem_append_right _ ?_)) rfl) rfl (by decide) ?_
          refine TL.pure (PV.len rfl Tb.sl_22) rfl (by decide) ?_
          refine TL.pure (PV.lss rfl rfl) rfl (by decide) ?_
          refine TL.nil ?_
          refine TQ.thenC ?_
          first | refine TC.condD rfl (fun hlt => ?_) (fun hlt => ?_) | refine TC.cond rfl (fun hlt => ?_) (fun hlt => ?_)
          · skip
            refine TC.skip ?_
            refine TQ.thenC ?_
            refine TC.seq ?_
            refine TC.block ?_
            refine TC.seq ?_
            refine TC.seq ?_
            refine TC.region ?_
            refine TL.pure (PV.move rfl) rfl (by decide) ?_
            refine TL.pure (PV.move rfl) rfl (by decide) ?_
            refine TL.pure (PV.eql rfl rfl) rfl (by decide) ?_
            refine TL.nil ?_
            refine TQ.thenC ?_
            first | refine TC.condD rfl (fun ekj => ?_) (fun ekj => ?_) | refine TC.cond rfl (fun ekj => ?_) (fun ekj => ?_)
            · skip
              refine TC.exit ?_
              refine TQ.thenE ?_
              refine TQ.blkS ?_
              refine TQ.thenC ?_
              refine TC.region ?_
              refine TL.pure (PV.move rfl) rfl (by decide) ?_
              refine TL.pure (PV.add rfl rfl (by omega)) rfl (by decide) ?_
              refine TL.pure (PV.assign rfl) rfl (by decide) ?_
              refine TL.nil ?_
              refine TQ.thenN ?_
              refine TQ.backK (x.1 + 1, x.2) (by repeat (first | exact True.intro | refine And.intro rfl ?_)) (by repeat (first | exact True.intro | refine And.intro rfl ?_)) (List.Sublist.refl _) ⟨by simp only; omega, by show x.2.1 = _; rw [cn_same (show x.1 = j by omega)]; exact hx9.2.1, hx9.2.2.1, hx9.2.2.2⟩ (by simp only; omega)
            · skip
              refine TC.skip ?_
              refine TQ.thenC ?_
              refine TC.seq ?_
              have hkj : x.1 ≠ j := by omega
              have hrk := hV.c.row x.1 (by omega)
              obtain ⟨q4, hq4p, hq4⟩ := t1 x.1 (by omega)
              obtain ⟨q5, hq5p, q5p, q5c, hq5, hq5r⟩ := t3 x.1 (by omega)
              have er : t.c.getD x.1 [] = mk t.d.length (getM t.c x.1) := mk_eq hrk fun b _ => rfl
              rw [hrk] at hq5
              rw [er] at hq5r
              have hxl := hx9.2.2.2.len
              have hcl9 := cn_lt hkj (show x.1 < t.s.length by omega) hj
              have hxn := hx9.2.1
              have hsk := hV.s x.1 (by omega)
              have hsj := hV.s j hj
              refine TC.mixV [true, true, true, true, true, false, true, true, true, true, true, false, true, true] [(b0, Obj.cells #[.slice p1 t.s.length c1, .slice p2 t.d.length c2, .slice p3 t.c.length c3] 25 (0, 0))] 14 Tb.mixed rfl (by kernel_rfl) (by kernel_rfl) (by kernel_rfl) (by kernel_rfl) (by repeat (first | exact List.Sublist.slnil | exact List.nil_sublist _ | exact List.Sublist.refl _ | refine List.Sublist.cons_cons _ ?_ | refine List.Sublist.cons _ ?_ | refine List.Sublist.trans ?_ (List.sublist_append_right _ _))) ?_
              refine TV.virt 0 rfl rfl (by decide) rfl (by kernel_rfl) (SOK.pure (PV.fieldAddr rfl Tb.fo_25_0) rfl) ?_
              refine TV.virt 1 rfl rfl (by decide) rfl (by kernel_rfl) (SOK.pure (PV.load rfl Tb.one_22 (by repeat (first | exact List.Mem.head _ | refine List.Mem.tail _ ?_ | refine List.mem_append_right _ ?_)) rfl) rfl) ?_
              refine TV.virt 2 rfl rfl (by decide) rfl (by kernel_rfl) (SOK.pure (PV.move rfl) rfl) ?_
              refine TV.virt 3 rfl rfl (by decide) rfl (by kernel_rfl) (SOK.pure (PV.indexA (j := x.1) rfl hq4p rfl Tb.elm_22 rfl (by omega)) rfl) ?_
              refine TV.virt 4 rfl rfl (by decide) rfl (by kernel_rfl) (SOK.pure (PV.loadOld rfl Tb.one_3 hq4) rfl) ?_
              refine TV.virt 6 rfl rfl (by decide) rfl (by kernel_rfl) (SOK.pure (PV.fieldAddr rfl Tb.fo_25_2) rfl) ?_
              refine TV.virt 7 rfl rfl (by decide) rfl (by kernel_rfl) (SOK.pure (PV.load rfl Tb.one_23 (by repeat (first | exact List.Mem.head _ | refine List.Mem.tail _ ?_ | refine List.mem_append_right _ ?_)) rfl) rfl) ?_
              refine TV.virt 8 rfl rfl (by decide) rfl (by kernel_rfl) (SOK.pure (PV.move rfl) rfl) ?_
              refine TV.virt 9 rfl rfl (by decide) rfl (by kernel_rfl) (SOK.pure (PV.indexA (j := x.1) rfl hq5p rfl Tb.elm_23 rfl (by omega)) rfl) ?_
              refine TV.virt 10 rfl rfl (by decide) rfl (by kernel_rfl) (SOK.pure (PV.loadOld rfl Tb.one_22 hq5) rfl) ?_
              refine TV.step [5] (by kernel_rfl) (by decide) rfl ⟨⟨_, rfl, ?_⟩, trivial⟩
              refine TL.buildSlice0 Tb.sl_22 Tb.zi_3 rfl (by decide) (fun bB hbB => ?_)
              refine TL.nil ?_
              refine TV.next (.inl (by repeat (first | exact List.Sublist.slnil | exact List.nil_sublist _ | exact List.Sublist.refl _ | refine List.Sublist.cons_cons _ ?_ | refine List.Sublist.cons _ ?_ | refine List.Sublist.trans ?_ (List.sublist_append_right _ _)))) ?_
              refine TV.step [11] (by kernel_rfl) (by decide) rfl ⟨⟨_, rfl, ?_⟩, trivial⟩
              refine TL.append0 (m := t.d.length) (news := ival (mk t.d.length (getM t.c x.1))) rfl rfl Tb.sl_22 Tb.zi_3 rfl (by repeat (first | exact Take.head _ | apply Take.tail | apply Take.appR)) (fun w' hN => ints_src Tb.sl_22 (mk_len _ _) (hq5r.new hN)) (by omega) (by omega) rfl (by decide) (fun hr hhr => ?_)
              refine TL.nil ?_
              refine TV.next (.inl (by repeat (first | exact List.Sublist.slnil | exact List.nil_sublist _ | exact List.Sublist.refl _ | refine List.Sublist.cons_cons _ ?_ | refine List.Sublist.cons _ ?_ | refine List.Sublist.trans ?_ (List.sublist_append_right _ _)))) ?_
              refine TV.virt 12 rfl rfl (by decide) rfl (by kernel_rfl) (SOK.pure (PV.assign rfl) rfl) ?_
              refine TV.virt 13 rfl rfl (by decide) rfl (by kernel_rfl) (SOK.pure (PV.assign rfl) rfl) ?_
              refine TV.done (by kernel_rfl) ?_
              refine TQ.thenC ?_
              refine TC.seq ?_
              refine TC.seq ?_
              have hgr : goI (hr, mk t.d.length (getM t.c x.1)) := by unfold goI; simpa [mk_len] using hhr
              refine TC.region ?_
              refine TL.pure (PV.move rfl) rfl (by decide) ?_
              refine TL.pure (PV.move rfl) rfl (by decide) ?_
              refine TL.pure (PV.eql rfl rfl) rfl (by decide) ?_
              refine TL.nil ?_
              refine TQ.thenC ?_
              first | refine TC.condD rfl (fun eki => ?_) (fun eki => ?_) | refine TC.cond rfl (fun eki => ?_) (fun eki => ?_)
              · skip
                have ek : x.1 = i := by omega
                have ev9 := sto_i (t := t) (i := i) hkj ek
                have ri9 := row_i (t := t) (i := i) hkj ek
                rw [← hxn] at ev9 ri9
                refine TC.seq ?_
                obtain ⟨q6, hq6p, hq6⟩ := t1 j (by omega)
                refine TC.region ?_
                refine TL.pure (PV.move rfl) rfl (by decide) ?_
                refine TL.pure (PV.fieldAddr rfl Tb.fo_25_0) rfl (by decide) ?_
                refine TL.pure (PV.load rfl Tb.one_22 (by repeat (first | exact List.Mem.head _ | refine List.Mem.tail _ ?_ | refine List.mem_append_right _ ?_)) rfl) rfl (by decide) ?_
                refine TL.pure (PV.move rfl) rfl (by decide) ?_
                refine TL.pure (PV.indexA (j := j) rfl hq6p rfl Tb.elm_22 rfl (by omega)) rfl (by decide) ?_
                refine TL.pure (PV.loadOld rfl Tb.one_3 hq6) rfl (by decide) ?_
                refine TL.pure (PV.add rfl rfl (by omega)) rfl (by decide) ?_
                refine TL.pure (PV.assign rfl) rfl (by decide) ?_
                refine TL.nil ?_
                refine TQ.thenC ?_
                refine TC.seq ?_
                refine TC.region ?_
                refine TL.pure (PV.assign rfl) rfl (by decide) ?_
                refine TL.nil ?_
                refine TQ.thenC ?_
                refine TC.block ?_
                rw [← lnM_0 t x.1 j t.d.length] at hgr
                rw [← lnM_0 t x.1 j t.d.length]
                refine TC.loopK [1, 2, 3, 6, 7, 9, 10, 11, 12] (X := Nat) (fun y => y ≤ t.d.length ∧ goI (hr, (mk t.d.length (lnM t x.1 j y)))) (fun y => [(13, .int .i64 (y : Nat))]) (fun y => gbI (hr, (mk t.d.length (lnM t x.1 j y))) ++ (gbI (x.2.2.1, mk x.2.1 (merS t i j)) ++ (gbR rwR 22 x.2.2.2.1 x.2.2.2.2 ++ (rwB x.2.2.2.2 ++ (gbI (h9, t.d) ++ [(bq, Obj.cells #[gval x.2.2.1 (mk x.2.1 (merS t i j)).length, gval h9 t.d.length, gval x.2.2.2.1 x.2.2.2.2.length] 25 (0, 0)), (bo, Obj.cells #[.slice none 0 0, .slice none 0 0, .slice none 0 0] 25 (0, 0)), (b0, Obj.cells #[.slice p1 t.s.length c1, .slice p2 t.d.length c2, .slice p3 t.c.length c3] 25 (0, 0))]))))) (fun y => t.d.length - y) 0 ⟨Nat.zero_le _, hgr⟩ (by repeat (first | exact True.intro | refine And.intro rfl ?_)) (List.Sublist.append_left (by repeat (first | exact List.Sublist.refl _ | refine List.Sublist.cons _ ?_)) _) ?_
                intro y hy9
                refine TC.seq ?_
                refine TC.seq ?_
                refine TC.region ?_
                refine TL.pure (PV.move rfl) rfl (by decide) ?_
                refine TL.pure (PV.move rfl) rfl (by decide) ?_
                refine TL.pure (PV.lenG (h := hr) (len := t.d.length) (ys := ival (mk t.d.length (lnM t x.1 j y))) rfl (gk_mk hy9.2) Tb.sl_22) rfl (by decide) ?_
                refine TL.pure (PV.lss rfl rfl) rfl (by decide) ?_
                refine TL.nil ?_
                refine TQ.thenC ?_
                first | refine TC.condD rfl (fun hlt2 => ?_) (fun hlt2 => ?_) | refine TC.cond rfl (fun hlt2 => ?_) (fun hlt2 => ?_)
                · skip
                  refine TC.skip ?_
                  refine TQ.thenC ?_
                  refine TC.seq ?_
                  refine TC.block ?_
                  obtain ⟨q7, hq7p, q7p, q7c, hq7, hq7r⟩ := t3 j (by omega)
                  obtain ⟨q8, hq8p, hq8⟩ := hq7r y (by omega)
                  have ew : (t.c.getD j []).getD y 0 = getM t.c j y := rfl
                  rw [ew] at hq8
                  have hgy : gok hr t.d.length 1 (ival (mk t.d.length (lnM t x.1 j y))) := gk_mk hy9.2
                  refine TC.draw 16 Tb.mixed (by kernel_rfl) ?_
                  simp only [List.take_succ_cons, List.take_zero, List.drop_succ_cons, List.drop_zero]
                  refine TS.pure (PV.move rfl) rfl (by decide) ?_
                  refine TS.pure (PV.move rfl) rfl (by decide) ?_
                  refine TS.pure (PV.move rfl) rfl (by decide) ?_
                  refine TS.pure (PV.move rfl) rfl (by decide) ?_
                  refine TS.pure (PV.indexG (h := hr) (len := t.d.length) (ys := ival (mk t.d.length (lnM t x.1 j y))) (j := y) rfl rfl hgy Tb.elm_22 rfl (by omega)) rfl (by decide) ?_
                  refine TS.pure (PV.loadGI (y := (hr, mk t.d.length (lnM t x.1 j y))) (j := y) (v := getM t.c x.1 y) rfl Tb.one_3 (fun yy hyy => by repeat (first | exact List.mem_append_left _ hyy | exact List.mem_append_left _ (List.mem_append_right _ hyy) | exact List.mem_append_left _ (List.mem_append_left _ hyy) | refine List.mem_append_right _ ?_ | refine List.Mem.tail _ ?_)) hy9.2 (by show _ < (mk _ _).length; rw [mk_len]; omega) (by show (mk _ _).getD _ _ = _; rw [mk_at _ (by omega), lnM_at])) rfl (by decide) ?_
                  refine TS.pure (PV.fieldAddr rfl Tb.fo_25_2) rfl (by decide) ?_
                  refine TS.pure (PV.load rfl Tb.one_23 (by repeat (first | exact List.Mem.head _ | refine List.Mem.tail _ ?_ | refine List.mem_append_right _ ?_)) rfl) rfl (by decide) ?_
                  refine TS.pure (PV.move rfl) rfl (by decide) ?_
                  refine TS.pure (PV.indexA (j := j) rfl hq7p rfl Tb.elm_23 rfl (by omega)) rfl (by decide) ?_
                  refine TS.pure (PV.loadOld rfl Tb.one_22 hq7) rfl (by decide) ?_
                  refine TS.pure (PV.move rfl) rfl (by decide) ?_
                  refine TS.pure (PV.indexA (j := y) rfl hq8p rfl Tb.elm_22 rfl (by omega)) rfl (by decide) ?_
                  refine TS.pure (PV.loadOld rfl Tb.one_3 hq8) rfl (by decide) ?_
                  refine TS.pure (PV.min rfl rfl Tb.int_3) rfl (by decide) ?_
                  refine TS.pure (PV.indexG (h := hr) (len := t.d.length) (ys := ival (mk t.d.length (lnM t x.1 j y))) (j := y) rfl rfl hgy Tb.elm_22 rfl (by omega)) rfl (by decide) ?_
                  refine TS.nil ?_
                  refine TL.putI (h := hr) (xs := mk t.d.length (lnM t x.1 j y)) (xs' := mk t.d.length (lnM t x.1 j (y + 1))) (j := y) rfl rfl Tb.cells_3 hy9.2 (lnM_set (by omega)) (by repeat (first | exact PutH.here _ _ _ _ | apply PutH.tail | apply PutH.app)) (by rw [mk_len]; omega) rfl rfl ?_
                  refine TL.nil ?_
                  refine TQ.blkN ?_
                  refine TQ.thenC ?_
                  refine TC.region ?_
                  refine TL.pure (PV.move rfl) rfl (by decide) ?_
                  refine TL.pure (PV.add rfl rfl (by omega)) rfl (by decide) ?_
                  refine TL.pure (PV.assign rfl) rfl (by decide) ?_
                  refine TL.nil ?_
                  refine TQ.thenN ?_
                  refine TQ.backK (y + 1) (by repeat (first | exact True.intro | refine And.intro rfl ?_)) (by repeat (first | exact True.intro | refine And.intro rfl ?_)) (List.Sublist.refl _) ⟨by omega, go_lenI (xs := mk t.d.length (lnM t x.1 j y)) hy9.2 (by rw [mk_len, mk_len])⟩ (by omega)
                · skip
                  refine TC.exit ?_
                  refine TQ.thenE ?_
                  refine TQ.thenE ?_
                  refine TQ.blkS ?_
                  refine TQ.thenC ?_
                  refine TC.seq ?_
                  rw [ev9]
                  have hgr8 : goI (hr, mk t.d.length (merM t i j x.2.1)) := by first | exact hgr | (have hye : y = t.d.length := (by omega); have h7 := hy9.2; rw [hye, ri9] at h7; exact h7)
                  refine TC.region ?_
                  refine TL.pure (PV.fieldAddr rfl Tb.fo_25_0) rfl (by decide) ?_
                  refine TL.pure (PV.load rfl Tb.one_22 (by repeat (first | exact List.Mem.head _ | refine List.Mem.tail _ ?_ | refine List.mem_append_right _ ?_)) rfl) rfl (by decide) ?_
                  refine TL.pure (PV.move rfl) rfl (by decide) ?_
                  refine TL.buildSlice (cs := #[.int .i64 (merS t i j x.2.1)]) rfl Tb.sl_22 Tb.zi_3 (by decide) (fill_i _) (by decide) rfl (by decide) (fun bE hbE => ?_)
                  refine TL.appendI (x0 := (x.2.2.1, mk x.2.1 (merS t i j))) (b := bE) (v := merS t i j x.2.1) rfl rfl (by repeat (first | exact List.Mem.head _ | refine List.Mem.tail _ ?_ | refine List.mem_append_right _ ?_)) hx9.2.2.1 (by repeat (first | exact TakeH.here _ _ _ _ | apply TakeH.tail | apply TakeH.app)) (by show (mk _ _).length ≤ 1000000; rw [mk_len]; omega) rfl (by decide) (fun hh hhh => ?_)
                  rw [← mk_succ'] at hhh
                  rw [← mk_succ']
                  refine TL.pure (PV.fieldAddr rfl Tb.fo_25_0) rfl (by decide) ?_
                  refine TL.store rfl rfl Tb.cells_22 (gval_one _ _) (by repeat (first | exact Upd.head _ | apply Upd.tail | apply Upd.appR)) (by first | decide | (simp; done) | (simp; omega) | omega) rfl rfl ?_
                  refine TL.nil ?_
                  refine TQ.thenC ?_
                  refine TC.region ?_
                  refine TL.pure (PV.fieldAddr rfl Tb.fo_25_2) rfl (by decide) ?_
                  refine TL.pure (PV.load rfl Tb.one_23 (by repeat (first | exact List.Mem.head _ | refine List.Mem.tail _ ?_ | refine List.mem_append_right _ ?_)) rfl) rfl (by decide) ?_
                  refine TL.pure (PV.move rfl) rfl (by decide) ?_
                  refine TL.buildSlice (cs := #[gval hr t.d.length]) rfl Tb.sl_23 Tb.zi_22 (by decide) (by rw [gval_eq hhr]; exact fill_o _ _ _) (by decide) rfl (by decide) (fun bF hbF => ?_)
                  refine TL.appendRec (R := rwR) (h0 := x.2.2.2.1) (ys := x.2.2.2.2) (b := bF) (r := (⟨hr, mk t.d.length (merM t i j x.2.1)⟩ : RW)) Tb.sl_23 Tb.zi_22 rfl rfl rfl (mk_mem (by repeat (first | exact List.Mem.head _ | refine List.Mem.tail _ ?_ | refine List.mem_append_right _ ?_))) hx9.2.2.2.go (by repeat (first | exact TakeH.here _ _ _ _ | apply TakeH.tail | apply TakeH.app)) (by omega) (by omega) rfl (by decide) (fun hG hhg => ?_)
                  refine TL.pure (PV.fieldAddr rfl Tb.fo_25_2) rfl (by decide) ?_
                  refine TL.store rfl rfl Tb.cells_23 (gval_one _ _) (by repeat (first | exact Upd.head _ | apply Upd.tail | apply Upd.appR)) (by first | decide | (simp; done) | (simp; omega) | omega) rfl rfl ?_
                  refine TL.nil ?_
                  refine TQ.blkN ?_
                  refine TQ.thenC ?_
                  refine TC.region ?_
                  refine TL.pure (PV.move rfl) rfl (by decide) ?_
                  refine TL.pure (PV.add rfl rfl (by omega)) rfl (by decide) ?_
                  refine TL.pure (PV.assign rfl) rfl (by decide) ?_
                  refine TL.nil ?_
                  refine TQ.thenN ?_
                  rw [show (((#[gval x.2.2.1 (mk x.2.1 (merS t i j)).length, gval h9 t.d.length, gval x.2.2.2.1 x.2.2.2.2.length] : Array Value).setIfInBounds (0 + 0) (gval hh (mk (x.2.1 + 1) (merS t i j)).length)).setIfInBounds (0 + 2) (gval hG (x.2.2.2.2 ++ [(⟨hr, mk t.d.length (merM t i j x.2.1)⟩ : RW)]).length)) = #[gval hh (mk (x.2.1 + 1) (merS t i j)).length, gval h9 t.d.length, gval hG (x.2.2.2.2 ++ [(⟨hr, mk t.d.length (merM t i j x.2.1)⟩ : RW)]).length] from rfl]
                  try (have hye : y = t.d.length := (by omega); rw [hye, ri9])
                  refine TQ.perm (G' := gbI (hh, mk (x.2.1 + 1) (merS t i j)) ++ (gbR rwR 22 hG (x.2.2.2.2 ++ [(⟨hr, mk t.d.length (merM t i j x.2.1)⟩ : RW)]) ++ (rwB (x.2.2.2.2 ++ [(⟨hr, mk t.d.length (merM t i j x.2.1)⟩ : RW)]) ++ (gbI (h9, t.d) ++ [(bq, Obj.cells #[gval hh (mk (x.2.1 + 1) (merS t i j)).length, gval h9 t.d.length, gval hG (x.2.2.2.2 ++ [(⟨hr, mk t.d.length (merM t i j x.2.1)⟩ : RW)]).length] 25 (0, 0)), (bo, Obj.cells #[.slice none 0 0, .slice none 0 0, .slice none 0 0] 25 (0, 0)), (b0, Obj.cells #[.slice p1 t.s.length c1, .slice p2 t.d.length c2, .slice p3 t.c.length c3] 25 (0, 0))]))) ++ [(bF, Obj.cells #[gval hr t.d.length] 22 (0, 0)), (bE, Obj.cells #[.int .i64 (merS t i j x.2.1)] 3 (0, 0))]) (perm_of fun c9 => by rw [rwB_snoc]; simp only [gbI, gbR, List.map_append, List.sum_append, List.map_cons, List.sum_cons, List.map_nil, List.sum_nil, Value.cells]; try omega) ?_
                  refine TQ.backK (x.1 + 1, x.2.1 + 1, hh, hG, (x.2.2.2.2 ++ [(⟨hr, mk t.d.length (merM t i j x.2.1)⟩ : RW)])) (by repeat (first | exact True.intro | refine And.intro rfl ?_)) (by repeat (first | exact True.intro | refine And.intro rfl ?_)) (List.sublist_append_left _ _) ⟨by simp only; omega, by show x.2.1 + 1 = _; rw [cn_succ hkj, hx9.2.1], hhh, cts_step hx9.2.2.2 (by show mk _ _ = _; rw [tab_row _ (by omega)]) hhg hgr8⟩ (by simp only; omega)
              · skip
                have ek : x.1 ≠ i := by omega
                have ev9 := sto_k (t := t) (i := i) hkj ek
                have el9 := row_k (t := t) (i := i) hkj ek
                rw [← hxn] at ev9 el9
                rw [el9] at hgr
                rw [el9]
                refine TC.skip ?_
                refine TQ.thenC ?_
                refine TC.seq ?_
                rw [ev9]
                have hgr8 : goI (hr, mk t.d.length (merM t i j x.2.1)) := by first | exact hgr | (have hye : y = t.d.length := (by omega); have h7 := hy9.2; rw [hye, ri9] at h7; exact h7)
                refine TC.region ?_
                refine TL.pure (PV.fieldAddr rfl Tb.fo_25_0) rfl (by decide) ?_
                refine TL.pure (PV.load rfl Tb.one_22 (by repeat (first | exact List.Mem.head _ | refine List.Mem.tail _ ?_ | refine List.mem_append_right _ ?_)) rfl) rfl (by decide) ?_
                refine TL.pure (PV.move rfl) rfl (by decide) ?_
                refine TL.buildSlice (cs := #[.int .i64 (merS t i j x.2.1)]) rfl Tb.sl_22 Tb.zi_3 (by decide) (fill_i _) (by decide) rfl (by decide) (fun bE hbE => ?_)
                refine TL.appendI (x0 := (x.2.2.1, mk x.2.1 (merS t i j))) (b := bE) (v := merS t i j x.2.1) rfl rfl (by repeat (first | exact List.Mem.head _ | refine List.Mem.tail _ ?_ | refine List.mem_append_right _ ?_)) hx9.2.2.1 (by repeat (first | exact TakeH.here _ _ _ _ | apply TakeH.tail | apply TakeH.app)) (by show (mk _ _).length ≤ 1000000; rw [mk_len]; omega) rfl (by decide) (fun hh hhh => ?_)
                rw [← mk_succ'] at hhh
                rw [← mk_succ']
                refine TL.pure (PV.fieldAddr rfl Tb.fo_25_0) rfl (by decide) ?_
                refine TL.store rfl rfl Tb.cells_22 (gval_one _ _) (by repeat (first | exact Upd.head _ | apply Upd.tail | apply Upd.appR)) (by first | decide | (simp; done) | (simp; omega) | omega) rfl rfl ?_
                refine TL.nil ?_
                refine TQ.thenC ?_
                refine TC.region ?_
                refine TL.pure (PV.fieldAddr rfl Tb.fo_25_2) rfl (by decide) ?_
                refine TL.pure (PV.load rfl Tb.one_23 (by repeat (first | exact List.Mem.head _ | refine List.Mem.tail _ ?_ | refine List.mem_append_right _ ?_)) rfl) rfl (by decide) ?_
                refine TL.pure (PV.move rfl) rfl (by decide) ?_
                refine TL.buildSlice (cs := #[gval hr t.d.length]) rfl Tb.sl_23 Tb.zi_22 (by decide) (by rw [gval_eq hhr]; exact fill_o _ _ _) (by decide) rfl (by decide) (fun bF hbF => ?_)
                refine TL.appendRec (R := rwR) (h0 := x.2.2.2.1) (ys := x.2.2.2.2) (b := bF) (r := (⟨hr, mk t.d.length (merM t i j x.2.1)⟩ : RW)) Tb.sl_23 Tb.zi_22 rfl rfl rfl (mk_mem (by repeat (first | exact List.Mem.head _ | refine List.Mem.tail _ ?_ | refine List.mem_append_right _ ?_))) hx9.2.2.2.go (by repeat (first | exact TakeH.here _ _ _ _ | apply TakeH.tail | apply TakeH.app)) (by omega) (by omega) rfl (by decide) (fun hG hhg => ?_)
                refine TL.pure (PV.fieldAddr rfl Tb.fo_25_2) rfl (by decide) ?_
                refine TL.store rfl rfl Tb.cells_23 (gval_one _ _) (by repeat (first | exact Upd.head _ | apply Upd.tail | apply Upd.appR)) (by first | decide | (simp; done) | (simp; omega) | omega) rfl rfl ?_
                refine TL.nil ?_
                refine TQ.blkN ?_
                refine TQ.thenC ?_
                refine TC.region ?_
                refine TL.pure (PV.move rfl) rfl (by decide) ?_
                refine TL.pure (PV.add rfl rfl (by omega)) rfl (by decide) ?_
                refine TL.pure (PV.assign rfl) rfl (by decide) ?_
                refine TL.nil ?_
                refine TQ.thenN ?_
                rw [show (((#[gval x.2.2.1 (mk x.2.1 (merS t i j)).length, gval h9 t.d.length, gval x.2.2.2.1 x.2.2.2.2.length] : Array Value).setIfInBounds (0 + 0) (gval hh (mk (x.2.1 + 1) (merS t i j)).length)).setIfInBounds (0 + 2) (gval hG (x.2.2.2.2 ++ [(⟨hr, mk t.d.length (merM t i j x.2.1)⟩ : RW)]).length)) = #[gval hh (mk (x.2.1 + 1) (merS t i j)).length, gval h9 t.d.length, gval hG (x.2.2.2.2 ++ [(⟨hr, mk t.d.length (merM t i j x.2.1)⟩ : RW)]).length] from rfl]
                try (have hye : y = t.d.length := (by omega); rw [hye, ri9])
                refine TQ.perm (G' := gbI (hh, mk (x.2.1 + 1) (merS t i j)) ++ (gbR rwR 22 hG (x.2.2.2.2 ++ [(⟨hr, mk t.d.length (merM t i j x.2.1)⟩ : RW)]) ++ (rwB (x.2.2.2.2 ++ [(⟨hr, mk t.d.length (merM t i j x.2.1)⟩ : RW)]) ++ (gbI (h9, t.d) ++ [(bq, Obj.cells #[gval hh (mk (x.2.1 + 1) (merS t i j)).length, gval h9 t.d.length, gval hG (x.2.2.2.2 ++ [(⟨hr, mk t.d.length (merM t i j x.2.1)⟩ : RW)]).length] 25 (0, 0)), (bo, Obj.cells #[.slice none 0 0, .slice none 0 0, .slice none 0 0] 25 (0, 0)), (b0, Obj.cells #[.slice p1 t.s.length c1, .slice p2 t.d.length c2, .slice p3 t.c.length c3] 25 (0, 0))]))) ++ [(bF, Obj.cells #[gval hr t.d.length] 22 (0, 0)), (bE, Obj.cells #[.int .i64 (merS t i j x.2.1)] 3 (0, 0))]) (perm_of fun c9 => by rw [rwB_snoc]; simp only [gbI, gbR, List.map_append, List.sum_append, List.map_cons, List.sum_cons, List.map_nil, List.sum_nil, Value.cells]; try omega) ?_
                refine TQ.backK (x.1 + 1, x.2.1 + 1, hh, hG, (x.2.2.2.2 ++ [(⟨hr, mk t.d.length (merM t i j x.2.1)⟩ : RW)])) (by repeat (first | exact True.intro | refine And.intro rfl ?_)) (by repeat (first | exact True.intro | refine And.intro rfl ?_)) (List.sublist_append_left _ _) ⟨by simp only; omega, by show x.2.1 + 1 = _; rw [cn_succ hkj, hx9.2.1], hhh, cts_step hx9.2.2.2 (by show mk _ _ = _; rw [tab_row _ (by omega)]) hhg hgr8⟩ (by simp only; omega)
          · skip
            refine TC.exit ?_
            refine TQ.thenE ?_
            refine TQ.thenE ?_
            refine TQ.blkS ?_
            refine TQ.thenC ?_
            refine TC.seq ?_
            refine TC.seq ?_
            have hxe : x.1 = t.s.length := by omega
            have hn9 : x.2.1 = t.s.length - 1 := by rw [hx9.2.1, hxe]; exact cn_fin hj
            have hxl := hx9.2.2.2.len
            have hrd : RdT (merT t i j) (.agg #[gval x.2.2.1 (mk x.2.1 (merS t i j)).length, gval h9 t.d.length, gval x.2.2.2.1 x.2.2.2.2.length], (gbR rwR 22 x.2.2.2.1 x.2.2.2.2 ++ rwB x.2.2.2.2) ++ (gbI (h9, t.d) ++ gbI (x.2.2.1, mk x.2.1 (merS t i j)))) := by rw [hxl, hn9, mk_len]; have hg9 := hx9.2.2.1; rw [hn9] at hg9; have hc := RdG.rw (m := tabL (t.s.length - 1) t.d.length (merM t i j)) hx9.2.2.2.go hx9.2.2.2.ok (cts_fin hx9.2.2.2 (by rw [tab_len]; exact hn9)); rw [tab_len] at hc; have h := RdT.mk (t := merT t i j) hg9 (show goI (h9, t.d) by simpa [goI] using hh9) hc; have e1 : (merT t i j).s.length = t.s.length - 1 := mk_len _ _; rw [e1] at h; exact h
            refine TC.perm (G' := gbR rwR 22 x.2.2.2.1 x.2.2.2.2 ++ (rwB x.2.2.2.2 ++ (gbI (h9, t.d) ++ (gbI (x.2.2.1, mk x.2.1 (merS t i j)) ++ [(bq, Obj.cells #[gval x.2.2.1 (mk x.2.1 (merS t i j)).length, gval h9 t.d.length, gval x.2.2.2.1 x.2.2.2.2.length] 25 (0, 0)), (bo, Obj.cells #[.slice none 0 0, .slice none 0 0, .slice none 0 0] 25 (0, 0)), (b0, Obj.cells #[.slice p1 t.s.length c1, .slice p2 t.d.length c2, .slice p3 t.c.length c3] 25 (0, 0))])))) (perm_of fun c9 => by simp only [gbI, gbR, List.map_append, List.sum_append, List.map_cons, List.sum_cons, List.map_nil, List.sum_nil, Value.cells]; try omega) ?_
            refine TC.region ?_
            refine TL.pure (PV.loadBox (cs := [gval x.2.2.1 (mk x.2.1 (merS t i j)).length, gval h9 t.d.length, gval x.2.2.2.1 x.2.2.2.2.length]) rfl Tb.agg_25 (by repeat (first | exact List.Mem.head _ | refine List.Mem.tail _ ?_ | refine List.mem_append_right _ ?_)) rfl) rfl (by decide) ?_
            refine TL.call rfl Tb.gofn_22 (fun a w hs => rvalidate_ok w _ (merT t i j) (hrd.at hs.new (fun yy hyy => List.Sublist.subset (by simp only [List.append_assoc]; exact List.Sublist.append_left (List.Sublist.append_left (List.Sublist.append_left (List.sublist_append_left _ _) _) _) _) hyy)) (merT_sm hT)) rfl (by decide) (fun _ _ => ?_)
            refine TL.pure (PV.neq rfl rfl) rfl (by decide) ?_
            refine TL.nil ?_
            refine TQ.thenC ?_
            first | refine TC.condD rfl (fun a5 => ?_) (fun a5 => ?_) | refine TC.cond rfl (fun a5 => ?_) (fun a5 => ?_)
            · skip
              refine TC.seq ?_
              refine TC.region ?_
              refine TL.pure (PV.build rfl Tb.zero_25 Tb.pl_25 rfl) rfl (by decide) ?_
              refine TL.storeAgg (vs := [.slice none 0 0, .slice none 0 0, .slice none 0 0]) rfl rfl Tb.cells_25 (by repeat (first | exact Upd.head _ | apply Upd.tail | apply Upd.appR)) rfl rfl rfl rfl rfl ?_
              refine TL.pure (PV.assign rfl) rfl (by decide) ?_
              refine TL.nil ?_
              refine TQ.thenC ?_
              refine TC.ret ?_
              refine TQ.thenR ?_
              refine TQ.retR rfl (Res.agg rfl Tb.agg_25 (by repeat (first | exact List.Mem.head _ | refine List.Mem.tail _ ?_ | refine List.mem_append_right _ ?_)) rfl (Res.tmp rfl Res.nil)) ?_
              simp only [tup]
              have hno : ¬ Ck (merT t i j) := fun h => a5 (merT_vt hV hi hj hij h).v
              exact ⟨(nilV, []), by rw [mer_n a1 hi hj hij hno]; rfl, by rw [mer_n a1 hi hj hij hno]; exact RdT.nil, List.nil_sublist _⟩
            · skip
              refine TC.skip ?_
              refine TQ.thenC ?_
              refine TC.seq ?_
              refine TC.region ?_
              refine TL.pure (PV.loadBox (cs := [gval x.2.2.1 (mk x.2.1 (merS t i j)).length, gval h9 t.d.length, gval x.2.2.2.1 x.2.2.2.2.length]) rfl Tb.agg_25 (by repeat (first | exact List.Mem.head _ | refine List.Mem.tail _ ?_ | refine List.mem_append_right _ ?_)) rfl) rfl (by decide) ?_
              refine TL.storeAgg (vs := [gval x.2.2.1 (mk x.2.1 (merS t i j)).length, gval h9 t.d.length, gval x.2.2.2.1 x.2.2.2.2.length]) rfl rfl Tb.cells_25 (by repeat (first | exact Upd.head _ | apply Upd.tail | apply Upd.appR)) rfl rfl (all3 (gval_one _ _) (gval_one _ _) (gval_one _ _)) rfl rfl ?_
              refine TL.pure (PV.assign rfl) rfl (by decide) ?_
              refine TL.nil ?_
              refine TQ.thenC ?_
              refine TC.ret ?_
              refine TQ.retR rfl (Res.agg rfl Tb.agg_25 (by repeat (first | exact List.Mem.head _ | refine List.Mem.tail _ ?_ | refine List.mem_append_right _ ?_)) rfl (Res.tmp rfl Res.nil)) ?_
              simp only [tup]
              have hok := merT_ck (vt_of a5)
              exact ⟨(.agg #[gval x.2.2.1 (mk x.2.1 (merS t i j)).length, gval h9 t.d.length, gval x.2.2.2.1 x.2.2.2.2.length], (gbR rwR 22 x.2.2.2.1 x.2.2.2.2 ++ rwB x.2.2.2.2) ++ (gbI (h9, t.d) ++ gbI (x.2.2.1, mk x.2.1 (merS t i j)))), by rw [mer_y a1 hi hj hij hok], by rw [mer_y a1 hi hj hij hok]; exact hrd, (by simp only [List.append_assoc]; exact List.Sublist.append_left (List.Sublist.append_left (List.Sublist.append_left (List.sublist_append_left _ _) _) _) _)⟩

end Go.Proofs.Ytghlkndanpegbaa
