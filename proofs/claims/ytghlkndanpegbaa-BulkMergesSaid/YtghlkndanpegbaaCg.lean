/- Stores merged, by the program: contract. -/
import Derived.Test.YtghlkndanpegbaaCb
import Derived.Test.YtghlkndanpegbaaCf
set_option linter.unusedVariables false
set_option linter.unusedSimpArgs false
namespace Go.Proofs.Ytghlkndanpegbaa
open Go.Sx Go.RowKit Go.Sand Go.Tp

/-- Stores i and j of a trade are one: j is gone. -/
def merS (t : Td) (i j : Nat) : Nat → Int := fun q => t.s.getD (up j q) 0 + if up j q = i then t.s.getD j 0 else 0
def merM (t : Td) (i j : Nat) : Mat := fun q b => if up j q = i then min (getM t.c i b) (getM t.c j b) else getM t.c (up j q) b
def merT (t : Td) (i j : Nat) : Td := ⟨mk (t.s.length - 1) (merS t i j), t.d, tabL (t.s.length - 1) t.d.length (merM t i j)⟩
def mnM (t : Td) (i j : Nat) (x : Nat) : Mat := fun p q => if p = i ∧ q < x then min (getM t.c i q) (getM t.c j q) else getM t.c p q
open Classical in
noncomputable def merR (t : Td) (i j : Int) : Td × Int := if validI t ≠ 0 then (nilT, validI t) else if ¬ ((0 ≤ i ∧ i < t.s.length) ∧ 0 ≤ j ∧ j < t.s.length) then (nilT, 4) else if i = j then (nilT, 1) else if Ck (merT t i.toNat j.toNat) then (merT t i.toNat j.toNat, 0) else (nilT, 3)
theorem mer_v {t : Td} {i j : Int} (h : validI t ≠ 0) : merR t i j = (nilT, validI t) := if_pos h
theorem mer_4 {t : Td} {i j : Int} (h : ¬ validI t ≠ 0) (h2 : ¬ ((0 ≤ i ∧ i < t.s.length) ∧ 0 ≤ j ∧ j < t.s.length)) : merR t i j = (nilT, 4) := by unfold merR; rw [if_neg h, if_pos h2]
theorem mer_1 {t : Td} {i j : Int} (h : ¬ validI t ≠ 0) (h2 : (0 ≤ i ∧ i < t.s.length) ∧ 0 ≤ j ∧ j < t.s.length) (h3 : i = j) : merR t i j = (nilT, 1) := by unfold merR; rw [if_neg h, if_neg (fun hn => hn h2), if_pos h3]
theorem mer_y {t : Td} {i j : Nat} (h : ¬ validI t ≠ 0) (hi : i < t.s.length) (hj : j < t.s.length) (h3 : i ≠ j) (h4 : Ck (merT t i j)) : merR t i j = (merT t i j, 0) := by unfold merR; rw [if_neg h, if_neg (by omega), if_neg (by omega), Int.toNat_natCast, Int.toNat_natCast, if_pos h4]
theorem mer_n {t : Td} {i j : Nat} (h : ¬ validI t ≠ 0) (hi : i < t.s.length) (hj : j < t.s.length) (h3 : i ≠ j) (h4 : ¬ Ck (merT t i j)) : merR t i j = (nilT, 3) := by unfold merR; rw [if_neg h, if_neg (by omega), if_neg (by omega), Int.toNat_natCast, Int.toNat_natCast, if_neg h4]
theorem mnM_0 {t : Td} {i j : Nat} (p q : Nat) : getM t.c p q = mnM t i j 0 p q := by
  unfold mnM
  rw [if_neg (by omega)]
theorem mnM_at {t : Td} {i j x : Nat} : mnM t i j x i x = getM t.c i x := by
  unfold mnM
  rw [if_neg (by omega)]
theorem mnM_succ {t : Td} {i j x : Nat} : mnM t i j (x + 1) i x = min (mnM t i j x i x) (getM t.c j x) := by
  rw [mnM_at]
  unfold mnM
  rw [if_pos ⟨rfl, by omega⟩]
theorem mnM_other {t : Td} {i j x p q : Nat} (h : ¬ (p = i ∧ q = x)) : mnM t i j (x + 1) p q = mnM t i j x p q := by
  unfold mnM
  by_cases h2 : p = i ∧ q < x
  · rw [if_pos h2, if_pos ⟨h2.1, by omega⟩]
  · rw [if_neg h2, if_neg (by omega)]
theorem mnM_fin {t : Td} {i j q b : Nat} (hb : b < t.d.length) : mnM t i j t.d.length (up j q) b = merM t i j q b := by
  unfold mnM merM
  by_cases h : up j q = i
  · rw [if_pos ⟨h, hb⟩, if_pos h]
  · rw [if_neg (fun h2 => h h2.1), if_neg h]
theorem era_at {α : Type} {l : List α} {j q : Nat} {z : α} : (l.eraseIdx j).getD q z = l.getD (up j q) z := by
  rw [List.getD_eq_getElem?_getD, List.getElem?_eraseIdx, List.getD_eq_getElem?_getD]
  unfold up
  split <;> rfl
theorem era_map {α β : Type} (l : List α) (f : α → β) (j : Nat) : (l.map f).eraseIdx j = (l.eraseIdx j).map f := by
  rw [List.eraseIdx_eq_take_drop_succ, List.eraseIdx_eq_take_drop_succ, List.map_append, List.map_take, List.map_drop]
theorem rcs_map (rs : List RW) : rcs rwR rs = rs.map fun r => gval r.h r.l.length := by
  rw [rcs_flat]
  induction rs with
  | nil => rfl
  | cons a l ih => simp only [List.map_cons, List.flatten_cons, ih]; rfl
theorem rcs_era (rs : List RW) (j : Nat) : (rcs rwR rs).eraseIdx j = rcs rwR (rs.eraseIdx j) := by
  rw [rcs_map, rcs_map, era_map]
theorem rcs_one (rs : List RW) : (rcs rwR rs).all Value.oneCell' = true := by
  rw [rcs_map]
  exact List.all_eq_true.2 fun v hv => by obtain ⟨r, _, rfl⟩ := List.mem_map.1 hv; exact gval_one _ _
theorem ivl_one (l : List Int) : (ival l).all Value.oneCell' = true := List.all_eq_true.2 fun v hv => by obtain ⟨r, _, rfl⟩ := List.mem_map.1 hv; rfl
theorem ival_era (l : List Int) (j : Nat) : (ival l).eraseIdx j = ival (l.eraseIdx j) := era_map _ _ _
def seL (t : Td) (i j : Nat) : List Int := t.s.set i (t.s.getD i 0 + t.s.getD j 0)
theorem seL_len (t : Td) (i j : Nat) : (seL t i j).length = t.s.length := by unfold seL; simp
theorem seL_fin {t : Td} {i j : Nat} (hi : i < t.s.length) (hj : j < t.s.length) (hij : i ≠ j) : (seL t i j).eraseIdx j = mk (t.s.length - 1) (merS t i j) := by
  refine mk_eq (by rw [List.length_eraseIdx, if_pos (by rw [seL_len]; exact hj), seL_len]) fun q hq => ?_
  rw [era_at]
  unfold seL merS
  rw [List.getD_eq_getElem?_getD, List.getElem?_set]
  by_cases h : i = up j q
  · rw [if_pos h, if_pos hi, if_pos h.symm, ← h]
    rfl
  · rw [if_neg h, if_neg (fun h2 => h h2.symm), Int.add_zero, ← List.getD_eq_getElem?_getD]
theorem go_del {bA cA : Nat} {sA : List Value} {z : Value} {ys : List Value} {k : Nat} (ho : gok (some (bA, cA, sA)) ys.length 1 ys) (hk : k < ys.length) : gok (some (bA, cA, [z] ++ sA)) (ys.eraseIdx k).length 1 (ys.eraseIdx k) := by
  obtain ⟨h1, h2, h3⟩ := ho
  have h4 := era_len hk
  refine ⟨by omega, ?_, by omega⟩
  simp only [List.length_append, List.length_cons, List.length_nil]
  omega
theorem sub_fm {α β : Type} {l1 l2 : List α} (f : α → List β) (h : l1.Sublist l2) : (l1.flatMap f).Sublist (l2.flatMap f) := by
  induction h with
  | slnil => exact List.Sublist.refl _
  | cons a h ih => rw [List.flatMap_cons]; exact ih.trans (List.sublist_append_right _ _)
  | cons_cons a h ih => rw [List.flatMap_cons, List.flatMap_cons]; exact List.Sublist.append_left ih _
theorem rwB_era (rs : List RW) (j : Nat) : (rwB (rs.eraseIdx j)).Sublist (rwB rs) := sub_fm _ (List.eraseIdx_sublist rs j)
theorem tb_del {S B : Nat} {f f' : Mat} {bC cC : Nat} {sC : List Value} {z : Value} {rs : List RW} {j : Nat} (s : TbS S B f (some (bC, cC, sC)) rs) (hj : j < S) (e : ∀ q b, q < S - 1 → b < B → f (up j q) b = f' q b) : TbS (S - 1) B f' (some (bC, cC, [z] ++ sC)) (rs.eraseIdx j) := by
  have hl := s.len
  have hrl := rcs_map rs
  have h1 : (rcs rwR rs).length = rs.length := by rw [hrl, List.length_map]
  have hgo : gok (some (bC, cC, sC)) (rcs rwR rs).length 1 (rcs rwR rs) := by rw [h1]; exact s.go
  have h2 := go_del (z := z) hgo (k := j) (by omega)
  rw [rcs_era] at h2
  have h3 : (rcs rwR (rs.eraseIdx j)).length = (rs.eraseIdx j).length := by rw [rcs_map, List.length_map]
  rw [h3] at h2
  refine ⟨by rw [List.length_eraseIdx, if_pos (by omega), hl], h2, fun r hr => s.ok r (List.mem_of_mem_eraseIdx hr), fun q hq => ?_⟩
  have e1 : ((rs.eraseIdx j).getD q default).l = (rs.getD (up j q) default).l := by rw [era_at]
  rw [e1, s.l (up j q) (by unfold up; split <;> omega)]
  exact mk_congr fun b hb => e q b hq hb
theorem merT_sm {t : Td} {i j : Nat} (hT : SmT t) : SmT (merT t i j) := by
  have h1 := hT.s
  have h2 := hT.d
  refine ⟨by show (mk _ _).length ≤ _; rw [mk_len]; omega, h2, ?_⟩
  refine ⟨by show (tabL _ _ _).length ≤ _; rw [tab_len]; omega, fun k => ?_⟩
  by_cases hk : k < t.s.length - 1
  · show ((tabL _ _ _).getD k []).length ≤ _
    rw [tab_row _ hk, mk_len]; exact h2
  · show ((tabL _ _ _).getD k []).length ≤ _
    rw [List.getD_eq_getElem?_getD, List.getElem?_eq_none (by rw [tab_len]; omega)]; exact Nat.zero_le _
theorem mer_sm {t : Td} {i j : Int} (h : SmT t) : SmT (merR t i j).1 := by
  unfold merR
  split
  · exact SmT.nil
  · split
    · exact SmT.nil
    · split
      · exact SmT.nil
      · split
        · exact merT_sm h
        · exact SmT.nil
open Classical in
theorem mer_fin {t : Td} {i j : Nat} {A B C : Value} {H : Heap} (h : ¬ validI t ≠ 0) (hi : i < t.s.length) (hj : j < t.s.length) (h3 : i ≠ j) (hr : RdT (merT t i j) (.agg #[A, B, C], H)) : (merR t i j).2 = ckI (merT t i j) ∧ RdT (merR t i j).1 (.agg #[ifV (Ck (merT t i j)) A, ifV (Ck (merT t i j)) B, ifV (Ck (merT t i j)) C], H) := by
  by_cases h4 : Ck (merT t i j)
  · rw [mer_y h hi hj h3 h4, ck_y h4, ifV_y h4, ifV_y h4, ifV_y h4]
    exact ⟨rfl, hr⟩
  · rw [mer_n h hi hj h3 h4, ck_n h4, ifV_n h4, ifV_n h4, ifV_n h4]
    exact ⟨rfl, RdT.nilG _⟩


set_option maxRecDepth 100000 in
set_option maxHeartbeats 8000000 in
theorem Merge_ok (w0 : World) (vt : Value) (t : Td) (ht : IsT w0 vt t) (hT : SmT t) (ii jj : Int) :
    Calls Try.prog 52 #[vt, .int .i64 ii, .int .i64 jj] w0 (Post (X := Value × Heap) (fun y => .tuple #[y.1, .int .i64 (merR t ii jj).2]) (fun y => RdT (merR t ii jj).1 y) (fun y => y.2) w0) := by
  obtain ⟨p1, c1, p2, c2, p3, c3, rfl, t1, t2, t3⟩ := ht
  refine calls Try.func52 rfl (n := 94) rfl (by simp) ?_
  refine TC.seq ?_
  refine TC.region ?_
  refine TL.box rfl rfl (by decide) (fun b0 hb0 => ?_)
  refine TL.alloc Tb.zero_25 rfl (by decide) (fun bo hbo => ?_)
  refine TL.pure (PV.assign rfl) rfl (by decide) ?_
  refine TL.nil ?_
  refine TQ.thenC ?_
  refine TC.seq ?_
  refine TC.seq ?_
  refine TC.region ?_
  refine TL.pure (PV.loadBox rfl Tb.agg_25 (by repeat (first | exact List.Mem.head _ | refine List.Mem.tail _ ?_ | refine List.mem_append_right _ ?_)) rfl) rfl (by decide) ?_
  refine TL.call rfl Tb.gofn_21 (fun a w hs => validate_ok w _ t (IsT.mk (t1.new hs.new) (t2.new hs.new) (t3.new hs.new)) hT) rfl (by decide) (fun _ _ => ?_)
  refine TL.pure (PV.assign rfl) rfl (by decide) ?_
  refine TL.nil ?_
  refine TQ.thenC ?_
  refine TC.seq ?_
  refine TC.region ?_
  refine TL.pure (PV.move rfl) rfl (by decide) ?_
  refine TL.pure (PV.neq rfl rfl) rfl (by decide) ?_
  refine TL.nil ?_
  refine TQ.thenC ?_
  first | refine TC.condD rfl (fun a1 => ?_) (fun a1 => ?_) | refine TC.cond rfl (fun a1 => ?_) (fun a1 => ?_)
  · skip
    refine TC.seq ?_
    refine TC.region ?_
    refine TL.pure (PV.build rfl Tb.zero_25 Tb.pl_25 rfl) rfl (by decide) ?_
    refine TL.pure (PV.move rfl) rfl (by decide) ?_
    refine TL.storeAgg (vs := [.slice none 0 0, .slice none 0 0, .slice none 0 0]) rfl rfl Tb.cells_25 (by repeat (first | exact Upd.head _ | apply Upd.tail | apply Upd.appR)) rfl rfl rfl rfl rfl ?_
    refine TL.pure (PV.assign rfl) rfl (by decide) ?_
    refine TL.nil ?_
    refine TQ.thenC ?_
    refine TC.ret ?_
    refine TQ.thenR ?_
    refine TQ.retR rfl (Res.agg rfl Tb.agg_25 (by repeat (first | exact List.Mem.head _ | refine List.Mem.tail _ ?_ | refine List.mem_append_right _ ?_)) rfl (Res.tmp rfl Res.nil)) ?_
    simp only [tup]
    exact ⟨(nilV, []), by rw [mer_v a1]; rfl, by rw [mer_v a1]; exact RdT.nil, List.nil_sublist _⟩
  · skip
    refine TC.skip ?_
    refine TQ.thenC ?_
    refine TC.seq ?_
    refine TC.seq ?_
    have hV := vt_of a1
    have hns := hV.ns
    have hnd := hV.nd
    refine TC.region ?_
    refine TL.pure (PV.loadBox rfl Tb.agg_25 (by repeat (first | exact List.Mem.head _ | refine List.Mem.tail _ ?_ | refine List.mem_append_right _ ?_)) rfl) rfl (by decide) ?_
    refine TL.pure (PV.move rfl) rfl (by decide) ?_
    refine TL.call rfl Tb.gofn_77 (fun a w hs => isStore_ok w _ t (IsT.mk (t1.new hs.new) (t2.new hs.new) (t3.new hs.new)) _) rfl (by decide) (fun _ _ => ?_)
    refine TL.pure ((by first | exact PV.notD rfl | exact PV.not rfl)) rfl (by decide) ?_
    refine TL.pure (PV.move rfl) rfl (by decide) ?_
    first | refine TL.splitD 22 rfl (fun a2 => ?_) (fun a2 => ?_) | refine TL.split 22 rfl (fun a2 => ?_) (fun a2 => ?_)
    · skip
      refine TL.skip rfl (fun k hk => by cases hk; decide) ?_
      refine TL.skip rfl (fun k hk => by cases hk; decide) ?_
      refine TL.skip rfl (fun k hk => by cases hk; decide) ?_
      refine TL.skip rfl (fun k hk => by cases hk; decide) ?_
      refine TL.pure (PV.pickT rfl rfl) rfl (by decide) ?_
      refine TL.nil ?_
      refine TQ.thenC ?_
      refine TC.condT rfl ?_
      refine TC.seq ?_
      refine TC.region ?_
      refine TL.pure (PV.build rfl Tb.zero_25 Tb.pl_25 rfl) rfl (by decide) ?_
      refine TL.storeAgg (vs := [.slice none 0 0, .slice none 0 0, .slice none 0 0]) rfl rfl Tb.cells_25 (by repeat (first | exact Upd.head _ | apply Upd.tail | apply Upd.appR)) rfl rfl rfl rfl rfl ?_
      refine TL.pure (PV.assign rfl) rfl (by decide) ?_
      refine TL.nil ?_
      refine TQ.thenC ?_
      refine TC.ret ?_
      refine TQ.thenR ?_
      refine TQ.retR rfl (Res.agg rfl Tb.agg_25 (by repeat (first | exact List.Mem.head _ | refine List.Mem.tail _ ?_ | refine List.mem_append_right _ ?_)) rfl (Res.tmp rfl Res.nil)) ?_
      simp only [tup]
      exact ⟨(nilV, []), by rw [mer_4 a1 (by first | omega | (simp at a2; omega) | (simp at a3; omega))]; rfl, by rw [mer_4 a1 (by first | omega | (simp at a2; omega) | (simp at a3; omega))]; exact RdT.nil, List.nil_sublist _⟩
    · skip
      refine TL.pure (PV.loadBox rfl Tb.agg_25 (by repeat (first | exact List.Mem.head _ | refine List.Mem.tail _ ?_ | refine List.mem_append_right _ ?_)) rfl) rfl (by decide) ?_
      refine TL.pure (PV.move rfl) rfl (by decide) ?_
      refine TL.call rfl Tb.gofn_77 (fun a w hs => isStore_ok w _ t (IsT.mk (t1.new hs.new) (t2.new hs.new) (t3.new hs.new)) _) rfl (by decide) (fun _ _ => ?_)
      refine TL.pure ((by first | exact PV.notD rfl | exact PV.not rfl)) rfl (by decide) ?_
      refine TL.pure (PV.pickF rfl rfl) rfl (by decide) ?_
      refine TL.nil ?_
      refine TQ.thenC ?_
      first | refine TC.condD rfl (fun a3 => ?_) (fun a3 => ?_) | refine TC.cond rfl (fun a3 => ?_) (fun a3 => ?_)
      · skip
        refine TC.seq ?_
        refine TC.region ?_
        refine TL.pure (PV.build rfl Tb.zero_25 Tb.pl_25 rfl) rfl (by decide) ?_
        refine TL.storeAgg (vs := [.slice none 0 0, .slice none 0 0, .slice none 0 0]) rfl rfl Tb.cells_25 (by repeat (first | exact Upd.head _ | apply Upd.tail | apply Upd.appR)) rfl rfl rfl rfl rfl ?_
        refine TL.pure (PV.assign rfl) rfl (by decide) ?_
        refine TL.nil ?_
        refine TQ.thenC ?_
        refine TC.ret ?_
        refine TQ.thenR ?_
        refine TQ.retR rfl (Res.agg rfl Tb.agg_25 (by repeat (first | exact List.Mem.head _ | refine List.Mem.tail _ ?_ | refine List.mem_append_right _ ?_)) rfl (Res.tmp rfl Res.nil)) ?_
        simp only [tup]
        exact ⟨(nilV, []), by rw [mer_4 a1 (by first | omega | (simp at a2; omega) | (simp at a3; omega))]; rfl, by rw [mer_4 a1 (by first | omega | (simp at a2; omega) | (simp at a3; omega))]; exact RdT.nil, List.nil_sublist _⟩
      · skip
        refine TC.skip ?_
        refine TQ.thenC ?_
        refine TC.seq ?_
        refine TC.seq ?_
        have hi9 : 0 ≤ ii ∧ ii < t.s.length := by simpa using a2
        have hj9 : 0 ≤ jj ∧ jj < t.s.length := by simpa using a3
        have hb9 : (0 ≤ ii ∧ ii < t.s.length) ∧ 0 ≤ jj ∧ jj < t.s.length := ⟨hi9, hj9⟩
        refine TC.region ?_
        refine TL.pure (PV.move rfl) rfl (by decide) ?_
        refine TL.pure (PV.move rfl) rfl (by decide) ?_
        refine TL.pure (PV.eql rfl rfl) rfl (by decide) ?_
        refine TL.nil ?_
        refine TQ.thenC ?_
        first | refine TC.condD rfl (fun a4 => ?_) (fun a4 => ?_) | refine TC.cond rfl (fun a4 => ?_) (fun a4 => ?_)
        · skip
          refine TC.seq ?_
          refine TC.region ?_
          refine TL.pure (PV.build rfl Tb.zero_25 Tb.pl_25 rfl) rfl (by decide) ?_
          refine TL.storeAgg (vs := [.slice none 0 0, .slice none 0 0, .slice none 0 0]) rfl rfl Tb.cells_25 (by repeat (first | exact Upd.head _ | apply Upd.tail | apply Upd.appR)) rfl rfl rfl rfl rfl ?_
          refine TL.pure (PV.assign rfl) rfl (by decide) ?_
          refine TL.nil ?_
          refine TQ.thenC ?_
          refine TC.ret ?_
          refine TQ.thenR ?_
          refine TQ.retR rfl (Res.agg rfl Tb.agg_25 (by repeat (first | exact List.Mem.head _ | refine List.Mem.tail _ ?_ | refine List.mem_append_right _ ?_)) rfl (Res.tmp rfl Res.nil)) ?_
          simp only [tup]
          exact ⟨(nilV, []), by rw [mer_1 a1 hb9 a4]; rfl, by rw [mer_1 a1 hb9 a4]; exact RdT.nil, List.nil_sublist _⟩
        · skip
          refine TC.skip ?_
          refine TQ.thenC ?_
          refine TC.seq ?_
          obtain ⟨i, rfl⟩ : ∃ k : Nat, ii = (k : Int) := ⟨ii.toNat, by omega⟩
          obtain ⟨j, rfl⟩ : ∃ k : Nat, jj = (k : Int) := ⟨jj.toNat, by omega⟩
          have hi : i < t.s.length := by omega
          have hj : j < t.s.length := by omega
          have hij : i ≠ j := by omega
          have hcl := hV.c.len
          have hri := hV.c.row i hi
          have hrj := hV.c.row j hj
          refine TC.region ?_
          refine TL.pure (PV.loadBox rfl Tb.agg_25 (by repeat (first | exact List.Mem.head _ | refine List.Mem.tail _ ?_ | refine List.mem_append_right _ ?_)) rfl) rfl (by decide) ?_
          refine TL.call rfl Tb.gofn_78 (fun a w hs => cloneT_ok w _ t (IsT.mk (t1.new hs.new) (t2.new hs.new) (t3.new hs.new)) hT) rfl (by decide) (fun y8 hy8 => ?_)
          obtain ⟨hA, hB, hC, rs0⟩ := y8
          obtain ⟨hA9, hB9, hC9, hR9, hM9⟩ := hy8
          have hrl0 : rs0.length = t.s.length := by have := congrArg List.length (show rs0.map RW.l = t.c from hM9); rw [List.length_map] at this; omega
          obtain _ | ⟨bA, cA, sA⟩ := hA
          · exact absurd hA9.2 (by simp only; omega)
          obtain _ | ⟨bC, cC, sC⟩ := hC
          · exact absurd hC9.2 (by simp only; omega)
          rw [show clV t (some (bA, cA, sA), hB, some (bC, cC, sC), rs0) = .agg #[.slice (some ⟨bA, 0, none⟩) t.s.length cA, gval hB t.d.length, .slice (some ⟨bC, 0, none⟩) t.s.length cC] from by unfold clV; rw [hcl]; rfl]
          refine TL.alloc Tb.zero_25 rfl (by decide) (fun bq hbq => ?_)
          refine TL.storeAgg (vs := [.slice (some ⟨bA, 0, none⟩) t.s.length cA, gval hB t.d.length, .slice (some ⟨bC, 0, none⟩) t.s.length cC]) rfl rfl Tb.cells_25 (by repeat (first | exact Upd.head _ | apply Upd.tail | apply Upd.appR)) rfl rfl (all3 rfl (gval_one _ _) rfl) rfl rfl ?_
          refine TL.nil ?_
          refine TQ.thenC ?_
          refine TC.seq ?_
          refine TC.perm (G' := gbR rwR 22 (some (bC, cC, sC)) rs0 ++ (rwB rs0 ++ (gbI ((some (bA, cA, sA)), t.s) ++ (gbI (hB, t.d) ++ [(bq, Obj.cells #[.slice (some ⟨bA, 0, none⟩) t.s.length cA, gval hB t.d.length, .slice (some ⟨bC, 0, none⟩) t.s.length cC] 25 (0, 0)), (bo, Obj.cells #[.slice none 0 0, .slice none 0 0, .slice none 0 0] 25 (0, 0)), (b0, Obj.cells #[.slice p1 t.s.length c1, .slice p2 t.d.length c2, .slice p3 t.c.length c3] 25 (0, 0))])))) (perm_of fun c9 => by simp only [gbI, gbR, gblk, clG, List.map_append, List.sum_append, List.map_cons, List.sum_cons, List.map_nil, List.sum_nil, Value.cells]; try omega) ?_
          obtain ⟨q0, hq0p, hq0⟩ := t1 j (by omega)
          have hs1 := hV.s i hi
          have hs2 := hV.s j hj
          have hgs : gok (some (bA, cA, sA)) t.s.length 1 (ival t.s) := hA9
          refine TC.draw 12 Tb.mixed (by kernel_rfl) ?_
          simp only [List.take_succ_cons, List.take_zero, List.drop_succ_cons, List.drop_zero]
          refine TS.pure (PV.fieldAddr rfl Tb.fo_25_0) rfl (by decide) ?_
          refine TS.pure (PV.load rfl Tb.one_22 (by repeat (first | exact List.Mem.head _ | refine List.Mem.tail _ ?_ | refine List.mem_append_right _ ?_)) rfl) rfl (by decide) ?_
          refine TS.pure (PV.move rfl) rfl (by decide) ?_
          refine TS.pure (PV.indexG (h := (some (bA, cA, sA))) (len := t.s.length) (ys := ival t.s) (j := i) rfl rfl hgs Tb.elm_22 rfl (by omega)) rfl (by decide) ?_
          refine TS.pure (PV.loadGI (y := ((some (bA, cA, sA)), t.s)) (j := i) (v := t.s.getD i 0) rfl Tb.one_3 (fun yy hyy => by repeat (first | exact List.mem_append_left _ hyy | exact List.mem_append_left _ (List.mem_append_right _ hyy) | exact List.mem_append_left _ (List.mem_append_left _ hyy) | refine List.mem_append_right _ ?_ | refine List.Mem.tail _ ?_)) hA9 (by omega) rfl) rfl (by decide) ?_
          refine TS.pure (PV.fieldAddr rfl Tb.fo_25_0) rfl (by decide) ?_
          refine TS.pure (PV.load rfl Tb.one_22 (by repeat (first | exact List.Mem.head _ | refine List.Mem.tail _ ?_ | refine List.mem_append_right _ ?_)) rfl) rfl (by decide) ?_
          refine TS.pure (PV.move rfl) rfl (by decide) ?_
          refine TS.pure (PV.indexA (j := j) rfl hq0p rfl Tb.elm_22 rfl (by omega)) rfl (by decide) ?_
          refine TS.pure (PV.loadOld rfl Tb.one_3 hq0) rfl (by decide) ?_
          refine TS.pure (PV.add rfl rfl (by omega)) rfl (by decide) ?_
          refine TS.pure (PV.indexG (h := (some (bA, cA, sA))) (len := t.s.length) (ys := ival t.s) (j := i) rfl rfl hgs Tb.elm_22 rfl (by omega)) rfl (by decide) ?_
          refine TS.nil ?_
          refine TL.putI (h := (some (bA, cA, sA))) (xs := t.s) (xs' := seL t i j) (j := i) rfl rfl Tb.cells_3 hA9 rfl (by repeat (first | exact PutH.here _ _ _ _ | apply PutH.tail | apply PutH.app)) (by omega) rfl rfl ?_
          refine TL.nil ?_
          refine TQ.thenC ?_
          refine TC.seq ?_
          refine TC.seq ?_
          obtain ⟨q1, hq1p, q1p, q1c, hq1, hq1r⟩ := t3 j (by omega)
          refine TC.region ?_
          refine TL.pure (PV.fieldAddr rfl Tb.fo_25_2) rfl (by decide) ?_
          refine TL.pure (PV.load rfl Tb.one_23 (by repeat (first | exact List.Mem.head _ | refine List.Mem.tail _ ?_ | refine List.mem_append_right _ ?_)) rfl) rfl (by decide) ?_
          refine TL.pure (PV.move rfl) rfl (by decide) ?_
          refine TL.pure (PV.indexA (j := j) rfl hq1p rfl Tb.elm_23 rfl (by omega)) rfl (by decide) ?_
          refine TL.pure (PV.loadOld rfl Tb.one_22 hq1) rfl (by decide) ?_
          refine TL.pure (PV.len rfl Tb.sl_22) rfl (by decide) ?_
          refine TL.pure (PV.move rfl) rfl (by decide) ?_
          refine TL.nil ?_
          refine TQ.thenC ?_
          refine TC.block ?_
          have hts0 : TbS t.s.length t.d.length (mnM t i j 0) (some (bC, cC, sC)) rs0 := TbS.of hC9 hR9 (hM9.trans ((tab_self hV.c).trans (tab_congr fun p q _ _ => mnM_0 p q)))
          refine TC.loopK [1, 2, 6, 7, 9, 51, 52] (X := Nat × List RW) (fun x => x.1 ≤ t.d.length ∧ TbS t.s.length t.d.length (mnM t i j x.1) (some (bC, cC, sC)) x.2) (fun x => [(53, .int .i64 (x.1 : Nat))]) (fun x => gbR rwR 22 (some (bC, cC, sC)) x.2 ++ (rwB x.2 ++ (gbI ((some (bA, cA, sA)), (seL t i j)) ++ (gbI (hB, t.d) ++ [(bq, Obj.cells #[.slice (some ⟨bA, 0, none⟩) t.s.length cA, gval hB t.d.length, .slice (some ⟨bC, 0, none⟩) t.s.length cC] 25 (0, 0)), (bo, Obj.cells #[.slice none 0 0, .slice none 0 0, .slice none 0 0] 25 (0, 0)), (b0, Obj.cells #[.slice p1 t.s.length c1, .slice p2 t.d.length c2, .slice p3 t.c.length c3] 25 (0, 0))])))) (fun x => t.d.length - x.1) (0, rs0) ⟨Nat.zero_le _, hts0⟩ (by repeat (first | exact True.intro | refine And.intro rfl ?_)) (List.Sublist.refl _) ?_
          intro x hx9
          refine TC.seq ?_
          refine TC.region ?_
          refine TL.pure (PV.lss rfl rfl) rfl (by decide) ?_
          refine TL.nil ?_
          refine TQ.thenC ?_
          refine TC.seq ?_
          first | refine TC.condD rfl (fun hlt => ?_) (fun hlt => ?_) | refine TC.cond rfl (fun hlt => ?_) (fun hlt => ?_)
          · skip
            refine TC.skip ?_
            refine TQ.thenC ?_
            refine TC.seq ?_
            refine TC.block ?_
            refine TC.seq ?_
            obtain ⟨q2, hq2p, hq2⟩ := hq1r x.1 (by omega)
            refine TC.region ?_
            refine TL.pure (PV.move rfl) rfl (by decide) ?_
            refine TL.pure (PV.indexA rfl hq2p rfl Tb.elm_22 rfl (by omega)) rfl (by decide) ?_
            refine TL.pure (PV.loadOld rfl Tb.one_3 hq2) rfl (by decide) ?_
            refine TL.pure (PV.assign rfl) rfl (by decide) ?_
            refine TL.pure (PV.assign rfl) rfl (by decide) ?_
            refine TL.nil ?_
            refine TQ.thenC ?_
            have hts9 := hx9.2
            have hxl := hts9.len
            have hro := hts9.rk hi
            have hrl := hts9.rl hi
            have ev : (t.c.getD j []).getD x.1 0 = getM t.c j x.1 := rfl
            rw [ev]
            rw [rwB_at (show i < x.2.length by omega)]
            refine TC.draw 17 Tb.mixed (by kernel_rfl) ?_
            simp only [List.take_succ_cons, List.take_zero, List.drop_succ_cons, List.drop_zero]
            refine TS.pure (PV.fieldAddr rfl Tb.fo_25_2) rfl (by decide) ?_
            refine TS.pure (PV.load rfl Tb.one_23 (by repeat (first | exact List.Mem.head _ | refine List.Mem.tail _ ?_ | refine List.mem_append_right _ ?_)) rfl) rfl (by decide) ?_
            refine TS.pure (PV.move rfl) rfl (by decide) ?_
            refine TS.pure (PV.indexG (h := (some (bC, cC, sC))) (len := t.s.length) (ys := rcs rwR x.2) (j := i) rfl rfl hts9.gk Tb.elm_23 rfl (by omega)) rfl (by decide) ?_
            refine TS.pure (PV.loadRecF (R := rwR) (h := (some (bC, cC, sC))) (l := x.2) (j := i) (f := 0) (v := gval (x.2.getD i default).h (x.2.getD i default).l.length) (e := 22) rfl Tb.one_22 (fun yy hyy => by repeat (first | exact List.mem_append_left _ hyy | exact List.mem_append_left _ (List.mem_append_right _ hyy) | exact List.mem_append_left _ (List.mem_append_left _ hyy) | refine List.mem_append_right _ ?_ | refine List.Mem.tail _ ?_)) hts9.go (by omega) Nat.one_pos rfl) rfl (by decide) ?_
            refine TS.pure (PV.move rfl) rfl (by decide) ?_
            refine TS.pure (PV.fieldAddr rfl Tb.fo_25_2) rfl (by decide) ?_
            refine TS.pure (PV.load rfl Tb.one_23 (by repeat (first | exact List.Mem.head _ | refine List.Mem.tail _ ?_ | refine List.mem_append_right _ ?_)) rfl) rfl (by decide) ?_
            refine TS.pure (PV.move rfl) rfl (by decide) ?_
            refine TS.pure (PV.indexG (h := (some (bC, cC, sC))) (len := t.s.length) (ys := rcs rwR x.2) (j := i) rfl rfl hts9.gk Tb.elm_23 rfl (by omega)) rfl (by decide) ?_
            refine TS.pure (PV.loadRecF (R := rwR) (h := (some (bC, cC, sC))) (l := x.2) (j := i) (f := 0) (v := gval (x.2.getD i default).h (x.2.getD i default).l.length) (e := 22) rfl Tb.one_22 (fun yy hyy => by repeat (first | exact List.mem_append_left _ hyy | exact List.mem_append_left _ (List.mem_append_right _ hyy) | exact List.mem_append_left _ (List.mem_append_left _ hyy) | refine List.mem_append_right _ ?_ | refine List.Mem.tail _ ?_)) hts9.go (by omega) Nat.one_pos rfl) rfl (by decide) ?_
            refine TS.pure (PV.move rfl) rfl (by decide) ?_
            refine TS.pure (PV.indexG (h := (x.2.getD i default).h) (len := (x.2.getD i default).l.length) (ys := ival (x.2.getD i default).l) (j := x.1) rfl rfl hro Tb.elm_22 rfl (by omega)) rfl (by decide) ?_
            refine TS.pure (PV.loadGI (y := ((x.2.getD i default).h, (x.2.getD i default).l)) (j := x.1) (v := (mnM t i j x.1 i x.1)) rfl Tb.one_3 (fun yy hyy => by repeat (first | exact List.mem_append_left _ hyy | exact List.mem_append_left _ (List.mem_append_right _ hyy) | exact List.mem_append_left _ (List.mem_append_left _ hyy) | refine List.mem_append_right _ ?_ | refine List.Mem.tail _ ?_)) hro (by show _ < (x.2.getD i default).l.length; omega) (hts9.va hi (by omega))) rfl (by decide) ?_
            refine TS.pure (PV.move rfl) rfl (by decide) ?_
            refine TS.pure (PV.min rfl rfl Tb.int_3) rfl (by decide) ?_
            refine TS.pure (PV.indexG (h := (x.2.getD i default).h) (len := (x.2.getD i default).l.length) (ys := ival (x.2.getD i default).l) (j := x.1) rfl rfl hro Tb.elm_22 rfl (by omega)) rfl (by decide) ?_
            refine TS.nil ?_
            refine TL.putI (h := (x.2.getD i default).h) (xs := (x.2.getD i default).l) (xs' := (x.2.getD i default).l.set x.1 (min (mnM t i j x.1 i x.1) (getM t.c j x.1))) (j := x.1) rfl rfl Tb.cells_3 hro rfl (by repeat (first | exact PutH.here _ _ _ _ | apply PutH.tail | apply PutH.app)) (by omega) rfl rfl ?_
            obtain ⟨r1, hr1⟩ : ∃ z, z = rwS x.2 i x.1 (min (mnM t i j x.1 i x.1) (getM t.c j x.1)) := ⟨_, rfl⟩
            refine TL.congrG (G' := gbR rwR 22 (some (bC, cC, sC)) r1 ++ (rwB r1 ++ (gbI ((some (bA, cA, sA)), (seL t i j)) ++ (gbI (hB, t.d) ++ [(bq, Obj.cells #[.slice (some ⟨bA, 0, none⟩) t.s.length cA, gval hB t.d.length, .slice (some ⟨bC, 0, none⟩) t.s.length cC] 25 (0, 0)), (bo, Obj.cells #[.slice none 0 0, .slice none 0 0, .slice none 0 0] 25 (0, 0)), (b0, Obj.cells #[.slice p1 t.s.length c1, .slice p2 t.d.length c2, .slice p3 t.c.length c3] 25 (0, 0))])))) (by rw [hr1]; exact (rwS_blk (h := (some (bC, cC, sC))) (by omega) _ _ _).symm) ?_
            have hst : TbS t.s.length t.d.length (mnM t i j (x.1 + 1)) (some (bC, cC, sC)) r1 := by rw [hr1]; exact hts9.set hi (by omega) mnM_succ.symm (fun p q hp hq hne => mnM_other hne)
            refine TL.nil ?_
            refine TQ.blkN ?_
            refine TQ.thenC ?_
            refine TC.region ?_
            refine TL.pure (PV.add rfl rfl (by omega)) rfl (by decide) ?_
            refine TL.pure (PV.move rfl) rfl (by decide) ?_
            refine TL.nil ?_
            refine TQ.thenN ?_
            refine TQ.backK (x.1 + 1, r1) (by repeat (first | exact True.intro | refine And.intro rfl ?_)) (by repeat (first | exact True.intro | refine And.intro rfl ?_)) (List.Sublist.refl _) ⟨by simp only; omega, hst⟩ (by simp only; omega)
          · skip
            refine TC.exit ?_
            refine TQ.thenE ?_
            refine TQ.thenE ?_
            refine TQ.blkS ?_
            refine TQ.thenC ?_
            refine TC.seq ?_
            have hxe : x.1 = t.d.length := by omega
            have hts := hx9.2
            rw [hxe] at hts
            have hxl := hts.len
            have hgsl : gok (some (bA, cA, sA)) t.s.length 1 (ival (seL t i j)) := by have h := go_lenI (l := seL t i j) (show goI ((some (bA, cA, sA)), t.s) from hA9) (seL_len t i j); unfold goI at h; simp only at h; rwa [seL_len] at h
            have hgrs : gok (some (bC, cC, sC)) t.s.length 1 (rcs rwR x.2) := hts.gk
            have hrcl : (rcs rwR x.2).length = t.s.length := by rw [rcs_map, List.length_map, hxl]
            have hivl : (ival (seL t i j)).length = t.s.length := by rw [List.length_map, seL_len]
            refine TC.region ?_
            refine TL.pure (PV.fieldAddr rfl Tb.fo_25_0) rfl (by decide) ?_
            refine TL.pure (PV.load rfl Tb.one_22 (by repeat (first | exact List.Mem.head _ | refine List.Mem.tail _ ?_ | refine List.mem_append_right _ ?_)) rfl) rfl (by decide) ?_
            refine TL.pure (PV.move rfl) rfl (by decide) ?_
            refine TL.pure (PV.move rfl) rfl (by decide) ?_
            refine TL.pure (PV.add rfl rfl (by omega)) rfl (by decide) ?_
            refine TL.callDel (sp := sA) (ys := ival (seL t i j)) (K := t.s.length) (k := j) rfl hivl (by omega) (ivl_one _) hj hgsl (by repeat (first | exact Take.head _ | apply Take.tail | apply Take.appR)) rfl (by decide) ?_
            refine TL.pure (PV.fieldAddr rfl Tb.fo_25_0) rfl (by decide) ?_
            refine TL.store rfl rfl Tb.cells_22 rfl (by repeat (first | exact Upd.head _ | apply Upd.tail | apply Upd.appR)) (by first | decide | (simp; done) | (simp; omega) | omega) rfl rfl ?_
            refine TL.nil ?_
            refine TQ.thenC ?_
            refine TC.seq ?_
            refine TC.region ?_
            refine TL.pure (PV.fieldAddr rfl Tb.fo_25_2) rfl (by decide) ?_
            refine TL.pure (PV.load rfl Tb.one_23 (by repeat (first | exact List.Mem.head _ | refine List.Mem.tail _ ?_ | refine List.mem_append_right _ ?_)) rfl) rfl (by decide) ?_
            refine TL.pure (PV.move rfl) rfl (by decide) ?_
            refine TL.pure (PV.move rfl) rfl (by decide) ?_
            refine TL.pure (PV.add rfl rfl (by omega)) rfl (by decide) ?_
            refine TL.callDelR (sp := sC) (ys := rcs rwR x.2) (K := t.s.length) (k := j) rfl hrcl (by omega) (rcs_one _) hj hgrs (by repeat (first | exact Take.head _ | apply Take.tail | apply Take.appR)) rfl (by decide) ?_
            refine TL.pure (PV.fieldAddr rfl Tb.fo_25_2) rfl (by decide) ?_
            refine TL.store rfl rfl Tb.cells_23 rfl (by repeat (first | exact Upd.head _ | apply Upd.tail | apply Upd.appR)) (by first | decide | (simp; done) | (simp; omega) | omega) rfl rfl ?_
            refine TL.nil ?_
            refine TQ.thenC ?_
            refine TC.seq ?_
            rw [ival_era, rcs_era]
            rw [show (((#[.slice (some ⟨bA, 0, none⟩) t.s.length cA, gval hB t.d.length, .slice (some ⟨bC, 0, none⟩) t.s.length cC] : Array Value).setIfInBounds (0 + 0) (.slice (some ⟨bA, 0, none⟩) (t.s.length - 1) cA)).setIfInBounds (0 + 2) (.slice (some ⟨bC, 0, none⟩) (t.s.length - 1) cC)) = #[.slice (some ⟨bA, 0, none⟩) (t.s.length - 1) cA, gval hB t.d.length, .slice (some ⟨bC, 0, none⟩) (t.s.length - 1) cC] from rfl]
            refine TC.perm (G' := gbR rwR 22 (some (bC, cC, [Value.slice none 0 0] ++ sC)) (x.2.eraseIdx j) ++ (rwB x.2 ++ (gbI (hB, t.d) ++ (gbI ((some (bA, cA, [Value.int .i64 0] ++ sA)), (seL t i j).eraseIdx j) ++ [(bq, Obj.cells #[.slice (some ⟨bA, 0, none⟩) (t.s.length - 1) cA, gval hB t.d.length, .slice (some ⟨bC, 0, none⟩) (t.s.length - 1) cC] 25 (0, 0)), (bo, Obj.cells #[.slice none 0 0, .slice none 0 0, .slice none 0 0] 25 (0, 0)), (b0, Obj.cells #[.slice p1 t.s.length c1, .slice p2 t.d.length c2, .slice p3 t.c.length c3] 25 (0, 0))])))) (perm_of fun c9 => by simp only [gbI, gbR, gblk, clG, List.map_append, List.sum_append, List.map_cons, List.sum_cons, List.map_nil, List.sum_nil, Value.cells]; try omega) ?_
            have hfs := seL_fin hi hj hij
            have htd : TbS (t.s.length - 1) t.d.length (merM t i j) (some (bC, cC, [Value.slice none 0 0] ++ sC)) (x.2.eraseIdx j) := tb_del hts hj (fun q b _ hb => mnM_fin hb)
            have hgd : goI ((some (bA, cA, [Value.int .i64 0] ++ sA)), mk (t.s.length - 1) (merS t i j)) := by have h := go_del (z := Value.int .i64 0) (k := j) (ys := ival (seL t i j)) (by rw [hivl]; exact hgsl) (by omega); rw [ival_era, hfs] at h; unfold goI; simpa using h
            have hrd : RdT (merT t i j) (.agg #[.slice (some ⟨bA, 0, none⟩) (t.s.length - 1) cA, gval hB t.d.length, .slice (some ⟨bC, 0, none⟩) (t.s.length - 1) cC], (gbR rwR 22 (some (bC, cC, [Value.slice none 0 0] ++ sC)) (x.2.eraseIdx j) ++ rwB (x.2.eraseIdx j)) ++ (gbI (hB, t.d) ++ gbI ((some (bA, cA, [Value.int .i64 0] ++ sA)), (seL t i j).eraseIdx j))) := by rw [hfs]; have h := RdT.mk (t := merT t i j) hgd hB9 (RdG.tb htd); have e1 : (merT t i j).s.length = t.s.length - 1 := mk_len _ _; rw [e1] at h; exact h
            refine TC.region ?_
            refine TL.pure (PV.loadBox (cs := [.slice (some ⟨bA, 0, none⟩) (t.s.length - 1) cA, gval hB t.d.length, .slice (some ⟨bC, 0, none⟩) (t.s.length - 1) cC]) rfl Tb.agg_25 (by repeat (first | exact List.Mem.head _ | refine List.Mem.tail _ ?_ | refine List.mem_append_right _ ?_)) rfl) rfl (by decide) ?_
            refine TL.call rfl Tb.gofn_84 (fun a w hs => checked_ok w _ _ _ _ rfl (merT t i j) (hrd.at hs.new (fun yy hyy => List.Sublist.subset (by simp only [List.append_assoc]; exact List.Sublist.append_left (List.Sublist.append (rwB_era _ _) (List.Sublist.append_left (List.sublist_append_left _ _) _)) _) hyy)) (merT_sm hT) (by show 1 ≤ (mk _ _).length; rw [mk_len]; omega) hnd.1) rfl (by decide) (fun _ _ => ?_)
            obtain ⟨ef, hf⟩ := mer_fin a1 hi hj hij hrd
            refine TL.pure (PV.extract rfl rfl) rfl (by decide) ?_
            refine TL.pure (PV.extract rfl rfl) rfl (by decide) ?_
            refine TL.storeAgg (vs := [ifV (Ck (merT t i j)) (.slice (some ⟨bA, 0, none⟩) (t.s.length - 1) cA), ifV (Ck (merT t i j)) (gval hB t.d.length), ifV (Ck (merT t i j)) (.slice (some ⟨bC, 0, none⟩) (t.s.length - 1) cC)]) rfl rfl Tb.cells_25 (by repeat (first | exact Upd.head _ | apply Upd.tail | apply Upd.appR)) rfl rfl (all3 (ifV_one rfl) (ifV_one (gval_one _ _)) (ifV_one rfl)) rfl rfl ?_
            refine TL.pure (PV.assign rfl) rfl (by decide) ?_
            refine TL.nil ?_
            refine TQ.thenC ?_
            refine TC.ret ?_
            refine TQ.retR rfl (Res.agg rfl Tb.agg_25 (by repeat (first | exact List.Mem.head _ | refine List.Mem.tail _ ?_ | refine List.mem_append_right _ ?_)) rfl (Res.tmp rfl Res.nil)) ?_
            simp only [tup]
            exact ⟨(.agg #[ifV (Ck (merT t i j)) (.slice (some ⟨bA, 0, none⟩) (t.s.length - 1) cA), ifV (Ck (merT t i j)) (gval hB t.d.length), ifV (Ck (merT t i j)) (.slice (some ⟨bC, 0, none⟩) (t.s.length - 1) cC)], (gbR rwR 22 (some (bC, cC, [Value.slice none 0 0] ++ sC)) (x.2.eraseIdx j) ++ rwB (x.2.eraseIdx j)) ++ (gbI (hB, t.d) ++ gbI ((some (bA, cA, [Value.int .i64 0] ++ sA)), (seL t i j).eraseIdx j))), by rw [ef], hf, (by simp only [List.append_assoc]; exact List.Sublist.append_left (List.Sublist.append (rwB_era _ _) (List.Sublist.append_left (List.sublist_append_left _ _) _)) _)⟩

end Go.Proofs.Ytghlkndanpegbaa
