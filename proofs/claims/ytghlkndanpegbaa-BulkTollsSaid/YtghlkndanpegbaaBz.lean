/- Tolls: contracts. -/
import Derived.Test.YtghlkndanpegbaaBx
import Derived.Test.YtghlkndanpegbaaBq
set_option linter.unusedVariables false
set_option linter.unusedSimpArgs false
namespace Go.Proofs.Ytghlkndanpegbaa
open Go.Sx Go.RowKit Go.Sand Go.Tp

/-- A trade whose costs at a store are up by so much, as far as a buyer. -/
def tolM (t : Td) (k : Nat) (n : Int) (jj : Nat) : Mat := fun i j => getM t.c i j + if i = k ∧ j < jj then n else 0
def tolT (t : Td) (k : Nat) (n : Int) : Td := ⟨t.s, t.d, tabL t.s.length t.d.length (tolM t k n t.d.length)⟩
def TolOk (t : Td) (k : Nat) (n : Int) : Prop := ∀ j, j < t.d.length → 0 ≤ getM t.c k j + n ∧ getM t.c k j + n ≤ 99
open Classical in
noncomputable def tolR (t : Td) (k n : Int) : Td × Int := if validI t ≠ 0 then (nilT, validI t) else if ¬ (0 ≤ k ∧ k < t.s.length) then (nilT, 4) else if TolOk t k.toNat n then (tolT t k.toNat n, 0) else (nilT, 1)
theorem tol_v {t : Td} {k n : Int} (h : validI t ≠ 0) : tolR t k n = (nilT, validI t) := if_pos h
theorem tol_4 {t : Td} {k n : Int} (h : ¬ validI t ≠ 0) (h2 : ¬ (0 ≤ k ∧ k < t.s.length)) : tolR t k n = (nilT, 4) := by unfold tolR; rw [if_neg h, if_pos h2]
theorem tol_1 {t : Td} {k : Nat} {n : Int} (h : ¬ validI t ≠ 0) (h2 : k < t.s.length) (h3 : ¬ TolOk t k n) : tolR t k n = (nilT, 1) := by unfold tolR; rw [if_neg h, if_neg (by omega), Int.toNat_natCast, if_neg h3]
theorem tol_0 {t : Td} {k : Nat} {n : Int} (h : ¬ validI t ≠ 0) (h2 : k < t.s.length) (h3 : TolOk t k n) : tolR t k n = (tolT t k n, 0) := by unfold tolR; rw [if_neg h, if_neg (by omega), Int.toNat_natCast, if_pos h3]
theorem tolM_succ {t : Td} {k jj : Nat} {n : Int} (e : tolM t k n jj k jj = getM t.c k jj) : tolM t k n (jj + 1) k jj = tolM t k n jj k jj + n := by
  rw [e]
  unfold tolM
  rw [if_pos ⟨rfl, by omega⟩]
theorem tolM_at {t : Td} {k jj : Nat} {n : Int} : tolM t k n jj k jj = getM t.c k jj := by
  unfold tolM
  rw [if_neg (by omega), Int.add_zero]
theorem tolM_other {t : Td} {k jj p q : Nat} {n : Int} (h : ¬ (p = k ∧ q = jj)) : tolM t k n (jj + 1) p q = tolM t k n jj p q := by
  unfold tolM
  by_cases h2 : p = k ∧ q < jj
  · rw [if_pos h2, if_pos ⟨h2.1, by omega⟩]
  · rw [if_neg h2, if_neg (by omega)]
theorem tolM_0 {t : Td} {k : Nat} {n : Int} (p q : Nat) : getM t.c p q = tolM t k n 0 p q := by
  unfold tolM
  rw [if_neg (by omega), Int.add_zero]
theorem smg_tab {S B : Nat} (f : Mat) (hS : S ≤ 1000000) (hB : B ≤ 1000000) : SmG (tabL S B f) := by
  refine ⟨by rw [tab_len]; exact hS, fun k => ?_⟩
  by_cases hk : k < S
  · rw [tab_row f hk, mk_len]; exact hB
  · rw [List.getD_eq_getElem?_getD, List.getElem?_eq_none (by rw [tab_len]; omega)]; exact Nat.zero_le _
theorem tolT_sm {t : Td} {k : Nat} {n : Int} (hT : SmT t) : SmT (tolT t k n) := ⟨hT.s, hT.d, smg_tab _ hT.s hT.d⟩
theorem tolT_vt {t : Td} {k : Nat} {n : Int} (hV : VT t) (h : TolOk t k n) : VT (tolT t k n) := by
  refine ⟨hV.ns, hV.nd, hV.s, hV.d, hV.sum, ⟨tab_len _ _ _, fun i hi => by show ((tabL _ _ _).getD i []).length = _; rw [tab_row (S := t.s.length) _ hi, mk_len]; rfl, fun i j hi hj => ?_⟩⟩
  show 0 ≤ getM (tabL _ _ _) i j ∧ getM (tabL _ _ _) i j ≤ 99
  rw [tab_at (S := t.s.length) (B := t.d.length) _ hi hj]
  unfold tolM
  have h1 := hV.c.bd i j hi hj
  have h2 := h j hj
  by_cases h3 : i = k ∧ j < t.d.length
  · rw [if_pos h3, h3.1]; exact h2
  · rw [if_neg h3]; omega
theorem tolT_ok {t : Td} {k : Nat} {n : Int} (hk : k < t.s.length) (h : VT (tolT t k n)) : TolOk t k n := fun j hj => by
  have h1 := h.c.bd k j hk hj
  have e : getM (tolT t k n).c k j = getM t.c k j + n := by
    show getM (tabL _ _ _) k j = _
    rw [tab_at _ hk hj]
    unfold tolM
    rw [if_pos ⟨rfl, hj⟩]
  rw [e] at h1
  exact h1
theorem tol_n {t : Td} {k : Nat} {n : Int} (hV : VT t) (hk : k < t.s.length) (h : TolOk t k n) : -99 ≤ n ∧ n ≤ 99 := by
  have hd := hV.nd
  have h1 := h 0 (by omega)
  have h2 := hV.c.bd k 0 hk (by omega)
  omega
theorem tol_sm {t : Td} {k n : Int} (hT : SmT t) : SmT (tolR t k n).1 := by
  unfold tolR
  split
  · exact SmT.nil
  · split
    · exact SmT.nil
    · split
      · exact tolT_sm hT
      · exact SmT.nil
theorem tolT_mn {t : Td} {k : Nat} {n : Int} (hV : VT t) (hk : k < t.s.length) : mnI (tolT t k n) = mnI t + n * t.s.getD k 0 := by
  refine mn_eq ?_
  have h1 := (mn_is hV).toll hk n
  exact h1.congr (fun _ _ => rfl) (fun _ _ => rfl) (fun i j hi hj => by
    show _ = getM (tabL _ _ _) i j
    rw [tab_at _ hi hj]
    unfold tolM
    by_cases h3 : i = k
    · rw [if_pos h3, if_pos ⟨h3, hj⟩]
    · rw [if_neg h3, if_neg (fun h => h3 h.1)])
theorem tol_l {t : Td} {k n : Int} (h : (tolR t k n).2 = 0) : ∃ j : Nat, k = (j : Int) ∧ j < t.s.length ∧ lstR (tolR t k n).1 = (mnI t + n * t.s.getD j 0, 0) ∧ lstR t = (mnI t, 0) ∧ (-99 ≤ n ∧ n ≤ 99) ∧ VT t := by
  by_cases h1 : validI t ≠ 0
  · rw [tol_v h1] at h; exact absurd h h1
  · by_cases h2 : ¬ (0 ≤ k ∧ k < t.s.length)
    · rw [tol_4 h1 h2] at h; cases h
    · obtain ⟨j, rfl⟩ : ∃ j : Nat, k = (j : Int) := ⟨k.toNat, by omega⟩
      have hj : j < t.s.length := by omega
      have hV := vt_of h1
      by_cases h3 : TolOk t j n
      · refine ⟨j, rfl, hj, ?_, if_neg h1, tol_n hV hj h3, hV⟩
        rw [tol_0 h1 hj h3]
        unfold lstR
        rw [if_neg (by rw [(tolT_vt hV h3).v]; decide), tolT_mn hV hj]
      · rw [tol_1 h1 hj h3] at h; cases h
theorem not_i {p : Prop} [Decidable p] (h : (!decide p) = true) : ¬ p := by simpa using h


set_option maxRecDepth 100000 in
set_option maxHeartbeats 4000000 in
theorem Toll_ok (w0 : World) (vt : Value) (t : Td) (ht : IsT w0 vt t) (hT : SmT t) (ki n : Int) :
    Calls Try.prog 44 #[vt, .int .i64 ki, .int .i64 n] w0 (Post (X := Value × Heap) (fun y => .tuple #[y.1, .int .i64 (tolR t ki n).2]) (fun y => RdT (tolR t ki n).1 y) (fun y => y.2) w0) := by
  obtain ⟨p1, c1, p2, c2, p3, c3, rfl, t1, t2, t3⟩ := ht
  refine calls Try.func44 rfl (n := 60) rfl (by simp) ?_
  refine TC.seq ?_
  refine TC.region ?_
  refine TL.box rfl rfl (by decide) (fun b0 hb0 => ?_)
  refine TL.alloc Tb.zero_25 rfl (by decide) (fun bo hbo => ?_)
  refine TL.pure (PV.assign rfl) rfl (by decide) ?_
  refine TL.nil ?_
  refine TQ.thenC ?_
  refine TC.seq ?_
  refine TC.seq ?_
  refine TC.region ?_
  refine TL.pure (PV.loadBox rfl Tb.agg_25 (by repeat (first | exact List.Mem.head _ | refine List.Mem.tail _ ?_ | refine List.mem_append_right _ ?_)) rfl) rfl (by decide) ?_
  refine TL.call rfl Tb.gofn_21 (fun a w hs => validate_ok w _ t (IsT.mk (t1.new hs.new) (t2.new hs.new) (t3.new hs.new)) hT) rfl (by decide) (fun _ _ => ?_)
  refine TL.pure (PV.assign rfl) rfl (by decide) ?_
  refine TL.nil ?_
  refine TQ.thenC ?_
  refine TC.seq ?_
  refine TC.region ?_
  refine TL.pure (PV.move rfl) rfl (by decide) ?_
  refine TL.pure (PV.neq rfl rfl) rfl (by decide) ?_
  refine TL.nil ?_
  refine TQ.thenC ?_
  first | refine TC.condD rfl (fun a1 => ?_) (fun a1 => ?_) | refine TC.cond rfl (fun a1 => ?_) (fun a1 => ?_)
  · skip
    refine TC.seq ?_
    refine TC.region ?_
    refine TL.pure (PV.build rfl Tb.zero_25 Tb.pl_25 rfl) rfl (by decide) ?_
    refine TL.pure (PV.move rfl) rfl (by decide) ?_
    refine TL.storeAgg (vs := [.slice none 0 0, .slice none 0 0, .slice none 0 0]) rfl rfl Tb.cells_25 (by repeat (first | exact Upd.head _ | apply Upd.tail | apply Upd.appR)) rfl rfl rfl rfl rfl ?_
    refine TL.pure (PV.assign rfl) rfl (by decide) ?_
    refine TL.nil ?_
    refine TQ.thenC ?_
    refine TC.ret ?_
    refine TQ.thenR ?_
    refine TQ.retR rfl (Res.agg rfl Tb.agg_25 (by repeat (first | exact List.Mem.head _ | refine List.Mem.tail _ ?_ | refine List.mem_append_right _ ?_)) rfl (Res.tmp rfl Res.nil)) ?_
    simp only [tup]
    exact ⟨(nilV, []), by rw [tol_v a1]; rfl, by rw [tol_v a1]; exact RdT.nil, List.nil_sublist _⟩
  · skip
    refine TC.skip ?_
    refine TQ.thenC ?_
    refine TC.seq ?_
    refine TC.seq ?_
    have hV := vt_of a1
    have hns := hV.ns
    have hnd := hV.nd
    refine TC.region ?_
    refine TL.pure (PV.loadBox rfl Tb.agg_25 (by repeat (first | exact List.Mem.head _ | refine List.Mem.tail _ ?_ | refine List.mem_append_right _ ?_)) rfl) rfl (by decide) ?_
    refine TL.pure (PV.move rfl) rfl (by decide) ?_
    refine TL.call rfl Tb.gofn_77 (fun a w hs => isStore_ok w _ t (IsT.mk (t1.new hs.new) (t2.new hs.new) (t3.new hs.new)) _) rfl (by decide) (fun _ _ => ?_)
    refine TL.pure ((by first | exact PV.notD rfl | exact PV.not rfl)) rfl (by decide) ?_
    refine TL.nil ?_
    refine TQ.thenC ?_
    first | refine TC.condD rfl (fun a2 => ?_) (fun a2 => ?_) | refine TC.cond rfl (fun a2 => ?_) (fun a2 => ?_)
    · skip
      refine TC.seq ?_
      refine TC.region ?_
      refine TL.pure (PV.build rfl Tb.zero_25 Tb.pl_25 rfl) rfl (by decide) ?_
      refine TL.storeAgg (vs := [.slice none 0 0, .slice none 0 0, .slice none 0 0]) rfl rfl Tb.cells_25 (by repeat (first | exact Upd.head _ | apply Upd.tail | apply Upd.appR)) rfl rfl rfl rfl rfl ?_
      refine TL.pure (PV.assign rfl) rfl (by decide) ?_
      refine TL.nil ?_
      refine TQ.thenC ?_
      refine TC.ret ?_
      refine TQ.thenR ?_
      refine TQ.retR rfl (Res.agg rfl Tb.agg_25 (by repeat (first | exact List.Mem.head _ | refine List.Mem.tail _ ?_ | refine List.mem_append_right _ ?_)) rfl (Res.tmp rfl Res.nil)) ?_
      simp only [tup]
      exact ⟨(nilV, []), by rw [tol_4 a1 (by simpa using a2)]; rfl, by rw [tol_4 a1 (by simpa using a2)]; exact RdT.nil, List.nil_sublist _⟩
    · skip
      refine TC.skip ?_
      refine TQ.thenC ?_
      refine TC.seq ?_
      have hk9 : 0 ≤ ki ∧ ki < t.s.length := by simpa using a2
      obtain ⟨k, rfl⟩ : ∃ j : Nat, ki = (j : Int) := ⟨ki.toNat, by omega⟩
      have hkS : k < t.s.length := by omega
      have hrk := hV.c.row k hkS
      have hck := hV.c.len
      refine TC.region ?_
      refine TL.pure (PV.loadBox rfl Tb.agg_25 (by repeat (first | exact List.Mem.head _ | refine List.Mem.tail _ ?_ | refine List.mem_append_right _ ?_)) rfl) rfl (by decide) ?_
      refine TL.call rfl Tb.gofn_78 (fun a w hs => cloneT_ok w _ t (IsT.mk (t1.new hs.new) (t2.new hs.new) (t3.new hs.new)) hT) rfl (by decide) (fun y8 hy8 => ?_)
      have hcl := hV.c.len
      rw [show clV t y8 = .agg #[gval y8.1 t.s.length, gval y8.2.1 t.d.length, gval y8.2.2.1 t.s.length] from by unfold clV; rw [hcl]]
      refine TL.alloc Tb.zero_25 rfl (by decide) (fun bq hbq => ?_)
      refine TL.storeAgg (vs := [gval y8.1 t.s.length, gval y8.2.1 t.d.length, gval y8.2.2.1 t.s.length]) rfl rfl Tb.cells_25 (by repeat (first | exact Upd.head _ | apply Upd.tail | apply Upd.appR)) rfl rfl (gv3_one _ _ _ _ _ _) rfl rfl ?_
      refine TL.nil ?_
      refine TQ.thenC ?_
      refine TC.seq ?_
      refine TC.seq ?_
      obtain ⟨q1, hq1p, q1p, q1c, hq1, hq1r⟩ := t3 k (by omega)
      refine TC.region ?_
      refine TL.pure (PV.fieldAddr rfl Tb.fo_25_2) rfl (by decide) ?_
      refine TL.pure (PV.load rfl Tb.one_23 (by repeat (first | exact List.Mem.head _ | refine List.Mem.tail _ ?_ | refine List.mem_append_right _ ?_)) rfl) rfl (by decide) ?_
      refine TL.pure (PV.move rfl) rfl (by decide) ?_
      refine TL.pure (PV.indexA (j := k) rfl hq1p rfl Tb.elm_23 rfl (by omega)) rfl (by decide) ?_
      refine TL.pure (PV.loadOld rfl Tb.one_22 hq1) rfl (by decide) ?_
      refine TL.pure (PV.len rfl Tb.sl_22) rfl (by decide) ?_
      refine TL.pure (PV.move rfl) rfl (by decide) ?_
      refine TL.nil ?_
      refine TQ.thenC ?_
      refine TC.block ?_
      -- live and written in the loop, not told: [7]
      have hts0 : TbS t.s.length t.d.length (tolM t k n 0) y8.2.2.1 y8.2.2.2 := TbS.of hy8.2.2.1 hy8.2.2.2.1 (hy8.2.2.2.2.trans ((tab_self hV.c).trans (tab_congr fun i j _ _ => tolM_0 i j)))
      refine TC.perm (G' := gbR rwR 22 y8.2.2.1 y8.2.2.2 ++ (rwB y8.2.2.2 ++ (gbI (y8.2.1, t.d) ++ (gbI (y8.1, t.s) ++ [(bq, Obj.cells #[gval y8.1 t.s.length, gval y8.2.1 t.d.length, gval y8.2.2.1 t.s.length] 25 (0, 0)), (bo, Obj.cells #[.slice none 0 0, .slice none 0 0, .slice none 0 0] 25 (0, 0)), (b0, Obj.cells #[.slice p1 t.s.length c1, .slice p2 t.d.length c2, .slice p3 t.c.length c3] 25 (0, 0))])))) (perm_of fun c9 => by unfold clG; simp only [gbI, gbR, List.map_append, List.sum_append, List.map_cons, List.sum_cons, List.map_nil, List.sum_nil, Value.cells]; try omega) ?_
      refine TC.loopK [1, 2, 6, 9, 29, 30] (X := Nat × List RW) (fun x => x.1 ≤ t.d.length ∧ TbS t.s.length t.d.length (tolM t k n x.1) y8.2.2.1 x.2 ∧ ∀ j, j < x.1 → 0 ≤ getM t.c k j + n ∧ getM t.c k j + n ≤ 99) (fun x => [(31, .int .i64 (x.1 : Nat))]) (fun x => gbR rwR 22 y8.2.2.1 x.2 ++ (rwB x.2 ++ (gbI (y8.2.1, t.d) ++ (gbI (y8.1, t.s) ++ [(bq, Obj.cells #[gval y8.1 t.s.length, gval y8.2.1 t.d.length, gval y8.2.2.1 t.s.length] 25 (0, 0)), (bo, Obj.cells #[.slice none 0 0, .slice none 0 0, .slice none 0 0] 25 (0, 0)), (b0, Obj.cells #[.slice p1 t.s.length c1, .slice p2 t.d.length c2, .slice p3 t.c.length c3] 25 (0, 0))])))) (fun x => t.d.length - x.1) (0, y8.2.2.2) ⟨Nat.zero_le _, hts0, fun j hj => absurd hj (Nat.not_lt_zero _)⟩ (by repeat (first | exact True.intro | refine And.intro rfl ?_)) (List.Sublist.refl _) ?_
      intro x hx9
      refine TC.seq ?_
      refine TC.region ?_
      refine TL.pure (PV.lss rfl rfl) rfl (by decide) ?_
      refine TL.nil ?_
      refine TQ.thenC ?_
      refine TC.seq ?_
      first | refine TC.condD rfl (fun hlt => ?_) (fun hlt => ?_) | refine TC.cond rfl (fun hlt => ?_) (fun hlt => ?_)
      · skip
        refine TC.skip ?_
        refine TQ.thenC ?_
        refine TC.seq ?_
        refine TC.block ?_
        refine TC.seq ?_
        obtain ⟨q2, hq2p, hq2⟩ := hq1r x.1 (by omega)
        refine TC.region ?_
        refine TL.pure (PV.move rfl) rfl (by decide) ?_
        refine TL.pure (PV.indexA rfl hq2p rfl Tb.elm_22 rfl (by omega)) rfl (by decide) ?_
        refine TL.pure (PV.loadOld rfl Tb.one_3 hq2) rfl (by decide) ?_
        refine TL.pure (PV.assign rfl) rfl (by decide) ?_
        refine TL.pure (PV.assign rfl) rfl (by decide) ?_
        refine TL.nil ?_
        refine TQ.thenC ?_
        refine TC.seq ?_
        refine TC.seq ?_
        have hcb0 := hV.c.bd k x.1 hkS (by omega)
        have ev : (t.c.getD k []).getD x.1 0 = getM t.c k x.1 := rfl
        rw [ev]
        refine TC.region ?_
        refine TL.pure (PV.move rfl) rfl (by decide) ?_
        refine TL.pure (PV.move rfl) rfl (by decide) ?_
        refine TL.pure (PV.neg rfl (by omega)) rfl (by decide) ?_
        refine TL.pure (PV.lss rfl rfl) rfl (by decide) ?_
        refine TL.pure (PV.move rfl) rfl (by decide) ?_
        first | refine TL.splitD 40 rfl (fun b1 => ?_) (fun b1 => ?_) | refine TL.split 40 rfl (fun b1 => ?_) (fun b1 => ?_)
        · skip
          refine TL.skip rfl (fun k hk => by cases hk; decide) ?_
          refine TL.skip rfl (fun k hk => by cases hk; decide) ?_
          refine TL.skip rfl (fun k hk => by cases hk; decide) ?_
          refine TL.skip rfl (fun k hk => by cases hk; decide) ?_
          refine TL.pure (PV.pickT rfl rfl) rfl (by decide) ?_
          refine TL.nil ?_
          refine TQ.thenC ?_
          refine TC.condT rfl ?_
          refine TC.seq ?_
          refine TC.region ?_
          refine TL.pure (PV.build rfl Tb.zero_25 Tb.pl_25 rfl) rfl (by decide) ?_
          refine TL.storeAgg (vs := [.slice none 0 0, .slice none 0 0, .slice none 0 0]) rfl rfl Tb.cells_25 (by repeat (first | exact Upd.head _ | apply Upd.tail | apply Upd.appR)) rfl rfl rfl rfl rfl ?_
          refine TL.pure (PV.assign rfl) rfl (by decide) ?_
          refine TL.nil ?_
          refine TQ.thenC ?_
          refine TC.ret ?_
          refine TQ.thenR ?_
          refine TQ.blkR ?_
          refine TQ.thenR ?_
          refine TQ.thenR ?_
          refine TQ.blkR ?_
          refine TQ.thenR ?_
          refine TQ.retR rfl (Res.agg rfl Tb.agg_25 (by repeat (first | exact List.Mem.head _ | refine List.Mem.tail _ ?_ | refine List.mem_append_right _ ?_)) rfl (Res.tmp rfl Res.nil)) ?_
          simp only [tup]
          have hno : ¬ TolOk t k n := fun h => by have := h x.1 (by omega); omega
          exact ⟨(nilV, []), by rw [tol_1 a1 hkS hno]; rfl, by rw [tol_1 a1 hkS hno]; exact RdT.nil, List.nil_sublist _⟩
        · skip
          refine TL.pure (PV.move rfl) rfl (by decide) ?_
          refine TL.pure (PV.move rfl) rfl (by decide) ?_
          refine TL.pure (PV.sub rfl rfl (by omega)) rfl (by decide) ?_
          refine TL.pure (PV.gtr rfl rfl) rfl (by decide) ?_
          refine TL.pure (PV.pickF rfl rfl) rfl (by decide) ?_
          refine TL.nil ?_
          refine TQ.thenC ?_
          first | refine TC.condD rfl (fun b2 => ?_) (fun b2 => ?_) | refine TC.cond rfl (fun b2 => ?_) (fun b2 => ?_)
          · skip
            refine TC.seq ?_
            refine TC.region ?_
            refine TL.pure (PV.build rfl Tb.zero_25 Tb.pl_25 rfl) rfl (by decide) ?_
            refine TL.storeAgg (vs := [.slice none 0 0, .slice none 0 0, .slice none 0 0]) rfl rfl Tb.cells_25 (by repeat (first | exact Upd.head _ | apply Upd.tail | apply Upd.appR)) rfl rfl rfl rfl rfl ?_
            refine TL.pure (PV.assign rfl) rfl (by decide) ?_
            refine TL.nil ?_
            refine TQ.thenC ?_
            refine TC.ret ?_
            refine TQ.thenR ?_
            refine TQ.blkR ?_
            refine TQ.thenR ?_
            refine TQ.thenR ?_
            refine TQ.blkR ?_
            refine TQ.thenR ?_
            refine TQ.retR rfl (Res.agg rfl Tb.agg_25 (by repeat (first | exact List.Mem.head _ | refine List.Mem.tail _ ?_ | refine List.mem_append_right _ ?_)) rfl (Res.tmp rfl Res.nil)) ?_
            simp only [tup]
            have hno : ¬ TolOk t k n := fun h => by have := h x.1 (by omega); omega
            exact ⟨(nilV, []), by rw [tol_1 a1 hkS hno]; rfl, by rw [tol_1 a1 hkS hno]; exact RdT.nil, List.nil_sublist _⟩
          · skip
            refine TC.skip ?_
            refine TQ.thenC ?_
            have hin1 : 0 ≤ getM t.c k x.1 + n ∧ getM t.c k x.1 + n ≤ 99 := by omega
            have hts9 : TbS t.s.length t.d.length (tolM t k n x.1) y8.2.2.1 x.2 := by first | exact hx9.2.1 | exact hx9.2
            have hxl := hts9.len
            have hro := hts9.rk hkS
            have hrl := hts9.rl hkS
            have hcb := hV.c.bd k x.1 hkS (by omega)
            have hva : tolM t k n x.1 k x.1 = getM t.c k x.1 := tolM_at
            rw [rwB_at (show k < x.2.length by omega)]
            refine TC.region ?_
            refine TL.pure (PV.fieldAddr rfl Tb.fo_25_2) rfl (by decide) ?_
            refine TL.pure (PV.load rfl Tb.one_23 (by repeat (first | exact List.Mem.head _ | refine List.Mem.tail _ ?_ | refine List.mem_append_right _ ?_)) rfl) rfl (by decide) ?_
            refine TL.pure (PV.move rfl) rfl (by decide) ?_
            refine TL.pure (PV.indexG (h := y8.2.2.1) (len := t.s.length) (ys := rcs rwR x.2) (j := k) rfl rfl hx9.2.1.gk Tb.elm_23 rfl (by omega)) rfl (by decide) ?_
            refine TL.pure (PV.loadRecF (R := rwR) (h := y8.2.2.1) (l := x.2) (j := k) (f := 0) (v := gval (x.2.getD k default).h (x.2.getD k default).l.length) (e := 22) rfl Tb.one_22 (fun yy hyy => by repeat (first | exact List.mem_append_left _ hyy | exact List.mem_append_left _ (List.mem_append_right _ hyy) | exact List.mem_append_left _ (List.mem_append_left _ hyy) | refine List.mem_append_right _ ?_ | refine List.Mem.tail _ ?_)) hx9.2.1.go (by omega) Nat.one_pos rfl) rfl (by decide) ?_
            refine TL.pure (PV.move rfl) rfl (by decide) ?_
            refine TL.pure (PV.indexG (h := (x.2.getD k default).h) (len := (x.2.getD k default).l.length) (ys := ival (x.2.getD k default).l) (j := x.1) rfl rfl hro Tb.elm_22 rfl (by omega)) rfl (by decide) ?_
            refine TL.pure (PV.loadGI (y := ((x.2.getD k default).h, (x.2.getD k default).l)) (j := x.1) (v := (tolM t k n x.1 k x.1)) rfl Tb.one_3 (fun yy hyy => by repeat (first | exact List.mem_append_left _ hyy | exact List.mem_append_left _ (List.mem_append_right _ hyy) | exact List.mem_append_left _ (List.mem_append_left _ hyy) | refine List.mem_append_right _ ?_ | refine List.Mem.tail _ ?_)) hro (by show _ < (x.2.getD k default).l.length; omega) (hx9.2.1.va hkS (by omega))) rfl (by decide) ?_
            refine TL.pure (PV.move rfl) rfl (by decide) ?_
            refine TL.pure (PV.add rfl rfl (by omega)) rfl (by decide) ?_
            refine TL.pure (PV.indexG (h := (x.2.getD k default).h) (len := (x.2.getD k default).l.length) (ys := ival (x.2.getD k default).l) (j := x.1) rfl rfl hro Tb.elm_22 rfl (by omega)) rfl (by decide) ?_
            refine TL.putI (h := (x.2.getD k default).h) (xs := (x.2.getD k default).l) (xs' := (x.2.getD k default).l.set x.1 ((tolM t k n x.1 k x.1) + n)) (j := x.1) rfl rfl Tb.cells_3 hro rfl (by repeat (first | exact PutH.here _ _ _ _ | apply PutH.tail | apply PutH.app)) (by omega) rfl rfl ?_
            obtain ⟨r1, hr1⟩ : ∃ z, z = rwS x.2 k x.1 ((tolM t k n x.1 k x.1) + n) := ⟨_, rfl⟩
            refine TL.congrG (G' := gbR rwR 22 y8.2.2.1 r1 ++ (rwB r1 ++ (gbI (y8.2.1, t.d) ++ (gbI (y8.1, t.s) ++ [(bq, Obj.cells #[gval y8.1 t.s.length, gval y8.2.1 t.d.length, gval y8.2.2.1 t.s.length] 25 (0, 0)), (bo, Obj.cells #[.slice none 0 0, .slice none 0 0, .slice none 0 0] 25 (0, 0)), (b0, Obj.cells #[.slice p1 t.s.length c1, .slice p2 t.d.length c2, .slice p3 t.c.length c3] 25 (0, 0))])))) (by rw [hr1]; exact (rwS_blk (h := y8.2.2.1) (by omega) _ _ _).symm) ?_
            have hst : TbS t.s.length t.d.length (tolM t k n (x.1 + 1)) y8.2.2.1 r1 := by rw [hr1]; exact hx9.2.1.set hkS (by omega) (tolM_succ tolM_at).symm (fun p q hp hq hne => tolM_other hne)
            refine TL.nil ?_
            refine TQ.blkN ?_
            refine TQ.thenC ?_
            refine TC.region ?_
            refine TL.pure (PV.add rfl rfl (by omega)) rfl (by decide) ?_
            refine TL.pure (PV.move rfl) rfl (by decide) ?_
            refine TL.nil ?_
            refine TQ.thenN ?_
            refine TQ.backK (x.1 + 1, r1) (by repeat (first | exact True.intro | refine And.intro rfl ?_)) (by repeat (first | exact True.intro | refine And.intro rfl ?_)) (List.Sublist.refl _) ⟨by simp only; omega, hst, fun j hj => if e : j < x.1 then hx9.2.2 j e else (show j = x.1 by simp only at hj; omega) ▸ hin1⟩ (by simp only; omega)
      · skip
        refine TC.exit ?_
        refine TQ.thenE ?_
        refine TQ.thenE ?_
        refine TQ.blkS ?_
        refine TQ.thenC ?_
        refine TC.seq ?_
        refine TC.region ?_
        refine TL.pure (PV.loadBox (cs := [gval y8.1 t.s.length, gval y8.2.1 t.d.length, gval y8.2.2.1 t.s.length]) rfl Tb.agg_25 (by repeat (first | exact List.Mem.head _ | refine List.Mem.tail _ ?_ | refine List.mem_append_right _ ?_)) rfl) rfl (by decide) ?_
        refine TL.storeAgg (vs := [gval y8.1 t.s.length, gval y8.2.1 t.d.length, gval y8.2.2.1 t.s.length]) rfl rfl Tb.cells_25 (by repeat (first | exact Upd.head _ | apply Upd.tail | apply Upd.appR)) rfl rfl (gv3_one _ _ _ _ _ _) rfl rfl ?_
        refine TL.pure (PV.assign rfl) rfl (by decide) ?_
        refine TL.nil ?_
        refine TQ.thenC ?_
        refine TC.ret ?_
        refine TQ.retR rfl (Res.agg rfl Tb.agg_25 (by repeat (first | exact List.Mem.head _ | refine List.Mem.tail _ ?_ | refine List.mem_append_right _ ?_)) rfl (Res.tmp rfl Res.nil)) ?_
        simp only [tup]
        have hxe : x.1 = t.d.length := by omega
        have hok : TolOk t k n := fun j hj => hx9.2.2 j (by omega)
        have hfin := hx9.2.1
        rw [hxe] at hfin
        exact ⟨(.agg #[gval y8.1 t.s.length, gval y8.2.1 t.d.length, gval y8.2.2.1 t.s.length], (gbR rwR 22 y8.2.2.1 x.2 ++ rwB x.2) ++ (gbI (y8.2.1, t.d) ++ gbI (y8.1, t.s))), by rw [tol_0 a1 hkS hok], by rw [tol_0 a1 hkS hok]; exact RdT.mk (t := tolT t k n) hy8.1 hy8.2.1 (RdG.tb hfin), (by simp only [List.append_assoc]; exact List.Sublist.append_left (List.Sublist.append_left (List.Sublist.append_left (List.sublist_append_left _ _) _) _) _)⟩

set_option maxRecDepth 100000 in
set_option maxHeartbeats 4000000 in
theorem rToll_ok (w0 : World) (vt : Value) (t : Td) (ht : IsT w0 vt t) (hT : SmT t) (ki n : Int) :
    Calls Try.prog 45 #[vt, .int .i64 ki, .int .i64 n] w0 (Post (X := Value × Heap) (fun y => .tuple #[y.1, .int .i64 (tolR t ki n).2]) (fun y => RdT (tolR t ki n).1 y) (fun y => y.2) w0) := by
  obtain ⟨p1, c1, p2, c2, p3, c3, rfl, t1, t2, t3⟩ := ht
  refine calls Try.func45 rfl (n := 54) rfl (by simp) ?_
  refine TC.seq ?_
  refine TC.region ?_
  refine TL.box rfl rfl (by decide) (fun b0 hb0 => ?_)
  refine TL.alloc Tb.zero_25 rfl (by decide) (fun bo hbo => ?_)
  refine TL.pure (PV.assign rfl) rfl (by decide) ?_
  refine TL.nil ?_
  refine TQ.thenC ?_
  refine TC.seq ?_
  refine TC.region ?_
  refine TL.pure (PV.loadBox rfl Tb.agg_25 (by repeat (first | exact List.Mem.head _ | refine List.Mem.tail _ ?_ | refine List.mem_append_right _ ?_)) rfl) rfl (by decide) ?_
  refine TL.call rfl Tb.gofn_22 (fun a w hs => rvalidate_ok w _ t (IsT.mk (t1.new hs.new) (t2.new hs.new) (t3.new hs.new)) hT) rfl (by decide) (fun _ _ => ?_)
  refine TL.pure (PV.assign rfl) rfl (by decide) ?_
  refine TL.nil ?_
  refine TQ.thenC ?_
  refine TC.seq ?_
  refine TC.seq ?_
  refine TC.region ?_
  refine TL.pure (PV.move rfl) rfl (by decide) ?_
  refine TL.pure (PV.neq rfl rfl) rfl (by decide) ?_
  refine TL.nil ?_
  refine TQ.thenC ?_
  first | refine TC.condD rfl (fun a1 => ?_) (fun a1 => ?_) | refine TC.cond rfl (fun a1 => ?_) (fun a1 => ?_)
  · skip
    refine TC.seq ?_
    refine TC.region ?_
    refine TL.pure (PV.build rfl Tb.zero_25 Tb.pl_25 rfl) rfl (by decide) ?_
    refine TL.pure (PV.move rfl) rfl (by decide) ?_
    refine TL.storeAgg (vs := [.slice none 0 0, .slice none 0 0, .slice none 0 0]) rfl rfl Tb.cells_25 (by repeat (first | exact Upd.head _ | apply Upd.tail | apply Upd.appR)) rfl rfl rfl rfl rfl ?_
    refine TL.pure (PV.assign rfl) rfl (by decide) ?_
    refine TL.nil ?_
    refine TQ.thenC ?_
    refine TC.ret ?_
    refine TQ.thenR ?_
    refine TQ.retR rfl (Res.agg rfl Tb.agg_25 (by repeat (first | exact List.Mem.head _ | refine List.Mem.tail _ ?_ | refine List.mem_append_right _ ?_)) rfl (Res.tmp rfl Res.nil)) ?_
    simp only [tup]
    exact ⟨(nilV, []), by rw [tol_v a1]; rfl, by rw [tol_v a1]; exact RdT.nil, List.nil_sublist _⟩
  · skip
    refine TC.skip ?_
    refine TQ.thenC ?_
    refine TC.seq ?_
    refine TC.seq ?_
    have hV := vt_of a1
    have hns := hV.ns
    have hnd := hV.nd
    refine TC.region ?_
    refine TL.pure (PV.move rfl) rfl (by decide) ?_
    refine TL.pure (PV.fieldAddr rfl Tb.fo_25_0) rfl (by decide) ?_
    refine TL.pure (PV.load rfl Tb.one_22 (by repeat (first | exact List.Mem.head _ | refine List.Mem.tail _ ?_ | refine List.mem_append_right _ ?_)) rfl) rfl (by decide) ?_
    refine TL.pure (PV.len rfl Tb.sl_22) rfl (by decide) ?_
    refine TL.pure (PV.sub rfl rfl (by omega)) rfl (by decide) ?_
    refine TL.call rfl Tb.gofn_73 (fun a w hs => within_ok w _ _ _) rfl (by decide) (fun _ _ => ?_)
    refine TL.pure ((by first | exact PV.notD rfl | exact PV.not rfl)) rfl (by decide) ?_
    refine TL.nil ?_
    refine TQ.thenC ?_
    first | refine TC.condD rfl (fun a2 => ?_) (fun a2 => ?_) | refine TC.cond rfl (fun a2 => ?_) (fun a2 => ?_)
    · skip
      refine TC.seq ?_
      refine TC.region ?_
      refine TL.pure (PV.build rfl Tb.zero_25 Tb.pl_25 rfl) rfl (by decide) ?_
      refine TL.storeAgg (vs := [.slice none 0 0, .slice none 0 0, .slice none 0 0]) rfl rfl Tb.cells_25 (by repeat (first | exact Upd.head _ | apply Upd.tail | apply Upd.appR)) rfl rfl rfl rfl rfl ?_
      refine TL.pure (PV.assign rfl) rfl (by decide) ?_
      refine TL.nil ?_
      refine TQ.thenC ?_
      refine TC.ret ?_
      refine TQ.thenR ?_
      refine TQ.retR rfl (Res.agg rfl Tb.agg_25 (by repeat (first | exact List.Mem.head _ | refine List.Mem.tail _ ?_ | refine List.mem_append_right _ ?_)) rfl (Res.tmp rfl Res.nil)) ?_
      simp only [tup]
      have hk9 : ¬ (0 ≤ ki ∧ ki < t.s.length) := by first | omega | (simp only [wiB, Bool.not_eq_true, Bool.not_eq_false, Bool.not_eq_eq_eq_not, Bool.not_true, Bool.not_false, decide_eq_true_eq, decide_eq_false_iff_not, Decidable.not_not] at a2; omega)
      exact ⟨(nilV, []), by rw [tol_4 a1 hk9]; rfl, by rw [tol_4 a1 hk9]; exact RdT.nil, List.nil_sublist _⟩
    · skip
      refine TC.skip ?_
      refine TQ.thenC ?_
      refine TC.seq ?_
      refine TC.seq ?_
      have hk9 : 0 ≤ ki ∧ ki < t.s.length := by first | omega | (simp only [wiB, Bool.not_eq_true, Bool.not_eq_false, Bool.not_eq_eq_eq_not, Bool.not_true, Bool.not_false, decide_eq_true_eq, decide_eq_false_iff_not, Decidable.not_not] at a2; omega)
      obtain ⟨k, rfl⟩ : ∃ j : Nat, ki = (j : Int) := ⟨ki.toNat, by omega⟩
      have hkS : k < t.s.length := by omega
      have hrk := hV.c.row k hkS
      have hck := hV.c.len
      refine TC.region ?_
      refine TL.pure (PV.move rfl) rfl (by decide) ?_
      refine TL.call rfl Tb.gofn_73 (fun a w hs => within_ok w _ _ _) rfl (by decide) (fun _ _ => ?_)
      refine TL.pure ((by first | exact PV.notD rfl | exact PV.not rfl)) rfl (by decide) ?_
      refine TL.nil ?_
      refine TQ.thenC ?_
      first | refine TC.condD rfl (fun a3 => ?_) (fun a3 => ?_) | refine TC.cond rfl (fun a3 => ?_) (fun a3 => ?_)
      · skip
        refine TC.seq ?_
        refine TC.region ?_
        refine TL.pure (PV.build rfl Tb.zero_25 Tb.pl_25 rfl) rfl (by decide) ?_
        refine TL.storeAgg (vs := [.slice none 0 0, .slice none 0 0, .slice none 0 0]) rfl rfl Tb.cells_25 (by repeat (first | exact Upd.head _ | apply Upd.tail | apply Upd.appR)) rfl rfl rfl rfl rfl ?_
        refine TL.pure (PV.assign rfl) rfl (by decide) ?_
        refine TL.nil ?_
        refine TQ.thenC ?_
        refine TC.ret ?_
        refine TQ.thenR ?_
        refine TQ.retR rfl (Res.agg rfl Tb.agg_25 (by repeat (first | exact List.Mem.head _ | refine List.Mem.tail _ ?_ | refine List.mem_append_right _ ?_)) rfl (Res.tmp rfl Res.nil)) ?_
        simp only [tup]
        have hno : ¬ TolOk t k n := fun h => by have := tol_n hV hkS h; first | omega | (simp only [wiB, Bool.not_eq_true, Bool.not_eq_false, Bool.not_eq_eq_eq_not, Bool.not_true, Bool.not_false, decide_eq_true_eq, decide_eq_false_iff_not, Decidable.not_not] at a3; omega)
        exact ⟨(nilV, []), by rw [tol_1 a1 hkS hno]; rfl, by rw [tol_1 a1 hkS hno]; exact RdT.nil, List.nil_sublist _⟩
      · skip
        refine TC.skip ?_
        refine TQ.thenC ?_
        refine TC.seq ?_
        have hn9 : -99 ≤ n ∧ n ≤ 99 := by first | omega | (simp only [wiB, Bool.not_eq_true, Bool.not_eq_false, Bool.not_eq_eq_eq_not, Bool.not_true, Bool.not_false, decide_eq_true_eq, decide_eq_false_iff_not, Decidable.not_not] at a3; omega)
        refine TC.region ?_
        refine TL.pure (PV.loadBox rfl Tb.agg_25 (by repeat (first | exact List.Mem.head _ | refine List.Mem.tail _ ?_ | refine List.mem_append_right _ ?_)) rfl) rfl (by decide) ?_
        refine TL.call rfl Tb.gofn_79 (fun a w hs => CopyT_ok w _ t (IsT.mk (t1.new hs.new) (t2.new hs.new) (t3.new hs.new)) hT) rfl (by decide) (fun y8 hy8 => ?_)
        have hcl := hV.c.len
        rw [show clV t y8 = .agg #[gval y8.1 t.s.length, gval y8.2.1 t.d.length, gval y8.2.2.1 t.s.length] from by unfold clV; rw [hcl]]
        refine TL.alloc Tb.zero_25 rfl (by decide) (fun bq hbq => ?_)
        refine TL.storeAgg (vs := [gval y8.1 t.s.length, gval y8.2.1 t.d.length, gval y8.2.2.1 t.s.length]) rfl rfl Tb.cells_25 (by repeat (first | exact Upd.head _ | apply Upd.tail | apply Upd.appR)) rfl rfl (gv3_one _ _ _ _ _ _) rfl rfl ?_
        refine TL.nil ?_
        refine TQ.thenC ?_
        refine TC.seq ?_
        refine TC.seq ?_
        refine TC.region ?_
        refine TL.pure (PV.assign rfl) rfl (by decide) ?_
        refine TL.nil ?_
        refine TQ.thenC ?_
        refine TC.block ?_
        have hts0 : TbS t.s.length t.d.length (tolM t k n 0) y8.2.2.1 y8.2.2.2 := TbS.of hy8.2.2.1 hy8.2.2.2.1 (hy8.2.2.2.2.trans ((tab_self hV.c).trans (tab_congr fun i j _ _ => tolM_0 i j)))
        refine TC.perm (G' := gbR rwR 22 y8.2.2.1 y8.2.2.2 ++ (rwB y8.2.2.2 ++ (gbI (y8.2.1, t.d) ++ (gbI (y8.1, t.s) ++ [(bq, Obj.cells #[gval y8.1 t.s.length, gval y8.2.1 t.d.length, gval y8.2.2.1 t.s.length] 25 (0, 0)), (bo, Obj.cells #[.slice none 0 0, .slice none 0 0, .slice none 0 0] 25 (0, 0)), (b0, Obj.cells #[.slice p1 t.s.length c1, .slice p2 t.d.length c2, .slice p3 t.c.length c3] 25 (0, 0))])))) (perm_of fun c9 => by unfold clG; simp only [gbI, gbR, List.map_append, List.sum_append, List.map_cons, List.sum_cons, List.map_nil, List.sum_nil, Value.cells]; try omega) ?_
        refine TC.loopK [1, 2, 3, 6, 7, 9] (X := Nat × List RW) (fun x => x.1 ≤ t.d.length ∧ TbS t.s.length t.d.length (tolM t k n x.1) y8.2.2.1 x.2) (fun x => [(10, .int .i64 (x.1 : Nat))]) (fun x => gbR rwR 22 y8.2.2.1 x.2 ++ (rwB x.2 ++ (gbI (y8.2.1, t.d) ++ (gbI (y8.1, t.s) ++ [(bq, Obj.cells #[gval y8.1 t.s.length, gval y8.2.1 t.d.length, gval y8.2.2.1 t.s.length] 25 (0, 0)), (bo, Obj.cells #[.slice none 0 0, .slice none 0 0, .slice none 0 0] 25 (0, 0)), (b0, Obj.cells #[.slice p1 t.s.length c1, .slice p2 t.d.length c2, .slice p3 t.c.length c3] 25 (0, 0))])))) (fun x => t.d.length - x.1) (0, y8.2.2.2) ⟨Nat.zero_le _, hts0⟩ (by repeat (first | exact True.intro | refine And.intro rfl ?_)) (List.Sublist.refl _) ?_
        intro x hx9
        refine TC.seq ?_
        refine TC.seq ?_
        refine TC.region ?_
        refine TL.pure (PV.move rfl) rfl (by decide) ?_
        refine TL.pure (PV.fieldAddr rfl Tb.fo_25_1) rfl (by decide) ?_
        refine TL.pure (PV.load rfl Tb.one_22 (by repeat (first | exact List.Mem.head _ | refine List.Mem.tail _ ?_ | refine List.mem_append_right _ ?_)) rfl) rfl (by decide) ?_
        refine TL.pure (PV.len rfl Tb.sl_22) rfl (by decide) ?_
        refine TL.pure (PV.lss rfl rfl) rfl (by decide) ?_
        refine TL.nil ?_
        refine TQ.thenC ?_
        first | refine TC.condD rfl (fun hlt => ?_) (fun hlt => ?_) | refine TC.cond rfl (fun hlt => ?_) (fun hlt => ?_)
        · skip
          refine TC.skip ?_
          refine TQ.thenC ?_
          refine TC.seq ?_
          refine TC.block ?_
          have hts9 : TbS t.s.length t.d.length (tolM t k n x.1) y8.2.2.1 x.2 := by first | exact hx9.2.1 | exact hx9.2
          have hxl := hts9.len
          have hro := hts9.rk hkS
          have hrl := hts9.rl hkS
          have hcb := hV.c.bd k x.1 hkS (by omega)
          have hva : tolM t k n x.1 k x.1 = getM t.c k x.1 := tolM_at
          rw [rwB_at (show k < x.2.length by omega)]
          refine TC.region ?_
          refine TL.pure (PV.fieldAddr rfl Tb.fo_25_2) rfl (by decide) ?_
          refine TL.pure (PV.load rfl Tb.one_23 (by repeat (first | exact List.Mem.head _ | refine List.Mem.tail _ ?_ | refine List.mem_append_right _ ?_)) rfl) rfl (by decide) ?_
          refine TL.pure (PV.move rfl) rfl (by decide) ?_
          refine TL.pure (PV.indexG (h := y8.2.2.1) (len := t.s.length) (ys := rcs rwR x.2) (j := k) rfl rfl hx9.2.gk Tb.elm_23 rfl (by omega)) rfl (by decide) ?_
          refine TL.pure (PV.loadRecF (R := rwR) (h := y8.2.2.1) (l := x.2) (j := k) (f := 0) (v := gval (x.2.getD k default).h (x.2.getD k default).l.length) (e := 22) rfl Tb.one_22 (fun yy hyy => by repeat (first | exact List.mem_append_left _ hyy | exact List.mem_append_left _ (List.mem_append_right _ hyy) | exact List.mem_append_left _ (List.mem_append_left _ hyy) | refine List.mem_append_right _ ?_ | refine List.Mem.tail _ ?_)) hx9.2.go (by omega) Nat.one_pos rfl) rfl (by decide) ?_
          refine TL.pure (PV.move rfl) rfl (by decide) ?_
          refine TL.pure (PV.indexG (h := (x.2.getD k default).h) (len := (x.2.getD k default).l.length) (ys := ival (x.2.getD k default).l) (j := x.1) rfl rfl hro Tb.elm_22 rfl (by omega)) rfl (by decide) ?_
          refine TL.pure (PV.loadGI (y := ((x.2.getD k default).h, (x.2.getD k default).l)) (j := x.1) (v := (tolM t k n x.1 k x.1)) rfl Tb.one_3 (fun yy hyy => by repeat (first | exact List.mem_append_left _ hyy | exact List.mem_append_left _ (List.mem_append_right _ hyy) | exact List.mem_append_left _ (List.mem_append_left _ hyy) | refine List.mem_append_right _ ?_ | refine List.Mem.tail _ ?_)) hro (by show _ < (x.2.getD k default).l.length; omega) (hx9.2.va hkS (by omega))) rfl (by decide) ?_
          refine TL.pure (PV.move rfl) rfl (by decide) ?_
          refine TL.pure (PV.add rfl rfl (by omega)) rfl (by decide) ?_
          refine TL.pure (PV.indexG (h := (x.2.getD k default).h) (len := (x.2.getD k default).l.length) (ys := ival (x.2.getD k default).l) (j := x.1) rfl rfl hro Tb.elm_22 rfl (by omega)) rfl (by decide) ?_
          refine TL.putI (h := (x.2.getD k default).h) (xs := (x.2.getD k default).l) (xs' := (x.2.getD k default).l.set x.1 ((tolM t k n x.1 k x.1) + n)) (j := x.1) rfl rfl Tb.cells_3 hro rfl (by repeat (first | exact PutH.here _ _ _ _ | apply PutH.tail | apply PutH.app)) (by omega) rfl rfl ?_
          obtain ⟨r1, hr1⟩ : ∃ z, z = rwS x.2 k x.1 ((tolM t k n x.1 k x.1) + n) := ⟨_, rfl⟩
          refine TL.congrG (G' := gbR rwR 22 y8.2.2.1 r1 ++ (rwB r1 ++ (gbI (y8.2.1, t.d) ++ (gbI (y8.1, t.s) ++ [(bq, Obj.cells #[gval y8.1 t.s.length, gval y8.2.1 t.d.length, gval y8.2.2.1 t.s.length] 25 (0, 0)), (bo, Obj.cells #[.slice none 0 0, .slice none 0 0, .slice none 0 0] 25 (0, 0)), (b0, Obj.cells #[.slice p1 t.s.length c1, .slice p2 t.d.length c2, .slice p3 t.c.length c3] 25 (0, 0))])))) (by rw [hr1]; exact (rwS_blk (h := y8.2.2.1) (by omega) _ _ _).symm) ?_
          have hst : TbS t.s.length t.d.length (tolM t k n (x.1 + 1)) y8.2.2.1 r1 := by rw [hr1]; exact hx9.2.set hkS (by omega) (tolM_succ tolM_at).symm (fun p q hp hq hne => tolM_other hne)
          refine TL.nil ?_
          refine TQ.blkN ?_
          refine TQ.thenC ?_
          refine TC.region ?_
          refine TL.pure (PV.move rfl) rfl (by decide) ?_
          refine TL.pure (PV.add rfl rfl (by omega)) rfl (by decide) ?_
          refine TL.pure (PV.assign rfl) rfl (by decide) ?_
          refine TL.nil ?_
          refine TQ.thenN ?_
          refine TQ.backK (x.1 + 1, r1) (by repeat (first | exact True.intro | refine And.intro rfl ?_)) (by repeat (first | exact True.intro | refine And.intro rfl ?_)) (List.Sublist.refl _) ⟨by simp only; omega, hst⟩ (by simp only; omega)
        · skip
          refine TC.exit ?_
          refine TQ.thenE ?_
          refine TQ.thenE ?_
          refine TQ.blkS ?_
          refine TQ.thenC ?_
          refine TC.seq ?_
          refine TC.seq ?_
          have hxe : x.1 = t.d.length := by omega
          have hfin := hx9.2
          rw [hxe] at hfin
          have hrd : RdT (tolT t k n) (.agg #[gval y8.1 t.s.length, gval y8.2.1 t.d.length, gval y8.2.2.1 t.s.length], (gbR rwR 22 y8.2.2.1 x.2 ++ rwB x.2) ++ (gbI (y8.2.1, t.d) ++ gbI (y8.1, t.s))) := RdT.mk (t := tolT t k n) hy8.1 hy8.2.1 (RdG.tb hfin)
          refine TC.region ?_
          refine TL.pure (PV.loadBox (cs := [gval y8.1 t.s.length, gval y8.2.1 t.d.length, gval y8.2.2.1 t.s.length]) rfl Tb.agg_25 (by repeat (first | exact List.Mem.head _ | refine List.Mem.tail _ ?_ | refine List.mem_append_right _ ?_)) rfl) rfl (by decide) ?_
          refine TL.call rfl Tb.gofn_22 (fun a w hs => rvalidate_ok w _ (tolT t k n) (hrd.at hs.new (fun yy hyy => List.Sublist.subset (by simp only [List.append_assoc]; exact List.Sublist.append_left (List.Sublist.append_left (List.Sublist.append_left (List.sublist_append_left _ _) _) _) _) hyy)) (tolT_sm hT)) rfl (by decide) (fun _ _ => ?_)
          refine TL.pure (PV.neq rfl rfl) rfl (by decide) ?_
          refine TL.nil ?_
          refine TQ.thenC ?_
          first | refine TC.condD rfl (fun a4 => ?_) (fun a4 => ?_) | refine TC.cond rfl (fun a4 => ?_) (fun a4 => ?_)
          · skip
            refine TC.seq ?_
            refine TC.region ?_
            refine TL.pure (PV.build rfl Tb.zero_25 Tb.pl_25 rfl) rfl (by decide) ?_
            refine TL.storeAgg (vs := [.slice none 0 0, .slice none 0 0, .slice none 0 0]) rfl rfl Tb.cells_25 (by repeat (first | exact Upd.head _ | apply Upd.tail | apply Upd.appR)) rfl rfl rfl rfl rfl ?_
            refine TL.pure (PV.assign rfl) rfl (by decide) ?_
            refine TL.nil ?_
            refine TQ.thenC ?_
            refine TC.ret ?_
            refine TQ.thenR ?_
            refine TQ.retR rfl (Res.agg rfl Tb.agg_25 (by repeat (first | exact List.Mem.head _ | refine List.Mem.tail _ ?_ | refine List.mem_append_right _ ?_)) rfl (Res.tmp rfl Res.nil)) ?_
            simp only [tup]
            have hno : ¬ TolOk t k n := fun h => a4 (tolT_vt hV h).v
            exact ⟨(nilV, []), by rw [tol_1 a1 hkS hno]; rfl, by rw [tol_1 a1 hkS hno]; exact RdT.nil, List.nil_sublist _⟩
          · skip
            refine TC.skip ?_
            refine TQ.thenC ?_
            refine TC.seq ?_
            refine TC.region ?_
            refine TL.pure (PV.loadBox (cs := [gval y8.1 t.s.length, gval y8.2.1 t.d.length, gval y8.2.2.1 t.s.length]) rfl Tb.agg_25 (by repeat (first | exact List.Mem.head _ | refine List.Mem.tail _ ?_ | refine List.mem_append_right _ ?_)) rfl) rfl (by decide) ?_
            refine TL.storeAgg (vs := [gval y8.1 t.s.length, gval y8.2.1 t.d.length, gval y8.2.2.1 t.s.length]) rfl rfl Tb.cells_25 (by repeat (first | exact Upd.head _ | apply Upd.tail | apply Upd.appR)) rfl rfl (gv3_one _ _ _ _ _ _) rfl rfl ?_
            refine TL.pure (PV.assign rfl) rfl (by decide) ?_
            refine TL.nil ?_
            refine TQ.thenC ?_
            refine TC.ret ?_
            refine TQ.retR rfl (Res.agg rfl Tb.agg_25 (by repeat (first | exact List.Mem.head _ | refine List.Mem.tail _ ?_ | refine List.mem_append_right _ ?_)) rfl (Res.tmp rfl Res.nil)) ?_
            simp only [tup]
            have hok : TolOk t k n := tolT_ok hkS (vt_of a4)
            exact ⟨(.agg #[gval y8.1 t.s.length, gval y8.2.1 t.d.length, gval y8.2.2.1 t.s.length], (gbR rwR 22 y8.2.2.1 x.2 ++ rwB x.2) ++ (gbI (y8.2.1, t.d) ++ gbI (y8.1, t.s))), by rw [tol_0 a1 hkS hok], by rw [tol_0 a1 hkS hok]; exact hrd, (by simp only [List.append_assoc]; exact List.Sublist.append_left (List.Sublist.append_left (List.Sublist.append_left (List.sublist_append_left _ _) _) _) _)⟩

end Go.Proofs.Ytghlkndanpegbaa
