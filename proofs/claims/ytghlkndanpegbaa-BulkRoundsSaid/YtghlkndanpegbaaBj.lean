/- Tons shifted along a round: contracts. -/
import Derived.Test.YtghlkndanpegbaaBi
set_option linter.unusedVariables false
set_option linter.unusedSimpArgs false
namespace Go.Proofs.Ytghlkndanpegbaa
open Go.Sx Go.RowKit Go.Sand Go.Tp

theorem tm2 (k : Nat) : (k : Int).tmod 2 = ((k % 2 : Nat) : Int) := by rw [Int.tmod_eq_emod_of_nonneg (by omega)]; omega
theorem net_bd {n : Nat} {g : Nat → Nat × Nat} (i j : Nat) : -(n : Int) ≤ net n g i j ∧ net n g i j ≤ n := by
  have := sm_bd (B := 1) (by decide) (f := fun t => sgn t * at1 (g t) i j) (k := n) fun t _ => by
    unfold sgn at1
    split <;> split <;> omega
  unfold net
  omega
theorem alo_bd {S B k : Nat} {m : List (List Int)} {g : Nat → Nat × Nat} {a : Int} (hm : Gr S B 120 m) (hk : k ≤ 8) (ha : 0 ≤ a ∧ a ≤ 30) {i j : Nat} (hi : i < S) (hj : j < B) : -1000 ≤ alo (getM m) k g a i j ∧ alo (getM m) k g a i j ≤ 1000 := by
  have h1 := net_bd (n := k) (g := g) i j
  have h2 := mul_bdA (a := a) (b := net k g i j) (A := 30) (B := 8) (by omega) (by omega) (by decide) (by decide)
  have h3 := hm.bd i j hi hj
  unfold alo
  omega
/-- A table, by its numbers. -/
def tabL (S B : Nat) (f : Mat) : List (List Int) := mkL S fun i => mk B (f i)
theorem tab_len (S B : Nat) (f : Mat) : (tabL S B f).length = S := mkL_len _ _
theorem mkL_atD {α : Type} {n : Nat} (f : Nat → α) (d : α) {j : Nat} (hj : j < n) : (mkL n f).getD j d = f j := by simp [mkL, List.getD, hj]
theorem tab_row {S B : Nat} (f : Mat) {i : Nat} (hi : i < S) : (tabL S B f).getD i [] = mk B (f i) := mkL_atD _ _ hi
theorem tab_at {S B : Nat} (f : Mat) {i j : Nat} (hi : i < S) (hj : j < B) : getM (tabL S B f) i j = f i j := by
  unfold getM
  rw [tab_row f hi, mk_at _ hj]
theorem tab_self {S B : Nat} {most : Int} {m : List (List Int)} (h : Gr S B most m) : m = tabL S B (getM m) := by
  have hl := h.len
  refine List.ext_getElem (by rw [tab_len]; exact hl) fun j h1 h2 => ?_
  have h3 := h.row j (by omega)
  have e1 : m.getD j [] = m[j] := by simp [List.getD, h1]
  have e2 : (tabL S B (getM m)).getD j [] = (tabL S B (getM m))[j] := by simp [List.getD, h2]
  rw [← e1, ← e2, tab_row _ (by omega)]
  exact mk_eq h3 fun q _ => rfl
theorem tab_congr {S B : Nat} {f g : Mat} (h : ∀ i j, i < S → j < B → f i j = g i j) : tabL S B f = tabL S B g := mkL_congr fun i hi => mk_congr fun j hj => h i j hi hj
/-- Rows in new memory that read as the table. -/
structure TbS (S B : Nat) (f : Mat) (h : HD) (rs : List RW) : Prop where
  len : rs.length = S
  go : goR rwR h rs
  ok : rwOk rs
  l : ∀ i, i < S → (rs.getD i default).l = mk B (f i)
theorem TbS.of {S B : Nat} {f : Mat} {h : HD} {rs : List RW} (h1 : goR rwR h rs) (h2 : rwOk rs) (h3 : rs.map RW.l = tabL S B f) : TbS S B f h rs := by
  have hl : rs.length = S := by have := congrArg List.length h3; rwa [List.length_map, tab_len] at this
  refine ⟨hl, h1, h2, fun i hi => ?_⟩
  rw [← tab_row f hi, ← h3]
  simp [List.getD, show i < rs.length by omega]
theorem TbS.fin {S B : Nat} {f : Mat} {h : HD} {rs : List RW} (s : TbS S B f h rs) : rs.map RW.l = tabL S B f := by
  have hl := s.len
  refine List.ext_getElem (by rw [List.length_map, tab_len]; exact hl) fun j h1 h2 => ?_
  rw [List.length_map] at h1
  have h3 := s.l j (by omega)
  have e1 : rs.getD j default = rs[j] := by simp [List.getD, h1]
  have e2 : (tabL S B f).getD j [] = (tabL S B f)[j] := by simp [List.getD, h2]
  rw [List.getElem_map, ← e1, ← e2, h3, tab_row f (by omega)]
theorem TbS.gk {S B : Nat} {f : Mat} {h : HD} {rs : List RW} (s : TbS S B f h rs) : gok h S 1 (rcs rwR rs) := by
  have h5 := s.go
  unfold goR at h5
  rwa [s.len] at h5
theorem TbS.rk {S B : Nat} {f : Mat} {h : HD} {rs : List RW} (s : TbS S B f h rs) {i : Nat} (hi : i < S) : goI ((rs.getD i default).h, (rs.getD i default).l) := s.ok _ (rw_at (by rw [s.len]; exact hi))
theorem TbS.rl {S B : Nat} {f : Mat} {h : HD} {rs : List RW} (s : TbS S B f h rs) {i : Nat} (hi : i < S) : (rs.getD i default).l.length = B := by rw [s.l i hi, mk_len]
theorem TbS.va {S B : Nat} {f : Mat} {h : HD} {rs : List RW} (s : TbS S B f h rs) {i j : Nat} (hi : i < S) (hj : j < B) : (rs.getD i default).l.getD j 0 = f i j := by rw [s.l i hi, mk_at _ hj]
abbrev rwS (rs : List RW) (i j : Nat) (v : Int) : List RW := rs.set i ⟨(rs.getD i default).h, (rs.getD i default).l.set j v⟩
theorem rcs_rwS (rs : List RW) {i : Nat} (hi : i < rs.length) (j : Nat) (v : Int) : rcs rwR (rwS rs i j v) = rcs rwR rs := by
  unfold rwS
  rw [rcs_flat, rcs_flat, List.map_set]
  congr 1
  refine List.ext_getElem (by simp) fun q h1 h2 => ?_
  rw [List.getElem_set]
  split
  · rename_i e
    subst e
    simp [rwR, List.getD, hi]
  · rfl
theorem TbS.set {S B : Nat} {f f' : Mat} {h : HD} {rs : List RW} (s : TbS S B f h rs) {i j : Nat} {v : Int} (hi : i < S) (hj : j < B) (hv : v = f' i j) (he : ∀ p q, p < S → q < B → ¬ (p = i ∧ q = j) → f' p q = f p q) : TbS S B f' h (rwS rs i j v) := by
  have hl := s.len
  refine ⟨by simp [rwS, hl], goR_len s.go (by simp [rwS]), s.ok.set (by have := s.rk hi; exact go_lenI (xs := (rs.getD i default).l) this (by simp)) i, fun p hp => ?_⟩
  unfold rwS
  rw [List.getD_eq_getElem?_getD, List.getElem?_set]
  by_cases e : i = p
  · subst e
    rw [if_pos rfl, if_pos (by omega)]
    show (rs.getD i default).l.set j v = _
    rw [s.l i hi]
    exact mk_set hj hv fun q hq hne => (he i q hi hq (fun h => hne h.2)).symm
  · rw [if_neg e, ← List.getD_eq_getElem?_getD, s.l p hp]
    exact mk_congr fun q hq => (he p q hp hq (fun h => e h.1.symm)).symm
theorem rwS_blk {rs : List RW} {i : Nat} (hi : i < rs.length) (j : Nat) (v : Int) (h : HD) (R : Heap) : gbR rwR 22 h rs ++ (rwB (rs.take i) ++ (gbI ((rs.getD i default).h, (rs.getD i default).l.set j v) ++ (rwB (rs.drop (i + 1)) ++ R))) = gbR rwR 22 h (rwS rs i j v) ++ (rwB (rwS rs i j v) ++ R) := by
  rw [← rwB_set hi ⟨(rs.getD i default).h, (rs.getD i default).l.set j v⟩ R]
  unfold gbR
  rw [rcs_rwS rs hi]
theorem alo_succ (x : Mat) (k : Nat) (g : Nat → Nat × Nat) (a : Int) (i j : Nat) : alo x (k + 1) g a i j = alo x k g a i j + a * (sgn k * at1 (g k) i j) := by
  unfold alo
  rw [show net (k + 1) g i j = net k g i j + sgn k * at1 (g k) i j from rfl, Int.mul_add, Int.add_assoc]
theorem alo_other {x : Mat} {k : Nat} {g : Nat → Nat × Nat} {a : Int} {i j : Nat} (h : ¬ (i = (g k).1 ∧ j = (g k).2)) : alo x (k + 1) g a i j = alo x k g a i j := by
  rw [alo_succ, show at1 (g k) i j = 0 from if_neg fun h2 => h ⟨h2.1.symm, h2.2.symm⟩, Int.mul_zero, Int.mul_zero, Int.add_zero]
theorem alo_e {x : Mat} {k : Nat} {g : Nat → Nat × Nat} {a : Int} (h : k % 2 = 0) : alo x (k + 1) g a (g k).1 (g k).2 = alo x k g a (g k).1 (g k).2 + a := by
  rw [alo_succ, show at1 (g k) (g k).1 (g k).2 = 1 from if_pos ⟨rfl, rfl⟩, show sgn k = 1 from if_pos h]; omega
theorem alo_o {x : Mat} {k : Nat} {g : Nat → Nat × Nat} {a : Int} (h : ¬ k % 2 = 0) : alo x (k + 1) g a (g k).1 (g k).2 = alo x k g a (g k).1 (g k).2 - a := by
  rw [alo_succ, show at1 (g k) (g k).1 (g k).2 = 1 from if_pos ⟨rfl, rfl⟩, show sgn k = -1 from if_neg h]; omega
theorem alo_0 (x : Mat) (g : Nat → Nat × Nat) (a : Int) (i j : Nat) : x i j = alo x 0 g a i j := by
  unfold alo net
  rw [show sm 0 _ = 0 from rfl, Int.mul_zero, Int.add_zero]
theorem prAt {w : World} {p : Option Addr} {n : Nat} {g : Nat → Nat × Nat} (h : RecsAt prR w p (prL n g)) {k : Nat} (hk : k < n) : ∃ q, p = some q ∧ w.cell? ((q.add (k * 2)).add 0) = some (.int .i64 ((g k).1 : Nat)) ∧ w.cell? ((q.add (k * 2)).add 1) = some (.int .i64 ((g k).2 : Nat)) := by
  obtain ⟨q, hq, hc⟩ := h k (by rw [prL_len]; exact hk)
  have e : (prL n g).getD k default = ⟨(g k).1, (g k).2⟩ := mkL_at _ hk
  rw [e] at hc
  exact ⟨q, hq, hc 0 _ rfl, hc 1 _ rfl⟩
/-- What a shift leaves. -/
def aloT (S B : Nat) (m : List (List Int)) (n : Nat) (g : Nat → Nat × Nat) : List (List Int) := tabL S B (alo (getM m) n g (amt (getM m) g n))
theorem RdG.tb {S B : Nat} {f : Mat} {h : HD} {rs : List RW} (s : TbS S B f h rs) : RdG (tabL S B f) (gval h S, gbR rwR 22 h rs ++ rwB rs) := by
  have := RdG.rw s.go s.ok s.fin
  rwa [tab_len] at this


set_option maxRecDepth 100000 in
set_option maxHeartbeats 4000000 in
theorem along_ok (w0 : World) (pl : Option Addr) (cl n : Nat) (g : Nat → Nat × Nat) (hl : RecsAt prR w0 pl (prL n g)) (hn : n ≤ 8) (vg : Value) (m : List (List Int)) (hg : IsG w0 vg m) (S B : Nat) (hm : Gr S B 120 m) (hS4 : S ≤ 4) (hB4 : B ≤ 4) (hin : ∀ t, t < n → (g t).1 < S ∧ (g t).2 < B) :
    Calls Try.prog 76 #[.slice pl n cl, vg] w0 (Post (X := Value × Heap) (fun y => .tuple #[y.1, .int .i64 (amt (getM m) g n)]) (fun y => RdG (aloT S B m n g) y) (fun y => y.2) w0) := by
  have hg0 := hg
  obtain ⟨pg, cg, rfl, g1⟩ := hg
  have hml := hm.len
  have hab : 0 ≤ (amt (getM m) g n) ∧ (amt (getM m) g n) ≤ 30 := ⟨amt_lo (by decide) n (fun t ht _ => (hm.bd _ _ (hin t ht).1 (hin t ht).2).1), amt_30 n⟩
  refine calls Try.func76 rfl (n := 73) rfl (by simp) ?_
  refine TC.seq ?_
  refine TC.region ?_
  refine TL.pure (PV.assign rfl) rfl (by decide) ?_
  refine TL.pure (PV.assign rfl) rfl (by decide) ?_
  refine TL.nil ?_
  refine TQ.thenC ?_
  refine TC.seq ?_
  refine TC.region ?_
  refine TL.pure (PV.assign rfl) rfl (by decide) ?_
  refine TL.nil ?_
  refine TQ.thenC ?_
  refine TC.seq ?_
  refine TC.seq ?_
  refine TC.region ?_
  refine TL.pure (PV.move rfl) rfl (by decide) ?_
  refine TL.pure (PV.len rfl Tb.sl_82) rfl (by decide) ?_
  refine TL.pure (PV.move rfl) rfl (by decide) ?_
  refine TL.nil ?_
  refine TQ.thenC ?_
  refine TC.block ?_
  refine TC.lit [(0, _), (1, _), (4, _), (5, _), (6, _), (12, _), (13, _), (14, _)] (by repeat (first | exact True.intro | refine And.intro rfl ?_)) ?_
  refine TC.loopK [0, 1, 4, 5, 12, 13] (X := Nat) (fun k => k ≤ n) (fun k => [(14, .int .i64 k), (6, .int .i64 (amt (getM m) g k))]) (fun k => []) (fun k => n - k) 0 (Nat.zero_le _) (by repeat (first | exact True.intro | refine And.intro rfl ?_)) (by repeat (first | exact List.Sublist.slnil | exact List.nil_sublist _ | exact List.Sublist.refl _ | refine List.Sublist.cons_cons _ ?_ | refine List.Sublist.cons _ ?_ | refine List.Sublist.trans ?_ (List.sublist_append_right _ _))) ?_
  intro k hk
  refine TC.lit [(0, _), (1, _), (4, _), (5, _), (6, _), (12, _), (13, _), (14, _)] (by repeat (first | exact True.intro | refine And.intro rfl ?_)) ?_
  refine TC.seq ?_
  refine TC.region ?_
  refine TL.pure (PV.lss rfl rfl) rfl (by decide) ?_
  refine TL.nil ?_
  refine TQ.thenC ?_
  refine TC.seq ?_
  first | refine TC.condD rfl (fun hlt => ?_) (fun hlt => ?_) | refine TC.cond rfl (fun hlt => ?_) (fun hlt => ?_)
  · skip
    refine TC.skip ?_
    refine TQ.thenC ?_
    refine TC.seq ?_
    refine TC.block ?_
    refine TC.seq ?_
    obtain ⟨q1, hq1p, hq1a, hq1b⟩ := prAt hl (k := k) (by omega)
    have hik := hin k (by omega)
    refine TC.region ?_
    refine TL.pure (PV.move rfl) rfl (by decide) ?_
    refine TL.pure (PV.indexA (j := k) rfl hq1p rfl Tb.elm_82 rfl (by omega)) rfl (by decide) ?_
    refine TL.pure (PV.loadAggA rfl Tb.agg_84 rfl (two_cells hq1a hq1b)) rfl (by decide) ?_
    refine TL.alloc Tb.zero_84 rfl (by decide) (fun bA hbA => ?_)
    refine TL.pure (PV.assign rfl) rfl (by decide) ?_
    refine TL.storeAgg (vs := [.int .i64 ((g k).1 : Nat), .int .i64 ((g k).2 : Nat)]) rfl rfl Tb.cells_84 (by repeat (first | exact Upd.head _ | apply Upd.tail | apply Upd.appR)) rfl rfl rfl rfl rfl ?_
    refine TL.nil ?_
    refine TQ.thenC ?_
    refine TC.seq ?_
    refine TC.region ?_
    refine TL.pure (PV.move rfl) rfl (by decide) ?_
    refine TL.pure (PV.rem rfl rfl (by decide) (by rw [tm2]; omega)) rfl (by decide) ?_
    refine TL.pure (PV.eql rfl rfl) rfl (by decide) ?_
    refine TL.nil ?_
    refine TQ.thenC ?_
    first | refine TC.condD rfl (fun hod => ?_) (fun hod => ?_) | refine TC.cond rfl (fun hod => ?_) (fun hod => ?_)
    · skip
      rw [tm2] at hod
      obtain ⟨q2, hq2p, q2p, q2c, hq2, hq2r⟩ := g1 (g k).1 (by omega)
      have hrw := hm.row (g k).1 (by omega)
      obtain ⟨q3, hq3p, hq3⟩ := hq2r (g k).2 (by omega)
      have hst : amt (getM m) g (k + 1) = min (amt (getM m) g k) ((m.getD (g k).1 []).getD (g k).2 0) := by show (if _ then _ else _) = _; rw [if_pos (by omega)]; rfl
      refine TC.draw 11 Tb.mixed (by kernel_rfl) ?_
      simp only [List.take_succ_cons, List.take_zero, List.drop_succ_cons, List.drop_zero]
      refine TS.pure (PV.move rfl) rfl (by decide) ?_
      refine TS.pure (PV.move rfl) rfl (by decide) ?_
      refine TS.pure (PV.indexArr (j := 0) rfl rfl arr_84 rfl (by decide)) rfl (by decide) ?_
      refine TS.pure (PV.load rfl Tb.one_3 (by repeat (first | exact List.Mem.head _ | refine List.Mem.tail _ ?_ | refine List.mem_append_right _ ?_)) rfl) rfl (by decide) ?_
      refine TS.pure (PV.indexA (j := (g k).1) rfl hq2p rfl Tb.elm_23 rfl (by omega)) rfl (by decide) ?_
      refine TS.pure (PV.loadOld rfl Tb.one_22 hq2) rfl (by decide) ?_
      refine TS.pure (PV.indexArr (j := 1) rfl rfl arr_84 rfl (by decide)) rfl (by decide) ?_
      refine TS.pure (PV.load rfl Tb.one_3 (by repeat (first | exact List.Mem.head _ | refine List.Mem.tail _ ?_ | refine List.mem_append_right _ ?_)) rfl) rfl (by decide) ?_
      refine TS.pure (PV.indexA (j := (g k).2) rfl hq3p rfl Tb.elm_22 rfl (by omega)) rfl (by decide) ?_
      refine TS.pure (PV.loadOld rfl Tb.one_3 hq3) rfl (by decide) ?_
      refine TS.pure (PV.min rfl rfl Tb.int_3) rfl (by decide) ?_
      refine TS.nil ?_
      refine TL.pure (PV.assign rfl) rfl (by decide) ?_
      refine TL.nil ?_
      refine TQ.blkN ?_
      refine TQ.thenC ?_
      refine TC.region ?_
      refine TL.pure (PV.add rfl rfl (by omega)) rfl (by decide) ?_
      refine TL.pure (PV.move rfl) rfl (by decide) ?_
      refine TL.nil ?_
      refine TQ.thenN ?_
      refine TQ.backK (k + 1) (And.intro rfl (And.intro (by show _ = some (Value.int .i64 (amt (getM m) g (k + 1))); rw [hst]; rfl) True.intro)) (by repeat (first | exact True.intro | refine And.intro rfl ?_)) (List.nil_sublist _) (by omega) (by omega)
    · skip
      rw [tm2] at hod
      have hst : amt (getM m) g (k + 1) = amt (getM m) g k := by show (if _ then _ else _) = _; rw [if_neg (by omega)]
      refine TC.skip ?_
      refine TQ.blkN ?_
      refine TQ.thenC ?_
      refine TC.region ?_
      refine TL.pure (PV.add rfl rfl (by omega)) rfl (by decide) ?_
      refine TL.pure (PV.move rfl) rfl (by decide) ?_
      refine TL.nil ?_
      refine TQ.thenN ?_
      refine TQ.backK (k + 1) (And.intro rfl (And.intro (by show _ = some (Value.int .i64 (amt (getM m) g (k + 1))); rw [hst]; rfl) True.intro)) (by repeat (first | exact True.intro | refine And.intro rfl ?_)) (List.nil_sublist _) (by omega) (by omega)
  · skip
    refine TC.exit ?_
    refine TQ.thenE ?_
    refine TQ.thenE ?_
    refine TQ.blkS ?_
    refine TQ.thenC ?_
    refine TC.seq ?_
    have hke : k = n := by omega
    rw [hke]
    refine TC.region ?_
    refine TL.pure (PV.move rfl) rfl (by decide) ?_
    refine TL.call rfl Tb.gofn_99 (fun a w hs => copied_ok w _ m (IsG.of (g1.new hs.new)) (hm.sm (by omega) (by omega))) rfl (by decide) (fun y9 hy9 => ?_)
    rw [hml]
    refine TL.pure (PV.assign rfl) rfl (by decide) ?_
    refine TL.nil ?_
    refine TQ.thenC ?_
    refine TC.seq ?_
    refine TC.seq ?_
    refine TC.region ?_
    refine TL.pure (PV.move rfl) rfl (by decide) ?_
    refine TL.pure (PV.len rfl Tb.sl_82) rfl (by decide) ?_
    refine TL.pure (PV.move rfl) rfl (by decide) ?_
    refine TL.nil ?_
    refine TQ.thenC ?_
    refine TC.block ?_
    refine TC.lit [(4, _), (5, _), (6, _), (9, _), (36, _), (37, _), (38, _)] (by repeat (first | exact True.intro | refine And.intro rfl ?_)) ?_
    refine TC.loopK [4, 5, 6, 9, 36, 37] (X := Nat × List RW) (fun x => x.1 ≤ n ∧ TbS S B (alo (getM m) x.1 g (amt (getM m) g n)) y9.1 x.2) (fun x => [(38, .int .i64 x.1)]) (fun x => gbR rwR 22 y9.1 x.2 ++ (rwB x.2 ++ [])) (fun x => n - x.1) (0, y9.2) ⟨Nat.zero_le _, TbS.of hy9.1 hy9.2.1 (hy9.2.2.trans ((tab_self hm).trans (tab_congr fun i j _ _ => alo_0 _ g (amt (getM m) g n) i j)))⟩ (by repeat (first | exact True.intro | refine And.intro rfl ?_)) (by show List.Sublist (_ ++ (_ ++ [])) _; rw [List.append_nil]; first | exact List.Sublist.refl _ | exact List.sublist_append_left _ _) ?_
    intro x hx9
    refine TC.lit [(4, _), (5, _), (6, _), (9, _), (36, _), (37, _), (38, _)] (by repeat (first | exact True.intro | refine And.intro rfl ?_)) ?_
    refine TC.seq ?_
    refine TC.region ?_
    refine TL.pure (PV.lss rfl rfl) rfl (by decide) ?_
    refine TL.nil ?_
    refine TQ.thenC ?_
    refine TC.seq ?_
    first | refine TC.condD rfl (fun hlt2 => ?_) (fun hlt2 => ?_) | refine TC.cond rfl (fun hlt2 => ?_) (fun hlt2 => ?_)
    · skip
      refine TC.skip ?_
      refine TQ.thenC ?_
      refine TC.seq ?_
      refine TC.block ?_
      refine TC.seq ?_
      obtain ⟨q1, hq1p, hq1a, hq1b⟩ := prAt hl (k := x.1) (by omega)
      have hik := hin x.1 (by omega)
      refine TC.region ?_
      refine TL.pure (PV.move rfl) rfl (by decide) ?_
      refine TL.pure (PV.indexA (j := x.1) rfl hq1p rfl Tb.elm_82 rfl (by omega)) rfl (by decide) ?_
      refine TL.pure (PV.loadAggA rfl Tb.agg_84 rfl (two_cells hq1a hq1b)) rfl (by decide) ?_
      refine TL.alloc Tb.zero_84 rfl (by decide) (fun bB hbB => ?_)
      refine TL.pure (PV.assign rfl) rfl (by decide) ?_
      refine TL.storeAgg (vs := [.int .i64 ((g x.1).1 : Nat), .int .i64 ((g x.1).2 : Nat)]) rfl rfl Tb.cells_84 (by repeat (first | exact Upd.head _ | apply Upd.tail | apply Upd.appR)) rfl rfl rfl rfl rfl ?_
      refine TL.nil ?_
      refine TQ.thenC ?_
      refine TC.seq ?_
      refine TC.region ?_
      refine TL.pure (PV.move rfl) rfl (by decide) ?_
      refine TL.pure (PV.rem rfl rfl (by decide) (by rw [tm2]; omega)) rfl (by decide) ?_
      refine TL.pure (PV.eql rfl rfl) rfl (by decide) ?_
      refine TL.nil ?_
      refine TQ.thenC ?_
      first | refine TC.condD rfl (fun hev => ?_) (fun hev => ?_) | refine TC.cond rfl (fun hev => ?_) (fun hev => ?_)
      · skip
        have hev : x.1 % 2 = 0 := by rw [tm2] at hev; omega
        have hxl := hx9.2.len
        have hro := hx9.2.rk (i := (g x.1).1) (by omega)
        have hrl := hx9.2.rl (i := (g x.1).1) (by omega)
        have hvb := alo_bd (g := g) (a := (amt (getM m) g n)) hm (k := x.1) (by omega) hab (i := (g x.1).1) (j := (g x.1).2) (by omega) (by omega)
        rw [rwB_at (show (g x.1).1 < x.2.length by omega)]
        refine TC.draw 12 Tb.mixed (by kernel_rfl) ?_
        simp only [List.take_succ_cons, List.take_zero, List.drop_succ_cons, List.drop_zero]
        refine TS.pure (PV.move rfl) rfl (by decide) ?_
        refine TS.pure (PV.indexArr (j := 0) rfl rfl arr_84 rfl (by decide)) rfl (by decide) ?_
        refine TS.pure (PV.load rfl Tb.one_3 (by repeat (first | exact List.Mem.head _ | refine List.Mem.tail _ ?_ | refine List.mem_append_right _ ?_)) rfl) rfl (by decide) ?_
        refine TS.pure (PV.indexG (h := y9.1) (len := S) (ys := rcs rwR x.2) (j := (g x.1).1) rfl rfl hx9.2.gk Tb.elm_23 rfl (by omega)) rfl (by decide) ?_
        refine TS.pure (PV.loadRecF (R := rwR) (h := y9.1) (l := x.2) (j := (g x.1).1) (f := 0) (v := gval (x.2.getD (g x.1).1 default).h (x.2.getD (g x.1).1 default).l.length) (e := 22) rfl Tb.one_22 (fun yy hyy => by repeat (first | exact List.mem_append_left _ hyy | exact List.mem_append_left _ (List.mem_append_right _ hyy) | exact List.mem_append_left _ (List.mem_append_left _ hyy) | refine List.mem_append_right _ ?_ | refine List.Mem.tail _ ?_)) hx9.2.go (by omega) Nat.one_pos rfl) rfl (by decide) ?_
        refine TS.pure (PV.indexArr (j := 1) rfl rfl arr_84 rfl (by decide)) rfl (by decide) ?_
        refine TS.pure (PV.load rfl Tb.one_3 (by repeat (first | exact List.Mem.head _ | refine List.Mem.tail _ ?_ | refine List.mem_append_right _ ?_)) rfl) rfl (by decide) ?_
        refine TS.pure (PV.indexG (h := (x.2.getD (g x.1).1 default).h) (len := (x.2.getD (g x.1).1 default).l.length) (ys := ival (x.2.getD (g x.1).1 default).l) (j := (g x.1).2) rfl rfl hro Tb.elm_22 rfl (by omega)) rfl (by decide) ?_
        refine TS.pure (PV.loadGI (y := ((x.2.getD (g x.1).1 default).h, (x.2.getD (g x.1).1 default).l)) (j := (g x.1).2) (v := (alo (getM m) x.1 g (amt (getM m) g n) (g x.1).1 (g x.1).2)) rfl Tb.one_3 (fun yy hyy => by repeat (first | exact List.mem_append_left _ hyy | exact List.mem_append_left _ (List.mem_append_right _ hyy) | exact List.mem_append_left _ (List.mem_append_left _ hyy) | refine List.mem_append_right _ ?_ | refine List.Mem.tail _ ?_)) hro (by show _ < (x.2.getD (g x.1).1 default).l.length; omega) (hx9.2.va (by omega) (by omega))) rfl (by decide) ?_
        refine TS.pure (PV.move rfl) rfl (by decide) ?_
        refine TS.pure (PV.add rfl rfl (by omega)) rfl (by decide) ?_
        refine TS.pure (PV.indexG (h := (x.2.getD (g x.1).1 default).h) (len := (x.2.getD (g x.1).1 default).l.length) (ys := ival (x.2.getD (g x.1).1 default).l) (j := (g x.1).2) rfl rfl hro Tb.elm_22 rfl (by omega)) rfl (by decide) ?_
        refine TS.nil ?_
        refine TL.putI (h := (x.2.getD (g x.1).1 default).h) (xs := (x.2.getD (g x.1).1 default).l) (xs' := (x.2.getD (g x.1).1 default).l.set (g x.1).2 ((alo (getM m) x.1 g (amt (getM m) g n) (g x.1).1 (g x.1).2) + (amt (getM m) g n))) (j := (g x.1).2) rfl rfl Tb.cells_3 hro rfl (by repeat (first | exact PutH.here _ _ _ _ | apply PutH.tail | apply PutH.app)) (by omega) rfl rfl ?_
        obtain ⟨rs', hrs'⟩ : ∃ rs', rs' = (rwS x.2 (g x.1).1 (g x.1).2 ((alo (getM m) x.1 g (amt (getM m) g n) (g x.1).1 (g x.1).2) + (amt (getM m) g n))) := ⟨_, rfl⟩
        refine TL.congrG (G' := (bB, Obj.cells #[.int .i64 ((g x.1).1 : Nat), .int .i64 ((g x.1).2 : Nat)] 84 (0, 0)) :: (gbR rwR 22 y9.1 rs' ++ (rwB rs' ++ []))) (by rw [hrs']; show _ :: (_ ++ _) = _; rw [rwS_blk (by omega)]) ?_
        have hst : TbS S B (alo (getM m) (x.1 + 1) g (amt (getM m) g n)) y9.1 rs' := by rw [hrs']; exact hx9.2.set (by omega) (by omega) (alo_e hev).symm (fun p q hp hq hne => alo_other hne)
        refine TL.nil ?_
        refine TQ.blkN ?_
        refine TQ.thenC ?_
        refine TC.region ?_
        refine TL.pure (PV.add rfl rfl (by omega)) rfl (by decide) ?_
        refine TL.pure (PV.move rfl) rfl (by decide) ?_
        refine TL.nil ?_
        refine TQ.thenN ?_
        refine TQ.backK (x.1 + 1, rs') (by repeat (first | exact True.intro | refine And.intro rfl ?_)) (by repeat (first | exact True.intro | refine And.intro rfl ?_)) (List.Sublist.cons _ (List.Sublist.refl _)) ⟨by simp only; omega, hst⟩ (by simp only; omega)
      · skip
        have hev : ¬ x.1 % 2 = 0 := by rw [tm2] at hev; omega
        have hxl := hx9.2.len
        have hro := hx9.2.rk (i := (g x.1).1) (by omega)
        have hrl := hx9.2.rl (i := (g x.1).1) (by omega)
        have hvb := alo_bd (g := g) (a := (amt (getM m) g n)) hm (k := x.1) (by omega) hab (i := (g x.1).1) (j := (g x.1).2) (by omega) (by omega)
        rw [rwB_at (show (g x.1).1 < x.2.length by omega)]
        refine TC.draw 12 Tb.mixed (by kernel_rfl) ?_
        simp only [List.take_succ_cons, List.take_zero, List.drop_succ_cons, List.drop_zero]
        refine TS.pure (PV.move rfl) rfl (by decide) ?_
        refine TS.pure (PV.indexArr (j := 0) rfl rfl arr_84 rfl (by decide)) rfl (by decide) ?_
        refine TS.pure (PV.load rfl Tb.one_3 (by repeat (first | exact List.Mem.head _ | refine List.Mem.tail _ ?_ | refine List.mem_append_right _ ?_)) rfl) rfl (by decide) ?_
        refine TS.pure (PV.indexG (h := y9.1) (len := S) (ys := rcs rwR x.2) (j := (g x.1).1) rfl rfl hx9.2.gk Tb.elm_23 rfl (by omega)) rfl (by decide) ?_
        refine TS.pure (PV.loadRecF (R := rwR) (h := y9.1) (l := x.2) (j := (g x.1).1) (f := 0) (v := gval (x.2.getD (g x.1).1 default).h (x.2.getD (g x.1).1 default).l.length) (e := 22) rfl Tb.one_22 (fun yy hyy => by repeat (first | exact List.mem_append_left _ hyy | exact List.mem_append_left _ (List.mem_append_right _ hyy) | exact List.mem_append_left _ (List.mem_append_left _ hyy) | refine List.mem_append_right _ ?_ | refine List.Mem.tail _ ?_)) hx9.2.go (by omega) Nat.one_pos rfl) rfl (by decide) ?_
        refine TS.pure (PV.indexArr (j := 1) rfl rfl arr_84 rfl (by decide)) rfl (by decide) ?_
        refine TS.pure (PV.load rfl Tb.one_3 (by repeat (first | exact List.Mem.head _ | refine List.Mem.tail _ ?_ | refine List.mem_append_right _ ?_)) rfl) rfl (by decide) ?_
        refine TS.pure (PV.indexG (h := (x.2.getD (g x.1).1 default).h) (len := (x.2.getD (g x.1).1 default).l.length) (ys := ival (x.2.getD (g x.1).1 default).l) (j := (g x.1).2) rfl rfl hro Tb.elm_22 rfl (by omega)) rfl (by decide) ?_
        refine TS.pure (PV.loadGI (y := ((x.2.getD (g x.1).1 default).h, (x.2.getD (g x.1).1 default).l)) (j := (g x.1).2) (v := (alo (getM m) x.1 g (amt (getM m) g n) (g x.1).1 (g x.1).2)) rfl Tb.one_3 (fun yy hyy => by repeat (first | exact List.mem_append_left _ hyy | exact List.mem_append_left _ (List.mem_append_right _ hyy) | exact List.mem_append_left _ (List.mem_append_left _ hyy) | refine List.mem_append_right _ ?_ | refine List.Mem.tail _ ?_)) hro (by show _ < (x.2.getD (g x.1).1 default).l.length; omega) (hx9.2.va (by omega) (by omega))) rfl (by decide) ?_
        refine TS.pure (PV.move rfl) rfl (by decide) ?_
        refine TS.pure (PV.sub rfl rfl (by omega)) rfl (by decide) ?_
        refine TS.pure (PV.indexG (h := (x.2.getD (g x.1).1 default).h) (len := (x.2.getD (g x.1).1 default).l.length) (ys := ival (x.2.getD (g x.1).1 default).l) (j := (g x.1).2) rfl rfl hro Tb.elm_22 rfl (by omega)) rfl (by decide) ?_
        refine TS.nil ?_
        refine TL.putI (h := (x.2.getD (g x.1).1 default).h) (xs := (x.2.getD (g x.1).1 default).l) (xs' := (x.2.getD (g x.1).1 default).l.set (g x.1).2 ((alo (getM m) x.1 g (amt (getM m) g n) (g x.1).1 (g x.1).2) - (amt (getM m) g n))) (j := (g x.1).2) rfl rfl Tb.cells_3 hro rfl (by repeat (first | exact PutH.here _ _ _ _ | apply PutH.tail | apply PutH.app)) (by omega) rfl rfl ?_
        obtain ⟨rs', hrs'⟩ : ∃ rs', rs' = (rwS x.2 (g x.1).1 (g x.1).2 ((alo (getM m) x.1 g (amt (getM m) g n) (g x.1).1 (g x.1).2) - (amt (getM m) g n))) := ⟨_, rfl⟩
        refine TL.congrG (G' := (bB, Obj.cells #[.int .i64 ((g x.1).1 : Nat), .int .i64 ((g x.1).2 : Nat)] 84 (0, 0)) :: (gbR rwR 22 y9.1 rs' ++ (rwB rs' ++ []))) (by rw [hrs']; show _ :: (_ ++ _) = _; rw [rwS_blk (by omega)]) ?_
        have hst : TbS S B (alo (getM m) (x.1 + 1) g (amt (getM m) g n)) y9.1 rs' := by rw [hrs']; exact hx9.2.set (by omega) (by omega) (alo_o hev).symm (fun p q hp hq hne => alo_other hne)
        refine TL.nil ?_
        refine TQ.blkN ?_
        refine TQ.thenC ?_
        refine TC.region ?_
        refine TL.pure (PV.add rfl rfl (by omega)) rfl (by decide) ?_
        refine TL.pure (PV.move rfl) rfl (by decide) ?_
        refine TL.nil ?_
        refine TQ.thenN ?_
        refine TQ.backK (x.1 + 1, rs') (by repeat (first | exact True.intro | refine And.intro rfl ?_)) (by repeat (first | exact True.intro | refine And.intro rfl ?_)) (List.Sublist.cons _ (List.Sublist.refl _)) ⟨by simp only; omega, hst⟩ (by simp only; omega)
    · skip
      refine TC.exit ?_
      refine TQ.thenE ?_
      refine TQ.thenE ?_
      refine TQ.blkS ?_
      refine TQ.thenC ?_
      refine TC.seq ?_
      have hxe : x.1 = n := by omega
      have hx8 := hx9.2
      rw [hxe] at hx8
      refine TC.region ?_
      refine TL.pure (PV.move rfl) rfl (by decide) ?_
      refine TL.pure (PV.move rfl) rfl (by decide) ?_
      refine TL.pure (PV.assign rfl) rfl (by decide) ?_
      refine TL.pure (PV.assign rfl) rfl (by decide) ?_
      refine TL.nil ?_
      refine TQ.thenC ?_
      refine TC.ret ?_
      refine TQ.retE2 rfl rfl rfl ?_
      exact ⟨(gval y9.1 S, gbR rwR 22 y9.1 x.2 ++ rwB x.2), rfl, RdG.tb hx8, by simp only [List.append_nil]; exact List.Sublist.refl _⟩

set_option maxRecDepth 100000 in
theorem stay_ok (w0 : World) (vp : Value) (us vs : List Int) (hp : IsP w0 vp us vs) (vg : Value) (m : List (List Int)) (hg : IsG w0 vg m) (hM : SmG m) :
    Calls Try.prog 127 #[vp, vg] w0 (Post (X := Value × Heap) (fun y => .tuple #[y.1, .int .i64 0]) (fun y => RdG m y) (fun y => y.2) w0) := by
  obtain ⟨pu, cu, pv, cv, rfl, hpu, hpv⟩ := hp
  obtain ⟨pg, cg, rfl, g1⟩ := hg
  refine calls Try.func127 rfl (n := 8) rfl (by simp) ?_
  refine TC.seq ?_
  refine TC.region ?_
  refine TL.box rfl rfl (by decide) (fun b0 hb0 => ?_)
  refine TL.pure (PV.assign rfl) rfl (by decide) ?_
  refine TL.pure (PV.assign rfl) rfl (by decide) ?_
  refine TL.nil ?_
  refine TQ.thenC ?_
  refine TC.seq ?_
  refine TC.region ?_
  refine TL.pure (PV.move rfl) rfl (by decide) ?_
  refine TL.call rfl Tb.gofn_99 (fun a w hs => copied_ok w _ m (IsG.of (g1.new hs.new)) hM) rfl (by decide) (fun y9 hy9 => ?_)
  refine TL.pure (PV.assign rfl) rfl (by decide) ?_
  refine TL.pure (PV.assign rfl) rfl (by decide) ?_
  refine TL.nil ?_
  refine TQ.thenC ?_
  refine TC.ret ?_
  refine TQ.retE2 rfl rfl rfl ?_
  exact ⟨(gval y9.1 m.length, gbR rwR 22 y9.1 y9.2 ++ rwB y9.2), rfl, RdG.rw hy9.1 hy9.2.1 hy9.2.2, List.sublist_append_left _ _⟩

end Go.Proofs.Ytghlkndanpegbaa
