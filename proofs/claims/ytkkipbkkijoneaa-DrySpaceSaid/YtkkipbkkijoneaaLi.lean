/- The room, by the reference: contract; both ranks are one. -/
import Derived.Test.YtkkipbkkijoneaaLh
set_option linter.unusedVariables false
set_option linter.unusedSimpArgs false
namespace Go.Proofs.Ytkkipbkkijoneaa
open Go.Sx Go.RowKit Go.Sand

theorem nI_inj {I J : List Nat} (h : nI I = nI J) : I = J := by
  unfold nI at h
  exact List.map_inj_right (f := Int.ofNat) (fun a b h => Int.ofNat.inj h) |>.1 h
theorem subL_nI (N m : Nat) : subL (idL N) m N = nI ((List.range N).filter fun i => decide (m / 2 ^ i % 2 = 1)) := by
  unfold subL nI
  refine List.map_congr_left fun i hi => ?_
  exact idL_at (List.mem_range.1 (List.mem_filter.1 hi).1)
theorem set_mem {N k m : Nat} {l : List Int} (h : l ∈ setsK N k m) : ∃ I : List Nat, l = nI I ∧ I.length = k ∧ ∀ x ∈ I, x < N := by
  unfold setsK at h
  obtain ⟨h1, h2⟩ := List.mem_filter.1 h
  obtain ⟨i, _, rfl⟩ := List.mem_map.1 h1
  have h3 : (subL (idL N) i N).length = k := by simpa using h2
  rw [subL_nI] at h3 ⊢
  exact ⟨_, rfl, by rw [← h3, nI_len], fun x hx => List.mem_range.1 (List.mem_filter.1 hx).1⟩
theorem set_el {N k m : Nat} {h : HD} {rs : List RW} (e : SG9 N k m h rs) {a : Nat} (ha : a < rs.length) : ∃ I : List Nat, (rs.getD a default).l = nI I ∧ I.length = k ∧ ∀ x ∈ I, x < N :=
  set_mem (m := m) (by rw [← e.eq]; exact List.mem_map.2 ⟨_, rw_at ha, rfl⟩)
theorem set_asc {N k : Nat} {I : List Nat} (hn : I.Nodup) (hb : ∀ x ∈ I, x < N) (hl : I.length = k) : ∃ I' : List Nat, List.Perm I I' ∧ nI I' ∈ setsK N k (2 ^ N) := by
  obtain ⟨m, h1, h2⟩ := mask_ex (fun i => decide (i ∈ I)) N
  have hp : List.Perm I ((List.range N).filter fun i => decide (m / 2 ^ i % 2 = 1)) := by
    refine (List.perm_ext_iff_of_nodup hn (List.nodup_range.sublist List.filter_sublist)).2 fun x => ?_
    rw [List.mem_filter, List.mem_range, decide_eq_true_eq]
    constructor
    · intro hx
      have hx2 := hb x hx
      refine ⟨hx2, ?_⟩
      rw [h2 x hx2, if_pos (by simpa using hx)]
    · rintro ⟨hx, hb2⟩
      rw [h2 x hx] at hb2
      by_cases h3 : x ∈ I
      · exact h3
      · rw [if_neg (by simpa using h3)] at hb2; cases hb2
  refine ⟨_, hp, ?_⟩
  rw [← subL_nI]
  unfold setsK
  refine List.mem_filter.2 ⟨List.mem_map.2 ⟨m, List.mem_range.2 h1, rfl⟩, decide_eq_true ?_⟩
  rw [subL_nI, nI_len, ← hp.length_eq, hl]
/-- What the reference finds. -/
structure RfRk (M : Nat → Row) (S n k : Nat) : Prop where
  yes : k = 0 ∨ ∃ I J : List Nat, I.length = k ∧ J.length = k ∧ (∀ x ∈ I, x < S) ∧ (∀ x ∈ J, x < n) ∧ dt k (sub M I J) ≠ 0
  no : ∀ k', k < k' → k' ≤ S → k' ≤ n → ∀ I J : List Nat, nI I ∈ setsK S k' (2 ^ S) → nI J ∈ setsK n k' (2 ^ n) → dt k' (sub M I J) = 0
theorem RfRk.eq {M : Nat → Row} {S n k r : Nat} (h : RfRk M S n k) (h' : IsRk M S n r) : r = k := by
  have hle := h'.le
  rcases Nat.lt_trichotomy r k with hl | hl | hl
  · rcases h.yes with h0 | ⟨I, J, a1, a2, a3, a4, a5⟩
    · omega
    · obtain ⟨d, rfl⟩ : ∃ d, k = r + 1 + d := ⟨k - r - 1, by omega⟩
      exact absurd (h'.up d I J a1 a2 a3 a4) a5
  · exact hl
  · obtain ⟨I, J, a1, a2, a3, a4, a5, a6, a7⟩ := h'.yes
    obtain ⟨I', p1, m1⟩ := set_asc a3 a5 a1
    obtain ⟨J', p2, m2⟩ := set_asc a4 a6 a2
    exact absurd ((dt_perms p1 p2 a1.symm a2.symm).2 (h.no r hl hle.1 hle.2 I' J' m1 m2)) a7
theorem mat_dd {n : Int} {ss : List St} (hV : VY n ss) {N : Nat} {h : HD} {rs : List RW} (e : EK ss N ss.length h rs) : mat (rs.map RW.l) = dd ss := funext fun i => funext fun j => by
  have hl := e.ln
  unfold mat
  by_cases hi : i < ss.length
  · have e1 : (rs.map RW.l).getD i [] = (rs.getD i default).l := by simp [List.getD, show i < rs.length by omega]
    rw [e1, e.v i hi, eff_all hV hi]
  · have e1 : (rs.map RW.l).getD i [] = [] := by simp [List.getD, show ¬ i < rs.length by omega]
    have e2 : ss.getD i default = default := by rw [List.getD_eq_getElem?_getD, List.getElem?_eq_none (by omega)]; rfl
    unfold dd
    rw [e1, e2]
    simp [default, instInhabitedSt.default]
theorem IsC.row {w0 w : World} {G : Heap} {rs : List RW} {a : Nat} {I : List Nat} (hn : New w0 w G) (hm : ∀ y ∈ rwB rs, y ∈ G) (hok : rwOk rs) (ha : a < rs.length) (he : (rs.getD a default).l = nI I) : IsC w (gval (rs.getD a default).h (rs.getD a default).l.length) (nI I) := by
  have h1 := hok _ (rw_at ha)
  rw [← he]
  exact ⟨_, _, gval_eq h1, IntsAt.g (x := ((rs.getD a default).h, (rs.getD a default).l)) hn (fun y hy => hm y (rwB_mem (rw_at ha) y hy)) h1, gok_cap h1⟩
theorem mem_ix {rs : List RW} {l : List Int} (h : l ∈ rs.map RW.l) : ∃ a, a < rs.length ∧ (rs.getD a default).l = l := by
  obtain ⟨r, hr, rfl⟩ := List.mem_map.1 h
  obtain ⟨a, ha, rfl⟩ := List.getElem_of_mem hr
  exact ⟨a, ha, by simp [List.getD, ha]⟩


set_option maxRecDepth 100000 in
set_option maxHeartbeats 8000000 in
theorem rSpace_ok (w0 : World) (n : Int) (p : Option Addr) (cp : Nat) (ss : List St) (hr : StsAt w0 p ss) (hS : SmS ss) :
    Calls Try.prog 46 #[yv n p ss.length cp] w0 (Post (X := Nat) (fun r => .tuple #[.int .i64 (spc n ss r), .int .i64 (validI n ss)]) (fun r => ¬ validI n ss ≠ 0 → RfRk (dd ss) ss.length n.toNat r) (fun _ => []) w0) := by
  refine calls Try.func46 rfl (n := 104) rfl (by simp) ?_
  refine TC.seq ?_
  refine TC.region ?_
  refine TL.box rfl rfl (by decide) (fun b0 hb0 => ?_)
  refine TL.pure (PV.assign rfl) rfl (by decide) ?_
  refine TL.pure (PV.assign rfl) rfl (by decide) ?_
  refine TL.nil ?_
  refine TQ.thenC ?_
  refine TC.seq ?_
  refine TC.seq ?_
  refine TC.region ?_
  refine TL.pure (PV.loadBox rfl Tb.agg_24 (by repeat (first | exact List.Mem.head _ | refine List.Mem.tail _ ?_ | refine List.mem_append_right _ ?_)) rfl) rfl (by decide) ?_
  refine TL.call rfl Tb.gofn_25 (fun a w hs => rvalidate_ok w _ _ _ _ (hr.new hs.new) hS) rfl (by decide) (fun _ _ => ?_)
  refine TL.pure (PV.assign rfl) rfl (by decide) ?_
  refine TL.nil ?_
  refine TQ.thenC ?_
  refine TC.seq ?_
  refine TC.region ?_
  refine TL.pure (PV.move rfl) rfl (by decide) ?_
  refine TL.pure (PV.neq rfl rfl) rfl (by decide) ?_
  refine TL.nil ?_
  refine TQ.thenC ?_
  first | refine TC.condD rfl (fun a1 => ?_) (fun a1 => ?_) | refine TC.cond rfl (fun a1 => ?_) (fun a1 => ?_)
  · skip
    refine TC.seq ?_
    refine TC.region ?_
    refine TL.pure (PV.move rfl) rfl (by decide) ?_
    refine TL.pure (PV.assign rfl) rfl (by decide) ?_
    refine TL.pure (PV.assign rfl) rfl (by decide) ?_
    refine TL.nil ?_
    refine TQ.thenC ?_
    refine TC.ret ?_
    refine TQ.thenR ?_
    refine TQ.retE2 rfl rfl rfl ?_
    exact ⟨0, by unfold spc; rw [if_pos a1], fun h => absurd a1 h, List.nil_sublist _⟩
  · skip
    refine TC.skip ?_
    refine TQ.thenC ?_
    refine TC.seq ?_
    have hV := vy_of a1
    obtain ⟨N, rfl⟩ : ∃ N : Nat, n = N := ⟨n.toNat, by have := hV.hn; omega⟩
    have hn6 := hV.hn
    have hsl := hV.len
    refine TC.region ?_
    refine TL.pure (PV.assign rfl) rfl (by decide) ?_
    refine TL.nil ?_
    refine TQ.thenC ?_
    refine TC.seq ?_
    refine TC.seq ?_
    refine TC.region ?_
    refine TL.pure (PV.assign rfl) rfl (by decide) ?_
    refine TL.nil ?_
    refine TQ.thenC ?_
    refine TC.block ?_
    refine TC.lit [(1, _), (2, _), (3, _), (5, _), (6, _)] (by repeat (first | exact True.intro | refine And.intro rfl ?_)) ?_
    refine TC.loopK [1, 2, 3] (X := Nat × HD × List RW) (fun x => EK ss N x.1 x.2.1 x.2.2) (fun x => [(6, .int .i64 x.1), (5, gval x.2.1 x.2.2.length)]) (fun x => gbR rwR 25 x.2.1 x.2.2 ++ (rwB x.2.2 ++ [(b0, Obj.cells #[.int .i64 N, .slice p ss.length cp] 24 (0, 0))])) (fun x => ss.length - x.1) (0, none, []) ⟨Nat.zero_le _, rfl, ⟨rfl, rfl⟩, (fun r hr => by cases hr), fun t ht => absurd ht (Nat.not_lt_zero _), fun t ht => absurd ht (Nat.not_lt_zero _)⟩ (by repeat (first | exact True.intro | refine And.intro rfl ?_)) (by repeat (first | exact List.Sublist.slnil | exact List.nil_sublist _ | exact List.Sublist.refl _ | refine List.Sublist.cons_cons _ ?_ | refine List.Sublist.cons _ ?_ | refine List.Sublist.trans ?_ (List.sublist_append_right _ _))) ?_
    intro x hx9
    refine TC.lit [(1, _), (2, _), (3, _), (5, _), (6, _)] (by repeat (first | exact True.intro | refine And.intro rfl ?_)) ?_
    refine TC.seq ?_
    refine TC.seq ?_
    refine TC.region ?_
    refine TL.pure (PV.move rfl) rfl (by decide) ?_
    refine TL.pure (PV.fieldAddr rfl Tb.fo_24_1) rfl (by decide) ?_
    refine TL.pure (PV.load rfl Tb.one_22 (by repeat (first | exact List.Mem.head _ | refine List.Mem.tail _ ?_ | refine List.mem_append_right _ ?_)) rfl) rfl (by decide) ?_
    refine TL.pure (PV.len rfl Tb.sl_22) rfl (by decide) ?_
    refine TL.pure (PV.lss rfl rfl) rfl (by decide) ?_
    refine TL.nil ?_
    refine TQ.thenC ?_
    first | refine TC.condD rfl (fun hlt => ?_) (fun hlt => ?_) | refine TC.cond rfl (fun hlt => ?_) (fun hlt => ?_)
    · skip
      refine TC.skip ?_
      refine TQ.thenC ?_
      refine TC.seq ?_
      refine TC.block ?_
      refine TC.seq ?_
      have htl := hV.tl (k := x.1) (by omega)
      have hxl := hx9.ln
      have hen : (effL (ss.getD x.1 default)).length = N := by have := eff_len (ss.getD x.1 default); omega
      have hd9 : effL (ss.getD x.1 default) = mk N (dd ss x.1) := mk_eq hen fun j hj => eff_all hV (by omega) j
      refine TC.region ?_
      refine TL.pure (PV.assign rfl) rfl (by decide) ?_
      refine TL.nil ?_
      refine TQ.thenC ?_
      refine TC.seq ?_
      refine TC.seq ?_
      refine TC.region ?_
      refine TL.pure (PV.assign rfl) rfl (by decide) ?_
      refine TL.nil ?_
      refine TQ.thenC ?_
      refine TC.block ?_
      refine TC.lit [(1, _), (2, _), (3, _), (5, _), (6, _), (7, _), (8, _)] (by repeat (first | exact True.intro | refine And.intro rfl ?_)) ?_
      refine TC.loopK [1, 2, 3, 5, 6] (X := Nat × HD) (fun y => y.1 ≤ N ∧ goI (y.2, mk y.1 (dd ss x.1))) (fun y => [(8, .int .i64 y.1), (7, gval y.2 y.1)]) (fun y => gbI (y.2, mk y.1 (dd ss x.1)) ++ (gbR rwR 25 x.2.1 x.2.2 ++ (rwB x.2.2 ++ [(b0, Obj.cells #[.int .i64 N, .slice p ss.length cp] 24 (0, 0))]))) (fun y => N - y.1) (0, none) ⟨Nat.zero_le _, goI_nil⟩ (by repeat (first | exact True.intro | refine And.intro rfl ?_)) (List.Sublist.refl _) ?_
      intro y hy9
      refine TC.lit [(1, _), (2, _), (3, _), (5, _), (6, _), (7, _), (8, _)] (by repeat (first | exact True.intro | refine And.intro rfl ?_)) ?_
      refine TC.seq ?_
      refine TC.seq ?_
      refine TC.region ?_
      refine TL.pure (PV.move rfl) rfl (by decide) ?_
      refine TL.pure (PV.fieldAddr rfl Tb.fo_24_0) rfl (by decide) ?_
      refine TL.pure (PV.load rfl Tb.one_3 (by repeat (first | exact List.Mem.head _ | refine List.Mem.tail _ ?_ | refine List.mem_append_right _ ?_)) rfl) rfl (by decide) ?_
      refine TL.pure (PV.lss rfl rfl) rfl (by decide) ?_
      refine TL.nil ?_
      refine TQ.thenC ?_
      first | refine TC.condD rfl (fun hlt2 => ?_) (fun hlt2 => ?_) | refine TC.cond rfl (fun hlt2 => ?_) (fun hlt2 => ?_)
      · skip
        refine TC.skip ?_
        refine TQ.thenC ?_
        refine TC.seq ?_
        refine TC.block ?_
        obtain ⟨q1, hq1p, pa, pb, ca, cb, hq10, hq11, hta, htb⟩ := hr x.1 (by omega)
        obtain ⟨q3, hq3p, hq3⟩ := hta y.1 (by omega)
        obtain ⟨q4, hq4p, hq4⟩ := htb y.1 (by omega)
        have hbt := hV.tb (k := x.1) (by omega) y.1
        refine TC.mixE [false, true, true, true, true, true, true, true, true, true, true, true, true, true, true, true, true, true, true, true, false, false, false] [(b0, Obj.cells #[.int .i64 N, .slice p ss.length cp] 24 (0, 0))] 4 Tb.mixed rfl (by kernel_rfl) (by kernel_rfl) (by kernel_rfl) (by kernel_rfl) (by repeat (first | exact List.Sublist.slnil | exact List.nil_sublist _ | exact List.Sublist.refl _ | refine List.Sublist.cons_cons _ ?_ | refine List.Sublist.cons _ ?_ | refine List.Sublist.trans ?_ (List.sublist_append_right _ _))) ?_
        refine TY.no ?_
        refine TY.op (SOK.pure (PV.fieldAddr rfl Tb.fo_24_1) rfl) (by decide) ?_
        refine TY.op (SOK.pure (PV.load rfl Tb.one_22 (by repeat (first | exact List.Mem.head _ | refine List.Mem.tail _ ?_ | refine List.mem_append_right _ ?_)) rfl) rfl) (by decide) ?_
        refine TY.op (SOK.pure (PV.move rfl) rfl) (by decide) ?_
        refine TY.op (SOK.pure (PV.indexA (j := x.1) rfl hq1p rfl Tb.elm_22 rfl (by omega)) rfl) (by decide) ?_
        refine TY.op (SOK.pure (PV.fieldAddrA rfl Tb.fo_63_1) rfl) (by decide) ?_
        refine TY.op (SOK.pure (PV.loadOld rfl Tb.one_25 hq11) rfl) (by decide) ?_
        refine TY.op (SOK.pure (PV.move rfl) rfl) (by decide) ?_
        refine TY.op (SOK.pure (PV.indexA rfl hq4p rfl Tb.elm_25 rfl (by omega)) rfl) (by decide) ?_
        refine TY.op (SOK.pure (PV.loadOld rfl Tb.one_3 hq4) rfl) (by decide) ?_
        refine TY.op (SOK.pure (PV.fieldAddr rfl Tb.fo_24_1) rfl) (by decide) ?_
        refine TY.op (SOK.pure (PV.load rfl Tb.one_22 (by repeat (first | exact List.Mem.head _ | refine List.Mem.tail _ ?_ | refine List.mem_append_right _ ?_)) rfl) rfl) (by decide) ?_
        refine TY.op (SOK.pure (PV.move rfl) rfl) (by decide) ?_
        refine TY.op (SOK.pure (PV.indexA (j := x.1) rfl hq1p rfl Tb.elm_22 rfl (by omega)) rfl) (by decide) ?_
        refine TY.op (SOK.pure (PV.fieldAddrA rfl Tb.fo_63_0) rfl) (by decide) ?_
        refine TY.op (SOK.pure (PV.loadOld rfl Tb.one_25 hq10) rfl) (by decide) ?_
        refine TY.op (SOK.pure (PV.move rfl) rfl) (by decide) ?_
        refine TY.op (SOK.pure (PV.indexA rfl hq3p rfl Tb.elm_25 rfl (by omega)) rfl) (by decide) ?_
        refine TY.op (SOK.pure (PV.loadOld rfl Tb.one_3 hq3) rfl) (by decide) ?_
        refine TY.op (SOK.pure (PV.sub rfl rfl (by omega)) rfl) (by decide) ?_
        refine TY.no ?_
        refine TY.no ?_
        refine TY.no ?_
        refine TY.fin ?_
        refine TX.step [0, 20] (by kernel_rfl) (by decide) ⟨⟨_, rfl, ?_⟩, ⟨_, rfl, ?_⟩, trivial⟩
        · skip
          refine TL.pure (PV.move rfl) rfl (by decide) ?_
          refine TL.nil ?_
          refine TX.next (.inl (by repeat (first | exact List.Sublist.slnil | exact List.nil_sublist _ | exact List.Sublist.refl _ | refine List.Sublist.cons_cons _ ?_ | refine List.Sublist.cons _ ?_ | refine List.Sublist.trans ?_ (List.sublist_append_right _ _)))) ?_
          refine TX.step [20] (by kernel_rfl) (by decide) ⟨⟨_, rfl, ?_⟩, trivial⟩
          refine TL.buildSlice (cs := #[.int .i64 (dd ss x.1 y.1)]) rfl Tb.sl_25 Tb.zi_3 (by decide) (fill_i _) (by decide) rfl (by decide) (fun bE hbE => ?_)
          refine TL.nil ?_
          refine TX.next (.inl (by repeat (first | exact List.Sublist.slnil | exact List.nil_sublist _ | exact List.Sublist.refl _ | refine List.Sublist.cons_cons _ ?_ | refine List.Sublist.cons _ ?_ | refine List.Sublist.trans ?_ (List.sublist_append_right _ _)))) ?_
          refine TX.step [21] (by kernel_rfl) (by decide) ⟨⟨_, rfl, ?_⟩, trivial⟩
          refine TL.appendI (x0 := (y.2, mk y.1 (dd ss x.1))) (by show some (gval y.2 y.1) = some (gval y.2 (mk y.1 _).length); rw [mk_len]) rfl (by repeat (first | exact List.Mem.head _ | refine List.Mem.tail _ ?_ | refine List.mem_append_right _ ?_)) hy9.2 (by repeat (first | exact TakeH.here _ _ _ _ | apply TakeH.tail | apply TakeH.app)) (by show (mk y.1 _).length ≤ 1000000; rw [mk_len]; omega) rfl (by decide) (fun hh hho => ?_)
          refine TL.nil ?_
          refine TX.next (.inl (by repeat (first | exact List.Sublist.slnil | exact List.nil_sublist _ | exact List.Sublist.refl _ | refine List.Sublist.cons_cons _ ?_ | refine List.Sublist.cons _ ?_ | refine List.Sublist.trans ?_ (List.sublist_append_right _ _)))) ?_
          refine TX.step [22] (by kernel_rfl) (by decide) ⟨⟨_, rfl, ?_⟩, trivial⟩
          refine TL.pure (PV.assign rfl) rfl (by decide) ?_
          refine TL.nil ?_
          refine TX.next (.inr (by kernel_rfl)) ?_
          refine TX.done (by kernel_rfl) ?_
          refine TQ.blkN ?_
          refine TQ.thenC ?_
          refine TC.region ?_
          refine TL.pure (PV.move rfl) rfl (by decide) ?_
          refine TL.pure (PV.add rfl rfl (by omega)) rfl (by decide) ?_
          refine TL.pure (PV.assign rfl) rfl (by decide) ?_
          refine TL.nil ?_
          refine TQ.thenN ?_
          refine TQ.backK (y.1 + 1, hh) (And.intro rfl (And.intro (by show some (gval hh (mk y.1 _ ++ [_]).length) = some (gval hh (y.1 + 1)); rw [List.length_append, mk_len]; rfl) True.intro)) (by repeat (first | exact True.intro | refine And.intro rfl ?_)) (by simp only [mk_succ]; exact List.Sublist.append_left (List.sublist_cons_self _ _) _) ⟨by simp only; omega, by simp only; rw [mk_succ]; exact hho⟩ (by simp only; omega)
        · skip
          refine TL.buildSlice (cs := #[.int .i64 (dd ss x.1 y.1)]) rfl Tb.sl_25 Tb.zi_3 (by decide) (fill_i _) (by decide) rfl (by decide) (fun bE hbE => ?_)
          refine TL.nil ?_
          refine TX.next (.inl (by repeat (first | exact List.Sublist.slnil | exact List.nil_sublist _ | exact List.Sublist.refl _ | refine List.Sublist.cons_cons _ ?_ | refine List.Sublist.cons _ ?_ | refine List.Sublist.trans ?_ (List.sublist_append_right _ _)))) ?_
          refine TX.step [0] (by kernel_rfl) (by decide) ⟨⟨_, rfl, ?_⟩, trivial⟩
          refine TL.pure (PV.move rfl) rfl (by decide) ?_
          refine TL.nil ?_
          refine TX.next (.inl (by repeat (first | exact List.Sublist.slnil | exact List.nil_sublist _ | exact List.Sublist.refl _ | refine List.Sublist.cons_cons _ ?_ | refine List.Sublist.cons _ ?_ | refine List.Sublist.trans ?_ (List.sublist_append_right _ _)))) ?_
          refine TX.step [21] (by kernel_rfl) (by decide) ⟨⟨_, rfl, ?_⟩, trivial⟩
          refine TL.appendI (x0 := (y.2, mk y.1 (dd ss x.1))) (by show some (gval y.2 y.1) = some (gval y.2 (mk y.1 _).length); rw [mk_len]) rfl (by repeat (first | exact List.Mem.head _ | refine List.Mem.tail _ ?_ | refine List.mem_append_right _ ?_)) hy9.2 (by repeat (first | exact TakeH.here _ _ _ _ | apply TakeH.tail | apply TakeH.app)) (by show (mk y.1 _).length ≤ 1000000; rw [mk_len]; omega) rfl (by decide) (fun hh hho => ?_)
          refine TL.nil ?_
          refine TX.next (.inl (by repeat (first | exact List.Sublist.slnil | exact List.nil_sublist _ | exact List.Sublist.refl _ | refine List.Sublist.cons_cons _ ?_ | refine List.Sublist.cons _ ?_ | refine List.Sublist.trans ?_ (List.sublist_append_right _ _)))) ?_
          refine TX.step [22] (by kernel_rfl) (by decide) ⟨⟨_, rfl, ?_⟩, trivial⟩
          refine TL.pure (PV.assign rfl) rfl (by decide) ?_
          refine TL.nil ?_
          refine TX.next (.inr (by kernel_rfl)) ?_
          refine TX.done (by kernel_rfl) ?_
          refine TQ.blkN ?_
          refine TQ.thenC ?_
          refine TC.region ?_
          refine TL.pure (PV.move rfl) rfl (by decide) ?_
          refine TL.pure (PV.add rfl rfl (by omega)) rfl (by decide) ?_
          refine TL.pure (PV.assign rfl) rfl (by decide) ?_
          refine TL.nil ?_
          refine TQ.thenN ?_
          refine TQ.backK (y.1 + 1, hh) (And.intro rfl (And.intro (by show some (gval hh (mk y.1 _ ++ [_]).length) = some (gval hh (y.1 + 1)); rw [List.length_append, mk_len]; rfl) True.intro)) (by repeat (first | exact True.intro | refine And.intro rfl ?_)) (by simp only [mk_succ]; exact List.Sublist.append_left (List.sublist_cons_self _ _) _) ⟨by simp only; omega, by simp only; rw [mk_succ]; exact hho⟩ (by simp only; omega)
      · skip
        refine TC.exit ?_
        refine TQ.thenE ?_
        refine TQ.thenE ?_
        refine TQ.blkS ?_
        refine TQ.thenC ?_
        have hye : y.1 = N := by omega
        rw [hye, ← hd9]
        have hy2 := hy9.2
        rw [hye, ← hd9] at hy2
        refine TC.region ?_
        refine TL.pure (PV.move rfl) rfl (by decide) ?_
        refine TL.pure (PV.move rfl) rfl (by decide) ?_
        refine TL.buildSlice (cs := #[gval y.2 N]) rfl Tb.sl_97 Tb.zi_25 (by decide) (by rw [← hen, gval_eq hy2]; exact fill_o _ _ _) (by decide) rfl (by decide) (fun bE hbE => ?_)
        refine TL.appendRec (R := rwR) (h0 := x.2.1) (ys := x.2.2) (b := bE) (r := (⟨y.2, effL (ss.getD x.1 default)⟩ : RW)) Tb.sl_97 Tb.zi_25 rfl rfl rfl (by show (bE, Obj.cells #[gval y.2 (effL (ss.getD x.1 default)).length] 25 (0, 0)) ∈ _; rw [hen]; exact (by repeat (first | exact List.Mem.head _ | refine List.Mem.tail _ ?_ | refine List.mem_append_right _ ?_))) hx9.go (by repeat (first | exact TakeH.here _ _ _ _ | apply TakeH.tail | apply TakeH.app)) (by omega) (by omega) rfl (by decide) (fun hh hho => ?_)
        refine TL.perm (G' := (gbR rwR 25 hh (x.2.2 ++ [(⟨y.2, effL (ss.getD x.1 default)⟩ : RW)]) ++ (rwB (x.2.2 ++ [(⟨y.2, effL (ss.getD x.1 default)⟩ : RW)]) ++ [(b0, Obj.cells #[.int .i64 N, .slice p ss.length cp] 24 (0, 0))])) ++ [(bE, Obj.cells #[gval y.2 N] 25 (0, 0))]) (perm_of fun c9 => by simp only [List.map_append, List.sum_append, List.map_cons, List.sum_cons, List.map_nil, List.sum_nil, rwB_snoc]; omega) ?_
        refine TL.pure (PV.assign rfl) rfl (by decide) ?_
        refine TL.nil ?_
        refine TQ.blkN ?_
        refine TQ.thenC ?_
        refine TC.region ?_
        refine TL.pure (PV.move rfl) rfl (by decide) ?_
        refine TL.pure (PV.add rfl rfl (by omega)) rfl (by decide) ?_
        refine TL.pure (PV.assign rfl) rfl (by decide) ?_
        refine TL.nil ?_
        refine TQ.thenN ?_
        refine TQ.backK (x.1 + 1, hh, (x.2.2 ++ [(⟨y.2, effL (ss.getD x.1 default)⟩ : RW)])) (by repeat (first | exact True.intro | refine And.intro rfl ?_)) (by repeat (first | exact True.intro | refine And.intro rfl ?_)) (List.sublist_append_left _ _) (hx9.step (by omega) hho hy2 hen) (by simp only; omega)
    · skip
      refine TC.exit ?_
      refine TQ.thenE ?_
      refine TQ.thenE ?_
      refine TQ.blkS ?_
      refine TQ.thenC ?_
      refine TC.seq ?_
      refine TC.seq ?_
      have hxe : x.1 = ss.length := by have := hx9.le; omega
      have hl9 := hx9.ln
      rw [hxe] at hx9
      have hmat := mat_dd hV hx9
      refine TC.region ?_
      refine TL.pure (PV.move rfl) rfl (by decide) ?_
      refine TL.pure (PV.lenG (h := x.2.1) (len := x.2.2.length) (ys := rcs rwR x.2.2) rfl hx9.go Tb.sl_97) rfl (by decide) ?_
      refine TL.pure (PV.fieldAddr rfl Tb.fo_24_0) rfl (by decide) ?_
      refine TL.pure (PV.load rfl Tb.one_3 (by repeat (first | exact List.Mem.head _ | refine List.Mem.tail _ ?_ | refine List.mem_append_right _ ?_)) rfl) rfl (by decide) ?_
      refine TL.pure (PV.min rfl rfl Tb.int_3) rfl (by decide) ?_
      refine TL.pure (PV.assign rfl) rfl (by decide) ?_
      refine TL.nil ?_
      refine TQ.thenC ?_
      refine TC.block ?_
      -- live and written in the loop, not told: [2, 3]
      refine TC.lit [(1, _), (5, _), (9, _)] (by repeat (first | exact True.intro | refine And.intro rfl ?_)) ?_
      obtain ⟨m0, hm0⟩ : ∃ m0 : Nat, min (x.2.2.length : Int) (N : Int) = m0 := ⟨min x.2.2.length N, by omega⟩
      rw [hm0]
      have hmS : m0 ≤ ss.length ∧ m0 ≤ N ∧ (m0 = ss.length ∨ m0 = N) := by omega
      refine TC.loopK [1, 5] (X := Nat) (fun d => d ≤ m0 ∧ ∀ k', m0 - d < k' → k' ≤ m0 → ∀ I J : List Nat, nI I ∈ setsK ss.length k' (2 ^ ss.length) → nI J ∈ setsK N k' (2 ^ N) → dt k' (sub (dd ss) I J) = 0) (fun d => [(9, .int .i64 ((m0 : Int) - (d : Int)))]) (fun d => gbR rwR 25 x.2.1 x.2.2 ++ (rwB x.2.2 ++ [(b0, Obj.cells #[.int .i64 N, .slice p ss.length cp] 24 (0, 0))])) (fun d => m0 - d) 0 ⟨Nat.zero_le _, fun k' h1 h2 => by omega⟩ (by refine And.intro ?_ True.intro; show some (Value.int .i64 _) = some (Value.int .i64 _); congr 2; try simp) (List.Sublist.refl _) ?_
      intro d hd8
      refine TC.lit [(1, _), (5, _), (9, _)] (by repeat (first | exact True.intro | refine And.intro rfl ?_)) ?_
      refine TC.seq ?_
      refine TC.seq ?_
      refine TC.region ?_
      refine TL.pure (PV.move rfl) rfl (by decide) ?_
      refine TL.pure (PV.gtr rfl rfl) rfl (by decide) ?_
      refine TL.nil ?_
      refine TQ.thenC ?_
      first | refine TC.condD rfl (fun hgt => ?_) (fun hgt => ?_) | refine TC.cond rfl (fun hgt => ?_) (fun hgt => ?_)
      · skip
        refine TC.skip ?_
        refine TQ.thenC ?_
        refine TC.seq ?_
        refine TC.block ?_
        refine TC.seq ?_
        obtain ⟨k, hk9⟩ : ∃ k : Nat, (m0 : Int) - (d : Int) = k := ⟨m0 - d, by omega⟩
        rw [hk9]
        refine TC.mixV [true, true, true, false, true, true, true, false, true, true] (gbR rwR 25 x.2.1 x.2.2 ++ (rwB x.2.2 ++ [(b0, Obj.cells #[.int .i64 N, .slice p ss.length cp] 24 (0, 0))])) 10 Tb.mixed rfl (by kernel_rfl) (by kernel_rfl) (by kernel_rfl) (by kernel_rfl) (by repeat (first | exact List.Sublist.slnil | exact List.nil_sublist _ | exact List.Sublist.refl _ | refine List.Sublist.cons_cons _ ?_ | refine List.Sublist.cons _ ?_ | refine List.Sublist.trans ?_ (List.sublist_append_right _ _))) ?_
        refine TV.virt 0 rfl rfl (by decide) rfl (by kernel_rfl) (SOK.pure (PV.move rfl) rfl) ?_
        refine TV.virt 1 rfl rfl (by decide) rfl (by kernel_rfl) (SOK.pure (PV.lenG (h := x.2.1) (len := ss.length) (ys := rcs rwR x.2.2) (by rw [← hx9.ln]; rfl) (by have h5 := hx9.go; unfold goR at h5; rw [hx9.ln] at h5; exact h5) Tb.sl_97) rfl) ?_
        refine TV.virt 2 rfl rfl (by decide) rfl (by kernel_rfl) (SOK.pure (PV.move rfl) rfl) ?_
        refine TV.virt 4 rfl rfl (by decide) rfl (by kernel_rfl) (SOK.pure (PV.fieldAddr rfl Tb.fo_24_0) rfl) ?_
        refine TV.virt 5 rfl rfl (by decide) rfl (by kernel_rfl) (SOK.pure (PV.load rfl Tb.one_3 (by repeat (first | exact List.Mem.head _ | refine List.Mem.tail _ ?_ | refine List.mem_append_right _ ?_)) rfl) rfl) ?_
        refine TV.virt 6 rfl rfl (by decide) rfl (by kernel_rfl) (SOK.pure (PV.move rfl) rfl) ?_
        refine TV.step [3] (by kernel_rfl) (by decide) rfl ⟨⟨_, rfl, ?_⟩, trivial⟩
        refine TL.call rfl Tb.gofn_95 (fun a w hs => sets_ok w ss.length k hsl) rfl (by decide) (fun yI hyI => ?_)
        refine TL.nil ?_
        refine TV.next (.inl (by repeat (first | exact List.Sublist.slnil | exact List.nil_sublist _ | exact List.Sublist.refl _ | refine List.Sublist.cons_cons _ ?_ | refine List.Sublist.cons _ ?_ | refine List.Sublist.trans ?_ (List.sublist_append_right _ _)))) ?_
        refine TV.step [7] (by kernel_rfl) (by decide) rfl ⟨⟨_, rfl, ?_⟩, trivial⟩
        refine TL.call rfl Tb.gofn_95 (fun a w hs => sets_ok w N k (by omega)) rfl (by decide) (fun yJ hyJ => ?_)
        refine TL.nil ?_
        refine TV.next (.inl (by repeat (first | exact List.Sublist.slnil | exact List.nil_sublist _ | exact List.Sublist.refl _ | refine List.Sublist.cons_cons _ ?_ | refine List.Sublist.cons _ ?_ | refine List.Sublist.trans ?_ (List.sublist_append_right _ _)))) ?_
        refine TV.virt 8 rfl rfl (by decide) rfl (by kernel_rfl) (SOK.pure (PV.assign rfl) rfl) ?_
        refine TV.virt 9 rfl rfl (by decide) rfl (by kernel_rfl) (SOK.pure (PV.assign rfl) rfl) ?_
        refine TV.done (by kernel_rfl) ?_
        refine TQ.thenC ?_
        refine TC.seq ?_
        have hyIl := hyI.len
        have hyJl := hyJ.len
        have h641 := two_le hsl
        have h642 := two_le (show N ≤ 6 by omega)
        refine TC.region ?_
        refine TL.pure (PV.assign rfl) rfl (by decide) ?_
        refine TL.nil ?_
        refine TQ.thenC ?_
        refine TC.block ?_
        -- live and written in the loop, not told: [2, 3]
        refine TC.lit [(1, _), (5, _), (9, _), (10, _), (11, _), (12, _)] (by repeat (first | exact True.intro | refine And.intro rfl ?_)) ?_
        refine TC.loopG [1, 5, 9, 10, 11] (X := Nat) (fun a => a ≤ yI.2.length ∧ ∀ u, u < a → ∀ v, v < yJ.2.length → ∀ I J : List Nat, (yI.2.getD u default).l = nI I → (yJ.2.getD v default).l = nI J → dt k (sub (dd ss) I J) = 0) (fun a => [(12, .int .i64 a)]) (fun a => yI.2.length - a) 0 ⟨Nat.zero_le _, fun u hu => absurd hu (Nat.not_lt_zero _)⟩ (by repeat (first | exact True.intro | refine And.intro rfl ?_)) ?_
        intro a ha9
        refine TC.lit [(1, _), (5, _), (9, _), (10, _), (11, _), (12, _)] (by repeat (first | exact True.intro | refine And.intro rfl ?_)) ?_
        refine TC.seq ?_
        refine TC.seq ?_
        refine TC.region ?_
        refine TL.pure (PV.move rfl) rfl (by decide) ?_
        refine TL.pure (PV.move rfl) rfl (by decide) ?_
        refine TL.pure (PV.lenG (h := yI.1) (len := yI.2.length) (ys := rcs rwR yI.2) rfl hyI.go Tb.sl_97) rfl (by decide) ?_
        refine TL.pure (PV.lss rfl rfl) rfl (by decide) ?_
        refine TL.nil ?_
        refine TQ.thenC ?_
        first | refine TC.condD rfl (fun hla => ?_) (fun hla => ?_) | refine TC.cond rfl (fun hla => ?_) (fun hla => ?_)
        · skip
          refine TC.skip ?_
          refine TQ.thenC ?_
          refine TC.seq ?_
          refine TC.block ?_
          refine TC.seq ?_
          refine TC.region ?_
          refine TL.pure (PV.assign rfl) rfl (by decide) ?_
          refine TL.nil ?_
          refine TQ.thenC ?_
          refine TC.block ?_
          -- live and written in the loop, not told: [2, 3]
          refine TC.lit [(1, _), (5, _), (9, _), (10, _), (11, _), (12, _), (13, _)] (by repeat (first | exact True.intro | refine And.intro rfl ?_)) ?_
          refine TC.loopG [1, 5, 9, 10, 11, 12] (X := Nat) (fun b => b ≤ yJ.2.length ∧ ∀ v, v < b → ∀ I J : List Nat, (yI.2.getD a default).l = nI I → (yJ.2.getD v default).l = nI J → dt k (sub (dd ss) I J) = 0) (fun b => [(13, .int .i64 b)]) (fun b => yJ.2.length - b) 0 ⟨Nat.zero_le _, fun u hu => absurd hu (Nat.not_lt_zero _)⟩ (by repeat (first | exact True.intro | refine And.intro rfl ?_)) ?_
          intro b hb9
          refine TC.lit [(1, _), (5, _), (9, _), (10, _), (11, _), (12, _), (13, _)] (by repeat (first | exact True.intro | refine And.intro rfl ?_)) ?_
          refine TC.seq ?_
          refine TC.seq ?_
          refine TC.region ?_
          refine TL.pure (PV.move rfl) rfl (by decide) ?_
          refine TL.pure (PV.move rfl) rfl (by decide) ?_
          refine TL.pure (PV.lenG (h := yJ.1) (len := yJ.2.length) (ys := rcs rwR yJ.2) rfl hyJ.go Tb.sl_97) rfl (by decide) ?_
          refine TL.pure (PV.lss rfl rfl) rfl (by decide) ?_
          refine TL.nil ?_
          refine TQ.thenC ?_
          first | refine TC.condD rfl (fun hlb => ?_) (fun hlb => ?_) | refine TC.cond rfl (fun hlb => ?_) (fun hlb => ?_)
          · skip
            refine TC.skip ?_
            refine TQ.thenC ?_
            refine TC.seq ?_
            refine TC.block ?_
            refine TC.seq ?_
            obtain ⟨I, hIe, hIl, hIb⟩ := set_el hyI (a := a) (by omega)
            obtain ⟨J, hJe, hJl, hJb⟩ := set_el hyJ (a := b) (by omega)
            refine TC.any Tb.mixed rfl rfl ?_
            refine TA.op (OpOK.pure (PV.move rfl) rfl (by decide)) (by decide) ?_
            refine TA.op (OpOK.pure (PV.move rfl) rfl (by decide)) (by decide) ?_
            refine TA.op (OpOK.pure (PV.move rfl) rfl (by decide)) (by decide) ?_
            refine TA.op (OpOK.pure (PV.indexG (h := yI.1) (len := yI.2.length) (ys := rcs rwR yI.2) (j := a) rfl rfl hyI.go Tb.elm_97 rfl (by omega)) rfl (by decide)) (by decide) ?_
            refine TA.op (OpOK.pure (PV.loadRecF (R := rwR) (h := yI.1) (l := yI.2) (j := a) (f := 0) (v := gval (yI.2.getD a default).h (yI.2.getD a default).l.length) (e := 25) rfl Tb.one_25 (fun yy hyy => by repeat (first | exact List.mem_append_left _ hyy | exact List.mem_append_left _ (List.mem_append_right _ hyy) | exact List.mem_append_left _ (List.mem_append_left _ hyy) | refine List.mem_append_right _ ?_ | refine List.Mem.tail _ ?_)) hyI.go (by omega) Nat.one_pos rfl) rfl (by decide)) (by decide) ?_
            refine TA.op (OpOK.pure (PV.move rfl) rfl (by decide)) (by decide) ?_
            refine TA.op (OpOK.pure (PV.move rfl) rfl (by decide)) (by decide) ?_
            refine TA.op (OpOK.pure (PV.indexG (h := yJ.1) (len := yJ.2.length) (ys := rcs rwR yJ.2) (j := b) rfl rfl hyJ.go Tb.elm_97 rfl (by omega)) rfl (by decide)) (by decide) ?_
            refine TA.op (OpOK.pure (PV.loadRecF (R := rwR) (h := yJ.1) (l := yJ.2) (j := b) (f := 0) (v := gval (yJ.2.getD b default).h (yJ.2.getD b default).l.length) (e := 25) rfl Tb.one_25 (fun yy hyy => by repeat (first | exact List.mem_append_left _ hyy | exact List.mem_append_left _ (List.mem_append_right _ hyy) | exact List.mem_append_left _ (List.mem_append_left _ hyy) | refine List.mem_append_right _ ?_ | refine List.Mem.tail _ ?_)) hyJ.go (by omega) Nat.one_pos rfl) rfl (by decide)) (by decide) ?_
            refine TA.op (OpOK.call rfl Tb.gofn_96 (fun a w hs => (by have h9 := det_ok (gp x.2.1) (gc x.2.1) (x.2.2.map RW.l) (by rw [hmat]; exact dd_all hV) N (fun i hi => by rw [List.length_map] at hi; have h5 := hx9.nl i (by omega); simpa [List.getD, hi] using h5) k (by omega) w (LsAt.rw hs.new (fun yy hyy => by repeat (first | exact List.mem_append_left _ hyy | exact List.mem_append_left _ (List.mem_append_right _ hyy) | exact List.mem_append_left _ (List.mem_append_left _ hyy) | refine List.mem_append_right _ ?_ | refine List.Mem.tail _ ?_)) (fun yy hyy => by repeat (first | exact List.mem_append_left _ hyy | exact List.mem_append_left _ (List.mem_append_right _ hyy) | exact List.mem_append_left _ (List.mem_append_left _ hyy) | refine List.mem_append_right _ ?_ | refine List.Mem.tail _ ?_)) hx9.go hx9.ok) _ _ I J (IsC.row hs.new (fun yy hyy => by repeat (first | exact List.mem_append_left _ hyy | exact List.mem_append_left _ (List.mem_append_right _ hyy) | exact List.mem_append_left _ (List.mem_append_left _ hyy) | refine List.mem_append_right _ ?_ | refine List.Mem.tail _ ?_)) hyI.ok (by omega) hIe) (IsC.row hs.new (fun yy hyy => by repeat (first | exact List.mem_append_left _ hyy | exact List.mem_append_left _ (List.mem_append_right _ hyy) | exact List.mem_append_left _ (List.mem_append_left _ hyy) | refine List.mem_append_right _ ?_ | refine List.Mem.tail _ ?_)) hyJ.ok (by omega) hJe) hIl hJl (fun q hq => by rw [List.length_map]; have := hIb q hq; omega) hJb; rw [List.length_map, hmat] at h9; rw [gval_eq hx9.go]; exact h9)) rfl (by decide)) (by decide) ?_
            refine TA.op (OpOK.pure (PV.neq rfl rfl) rfl (by decide)) (by decide) ?_
            show TQ _ _ _ _ _
            refine TQ.thenC ?_
            first | refine TC.condD rfl (fun hne => ?_) (fun hne => ?_) | refine TC.cond rfl (fun hne => ?_) (fun hne => ?_)
            · skip
              refine TC.seq ?_
              refine TC.region ?_
              refine TL.pure (PV.fieldAddr rfl Tb.fo_24_0) rfl (by decide) ?_
              refine TL.pure (PV.load rfl Tb.one_3 (by repeat (first | exact List.Mem.head _ | refine List.Mem.tail _ ?_ | refine List.mem_append_right _ ?_)) rfl) rfl (by decide) ?_
              refine TL.pure (PV.move rfl) rfl (by decide) ?_
              refine TL.pure (PV.sub rfl rfl (by omega)) rfl (by decide) ?_
              refine TL.pure (PV.assign rfl) rfl (by decide) ?_
              refine TL.pure (PV.assign rfl) rfl (by decide) ?_
              refine TL.nil ?_
              refine TQ.thenC ?_
              refine TC.ret ?_
              refine TQ.blkR ?_
              refine TQ.thenR ?_
              refine TQ.thenR ?_
              refine TQ.blkR ?_
              refine TQ.blkR ?_
              refine TQ.thenR ?_
              refine TQ.thenR ?_
              refine TQ.blkR ?_
              refine TQ.blkR ?_
              refine TQ.thenR ?_
              refine TQ.thenR ?_
              refine TQ.blkR ?_
              refine TQ.thenR ?_
              refine TQ.retE2 rfl rfl rfl ?_
              exact ⟨k, by unfold spc; rw [if_neg a1, Decidable.of_not_not a1], fun _ => ⟨.inr ⟨I, J, hIl, hJl, hIb, by rw [Int.toNat_natCast]; exact hJb, hne⟩, fun k' h1 h2 h3 => by rw [Int.toNat_natCast] at h3 ⊢; exact hd8.2 k' (by omega) (by omega)⟩, List.nil_sublist _⟩
            · skip
              have hz9 : dt k (sub (dd ss) I J) = 0 := by simpa using hne
              refine TC.skip ?_
              refine TQ.blkN ?_
              refine TQ.thenC ?_
              refine TC.region ?_
              refine TL.pure (PV.move rfl) rfl (by decide) ?_
              refine TL.pure (PV.add rfl rfl (by omega)) rfl (by decide) ?_
              refine TL.pure (PV.assign rfl) rfl (by decide) ?_
              refine TL.nil ?_
              refine TQ.thenN ?_
              refine TQ.backK (b + 1) (by repeat (first | exact True.intro | refine And.intro rfl ?_)) (by repeat (first | exact True.intro | refine And.intro rfl ?_)) (by repeat (first | exact List.Sublist.slnil | exact List.nil_sublist _ | exact List.Sublist.refl _ | refine List.Sublist.cons_cons _ ?_ | refine List.Sublist.cons _ ?_ | refine List.Sublist.trans ?_ (List.sublist_append_right _ _))) ⟨by omega, fun v hv I' J' h1 h2 => by
                    by_cases e : v = b
                    · subst e
                      obtain rfl := nI_inj (hIe.symm.trans h1)
                      obtain rfl := nI_inj (hJe.symm.trans h2)
                      exact hz9
                    · exact hb9.2 v (by omega) I' J' h1 h2⟩ (by omega)
          · skip
            refine TC.exit ?_
            refine TQ.thenE ?_
            refine TQ.thenE ?_
            refine TQ.blkS ?_
            refine TQ.blkN ?_
            refine TQ.thenC ?_
            have hbe : b = yJ.2.length := by omega
            refine TC.region ?_
            refine TL.pure (PV.move rfl) rfl (by decide) ?_
            refine TL.pure (PV.add rfl rfl (by omega)) rfl (by decide) ?_
            refine TL.pure (PV.assign rfl) rfl (by decide) ?_
            refine TL.nil ?_
            refine TQ.thenN ?_
            refine TQ.backK (a + 1) (by repeat (first | exact True.intro | refine And.intro rfl ?_)) (by repeat (first | exact True.intro | refine And.intro rfl ?_)) (by repeat (first | exact List.Sublist.slnil | exact List.nil_sublist _ | exact List.Sublist.refl _ | refine List.Sublist.cons_cons _ ?_ | refine List.Sublist.cons _ ?_ | refine List.Sublist.trans ?_ (List.sublist_append_right _ _))) ⟨by omega, fun u hu v hv I J h1 h2 => by
                  by_cases e : u = a
                  · subst e; exact hb9.2 v (by omega) I J h1 h2
                  · exact ha9.2 u (by omega) v hv I J h1 h2⟩ (by omega)
        · skip
          refine TC.exit ?_
          refine TQ.thenE ?_
          refine TQ.thenE ?_
          refine TQ.blkS ?_
          refine TQ.blkN ?_
          refine TQ.thenC ?_
          have hae : a = yI.2.length := by omega
          refine TC.region ?_
          refine TL.pure (PV.move rfl) rfl (by decide) ?_
          refine TL.pure (PV.sub rfl rfl (by omega)) rfl (by decide) ?_
          refine TL.pure (PV.assign rfl) rfl (by decide) ?_
          refine TL.nil ?_
          refine TQ.thenN ?_
          refine TQ.backK (d + 1) (by refine And.intro ?_ True.intro; show some (Value.int .i64 _) = some (Value.int .i64 _); congr 2; try omega) (by repeat (first | exact True.intro | refine And.intro rfl ?_)) (by repeat (first | exact List.Sublist.refl _ | refine List.Sublist.trans ?_ (List.sublist_append_right _ _))) ⟨by omega, fun k' h1 h2 I J h3 h4 => by
                by_cases e : k' = k
                · subst e
                  rw [← hyI.eq] at h3
                  rw [← hyJ.eq] at h4
                  obtain ⟨u, hu, hue⟩ := mem_ix h3
                  obtain ⟨v, hv, hve⟩ := mem_ix h4
                  exact ha9.2 u (by omega) v hv I J hue hve
                · exact hd8.2 k' (by omega) h2 I J h3 h4⟩ (by omega)
      · skip
        refine TC.exit ?_
        refine TQ.thenE ?_
        refine TQ.thenE ?_
        refine TQ.blkS ?_
        refine TQ.thenC ?_
        refine TC.seq ?_
        have hde : d = m0 := by omega
        refine TC.region ?_
        refine TL.pure (PV.fieldAddr rfl Tb.fo_24_0) rfl (by decide) ?_
        refine TL.pure (PV.load rfl Tb.one_3 (by repeat (first | exact List.Mem.head _ | refine List.Mem.tail _ ?_ | refine List.mem_append_right _ ?_)) rfl) rfl (by decide) ?_
        refine TL.pure (PV.assign rfl) rfl (by decide) ?_
        refine TL.pure (PV.assign rfl) rfl (by decide) ?_
        refine TL.nil ?_
        refine TQ.thenC ?_
        refine TC.ret ?_
        refine TQ.retE2 rfl rfl rfl ?_
        exact ⟨0, by unfold spc; rw [if_neg a1, Decidable.of_not_not a1]; simp, fun _ => ⟨.inl rfl, fun k' h1 h2 h3 => by rw [Int.toNat_natCast] at h3 ⊢; exact hd8.2 k' (by omega) (by omega)⟩, List.nil_sublist _⟩

end Go.Proofs.Ytkkipbkkijoneaa
