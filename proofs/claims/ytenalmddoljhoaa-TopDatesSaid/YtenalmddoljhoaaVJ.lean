/- A core whose dates are shifted: contracts. -/
import Derived.Test.YtenalmddoljhoaaVI
set_option linter.unusedVariables false
set_option linter.unusedSimpArgs false
namespace Go.Proofs.Ytenalmddoljhoaa
open Go.Sx Go.RowKit

def shB (ds : List Int) (r : Bd) : Bd := ⟨r.a, r.b, r.m + (ds.getD r.b.toNat 0 - ds.getD r.a.toNat 0)⟩
def shI (n : Int) (rs : List Bd) (ds : List Int) : Int := if vdI n rs ds ≠ 0 then vdI n rs ds else validateI n (rs.map (shB ds))
theorem sh_put {rs : List Bd} {ds : List Int} {k : Nat} (hk : k < rs.length) :
    (pm (shB ds) rs k).set k (setF ((pm (shB ds) rs k).getD k default) 2 ((rs.getD k default).m + (ds.getD (rs.getD k default).b.toNat 0 - ds.getD (rs.getD k default).a.toNat 0))) = pm (shB ds) rs (k + 1) := by
  rw [pm_get (shB ds) k hk, if_neg (by omega), ← pm_set (shB ds) hk]
  rfl
theorem sh_get {rs : List Bd} {ds : List Int} {k : Nat} (hk : k < rs.length) : (pm (shB ds) rs k).getD k default = rs.getD k default := by
  rw [pm_get (shB ds) k hk, if_neg (by omega)]
theorem validS (w : World) (n : Int) (h : HD) (K : Nat) (rs : List Bd) (hK : rs.length = K) (ho : goB h rs) (hr : BdsAt w (gp h) rs) :
    Calls Try.prog 21 #[.agg #[.int .i64 n, gval h K]] w (Post (X := Unit) (fun _ => .int .i64 (validateI n rs)) (fun _ => True) (fun _ => []) w) := by
  have hc := validate_ok w n (gp h) (gc h) rs hr
  rw [gvB_eq ho hK]; subst hK
  exact hc
theorem rvalidS (w : World) (n : Int) (h : HD) (K : Nat) (rs : List Bd) (hK : rs.length = K) (ho : goB h rs) (hr : BdsAt w (gp h) rs) :
    Calls Try.prog 22 #[.agg #[.int .i64 n, gval h K]] w (Post (X := Unit) (fun _ => .int .i64 (validateI n rs)) (fun _ => True) (fun _ => []) w) := by
  have hc := rvalidate_ok w n (gp h) (gc h) rs hr
  rw [gvB_eq ho hK]; subst hK
  exact hc
theorem possS (w : World) (n : Int) (h : HD) (K : Nat) (rs : List Bd) (hK : rs.length = K) (ho : goB h rs) (hr : BdsAt w (gp h) rs) :
    Calls Try.prog 19 #[.agg #[.int .i64 n, gval h K]] w (Post (X := Unit) (fun _ => .tuple #[.bool (dOk n rs), .int .i64 (validateI n rs)]) (fun _ => True) (fun _ => []) w) := by
  have hc := isPossible_ok w n (gp h) (gc h) rs hr
  rw [gvB_eq ho hK]; subst hK
  exact hc
theorem sh_1 {n : Int} {rs : List Bd} {ds : List Int} (h : vdI n rs ds ≠ 0) : shI n rs ds = vdI n rs ds := if_pos h
theorem sh_2 {n : Int} {rs : List Bd} {ds : List Int} (h : ¬ vdI n rs ds ≠ 0) : shI n rs ds = validateI n (rs.map (shB ds)) := if_neg h
theorem sh_one {n : Int} {rs : List Bd} {ds : List Int} (hv : Valid n rs) (h : validateI n (rs.map (shB ds)) ≠ 0) : validateI n (rs.map (shB ds)) = 1 := by
  have h1 := hv.pts
  have h2 := hv.len
  unfold validateI at h ⊢
  rw [if_neg (by omega), if_neg (by rw [List.length_map]; omega)] at h ⊢
  split at h
  · exact absurd rfl h
  · rename_i h3
    rw [if_neg h3]


set_option maxRecDepth 100000 in
set_option maxHeartbeats 2000000 in
theorem shift_ok (w0 : World) (n : Int) (p : Option Addr) (cap : Nat) (rs : List Bd) (hr : BdsAt w0 p rs) (hl : rs.length ≤ 1000) (pd : Option Addr) (cd : Nat) (ds : List Int) (hx : IntsAt w0 pd ds) (hlen : ds.length ≤ 1000) :
    Calls Try.prog 56 #[cv n p rs.length cap, .slice pd ds.length cd] w0 (Post (X := Int × HD × List Bd) (fun x => .tuple #[.agg #[.int .i64 x.1, gval x.2.1 x.2.2.length], .int .i64 (shI n rs ds)]) (CF (shI n rs ds) n (rs.map (shB ds))) (fun x => gbB 42 x.2.1 x.2.2) w0) := by
  refine calls Try.func56 rfl (n := 56) rfl (by simp) ?_
  refine TC.seq ?_
  refine TC.region ?_
  refine TL.box rfl rfl (by decide) (fun b0 hb0 => ?_)
  refine TL.alloc Tb.zero_24 rfl (by decide) (fun b1 hb1 => ?_)
  refine TL.pure (PV.assign rfl) rfl (by decide) ?_
  refine TL.nil ?_
  refine TQ.thenC ?_
  refine TC.seq ?_
  refine TC.seq ?_
  refine TC.region ?_
  refine TL.pure (PV.loadBox rfl Tb.agg_24 (by repeat (first | exact List.Mem.head _ | refine List.Mem.tail _ ?_ | refine List.mem_append_right _ ?_)) rfl) rfl (by decide) ?_
  refine TL.pure (PV.move rfl) rfl (by decide) ?_
  refine TL.call rfl Tb.gofn_63 (fun a w hs => vd_ok w _ _ _ _ (hr.new hs.new) _ _ _ ds rfl (hx.new hs.new) (by omega)) rfl (by decide) (fun _ _ => ?_)
  refine TL.pure (PV.assign rfl) rfl (by decide) ?_
  refine TL.nil ?_
  refine TQ.thenC ?_
  refine TC.seq ?_
  refine TC.region ?_
  refine TL.pure (PV.move rfl) rfl (by decide) ?_
  refine TL.pure (PV.neq rfl rfl) rfl (by decide) ?_
  refine TL.nil ?_
  refine TQ.thenC ?_
  first | refine TC.condD rfl (fun hne => ?_) (fun hne => ?_) | refine TC.cond rfl (fun hne => ?_) (fun hne => ?_)
  · skip
    refine TC.seq ?_
    refine TC.region ?_
    refine TL.pure (PV.build rfl Tb.zero_24 Tb.pl_24 rfl) rfl (by decide) ?_
    refine TL.pure (PV.move rfl) rfl (by decide) ?_
    refine TL.storeAgg rfl rfl Tb.cells_24 (by repeat (first | exact Upd.head _ | apply Upd.tail | apply Upd.appR)) rfl rfl (by first | rfl | exact sv_one _ _ _) rfl rfl ?_
    refine TL.pure (PV.assign rfl) rfl (by decide) ?_
    refine TL.nil ?_
    refine TQ.thenC ?_
    refine TC.ret ?_
    refine TQ.thenR ?_
    refine TQ.retR rfl (Res.agg rfl Tb.agg_24 (by repeat (first | exact List.Mem.head _ | refine List.Mem.tail _ ?_ | refine List.mem_append_right _ ?_)) rfl (Res.tmp rfl Res.nil)) ?_
    simp only [tup]
    exact ⟨(0, none, []), by rw [sh_1 hne]; rfl, CF.bad (by rw [sh_1 hne]; exact hne), List.nil_sublist _⟩
  · skip
    refine TC.skip ?_
    refine TQ.thenC ?_
    refine TC.seq ?_
    refine TC.region ?_
    refine TL.pure (PV.loadBox rfl Tb.agg_24 (by repeat (first | exact List.Mem.head _ | refine List.Mem.tail _ ?_ | refine List.mem_append_right _ ?_)) rfl) rfl (by decide) ?_
    refine TL.call rfl Tb.gofn_81 (fun a w hs => copied_ok w n p cap rs.length rs rfl (hr.new hs.new) (by omega)) rfl (by decide) (fun h1 hh1 => ?_)
    refine TL.alloc Tb.zero_24 rfl (by decide) (fun b2 hb2 => ?_)
    refine TL.storeAgg rfl rfl Tb.cells_24 (by repeat (first | exact Upd.head _ | apply Upd.tail | apply Upd.appR)) rfl rfl (by first | rfl | exact sv_one _ _ _) rfl rfl ?_
    refine TL.nil ?_
    refine TQ.thenC ?_
    refine TC.seq ?_
    refine TC.seq ?_
    obtain ⟨hv, hd9⟩ := vdI_is (Decidable.of_not_not hne)
    have hds := datesOk_spec hd9
    refine TC.region ?_
    refine TL.pure (PV.fieldAddr rfl Tb.fo_24_1) rfl (by decide) ?_
    refine TL.pure (PV.load rfl Tb.one_22 (by repeat (first | exact List.Mem.head _ | refine List.Mem.tail _ ?_ | refine List.mem_append_right _ ?_)) rfl) rfl (by decide) ?_
    refine TL.pure (PV.len rfl Tb.sl_22) rfl (by decide) ?_
    refine TL.pure (PV.move rfl) rfl (by decide) ?_
    refine TL.nil ?_
    refine TQ.thenC ?_
    refine TC.block ?_
    refine TC.loopK [1, 4, 5, 7, 21, 22] (X := Nat) (fun k => k ≤ rs.length) (fun k => [(23, .int .i64 k)]) (fun k => (b2, .cells #[.int .i64 n, gval h1 rs.length] 24 (0, 0)) :: (gbB 42 h1 (pm (shB ds) rs k) ++ [(b1, .cells #[.int .i64 0, .slice none 0 0] 24 (0, 0)), (b0, .cells #[.int .i64 n, .slice p rs.length cap] 24 (0, 0))])) (fun k => rs.length - k) 0 (Nat.zero_le _) (by repeat (first | exact True.intro | refine And.intro rfl ?_)) (by rw [pm_zero]; exact List.Sublist.refl _) ?_
    intro k hk
    refine TC.seq ?_
    refine TC.region ?_
    refine TL.pure (PV.lss rfl rfl) rfl (by decide) ?_
    refine TL.nil ?_
    refine TQ.thenC ?_
    refine TC.seq ?_
    first | refine TC.condD rfl (fun hlt => ?_) (fun hlt => ?_) | refine TC.cond rfl (fun hlt => ?_) (fun hlt => ?_)
    · skip
      refine TC.skip ?_
      refine TQ.thenC ?_
      refine TC.seq ?_
      refine TC.block ?_
      refine TC.seq ?_
      have hkl : k < rs.length := by omega
      have hat := hv.at hkl
      obtain ⟨q1, hq1p, hq1⟩ := hx (rs.getD k default).b.toNat (by omega)
      obtain ⟨q2, hq2p, hq2⟩ := hx (rs.getD k default).a.toNat (by omega)
      have z1 := hds.2 (rs.getD k default).b.toNat
      have z2 := hds.2 (rs.getD k default).a.toNat
      obtain ⟨q, hqp, hqa⟩ := hr k hkl
      refine TC.region ?_
      refine TL.pure (PV.move rfl) rfl (by decide) ?_
      refine TL.pure (PV.indexA rfl hqp rfl Tb.elm_22 rfl (by omega)) rfl (by decide) ?_
      refine TL.pure (PV.loadAggA rfl Tb.agg_42 rfl hqa) rfl (by decide) ?_
      refine TL.alloc Tb.zero_42 rfl (by decide) (fun b3 hb3 => ?_)
      refine TL.pure (PV.assign rfl) rfl (by decide) ?_
      refine TL.storeAgg rfl rfl Tb.cells_42 (by repeat (first | exact Upd.head _ | apply Upd.tail | apply Upd.appR)) rfl rfl rfl rfl rfl ?_
      refine TL.nil ?_
      refine TQ.thenC ?_
      refine TC.draw 20 Tb.mixed (by kernel_rfl) ?_
      simp only [List.take_succ_cons, List.take_zero, List.drop_succ_cons, List.drop_zero]
      refine TS.pure (PV.fieldAddr rfl Tb.fo_24_1) rfl (by decide) ?_
      refine TS.pure (PV.load rfl Tb.one_22 (by repeat (first | exact List.Mem.head _ | refine List.Mem.tail _ ?_ | refine List.mem_append_right _ ?_)) rfl) rfl (by decide) ?_
      refine TS.pure (PV.move rfl) rfl (by decide) ?_
      refine TS.pure (PV.indexG (j := k) rfl rfl hh1 Tb.elm_22 rfl (by omega)) rfl (by decide) ?_
      refine TS.pure (PV.fieldAddr rfl Tb.fo_42_2) rfl (by decide) ?_
      refine TS.pure (PV.loadF (h := h1) (l := pm (shB ds) rs k) (j := k) (f := 2) (e := 42) (v := .int .i64 (rs.getD k default).m) rfl Tb.one_3 (fun yy hyy => by repeat (first | exact List.mem_append_left _ hyy | refine List.mem_append_right _ ?_ | refine List.Mem.tail _ ?_)) (goB_len hh1 (pm_len _ _ _)) (by rw [pm_len]; omega) (by decide) (by rw [sh_get hkl]; rfl)) rfl (by decide) ?_
      refine TS.pure (PV.move rfl) rfl (by decide) ?_
      refine TS.pure (PV.fieldAddr rfl Tb.fo_42_1) rfl (by decide) ?_
      refine TS.pure (PV.load rfl Tb.one_3 (by repeat (first | exact List.Mem.head _ | refine List.Mem.tail _ ?_ | refine List.mem_append_right _ ?_)) rfl) rfl (by decide) ?_
      refine TS.pure (PV.indexA (j := (rs.getD k default).b.toNat) rfl hq1p rfl Tb.elm_25 (Int.toNat_of_nonneg (by omega)).symm (by omega)) rfl (by decide) ?_
      refine TS.pure (PV.loadOld rfl Tb.one_3 hq1) rfl (by decide) ?_
      refine TS.pure (PV.move rfl) rfl (by decide) ?_
      refine TS.pure (PV.fieldAddr rfl Tb.fo_42_0) rfl (by decide) ?_
      refine TS.pure (PV.load rfl Tb.one_3 (by repeat (first | exact List.Mem.head _ | refine List.Mem.tail _ ?_ | refine List.mem_append_right _ ?_)) rfl) rfl (by decide) ?_
      refine TS.pure (PV.indexA (j := (rs.getD k default).a.toNat) rfl hq2p rfl Tb.elm_25 (Int.toNat_of_nonneg (by omega)).symm (by omega)) rfl (by decide) ?_
      refine TS.pure (PV.loadOld rfl Tb.one_3 hq2) rfl (by decide) ?_
      refine TS.pure (PV.sub rfl rfl (by omega)) rfl (by decide) ?_
      refine TS.pure (PV.add rfl rfl (by omega)) rfl (by decide) ?_
      refine TS.pure (PV.indexG (j := k) rfl rfl hh1 Tb.elm_22 rfl (by omega)) rfl (by decide) ?_
      refine TS.pure (PV.fieldAddr rfl Tb.fo_42_2) rfl (by decide) ?_
      refine TS.nil ?_
      refine TL.putF (h := h1) (l0 := pm (shB ds) rs k) (j := k) (f := 2) (v := ((rs.getD k default).m + (ds.getD (rs.getD k default).b.toNat 0 - ds.getD (rs.getD k default).a.toNat 0))) rfl rfl Tb.cells_3 (goB_len hh1 (pm_len _ _ _)) (by repeat (first | exact PutH.here _ _ _ _ | apply PutH.tail | apply PutH.app)) (by rw [pm_len]; omega) (by decide) rfl rfl ?_
      rw [sh_put hkl]
      refine TL.nil ?_
      refine TQ.blkN ?_
      refine TQ.thenC ?_
      refine TC.region ?_
      refine TL.pure (PV.add rfl rfl (by omega)) rfl (by decide) ?_
      refine TL.pure (PV.move rfl) rfl (by decide) ?_
      refine TL.nil ?_
      refine TQ.thenN ?_
      refine TQ.backK (k + 1) (by repeat (first | exact True.intro | refine And.intro rfl ?_)) (by repeat (first | exact True.intro | refine And.intro rfl ?_)) (by repeat (first | exact List.Sublist.slnil | exact List.nil_sublist _ | exact List.Sublist.refl _ | exact List.sublist_append_left _ _ | refine List.Sublist.cons_cons _ ?_ | refine (List.append_sublist_append_left _).2 ?_ | refine List.Sublist.cons _ ?_ | refine List.Sublist.trans ?_ (List.sublist_append_right _ _))) (by omega) (by omega)
    · skip
      refine TC.exit ?_
      refine TQ.thenE ?_
      refine TQ.thenE ?_
      refine TQ.blkS ?_
      refine TQ.thenC ?_
      refine TC.seq ?_
      refine TC.seq ?_
      have hk9 : k = rs.length := by omega
      subst hk9
      rw [pm_all]
      have hgm : goB h1 (rs.map (shB ds)) := goB_len hh1 (List.length_map _)
      refine TC.region ?_
      refine TL.pure (PV.loadBox rfl Tb.agg_24 (by repeat (first | exact List.Mem.head _ | refine List.Mem.tail _ ?_ | refine List.mem_append_right _ ?_)) rfl) rfl (by decide) ?_
      refine TL.call rfl Tb.gofn_21 (fun a w hs => validS w n h1 rs.length (rs.map (shB ds)) (List.length_map _) hgm (BdsAt.s hs.new (fun yy hyy => by repeat (first | exact List.mem_append_left _ hyy | refine List.mem_append_right _ ?_ | refine List.Mem.tail _ ?_)) hgm)) rfl (by decide) (fun _ _ => ?_)
      refine TL.pure (PV.assign rfl) rfl (by decide) ?_
      refine TL.nil ?_
      refine TQ.thenC ?_
      refine TC.seq ?_
      refine TC.region ?_
      refine TL.pure (PV.move rfl) rfl (by decide) ?_
      refine TL.pure (PV.neq rfl rfl) rfl (by decide) ?_
      refine TL.nil ?_
      refine TQ.thenC ?_
      first | refine TC.condD rfl (fun hne2 => ?_) (fun hne2 => ?_) | refine TC.cond rfl (fun hne2 => ?_) (fun hne2 => ?_)
      · skip
        refine TC.seq ?_
        refine TC.region ?_
        refine TL.pure (PV.build rfl Tb.zero_24 Tb.pl_24 rfl) rfl (by decide) ?_
        refine TL.pure (PV.move rfl) rfl (by decide) ?_
        refine TL.storeAgg rfl rfl Tb.cells_24 (by repeat (first | exact Upd.head _ | apply Upd.tail | apply Upd.appR)) rfl rfl (by first | rfl | exact sv_one _ _ _) rfl rfl ?_
        refine TL.pure (PV.assign rfl) rfl (by decide) ?_
        refine TL.nil ?_
        refine TQ.thenC ?_
        refine TC.ret ?_
        refine TQ.thenR ?_
        refine TQ.retR rfl (Res.agg rfl Tb.agg_24 (by repeat (first | exact List.Mem.head _ | refine List.Mem.tail _ ?_ | refine List.mem_append_right _ ?_)) rfl (Res.tmp rfl Res.nil)) ?_
        simp only [tup]
        exact ⟨(0, none, []), by rw [sh_2 hne]; rfl, CF.bad (by rw [sh_2 hne]; exact hne2), List.nil_sublist _⟩
      · skip
        refine TC.skip ?_
        refine TQ.thenC ?_
        refine TC.seq ?_
        refine TC.region ?_
        refine TL.pure (PV.loadBox rfl Tb.agg_24 (by repeat (first | exact List.Mem.head _ | refine List.Mem.tail _ ?_ | refine List.mem_append_right _ ?_)) rfl) rfl (by decide) ?_
        refine TL.storeAgg rfl rfl Tb.cells_24 (by repeat (first | exact Upd.head _ | apply Upd.tail | apply Upd.appR)) rfl rfl (by first | rfl | exact sv_one _ _ _) rfl rfl ?_
        refine TL.pure (PV.assign rfl) rfl (by decide) ?_
        refine TL.nil ?_
        refine TQ.thenC ?_
        refine TC.ret ?_
        refine TQ.retR rfl (Res.agg rfl Tb.agg_24 (by repeat (first | exact List.Mem.head _ | refine List.Mem.tail _ ?_ | refine List.mem_append_right _ ?_)) rfl (Res.tmp rfl Res.nil)) ?_
        simp only [tup]
        have hz : shI n rs ds = 0 := by rw [sh_2 hne]; exact Decidable.of_not_not hne2
        exact ⟨(n, h1, rs.map (shB ds)), by rw [hz, List.length_map], CF.good hz hgm, (by repeat (first | exact List.Sublist.slnil | exact List.nil_sublist _ | exact List.Sublist.refl _ | exact List.sublist_append_left _ _ | refine List.Sublist.cons_cons _ ?_ | refine (List.append_sublist_append_left _).2 ?_ | refine List.Sublist.cons _ ?_ | refine List.Sublist.trans ?_ (List.sublist_append_right _ _)))⟩

set_option maxRecDepth 100000 in
set_option maxHeartbeats 2000000 in
theorem rShift_ok (w0 : World) (n : Int) (p : Option Addr) (cap : Nat) (rs : List Bd) (hr : BdsAt w0 p rs) (hl : rs.length ≤ 1000) (pd : Option Addr) (cd : Nat) (ds : List Int) (hx : IntsAt w0 pd ds) (hlen : ds.length ≤ 1000) :
    Calls Try.prog 57 #[cv n p rs.length cap, .slice pd ds.length cd] w0 (Post (X := Int × HD × List Bd) (fun x => .tuple #[.agg #[.int .i64 x.1, gval x.2.1 x.2.2.length], .int .i64 (shI n rs ds)]) (CF (shI n rs ds) n (rs.map (shB ds))) (fun x => gbB 42 x.2.1 x.2.2) w0) := by
  refine calls Try.func57 rfl (n := 59) rfl (by simp) ?_
  refine TC.seq ?_
  refine TC.region ?_
  refine TL.box rfl rfl (by decide) (fun b0 hb0 => ?_)
  refine TL.alloc Tb.zero_24 rfl (by decide) (fun b1 hb1 => ?_)
  refine TL.pure (PV.assign rfl) rfl (by decide) ?_
  refine TL.nil ?_
  refine TQ.thenC ?_
  refine TC.seq ?_
  refine TC.seq ?_
  refine TC.region ?_
  refine TL.pure (PV.loadBox rfl Tb.agg_24 (by repeat (first | exact List.Mem.head _ | refine List.Mem.tail _ ?_ | refine List.mem_append_right _ ?_)) rfl) rfl (by decide) ?_
  refine TL.call rfl Tb.gofn_22 (fun a w hs => rvalidate_ok w _ _ _ _ (hr.new hs.new)) rfl (by decide) (fun _ _ => ?_)
  refine TL.pure (PV.assign rfl) rfl (by decide) ?_
  refine TL.nil ?_
  refine TQ.thenC ?_
  refine TC.seq ?_
  refine TC.region ?_
  refine TL.pure (PV.move rfl) rfl (by decide) ?_
  refine TL.pure (PV.neq rfl rfl) rfl (by decide) ?_
  refine TL.nil ?_
  refine TQ.thenC ?_
  first | refine TC.condD rfl (fun cb1 => ?_) (fun cb1 => ?_) | refine TC.cond rfl (fun cb1 => ?_) (fun cb1 => ?_)
  · skip
    refine TC.seq ?_
    refine TC.region ?_
    refine TL.pure (PV.build rfl Tb.zero_24 Tb.pl_24 rfl) rfl (by decide) ?_
    refine TL.pure (PV.move rfl) rfl (by decide) ?_
    refine TL.storeAgg rfl rfl Tb.cells_24 (by repeat (first | exact Upd.head _ | apply Upd.tail | apply Upd.appR)) rfl rfl (by first | rfl | exact sv_one _ _ _) rfl rfl ?_
    refine TL.pure (PV.assign rfl) rfl (by decide) ?_
    refine TL.nil ?_
    refine TQ.thenC ?_
    refine TC.ret ?_
    refine TQ.thenR ?_
    refine TQ.retR rfl (Res.agg rfl Tb.agg_24 (by repeat (first | exact List.Mem.head _ | refine List.Mem.tail _ ?_ | refine List.mem_append_right _ ?_)) rfl (Res.tmp rfl Res.nil)) ?_
    simp only [tup]
    exact ⟨(0, none, []), by rw [sh_1 (by rw [vdI_bad cb1]; exact cb1), vdI_bad cb1]; rfl, CF.bad (by rw [sh_1 (by rw [vdI_bad cb1]; exact cb1), vdI_bad cb1]; exact cb1), List.nil_sublist _⟩
  · skip
    refine TC.skip ?_
    refine TQ.thenC ?_
    refine TC.seq ?_
    refine TC.seq ?_
    refine TC.region ?_
    refine TL.pure (PV.loadBox rfl Tb.agg_24 (by repeat (first | exact List.Mem.head _ | refine List.Mem.tail _ ?_ | refine List.mem_append_right _ ?_)) rfl) rfl (by decide) ?_
    refine TL.pure (PV.move rfl) rfl (by decide) ?_
    refine TL.call rfl Tb.gofn_64 (fun a w hs => isDates_ok w _ _ _ _ (hr.new hs.new) _ _ _ ds rfl (hx.new hs.new) (by omega)) rfl (by decide) (fun _ _ => ?_)
    refine TL.pure ((by first | exact PV.notD rfl | exact PV.not rfl)) rfl (by decide) ?_
    refine TL.nil ?_
    refine TQ.thenC ?_
    first | refine TC.condD rfl (fun cb2 => ?_) (fun cb2 => ?_) | refine TC.cond rfl (fun cb2 => ?_) (fun cb2 => ?_)
    · skip
      refine TC.seq ?_
      refine TC.region ?_
      refine TL.pure (PV.build rfl Tb.zero_24 Tb.pl_24 rfl) rfl (by decide) ?_
      refine TL.storeAgg rfl rfl Tb.cells_24 (by repeat (first | exact Upd.head _ | apply Upd.tail | apply Upd.appR)) rfl rfl (by first | rfl | exact sv_one _ _ _) rfl rfl ?_
      refine TL.pure (PV.assign rfl) rfl (by decide) ?_
      refine TL.nil ?_
      refine TQ.thenC ?_
      refine TC.ret ?_
      refine TQ.thenR ?_
      refine TQ.retR rfl (Res.agg rfl Tb.agg_24 (by repeat (first | exact List.Mem.head _ | refine List.Mem.tail _ ?_ | refine List.mem_append_right _ ?_)) rfl (Res.tmp rfl Res.nil)) ?_
      simp only [tup]
      have hd8 : datesOk n ds = false := by simpa using cb2
      have hv1 : vdI n rs ds = 1 := vdI_arg cb1 hd8
      have hs1 : shI n rs ds = 1 := by rw [sh_1 (by omega), hv1]
      exact ⟨(0, none, []), by rw [hs1]; rfl, CF.bad (by omega), List.nil_sublist _⟩
    · skip
      refine TC.skip ?_
      refine TQ.thenC ?_
      refine TC.seq ?_
      have hv := vof cb1
      have hd9 : datesOk n ds = true := by simpa using cb2
      have hds := datesOk_spec hd9
      have hne : ¬ vdI n rs ds ≠ 0 := not_not_intro (vdI_ok cb1 hd9)
      refine TC.region ?_
      refine TL.pure (PV.loadBox rfl Tb.agg_24 (by repeat (first | exact List.Mem.head _ | refine List.Mem.tail _ ?_ | refine List.mem_append_right _ ?_)) rfl) rfl (by decide) ?_
      refine TL.call rfl Tb.gofn_48 (fun a w hs => Copy_ok w n p cap rs.length rs rfl (hr.new hs.new) (by omega)) rfl (by decide) (fun h1 hh1 => ?_)
      refine TL.alloc Tb.zero_24 rfl (by decide) (fun b2 hb2 => ?_)
      refine TL.storeAgg rfl rfl Tb.cells_24 (by repeat (first | exact Upd.head _ | apply Upd.tail | apply Upd.appR)) rfl rfl (by first | rfl | exact sv_one _ _ _) rfl rfl ?_
      refine TL.nil ?_
      refine TQ.thenC ?_
      refine TC.seq ?_
      refine TC.seq ?_
      refine TC.region ?_
      refine TL.pure (PV.assign rfl) rfl (by decide) ?_
      refine TL.nil ?_
      refine TQ.thenC ?_
      refine TC.block ?_
      refine TC.loopK [1, 4, 5, 7] (X := Nat) (fun k => k ≤ rs.length) (fun k => [(8, .int .i64 k)]) (fun k => (b2, .cells #[.int .i64 n, gval h1 rs.length] 24 (0, 0)) :: (gbB 42 h1 (pm (shB ds) rs k) ++ [(b1, .cells #[.int .i64 0, .slice none 0 0] 24 (0, 0)), (b0, .cells #[.int .i64 n, .slice p rs.length cap] 24 (0, 0))])) (fun k => rs.length - k) 0 (Nat.zero_le _) (by repeat (first | exact True.intro | refine And.intro rfl ?_)) (by rw [pm_zero]; exact List.Sublist.refl _) ?_
      intro k hk
      refine TC.seq ?_
      refine TC.seq ?_
      refine TC.region ?_
      refine TL.pure (PV.move rfl) rfl (by decide) ?_
      refine TL.pure (PV.fieldAddr rfl Tb.fo_24_1) rfl (by decide) ?_
      refine TL.pure (PV.load rfl Tb.one_22 (by repeat (first | exact List.Mem.head _ | refine List.Mem.tail _ ?_ | refine List.mem_append_right _ ?_)) rfl) rfl (by decide) ?_
      refine TL.pure (PV.lenG rfl hh1 Tb.sl_22) rfl (by decide) ?_
      refine TL.pure (PV.lss rfl rfl) rfl (by decide) ?_
      refine TL.nil ?_
      refine TQ.thenC ?_
      first | refine TC.condD rfl (fun hlt => ?_) (fun hlt => ?_) | refine TC.cond rfl (fun hlt => ?_) (fun hlt => ?_)
      · skip
        refine TC.skip ?_
        refine TQ.thenC ?_
        refine TC.seq ?_
        refine TC.block ?_
        refine TC.seq ?_
        have hkl : k < rs.length := by omega
        have hat := hv.at hkl
        obtain ⟨q1, hq1p, hq1⟩ := hx (rs.getD k default).b.toNat (by omega)
        obtain ⟨q2, hq2p, hq2⟩ := hx (rs.getD k default).a.toNat (by omega)
        have z1 := hds.2 (rs.getD k default).b.toNat
        have z2 := hds.2 (rs.getD k default).a.toNat
        refine TC.region ?_
        refine TL.pure (PV.fieldAddr rfl Tb.fo_24_1) rfl (by decide) ?_
        refine TL.pure (PV.load rfl Tb.one_22 (by repeat (first | exact List.Mem.head _ | refine List.Mem.tail _ ?_ | refine List.mem_append_right _ ?_)) rfl) rfl (by decide) ?_
        refine TL.pure (PV.move rfl) rfl (by decide) ?_
        refine TL.pure (PV.indexG (j := k) rfl rfl hh1 Tb.elm_22 rfl (by omega)) rfl (by decide) ?_
        refine TL.pure (PV.loadE (h := h1) (l := pm (shB ds) rs k) (j := k) (e := 42) (r := (rs.getD k default)) rfl Tb.agg_42 (fun yy hyy => by repeat (first | exact List.mem_append_left _ hyy | refine List.mem_append_right _ ?_ | refine List.Mem.tail _ ?_)) (goB_len hh1 (pm_len _ _ _)) (by rw [pm_len]; omega) (sh_get hkl)) rfl (by decide) ?_
        refine TL.alloc Tb.zero_42 rfl (by decide) (fun b3 hb3 => ?_)
        refine TL.storeAgg rfl rfl Tb.cells_42 (by repeat (first | exact Upd.head _ | apply Upd.tail | apply Upd.appR)) rfl rfl rfl rfl rfl ?_
        refine TL.nil ?_
        refine TQ.thenC ?_
        refine TC.draw 19 Tb.mixed (by kernel_rfl) ?_
        simp only [List.take_succ_cons, List.take_zero, List.drop_succ_cons, List.drop_zero]
        refine TS.pure (PV.fieldAddr rfl Tb.fo_24_1) rfl (by decide) ?_
        refine TS.pure (PV.load rfl Tb.one_22 (by repeat (first | exact List.Mem.head _ | refine List.Mem.tail _ ?_ | refine List.mem_append_right _ ?_)) rfl) rfl (by decide) ?_
        refine TS.pure (PV.move rfl) rfl (by decide) ?_
        refine TS.pure (PV.fieldAddr rfl Tb.fo_42_2) rfl (by decide) ?_
        refine TS.pure (PV.load rfl Tb.one_3 (by repeat (first | exact List.Mem.head _ | refine List.Mem.tail _ ?_ | refine List.mem_append_right _ ?_)) rfl) rfl (by decide) ?_
        refine TS.pure (PV.move rfl) rfl (by decide) ?_
        refine TS.pure (PV.fieldAddr rfl Tb.fo_42_1) rfl (by decide) ?_
        refine TS.pure (PV.load rfl Tb.one_3 (by repeat (first | exact List.Mem.head _ | refine List.Mem.tail _ ?_ | refine List.mem_append_right _ ?_)) rfl) rfl (by decide) ?_
        refine TS.pure (PV.indexA (j := (rs.getD k default).b.toNat) rfl hq1p rfl Tb.elm_25 (Int.toNat_of_nonneg (by omega)).symm (by omega)) rfl (by decide) ?_
        refine TS.pure (PV.loadOld rfl Tb.one_3 hq1) rfl (by decide) ?_
        refine TS.pure (PV.add rfl rfl (by omega)) rfl (by decide) ?_
        refine TS.pure (PV.move rfl) rfl (by decide) ?_
        refine TS.pure (PV.fieldAddr rfl Tb.fo_42_0) rfl (by decide) ?_
        refine TS.pure (PV.load rfl Tb.one_3 (by repeat (first | exact List.Mem.head _ | refine List.Mem.tail _ ?_ | refine List.mem_append_right _ ?_)) rfl) rfl (by decide) ?_
        refine TS.pure (PV.indexA (j := (rs.getD k default).a.toNat) rfl hq2p rfl Tb.elm_25 (Int.toNat_of_nonneg (by omega)).symm (by omega)) rfl (by decide) ?_
        refine TS.pure (PV.loadOld rfl Tb.one_3 hq2) rfl (by decide) ?_
        refine TS.pure (PV.sub rfl rfl (by omega)) rfl (by decide) ?_
        refine TS.pure (PV.indexG (j := k) rfl rfl hh1 Tb.elm_22 rfl (by omega)) rfl (by decide) ?_
        refine TS.pure (PV.fieldAddr rfl Tb.fo_42_2) rfl (by decide) ?_
        refine TS.nil ?_
        refine TL.putF (h := h1) (l0 := pm (shB ds) rs k) (j := k) (f := 2) (v := ((rs.getD k default).m + ds.getD (rs.getD k default).b.toNat 0 - ds.getD (rs.getD k default).a.toNat 0)) rfl rfl Tb.cells_3 (goB_len hh1 (pm_len _ _ _)) (by repeat (first | exact PutH.here _ _ _ _ | apply PutH.tail | apply PutH.app)) (by rw [pm_len]; omega) (by decide) rfl rfl ?_
        rw [show ((rs.getD k default).m + ds.getD (rs.getD k default).b.toNat 0 - ds.getD (rs.getD k default).a.toNat 0) = ((rs.getD k default).m + (ds.getD (rs.getD k default).b.toNat 0 - ds.getD (rs.getD k default).a.toNat 0)) by omega, sh_put hkl]
        refine TL.nil ?_
        refine TQ.blkN ?_
        refine TQ.thenC ?_
        refine TC.region ?_
        refine TL.pure (PV.move rfl) rfl (by decide) ?_
        refine TL.pure (PV.add rfl rfl (by omega)) rfl (by decide) ?_
        refine TL.pure (PV.assign rfl) rfl (by decide) ?_
        refine TL.nil ?_
        refine TQ.thenN ?_
        refine TQ.backK (k + 1) (by repeat (first | exact True.intro | refine And.intro rfl ?_)) (by repeat (first | exact True.intro | refine And.intro rfl ?_)) (by repeat (first | exact List.Sublist.slnil | exact List.nil_sublist _ | exact List.Sublist.refl _ | exact List.sublist_append_left _ _ | refine List.Sublist.cons_cons _ ?_ | refine (List.append_sublist_append_left _).2 ?_ | refine List.Sublist.cons _ ?_ | refine List.Sublist.trans ?_ (List.sublist_append_right _ _))) (by omega) (by omega)
      · skip
        refine TC.exit ?_
        refine TQ.thenE ?_
        refine TQ.thenE ?_
        refine TQ.blkS ?_
        refine TQ.thenC ?_
        refine TC.seq ?_
        refine TC.seq ?_
        have hk9 : k = rs.length := by omega
        subst hk9
        rw [pm_all]
        have hgm : goB h1 (rs.map (shB ds)) := goB_len hh1 (List.length_map _)
        refine TC.region ?_
        refine TL.pure (PV.loadBox rfl Tb.agg_24 (by repeat (first | exact List.Mem.head _ | refine List.Mem.tail _ ?_ | refine List.mem_append_right _ ?_)) rfl) rfl (by decide) ?_
        refine TL.call rfl Tb.gofn_22 (fun a w hs => rvalidS w n h1 rs.length (rs.map (shB ds)) (List.length_map _) hgm (BdsAt.s hs.new (fun yy hyy => by repeat (first | exact List.mem_append_left _ hyy | refine List.mem_append_right _ ?_ | refine List.Mem.tail _ ?_)) hgm)) rfl (by decide) (fun _ _ => ?_)
        refine TL.pure (PV.neq rfl rfl) rfl (by decide) ?_
        refine TL.nil ?_
        refine TQ.thenC ?_
        first | refine TC.condD rfl (fun hne2 => ?_) (fun hne2 => ?_) | refine TC.cond rfl (fun hne2 => ?_) (fun hne2 => ?_)
        · skip
          refine TC.seq ?_
          refine TC.region ?_
          refine TL.pure (PV.build rfl Tb.zero_24 Tb.pl_24 rfl) rfl (by decide) ?_
          refine TL.storeAgg rfl rfl Tb.cells_24 (by repeat (first | exact Upd.head _ | apply Upd.tail | apply Upd.appR)) rfl rfl (by first | rfl | exact sv_one _ _ _) rfl rfl ?_
          refine TL.pure (PV.assign rfl) rfl (by decide) ?_
          refine TL.nil ?_
          refine TQ.thenC ?_
          refine TC.ret ?_
          refine TQ.thenR ?_
          refine TQ.retR rfl (Res.agg rfl Tb.agg_24 (by repeat (first | exact List.Mem.head _ | refine List.Mem.tail _ ?_ | refine List.mem_append_right _ ?_)) rfl (Res.tmp rfl Res.nil)) ?_
          simp only [tup]
          have hs1 : shI n rs ds = 1 := by rw [sh_2 hne, sh_one hv hne2]
          exact ⟨(0, none, []), by rw [hs1]; rfl, CF.bad (by omega), List.nil_sublist _⟩
        · skip
          refine TC.skip ?_
          refine TQ.thenC ?_
          refine TC.seq ?_
          refine TC.region ?_
          refine TL.pure (PV.loadBox rfl Tb.agg_24 (by repeat (first | exact List.Mem.head _ | refine List.Mem.tail _ ?_ | refine List.mem_append_right _ ?_)) rfl) rfl (by decide) ?_
          refine TL.storeAgg rfl rfl Tb.cells_24 (by repeat (first | exact Upd.head _ | apply Upd.tail | apply Upd.appR)) rfl rfl (by first | rfl | exact sv_one _ _ _) rfl rfl ?_
          refine TL.pure (PV.assign rfl) rfl (by decide) ?_
          refine TL.nil ?_
          refine TQ.thenC ?_
          refine TC.ret ?_
          refine TQ.retR rfl (Res.agg rfl Tb.agg_24 (by repeat (first | exact List.Mem.head _ | refine List.Mem.tail _ ?_ | refine List.mem_append_right _ ?_)) rfl (Res.tmp rfl Res.nil)) ?_
          simp only [tup]
          have hz : shI n rs ds = 0 := by rw [sh_2 hne]; exact Decidable.of_not_not hne2
          exact ⟨(n, h1, rs.map (shB ds)), by rw [hz, List.length_map], CF.good hz hgm, (by repeat (first | exact List.Sublist.slnil | exact List.nil_sublist _ | exact List.Sublist.refl _ | exact List.sublist_append_left _ _ | refine List.Sublist.cons_cons _ ?_ | refine (List.append_sublist_append_left _).2 ?_ | refine List.Sublist.cons _ ?_ | refine List.Sublist.trans ?_ (List.sublist_append_right _ _)))⟩

end Go.Proofs.Ytenalmddoljhoaa
