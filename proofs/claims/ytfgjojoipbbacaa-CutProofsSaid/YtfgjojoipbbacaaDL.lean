/- Tolls: contracts. -/
import Derived.Test.YtfgjojoipbbacaaDK
set_option linter.unusedVariables false
set_option linter.unusedSimpArgs false
namespace Go.Proofs.Ytfgjojoipbbacaa
open Go.Sx Go.RowKit

theorem GrP.lsAt {l : List (List Int)} {y : HD × List (HD × List Int)} {w0 w : World} {G : Heap} (h : GrP l y) (hn : New w0 w G) (hm : ∀ q ∈ gbP y, q ∈ G) (hb : ∀ q ∈ bl y.2, q ∈ G) : LsAt w (gp y.1) l := h.eq ▸ LsAt.gP hn hm (fun z hz q hq => hb q (bl_mem hz q hq)) h.ok h.all
theorem GrP.val {l : List (List Int)} {y : HD × List (HD × List Int)} (h : GrP l y) : gvP y = .slice (gp y.1) l.length (gc y.1) := by rw [← h.len]; exact gval_eq h.ok
theorem cellP {l m : List (List Int)} {y : HD × List (HD × List Int)} {c : Nat} (h : GrP l y) (hs : Shp y.2 m) (hc : c < y.2.length) : goI ((y.2.getD c (none, [])).1, m.getD c []) ∧ ((y.2.getD c (none, [])).1, m.getD c []) ∈ mkR y.2 m := by
  obtain ⟨h1, h2, h3⟩ := (h.mkR hs).row (i := c) (by rw [hs.len]; exact hc)
  have e := mkR_at (m := m) hc
  simp only at h1 h3
  rw [e] at h1 h3
  exact ⟨h1, h3⟩
theorem row_le {ls : List (List Int)} (hv : VB ls) (j : Nat) : (ls.getD j []).length ≤ dep ls := by
  by_cases h : j < ls.length
  · rw [hv.c j h]; exact Nat.le_refl _
  · rw [List.getD_eq_getElem?_getD, List.getElem?_eq_none (by omega)]; exact Nat.zero_le _
theorem gvP_mkR (y : HD × List (HD × List Int)) (m : List (List Int)) : gvP (y.1, mkR y.2 m) = gvP y := by
  show gval y.1 (mkR y.2 m).length = _
  rw [mkR_len]
theorem tol_shp {ls : List (List Int)} {y : HD × List (HD × List Int)} (h : GrP ls y) (b : Int) (c r : Nat) : Shp y.2 (tolK ls b c r) := h.shp (tol_len _ _ _ _) fun j hj => tol_rlen hj
theorem row_at {ls : List (List Int)} {y : HD × List (HD × List Int)} (h : GrP ls y) {c : Nat} (hc : c < ls.length) : goI (y.2.getD c (none, [])) ∧ (y.2.getD c (none, [])).2.length = (ls.getD c []).length := ⟨(h.row hc).1, by rw [(h.row hc).2.1]⟩
theorem ls_tol {ls : List (List Int)} {y : HD × List (HD × List Int)} (h : GrP ls y) (b : Int) {w0 w : World} {G : Heap} (hn : New w0 w G) (hm : ∀ q ∈ gbP y, q ∈ G) (hb : ∀ q ∈ bl (mkR y.2 (tolL ls b)), q ∈ G) : LsAt w (gp y.1) (tolL ls b) := (h.mkR (tol_shp h b _ _)).lsAt hn (by rw [gbP_mkR (tol_shp h b _ _)]; exact hm) hb
theorem val_tol {ls : List (List Int)} {y : HD × List (HD × List Int)} (h : GrP ls y) (b : Int) : gvP y = .slice (gp y.1) (tolL ls b).length (gc y.1) := by rw [← gvP_mkR y (tolL ls b)]; exact (h.mkR (tol_shp h b _ _)).val


set_option maxRecDepth 100000 in
set_option maxHeartbeats 2000000 in
theorem Toll_ok (w0 : World) (p : Option Addr) (cap : Nat) (ls : List (List Int)) (hr : LsAt w0 p ls) (i : Int) :
    Calls Try.prog 39 #[bv p ls.length cap, .int .i64 i] w0 (Post (X := HD × List (HD × List Int)) (fun z => .tuple #[.agg #[gvP z], .int .i64 (tolI ls i)]) (fun z => GrP (tolR ls i) z) (fun z => gbP z ++ bl z.2) w0) := by
  refine calls Try.func39 rfl (n := 49) rfl (by simp) ?_
  refine TC.seq ?_
  refine TC.region ?_
  refine TL.box rfl rfl (by decide) (fun b0 hb0 => ?_)
  refine TL.alloc Tb.zero_24 rfl (by decide) (fun b1 hb1 => ?_)
  refine TL.pure (PV.assign rfl) rfl (by decide) ?_
  refine TL.nil ?_
  refine TQ.thenC ?_
  refine TC.seq ?_
  refine TC.seq ?_
  refine TC.region ?_
  refine TL.pure (PV.loadBox rfl Tb.agg_24 (by repeat (first | exact List.Mem.head _ | refine List.Mem.tail _ ?_ | refine List.mem_append_right _ ?_)) rfl) rfl (by decide) ?_
  refine TL.call rfl Tb.gofn_21 (fun a w hs => validate_ok w _ _ _ (hr.new hs.new)) rfl (by decide) (fun _ _ => ?_)
  refine TL.pure (PV.assign rfl) rfl (by decide) ?_
  refine TL.nil ?_
  refine TQ.thenC ?_
  refine TC.seq ?_
  refine TC.region ?_
  refine TL.pure (PV.move rfl) rfl (by decide) ?_
  refine TL.pure (PV.neq rfl rfl) rfl (by decide) ?_
  refine TL.nil ?_
  refine TQ.thenC ?_
  first | refine TC.condD rfl (fun hbad => ?_) (fun hbad => ?_) | refine TC.cond rfl (fun hbad => ?_) (fun hbad => ?_)
  · skip
    refine TC.seq ?_
    refine TC.region ?_
    refine TL.pure (PV.build rfl Tb.zero_24 Tb.pl_24 rfl) rfl (by decide) ?_
    refine TL.pure (PV.move rfl) rfl (by decide) ?_
    refine TL.storeAgg rfl rfl Tb.cells_24 (by repeat (first | exact Upd.head _ | apply Upd.tail | apply Upd.appR)) rfl rfl (by first | rfl | exact sv_one _ _ _) rfl rfl ?_
    refine TL.pure (PV.assign rfl) rfl (by decide) ?_
    refine TL.nil ?_
    refine TQ.thenC ?_
    refine TC.ret ?_
    refine TQ.thenR ?_
    refine TQ.retR rfl (Res.agg rfl Tb.agg_24 (by repeat (first | exact List.Mem.head _ | refine List.Mem.tail _ ?_ | refine List.mem_append_right _ ?_)) rfl (Res.tmp rfl Res.nil)) ?_
    simp only [tup]
    exact ⟨(none, []), by rw [tolI_a hbad]; rfl, by rw [tolR_no (by rw [tolI_a hbad]; exact hbad)]; exact GrP.nil, List.nil_sublist _⟩
  · skip
    refine TC.skip ?_
    refine TQ.thenC ?_
    refine TC.seq ?_
    refine TC.seq ?_
    refine TC.region ?_
    refine TL.pure (PV.move rfl) rfl (by decide) ?_
    refine TL.call rfl Tb.gofn_65 (fun a w hs => isWithin_ok w _ _ _) rfl (by decide) (fun _ _ => ?_)
    refine TL.pure ((by first | exact PV.notD rfl | exact PV.not rfl)) rfl (by decide) ?_
    refine TL.nil ?_
    refine TQ.thenC ?_
    first | refine TC.condD rfl (fun hw1 => ?_) (fun hw1 => ?_) | refine TC.cond rfl (fun hw1 => ?_) (fun hw1 => ?_)
    · skip
      refine TC.seq ?_
      refine TC.region ?_
      refine TL.pure (PV.build rfl Tb.zero_24 Tb.pl_24 rfl) rfl (by decide) ?_
      refine TL.storeAgg rfl rfl Tb.cells_24 (by repeat (first | exact Upd.head _ | apply Upd.tail | apply Upd.appR)) rfl rfl (by first | rfl | exact sv_one _ _ _) rfl rfl ?_
      refine TL.pure (PV.assign rfl) rfl (by decide) ?_
      refine TL.nil ?_
      refine TQ.thenC ?_
      refine TC.ret ?_
      refine TQ.thenR ?_
      refine TQ.retR rfl (Res.agg rfl Tb.agg_24 (by repeat (first | exact List.Mem.head _ | refine List.Mem.tail _ ?_ | refine List.mem_append_right _ ?_)) rfl (Res.tmp rfl Res.nil)) ?_
      simp only [tup]
      exact ⟨(none, []), by rw [tolI_b hbad (by omega)]; rfl, by rw [tolR_no (by rw [tolI_b hbad (by omega)]; decide)]; exact GrP.nil, List.nil_sublist _⟩
    · skip
      refine TC.skip ?_
      refine TQ.thenC ?_
      refine TC.seq ?_
      have hv := vb_of hbad
      have hn9 := hv.n
      have hd9 := hv.d
      refine TC.region ?_
      refine TL.pure (PV.loadBox rfl Tb.agg_24 (by repeat (first | exact List.Mem.head _ | refine List.Mem.tail _ ?_ | refine List.mem_append_right _ ?_)) rfl) rfl (by decide) ?_
      refine TL.call rfl Tb.gofn_79 (fun a w hs => copied_ok w _ _ _ (hr.new hs.new) hv) rfl (by decide) (fun y9 hy9 => ?_)
      refine TL.alloc Tb.zero_24 rfl (by decide) (fun b2 hb2 => ?_)
      refine TL.storeAgg rfl rfl Tb.cells_24 (by repeat (first | exact Upd.head _ | apply Upd.tail | apply Upd.appR)) rfl rfl (gvP_all _) rfl rfl ?_
      refine TL.nil ?_
      refine TQ.thenC ?_
      refine TC.seq ?_
      refine TC.seq ?_
      have hyl := hy9.len
      refine TC.region ?_
      refine TL.pure (PV.fieldAddr rfl Tb.fo_24_0) rfl (by decide) ?_
      refine TL.pure (PV.load rfl Tb.one_22 (by repeat (first | exact List.Mem.head _ | refine List.Mem.tail _ ?_ | refine List.mem_append_right _ ?_)) rfl) rfl (by decide) ?_
      refine TL.pure (PV.lenG rfl hy9.ok Tb.sl_22) rfl (by decide) ?_
      refine TL.pure (PV.move rfl) rfl (by decide) ?_
      refine TL.nil ?_
      refine TQ.thenC ?_
      refine TC.block ?_
      refine TC.lit [(1, _), (4, _), (5, _), (7, _), (24, _), (25, _), (26, _)] (by repeat (first | exact True.intro | refine And.intro rfl ?_)) ?_
      refine TC.loopK [1, 4, 5, 7, 24, 25] (X := Nat) (fun c => c ≤ ls.length) (fun c => [(26, .int .i64 c)]) (fun c => (b2, Obj.cells #[gvP y9] 24 (0, 0)) :: (gbP y9 ++ (bl (mkR y9.2 (tolK ls i c 0)) ++ [(b1, Obj.cells #[.slice none 0 0] 24 (0, 0)), (b0, Obj.cells #[.slice p ls.length cap] 24 (0, 0))]))) (fun c => ls.length - c) 0 (Nat.zero_le _) (by repeat (first | exact True.intro | refine And.intro rfl ?_)) (by rw [← tol_zero, ← hy9.eq, mkR_self]; simp only [List.append_assoc]; exact List.Sublist.refl _) ?_
      intro c hc
      refine TC.lit [(1, _), (4, _), (5, _), (7, _), (24, _), (25, _), (26, _)] (by repeat (first | exact True.intro | refine And.intro rfl ?_)) ?_
      refine TC.seq ?_
      refine TC.region ?_
      refine TL.pure (PV.lss rfl rfl) rfl (by decide) ?_
      refine TL.nil ?_
      refine TQ.thenC ?_
      refine TC.seq ?_
      first | refine TC.condD rfl (fun h2 => ?_) (fun h2 => ?_) | refine TC.cond rfl (fun h2 => ?_) (fun h2 => ?_)
      · skip
        refine TC.skip ?_
        refine TQ.thenC ?_
        refine TC.seq ?_
        refine TC.block ?_
        refine TC.seq ?_
        obtain ⟨hro, hrl⟩ := row_at hy9 (show c < ls.length by omega)
        have hcd := hv.c c (by omega)
        refine TC.region ?_
        refine TL.pure (PV.indexG (j := c) rfl rfl hy9.ok Tb.elm_22 rfl (by omega)) rfl (by decide) ?_
        refine TL.pure (PV.loadGP (y := y9) (j := c) (v := gvI (y9.2.getD c (none, []))) rfl Tb.one_25 (fun yy hyy => by simp only [List.mem_append, List.mem_cons]; simp [hyy]) hy9.ok (by omega) rfl) rfl (by decide) ?_
        refine TL.pure (PV.assign rfl) rfl (by decide) ?_
        refine TL.nil ?_
        refine TQ.thenC ?_
        refine TC.seq ?_
        refine TC.region ?_
        refine TL.pure (PV.move rfl) rfl (by decide) ?_
        refine TL.pure (PV.lenG rfl hro Tb.sl_25) rfl (by decide) ?_
        refine TL.pure (PV.move rfl) rfl (by decide) ?_
        refine TL.nil ?_
        refine TQ.thenC ?_
        refine TC.block ?_
        refine TC.lit [(1, _), (4, _), (5, _), (7, _), (9, _), (24, _), (25, _), (26, _), (31, _), (32, _)] (by repeat (first | exact True.intro | refine And.intro rfl ?_)) ?_
        refine TC.loopK [1, 4, 5, 7, 9, 24, 25, 26, 31] (X := Nat) (fun r => r ≤ (ls.getD c []).length) (fun r => [(32, .int .i64 r)]) (fun r => (b2, Obj.cells #[gvP y9] 24 (0, 0)) :: (gbP y9 ++ (bl (mkR y9.2 (tolK ls i c r)) ++ [(b1, Obj.cells #[.slice none 0 0] 24 (0, 0)), (b0, Obj.cells #[.slice p ls.length cap] 24 (0, 0))]))) (fun r => (ls.getD c []).length - r) 0 (Nat.zero_le _) (by repeat (first | exact True.intro | refine And.intro rfl ?_)) (List.Sublist.refl _) ?_
        intro r hr9
        refine TC.lit [(1, _), (4, _), (5, _), (7, _), (9, _), (24, _), (25, _), (26, _), (31, _), (32, _)] (by repeat (first | exact True.intro | refine And.intro rfl ?_)) ?_
        refine TC.seq ?_
        refine TC.region ?_
        refine TL.pure (PV.lss rfl rfl) rfl (by decide) ?_
        refine TL.nil ?_
        refine TQ.thenC ?_
        refine TC.seq ?_
        first | refine TC.condD rfl (fun h3 => ?_) (fun h3 => ?_) | refine TC.cond rfl (fun h3 => ?_) (fun h3 => ?_)
        · skip
          refine TC.skip ?_
          refine TQ.thenC ?_
          refine TC.seq ?_
          refine TC.block ?_
          refine TC.seq ?_
          refine TC.region ?_
          refine TL.pure (PV.move rfl) rfl (by decide) ?_
          refine TL.pure (PV.assign rfl) rfl (by decide) ?_
          refine TL.nil ?_
          refine TQ.thenC ?_
          have hw := hv.w c r
          obtain ⟨hg7, hm7⟩ := cellP hy9 (tol_shp hy9 i c r) (c := c) (by omega)
          refine TC.region ?_
          refine TL.pure (PV.move rfl) rfl (by decide) ?_
          refine TL.pure (PV.move rfl) rfl (by decide) ?_
          refine TL.pure (PV.indexG (j := r) rfl rfl hro Tb.elm_25 rfl (by omega)) rfl (by decide) ?_
          refine TL.pure (PV.loadGI (y := ((y9.2.getD c (none, [])).1, (tolK ls i c r).getD c [])) (j := r) (v := (ls.getD c []).getD r 0) rfl Tb.one_3 (fun yy hyy => by have := bl_mem hm7 yy hyy; simp only [List.mem_append, List.mem_cons]; simp [this]) hg7 (by show r < ((tolK ls i c r).getD c []).length; rw [tol_rlen (by omega)]; omega) (by show ((tolK ls i c r).getD c []).getD r 0 = _; rw [tol_at (by omega) (by omega), if_neg (by omega)]; omega)) rfl (by decide) ?_
          refine TL.pure (PV.move rfl) rfl (by decide) ?_
          refine TL.pure (PV.sub rfl rfl (by omega)) rfl (by decide) ?_
          refine TL.pure (PV.indexG (j := r) rfl rfl hro Tb.elm_25 rfl (by omega)) rfl (by decide) ?_
          refine TL.putL (l0 := ls) (yy := y9) (m := (tolK ls i c r)) (m' := (tolK ls i c (r + 1))) (c := c) (j := r) rfl rfl Tb.cells_3 hy9 (tol_shp hy9 i c r) (by omega) (by rw [tol_rlen (by omega)]; omega) (tol_put (by omega) (by omega) rfl) (by repeat (first | exact PutL.here _ | apply PutL.tail | apply PutL.app)) rfl rfl ?_
          refine TL.nil ?_
          refine TQ.blkN ?_
          refine TQ.thenC ?_
          refine TC.region ?_
          refine TL.pure (PV.add rfl rfl (by omega)) rfl (by decide) ?_
          refine TL.pure (PV.move rfl) rfl (by decide) ?_
          refine TL.nil ?_
          refine TQ.thenN ?_
          refine TQ.backK (r + 1) (by repeat (first | exact True.intro | refine And.intro rfl ?_)) (by repeat (first | exact True.intro | refine And.intro rfl ?_)) (List.Sublist.refl _) (by omega) (by omega)
        · skip
          refine TC.exit ?_
          refine TQ.thenE ?_
          refine TQ.thenE ?_
          refine TQ.blkS ?_
          refine TQ.blkN ?_
          refine TQ.thenC ?_
          refine TC.region ?_
          refine TL.pure (PV.add rfl rfl (by omega)) rfl (by decide) ?_
          refine TL.pure (PV.move rfl) rfl (by decide) ?_
          refine TL.nil ?_
          refine TQ.thenN ?_
          refine TQ.backK (c + 1) (by repeat (first | exact True.intro | refine And.intro rfl ?_)) (by repeat (first | exact True.intro | refine And.intro rfl ?_)) (by rw [← tol_next (show r = (ls.getD c []).length by omega)]; exact List.Sublist.refl _) (by omega) (by omega)
      · skip
        refine TC.exit ?_
        refine TQ.thenE ?_
        refine TQ.thenE ?_
        refine TQ.blkS ?_
        refine TQ.thenC ?_
        refine TC.seq ?_
        refine TC.seq ?_
        have hc7 : c = ls.length := by omega
        subst hc7
        refine TC.region ?_
        refine TL.pure (PV.loadBox rfl Tb.agg_24 (by repeat (first | exact List.Mem.head _ | refine List.Mem.tail _ ?_ | refine List.mem_append_right _ ?_)) rfl) rfl (by decide) ?_
        refine TL.call rfl Tb.gofn_21 (fun a w hs => (by rw [val_tol hy9 i]; exact validate_ok w _ _ (tolL ls i) (ls_tol hy9 i hs.new (fun yy hyy => by simp only [List.mem_append, List.mem_cons]; simp [hyy]) (fun yy hyy => by simp only [List.mem_append, List.mem_cons]; simp [hyy])))) rfl (by decide) (fun _ _ => ?_)
        refine TL.pure (PV.neq rfl rfl) rfl (by decide) ?_
        refine TL.nil ?_
        refine TQ.thenC ?_
        first | refine TC.condD rfl (fun hbad2 => ?_) (fun hbad2 => ?_) | refine TC.cond rfl (fun hbad2 => ?_) (fun hbad2 => ?_)
        · skip
          refine TC.seq ?_
          refine TC.region ?_
          refine TL.pure (PV.build rfl Tb.zero_24 Tb.pl_24 rfl) rfl (by decide) ?_
          refine TL.storeAgg rfl rfl Tb.cells_24 (by repeat (first | exact Upd.head _ | apply Upd.tail | apply Upd.appR)) rfl rfl (by first | rfl | exact sv_one _ _ _) rfl rfl ?_
          refine TL.pure (PV.assign rfl) rfl (by decide) ?_
          refine TL.nil ?_
          refine TQ.thenC ?_
          refine TC.ret ?_
          refine TQ.thenR ?_
          refine TQ.retR rfl (Res.agg rfl Tb.agg_24 (by repeat (first | exact List.Mem.head _ | refine List.Mem.tail _ ?_ | refine List.mem_append_right _ ?_)) rfl (Res.tmp rfl Res.nil)) ?_
          simp only [tup]
          exact ⟨(none, []), by rw [tolI_c hbad (by omega) hbad2]; rfl, by rw [tolR_no (by rw [tolI_c hbad (by omega) hbad2]; decide)]; exact GrP.nil, List.nil_sublist _⟩
        · skip
          refine TC.skip ?_
          refine TQ.thenC ?_
          refine TC.seq ?_
          refine TC.region ?_
          refine TL.pure (PV.loadBox rfl Tb.agg_24 (by repeat (first | exact List.Mem.head _ | refine List.Mem.tail _ ?_ | refine List.mem_append_right _ ?_)) rfl) rfl (by decide) ?_
          refine TL.storeAgg rfl rfl Tb.cells_24 (by repeat (first | exact Upd.head _ | apply Upd.tail | apply Upd.appR)) rfl rfl (gvP_all _) rfl rfl ?_
          refine TL.pure (PV.assign rfl) rfl (by decide) ?_
          refine TL.nil ?_
          refine TQ.thenC ?_
          refine TC.ret ?_
          refine TQ.retR rfl (Res.agg rfl Tb.agg_24 (by repeat (first | exact List.Mem.head _ | refine List.Mem.tail _ ?_ | refine List.mem_append_right _ ?_)) rfl (Res.tmp rfl Res.nil)) ?_
          simp only [tup]
          have h0 := tolI_d hbad (show -50 ≤ i ∧ i ≤ 50 by omega) hbad2
          exact ⟨(y9.1, mkR y9.2 (tolL ls i)), by rw [h0, gvP_mkR], by rw [tolR_ok h0]; exact hy9.mkR (tol_shp hy9 i _ _), by rw [gbP_mkR (tol_shp hy9 i _ _)]; exact List.Sublist.cons _ (List.Sublist.append_left (List.sublist_append_left _ _) _)⟩

set_option maxRecDepth 100000 in
set_option maxHeartbeats 2000000 in
theorem rToll_ok (w0 : World) (p : Option Addr) (cap : Nat) (ls : List (List Int)) (hr : LsAt w0 p ls) (i : Int) :
    Calls Try.prog 40 #[bv p ls.length cap, .int .i64 i] w0 (Post (X := HD × List (HD × List Int)) (fun z => .tuple #[.agg #[gvP z], .int .i64 (tolI ls i)]) (fun z => GrP (tolR ls i) z) (fun z => gbP z ++ bl z.2) w0) := by
  refine calls Try.func40 rfl (n := 58) rfl (by simp) ?_
  refine TC.seq ?_
  refine TC.region ?_
  refine TL.box rfl rfl (by decide) (fun b0 hb0 => ?_)
  refine TL.alloc Tb.zero_24 rfl (by decide) (fun b1 hb1 => ?_)
  refine TL.pure (PV.assign rfl) rfl (by decide) ?_
  refine TL.nil ?_
  refine TQ.thenC ?_
  refine TC.seq ?_
  refine TC.region ?_
  refine TL.pure (PV.loadBox rfl Tb.agg_24 (by repeat (first | exact List.Mem.head _ | refine List.Mem.tail _ ?_ | refine List.mem_append_right _ ?_)) rfl) rfl (by decide) ?_
  refine TL.call rfl Tb.gofn_22 (fun a w hs => rvalidate_ok w _ _ _ (hr.new hs.new)) rfl (by decide) (fun _ _ => ?_)
  refine TL.pure (PV.assign rfl) rfl (by decide) ?_
  refine TL.nil ?_
  refine TQ.thenC ?_
  refine TC.seq ?_
  refine TC.seq ?_
  refine TC.region ?_
  refine TL.pure (PV.move rfl) rfl (by decide) ?_
  refine TL.pure (PV.neq rfl rfl) rfl (by decide) ?_
  refine TL.nil ?_
  refine TQ.thenC ?_
  first | refine TC.condD rfl (fun hbad => ?_) (fun hbad => ?_) | refine TC.cond rfl (fun hbad => ?_) (fun hbad => ?_)
  · skip
    refine TC.seq ?_
    refine TC.region ?_
    refine TL.pure (PV.build rfl Tb.zero_24 Tb.pl_24 rfl) rfl (by decide) ?_
    refine TL.pure (PV.move rfl) rfl (by decide) ?_
    refine TL.storeAgg rfl rfl Tb.cells_24 (by repeat (first | exact Upd.head _ | apply Upd.tail | apply Upd.appR)) rfl rfl (by first | rfl | exact sv_one _ _ _) rfl rfl ?_
    refine TL.pure (PV.assign rfl) rfl (by decide) ?_
    refine TL.nil ?_
    refine TQ.thenC ?_
    refine TC.ret ?_
    refine TQ.thenR ?_
    refine TQ.retR rfl (Res.agg rfl Tb.agg_24 (by repeat (first | exact List.Mem.head _ | refine List.Mem.tail _ ?_ | refine List.mem_append_right _ ?_)) rfl (Res.tmp rfl Res.nil)) ?_
    simp only [tup]
    exact ⟨(none, []), by rw [tolI_a hbad]; rfl, by rw [tolR_no (by rw [tolI_a hbad]; exact hbad)]; exact GrP.nil, List.nil_sublist _⟩
  · skip
    refine TC.skip ?_
    refine TQ.thenC ?_
    refine TC.seq ?_
    refine TC.seq ?_
    refine TC.region ?_
    refine TL.pure (PV.move rfl) rfl (by decide) ?_
    refine TL.pure (PV.gtr rfl rfl) rfl (by decide) ?_
    refine TL.pure (PV.move rfl) rfl (by decide) ?_
    first | refine TL.splitD 18 rfl (fun h1 => ?_) (fun h1 => ?_) | refine TL.split 18 rfl (fun h1 => ?_) (fun h1 => ?_)
    · skip
      refine TL.skip rfl (fun k hk => by cases hk; decide) ?_
      refine TL.skip rfl (fun k hk => by cases hk; decide) ?_
      refine TL.pure (PV.pickT rfl rfl) rfl (by decide) ?_
      refine TL.nil ?_
      refine TQ.thenC ?_
      refine TC.condT rfl ?_
      refine TC.seq ?_
      refine TC.region ?_
      refine TL.pure (PV.build rfl Tb.zero_24 Tb.pl_24 rfl) rfl (by decide) ?_
      refine TL.storeAgg rfl rfl Tb.cells_24 (by repeat (first | exact Upd.head _ | apply Upd.tail | apply Upd.appR)) rfl rfl (by first | rfl | exact sv_one _ _ _) rfl rfl ?_
      refine TL.pure (PV.assign rfl) rfl (by decide) ?_
      refine TL.nil ?_
      refine TQ.thenC ?_
      refine TC.ret ?_
      refine TQ.thenR ?_
      refine TQ.retR rfl (Res.agg rfl Tb.agg_24 (by repeat (first | exact List.Mem.head _ | refine List.Mem.tail _ ?_ | refine List.mem_append_right _ ?_)) rfl (Res.tmp rfl Res.nil)) ?_
      simp only [tup]
      exact ⟨(none, []), by rw [tolI_b hbad (by omega)]; rfl, by rw [tolR_no (by rw [tolI_b hbad (by omega)]; decide)]; exact GrP.nil, List.nil_sublist _⟩
    · skip
      refine TL.pure (PV.move rfl) rfl (by decide) ?_
      refine TL.pure (PV.lss rfl rfl) rfl (by decide) ?_
      refine TL.pure (PV.pickF rfl rfl) rfl (by decide) ?_
      refine TL.nil ?_
      refine TQ.thenC ?_
      first | refine TC.condD rfl (fun hw1 => ?_) (fun hw1 => ?_) | refine TC.cond rfl (fun hw1 => ?_) (fun hw1 => ?_)
      · skip
        refine TC.seq ?_
        refine TC.region ?_
        refine TL.pure (PV.build rfl Tb.zero_24 Tb.pl_24 rfl) rfl (by decide) ?_
        refine TL.storeAgg rfl rfl Tb.cells_24 (by repeat (first | exact Upd.head _ | apply Upd.tail | apply Upd.appR)) rfl rfl (by first | rfl | exact sv_one _ _ _) rfl rfl ?_
        refine TL.pure (PV.assign rfl) rfl (by decide) ?_
        refine TL.nil ?_
        refine TQ.thenC ?_
        refine TC.ret ?_
        refine TQ.thenR ?_
        refine TQ.retR rfl (Res.agg rfl Tb.agg_24 (by repeat (first | exact List.Mem.head _ | refine List.Mem.tail _ ?_ | refine List.mem_append_right _ ?_)) rfl (Res.tmp rfl Res.nil)) ?_
        simp only [tup]
        exact ⟨(none, []), by rw [tolI_b hbad (by omega)]; rfl, by rw [tolR_no (by rw [tolI_b hbad (by omega)]; decide)]; exact GrP.nil, List.nil_sublist _⟩
      · skip
        refine TC.skip ?_
        refine TQ.thenC ?_
        refine TC.seq ?_
        have hv := vb_of hbad
        have hn9 := hv.n
        have hd9 := hv.d
        refine TC.region ?_
        refine TL.pure (PV.loadBox rfl Tb.agg_24 (by repeat (first | exact List.Mem.head _ | refine List.Mem.tail _ ?_ | refine List.mem_append_right _ ?_)) rfl) rfl (by decide) ?_
        refine TL.call rfl Tb.gofn_42 (fun a w hs => Copy_ok w _ _ _ (hr.new hs.new) (by omega) (fun j => Nat.le_trans (row_le hv j) (by omega))) rfl (by decide) (fun y9 hy9 => ?_)
        refine TL.alloc Tb.zero_24 rfl (by decide) (fun b2 hb2 => ?_)
        refine TL.storeAgg rfl rfl Tb.cells_24 (by repeat (first | exact Upd.head _ | apply Upd.tail | apply Upd.appR)) rfl rfl (gvP_all _) rfl rfl ?_
        refine TL.nil ?_
        refine TQ.thenC ?_
        refine TC.seq ?_
        refine TC.seq ?_
        have hyl := hy9.len
        refine TC.region ?_
        refine TL.pure (PV.assign rfl) rfl (by decide) ?_
        refine TL.nil ?_
        refine TQ.thenC ?_
        refine TC.block ?_
        refine TC.lit [(1, _), (4, _), (5, _), (7, _), (8, _)] (by repeat (first | exact True.intro | refine And.intro rfl ?_)) ?_
        refine TC.loopK [1, 4, 5, 7] (X := Nat) (fun c => c ≤ ls.length) (fun c => [(8, .int .i64 c)]) (fun c => (b2, Obj.cells #[gvP y9] 24 (0, 0)) :: (gbP y9 ++ (bl (mkR y9.2 (tolK ls i c 0)) ++ [(b1, Obj.cells #[.slice none 0 0] 24 (0, 0)), (b0, Obj.cells #[.slice p ls.length cap] 24 (0, 0))]))) (fun c => ls.length - c) 0 (Nat.zero_le _) (by repeat (first | exact True.intro | refine And.intro rfl ?_)) (by rw [← tol_zero, ← hy9.eq, mkR_self]; simp only [List.append_assoc]; exact List.Sublist.refl _) ?_
        intro c hc
        refine TC.lit [(1, _), (4, _), (5, _), (7, _), (8, _)] (by repeat (first | exact True.intro | refine And.intro rfl ?_)) ?_
        refine TC.seq ?_
        refine TC.seq ?_
        refine TC.region ?_
        refine TL.pure (PV.move rfl) rfl (by decide) ?_
        refine TL.pure (PV.fieldAddr rfl Tb.fo_24_0) rfl (by decide) ?_
        refine TL.pure (PV.load rfl Tb.one_22 (by repeat (first | exact List.Mem.head _ | refine List.Mem.tail _ ?_ | refine List.mem_append_right _ ?_)) rfl) rfl (by decide) ?_
        refine TL.pure (PV.lenG rfl hy9.ok Tb.sl_22) rfl (by decide) ?_
        refine TL.pure (PV.lss rfl rfl) rfl (by decide) ?_
        refine TL.nil ?_
        refine TQ.thenC ?_
        first | refine TC.condD rfl (fun h3 => ?_) (fun h3 => ?_) | refine TC.cond rfl (fun h3 => ?_) (fun h3 => ?_)
        · skip
          refine TC.skip ?_
          refine TQ.thenC ?_
          refine TC.seq ?_
          refine TC.block ?_
          refine TC.seq ?_
          refine TC.region ?_
          refine TL.pure (PV.assign rfl) rfl (by decide) ?_
          refine TL.nil ?_
          refine TQ.thenC ?_
          refine TC.block ?_
          refine TC.lit [(1, _), (4, _), (5, _), (7, _), (8, _), (9, _)] (by repeat (first | exact True.intro | refine And.intro rfl ?_)) ?_
          refine TC.loopK [1, 4, 5, 7, 8] (X := Nat) (fun r => r ≤ (ls.getD c []).length) (fun r => [(9, .int .i64 r)]) (fun r => (b2, Obj.cells #[gvP y9] 24 (0, 0)) :: (gbP y9 ++ (bl (mkR y9.2 (tolK ls i c r)) ++ [(b1, Obj.cells #[.slice none 0 0] 24 (0, 0)), (b0, Obj.cells #[.slice p ls.length cap] 24 (0, 0))]))) (fun r => (ls.getD c []).length - r) 0 (Nat.zero_le _) (by repeat (first | exact True.intro | refine And.intro rfl ?_)) (List.Sublist.refl _) ?_
          intro r hr9
          refine TC.lit [(1, _), (4, _), (5, _), (7, _), (8, _), (9, _)] (by repeat (first | exact True.intro | refine And.intro rfl ?_)) ?_
          refine TC.seq ?_
          refine TC.seq ?_
          obtain ⟨hro, hrl⟩ := row_at hy9 (show c < ls.length by omega)
          have hcd := hv.c c (by omega)
          refine TC.region ?_
          refine TL.pure (PV.move rfl) rfl (by decide) ?_
          refine TL.pure (PV.fieldAddr rfl Tb.fo_24_0) rfl (by decide) ?_
          refine TL.pure (PV.load rfl Tb.one_22 (by repeat (first | exact List.Mem.head _ | refine List.Mem.tail _ ?_ | refine List.mem_append_right _ ?_)) rfl) rfl (by decide) ?_
          refine TL.pure (PV.move rfl) rfl (by decide) ?_
          refine TL.pure (PV.indexG (j := c) rfl rfl hy9.ok Tb.elm_22 rfl (by omega)) rfl (by decide) ?_
          refine TL.pure (PV.loadGP (y := y9) (j := c) (v := gvI (y9.2.getD c (none, []))) rfl Tb.one_25 (fun yy hyy => by simp only [List.mem_append, List.mem_cons]; simp [hyy]) hy9.ok (by omega) rfl) rfl (by decide) ?_
          refine TL.pure (PV.lenG rfl hro Tb.sl_25) rfl (by decide) ?_
          refine TL.pure (PV.lss rfl rfl) rfl (by decide) ?_
          refine TL.nil ?_
          refine TQ.thenC ?_
          first | refine TC.condD rfl (fun h4 => ?_) (fun h4 => ?_) | refine TC.cond rfl (fun h4 => ?_) (fun h4 => ?_)
          · skip
            refine TC.skip ?_
            refine TQ.thenC ?_
            refine TC.seq ?_
            refine TC.block ?_
            have hw := hv.w c r
            obtain ⟨hg7, hm7⟩ := cellP hy9 (tol_shp hy9 i c r) (c := c) (by omega)
            obtain ⟨hro, hrl⟩ := row_at hy9 (show c < ls.length by omega)
            have hcd := hv.c c (by omega)
            refine TC.region ?_
            refine TL.pure (PV.fieldAddr rfl Tb.fo_24_0) rfl (by decide) ?_
            refine TL.pure (PV.load rfl Tb.one_22 (by repeat (first | exact List.Mem.head _ | refine List.Mem.tail _ ?_ | refine List.mem_append_right _ ?_)) rfl) rfl (by decide) ?_
            refine TL.pure (PV.move rfl) rfl (by decide) ?_
            refine TL.pure (PV.indexG (j := c) rfl rfl hy9.ok Tb.elm_22 rfl (by omega)) rfl (by decide) ?_
            refine TL.pure (PV.loadGP (y := y9) (j := c) (v := gvI (y9.2.getD c (none, []))) rfl Tb.one_25 (fun yy hyy => by simp only [List.mem_append, List.mem_cons]; simp [hyy]) hy9.ok (by omega) rfl) rfl (by decide) ?_
            refine TL.pure (PV.move rfl) rfl (by decide) ?_
            refine TL.pure (PV.indexG (j := r) rfl rfl hro Tb.elm_25 rfl (by omega)) rfl (by decide) ?_
            refine TL.pure (PV.loadGI (y := ((y9.2.getD c (none, [])).1, (tolK ls i c r).getD c [])) (j := r) (v := (ls.getD c []).getD r 0) rfl Tb.one_3 (fun yy hyy => by have := bl_mem hm7 yy hyy; simp only [List.mem_append, List.mem_cons]; simp [this]) hg7 (by show r < ((tolK ls i c r).getD c []).length; rw [tol_rlen (by omega)]; omega) (by show ((tolK ls i c r).getD c []).getD r 0 = _; rw [tol_at (by omega) (by omega), if_neg (by omega)]; omega)) rfl (by decide) ?_
            refine TL.pure (PV.move rfl) rfl (by decide) ?_
            refine TL.pure (PV.sub rfl rfl (by omega)) rfl (by decide) ?_
            refine TL.pure (PV.indexG (j := r) rfl rfl hro Tb.elm_25 rfl (by omega)) rfl (by decide) ?_
            refine TL.putL (l0 := ls) (yy := y9) (m := (tolK ls i c r)) (m' := (tolK ls i c (r + 1))) (c := c) (j := r) rfl rfl Tb.cells_3 hy9 (tol_shp hy9 i c r) (by omega) (by rw [tol_rlen (by omega)]; omega) (tol_put (by omega) (by omega) rfl) (by repeat (first | exact PutL.here _ | apply PutL.tail | apply PutL.app)) rfl rfl ?_
            refine TL.nil ?_
            refine TQ.blkN ?_
            refine TQ.thenC ?_
            refine TC.region ?_
            refine TL.pure (PV.move rfl) rfl (by decide) ?_
            refine TL.pure (PV.add rfl rfl (by omega)) rfl (by decide) ?_
            refine TL.pure (PV.assign rfl) rfl (by decide) ?_
            refine TL.nil ?_
            refine TQ.thenN ?_
            refine TQ.backK (r + 1) (by repeat (first | exact True.intro | refine And.intro rfl ?_)) (by repeat (first | exact True.intro | refine And.intro rfl ?_)) (List.Sublist.refl _) (by omega) (by omega)
          · skip
            refine TC.exit ?_
            refine TQ.thenE ?_
            refine TQ.thenE ?_
            refine TQ.blkS ?_
            refine TQ.blkN ?_
            refine TQ.thenC ?_
            refine TC.region ?_
            refine TL.pure (PV.move rfl) rfl (by decide) ?_
            refine TL.pure (PV.add rfl rfl (by omega)) rfl (by decide) ?_
            refine TL.pure (PV.assign rfl) rfl (by decide) ?_
            refine TL.nil ?_
            refine TQ.thenN ?_
            refine TQ.backK (c + 1) (by repeat (first | exact True.intro | refine And.intro rfl ?_)) (by repeat (first | exact True.intro | refine And.intro rfl ?_)) (by rw [← tol_next (show r = (ls.getD c []).length by omega)]; exact List.Sublist.refl _) (by omega) (by omega)
        · skip
          refine TC.exit ?_
          refine TQ.thenE ?_
          refine TQ.thenE ?_
          refine TQ.blkS ?_
          refine TQ.thenC ?_
          refine TC.seq ?_
          refine TC.seq ?_
          have hc7 : c = ls.length := by omega
          subst hc7
          refine TC.region ?_
          refine TL.pure (PV.loadBox rfl Tb.agg_24 (by repeat (first | exact List.Mem.head _ | refine List.Mem.tail _ ?_ | refine List.mem_append_right _ ?_)) rfl) rfl (by decide) ?_
          refine TL.call rfl Tb.gofn_22 (fun a w hs => (by rw [val_tol hy9 i]; exact rvalidate_ok w _ _ (tolL ls i) (ls_tol hy9 i hs.new (fun yy hyy => by simp only [List.mem_append, List.mem_cons]; simp [hyy]) (fun yy hyy => by simp only [List.mem_append, List.mem_cons]; simp [hyy])))) rfl (by decide) (fun _ _ => ?_)
          refine TL.pure (PV.neq rfl rfl) rfl (by decide) ?_
          refine TL.nil ?_
          refine TQ.thenC ?_
          first | refine TC.condD rfl (fun hbad2 => ?_) (fun hbad2 => ?_) | refine TC.cond rfl (fun hbad2 => ?_) (fun hbad2 => ?_)
          · skip
            refine TC.seq ?_
            refine TC.region ?_
            refine TL.pure (PV.build rfl Tb.zero_24 Tb.pl_24 rfl) rfl (by decide) ?_
            refine TL.storeAgg rfl rfl Tb.cells_24 (by repeat (first | exact Upd.head _ | apply Upd.tail | apply Upd.appR)) rfl rfl (by first | rfl | exact sv_one _ _ _) rfl rfl ?_
            refine TL.pure (PV.assign rfl) rfl (by decide) ?_
            refine TL.nil ?_
            refine TQ.thenC ?_
            refine TC.ret ?_
            refine TQ.thenR ?_
            refine TQ.retR rfl (Res.agg rfl Tb.agg_24 (by repeat (first | exact List.Mem.head _ | refine List.Mem.tail _ ?_ | refine List.mem_append_right _ ?_)) rfl (Res.tmp rfl Res.nil)) ?_
            simp only [tup]
            exact ⟨(none, []), by rw [tolI_c hbad (by omega) hbad2]; rfl, by rw [tolR_no (by rw [tolI_c hbad (by omega) hbad2]; decide)]; exact GrP.nil, List.nil_sublist _⟩
          · skip
            refine TC.skip ?_
            refine TQ.thenC ?_
            refine TC.seq ?_
            refine TC.region ?_
            refine TL.pure (PV.loadBox rfl Tb.agg_24 (by repeat (first | exact List.Mem.head _ | refine List.Mem.tail _ ?_ | refine List.mem_append_right _ ?_)) rfl) rfl (by decide) ?_
            refine TL.storeAgg rfl rfl Tb.cells_24 (by repeat (first | exact Upd.head _ | apply Upd.tail | apply Upd.appR)) rfl rfl (gvP_all _) rfl rfl ?_
            refine TL.pure (PV.assign rfl) rfl (by decide) ?_
            refine TL.nil ?_
            refine TQ.thenC ?_
            refine TC.ret ?_
            refine TQ.retR rfl (Res.agg rfl Tb.agg_24 (by repeat (first | exact List.Mem.head _ | refine List.Mem.tail _ ?_ | refine List.mem_append_right _ ?_)) rfl (Res.tmp rfl Res.nil)) ?_
            simp only [tup]
            have h0 := tolI_d hbad (show -50 ≤ i ∧ i ≤ 50 by omega) hbad2
            exact ⟨(y9.1, mkR y9.2 (tolL ls i)), by rw [h0, gvP_mkR], by rw [tolR_ok h0]; exact hy9.mkR (tol_shp hy9 i _ _), by rw [gbP_mkR (tol_shp hy9 i _ _)]; exact List.Sublist.cons _ (List.Sublist.append_left (List.sublist_append_left _ _) _)⟩

end Go.Proofs.Ytfgjojoipbbacaa
