/- The latest and the earliest dates, by the document: the statement's own function. -/
import Derived.Test.YtenalmddoljhoaaWJ
import Derived.Test.YtenalmddoljhoaaOp
namespace Go.Proofs.Ytenalmddoljhoaa
open Go.Sx Go.RowKit

theorem Walk.one {rs : List Bd} {j : Nat} (hj : j < rs.length) : Walk rs (eA rs j) 1 (eB rs j) (eM rs j) := by
  have := Walk.step (rs := rs) (a := eA rs j) j .nil hj rfl
  rw [Int.zero_add] at this
  exact this
theorem flip_at {rs : List Bd} {j : Nat} (hj : j < rs.length) : (rs.map flipR).getD j default = flipR (rs.getD j default) := by simp [List.getD, hj]
theorem Walk.rev {rs : List Bd} {a k b : Nat} {s : Int} (h : Walk rs a k b s) : Walk (rs.map flipR) b k a s := by
  induction h with
  | nil => exact .nil
  | @step k c s j hw hj he ih =>
    have hj' : j < (rs.map flipR).length := by simpa using hj
    have h1 := Walk.one hj'
    have e1 : eA (rs.map flipR) j = eB rs j := by show ((rs.map flipR).getD j default).a.toNat = _; rw [flip_at hj]; rfl
    have e2 : eB (rs.map flipR) j = eA rs j := by show ((rs.map flipR).getD j default).b.toNat = _; rw [flip_at hj]; rfl
    have e3 : eM (rs.map flipR) j = eM rs j := by show ((rs.map flipR).getD j default).m = _; rw [flip_at hj]; rfl
    rw [e1, e2, e3, he] at h1
    have := h1.app ih
    rwa [Nat.add_comm, Int.add_comm] at this
theorem flip_dok {n : Int} {rs : List Bd} (hv : Valid n rs) (hd : dOk n rs = true) : dOk n (rs.map flipR) = true := by
  obtain ⟨d, hf⟩ := feas_of hd
  have hp := hv.pts
  have hv2 := flip_valid hv
  have hN : Valid ((n.toNat : Nat) : Int) (rs.map flipR) := by rw [Int.toNat_of_nonneg (by omega)]; exact hv2
  refine decide_eq_true ⟨hv2, keep_low hN (by omega) (d := fun x => -d x) (fun j hj => ?_)⟩
  have hj' : j < rs.length := by simpa using hj
  have := hf j hj'
  show -d ((rs.map flipR).getD j default).b.toNat ≤ -d ((rs.map flipR).getD j default).a.toNat + ((rs.map flipR).getD j default).m
  rw [flip_at hj']
  simp only [flipR]
  simp only [eA, eB, eM] at this
  omega
theorem flip_walk {N : Nat} {rs : List Bd} (hd : dOk (N : Int) rs = true) {a b : Nat} (ha : a < N) (hb : b < N) : wK N (rs.map flipR) a b = wK N rs b a ∧ (wK N rs b a = true → wS N (rs.map flipR) a b = wS N rs b a) := by
  have hv := dok_valid hd
  have hv2 := flip_valid hv
  have hd2 := flip_dok hv hd
  have i1 := in_of hv
  have i2 := in_of hv2
  rw [Int.toNat_natCast] at i1 i2
  obtain ⟨d1, f1⟩ := feas_of hd
  obtain ⟨d2, f2⟩ := feas_of hd2
  have go : wK N rs b a = true → wK N (rs.map flipR) a b = true ∧ wS N (rs.map flipR) a b ≤ wS N rs b a := by
    intro h
    obtain ⟨k, _, hw⟩ := walkN_sound i1 hb N a h
    exact walkN_min i2 f2 ha hw.rev
  have back : wK N (rs.map flipR) a b = true → wK N rs b a = true ∧ wS N rs b a ≤ wS N (rs.map flipR) a b := by
    intro h
    obtain ⟨k, _, hw⟩ := walkN_sound i2 ha N b h
    have := hw.rev
    rw [flip_flip] at this
    exact walkN_min i1 f1 hb this
  refine ⟨?_, fun h => ?_⟩
  · rw [Bool.eq_iff_iff]
    exact ⟨fun h => (back h).1, fun h => (go h).1⟩
  · exact Int.le_antisymm (go h).2 (back (go h).1).2
theorem flip_pof {n : Int} {rs : List Bd} {a : Int} (hv : Valid n rs) : pofI n (rs.map flipR) [a] = pofI n rs [a] := by
  have hv1 : validateI n rs = 0 := hv
  have hv2 : validateI n (rs.map flipR) = 0 := flip_valid hv
  have e : layI n (rs.map flipR) [a] = layI n rs [a] := by unfold layI; rw [hv1, hv2]
  have ed : dOk n (rs.map flipR) = dOk n rs := by
    rw [Bool.eq_iff_iff]
    refine ⟨fun h => ?_, flip_dok hv⟩
    have := flip_dok (flip_valid hv) h
    rwa [flip_flip] at this
  unfold pofI
  rw [e, ed]
def negM (r : Mk) : Mk := ⟨r.k, -r.d⟩
def mkE (N : Nat) (rs : List Bd) (a b : Nat) : Mk := ⟨wK N rs b a, if wK N rs b a = true then -wS N rs b a else 0⟩
def earL (n : Int) (rs : List Bd) (a : Int) : List Mk := if pofI n rs [a] = 0 then (List.range n.toNat).map (mkE n.toNat rs a.toNat) else []
theorem earL_no {n : Int} {rs : List Bd} {a : Int} (h : pofI n rs [a] ≠ 0) : earL n rs a = [] := if_neg h
theorem earL_E {N : Nat} {rs : List Bd} {a : Int} (h : pofI (N : Int) rs [a] = 0) : earL (N : Int) rs a = (List.range N).map (mkE N rs a.toNat) := by
  unfold earL
  rw [if_pos h, Int.toNat_natCast]
theorem earL_lat {n : Int} {rs : List Bd} {a : Int} (hv : Valid n rs) : (latL n (rs.map flipR) a).map negM = earL n rs a := by
  by_cases h : pofI n rs [a] = 0
  · have hp := hv.pts
    have hr := pof_rng1 h
    obtain ⟨N, rfl⟩ : ∃ N : Nat, n = N := ⟨n.toNat, by omega⟩
    rw [latL_W (by rw [flip_pof hv]; exact h), earL_E h, List.map_map]
    refine List.map_congr_left fun b hb => ?_
    have hw := flip_walk (pof_dok h) (a := a.toNat) (b := b) (by omega) (List.mem_range.1 hb)
    simp only [Function.comp, negM, mkW, mkE, hw.1]
    by_cases hk : wK N rs b a.toNat = true
    · rw [if_pos hk, if_pos hk, hw.2 hk]
    · rw [if_neg hk, if_neg hk]; rfl
  · rw [latL_no (by rw [flip_pof hv]; exact h), earL_no h]; rfl
theorem me_y {N : Nat} {rs : List Bd} {a b : Nat} {k : Bool} (hk : k = true) (h : k = wK N rs b a) : (⟨k, -wS N rs b a⟩ : Mk) = mkE N rs a b := by unfold mkE; rw [← h, if_pos hk]
theorem me_n {N : Nat} {rs : List Bd} {a b : Nat} {k : Bool} (hk : k = false) (h : k = wK N rs b a) : (⟨k, 0⟩ : Mk) = mkE N rs a b := by unfold mkE; rw [← h, if_neg (by rw [hk]; decide)]
def nM (L : List Mk) (k : Nat) : List Mk := (List.range L.length).map fun j => if j < k then negM (L.getD j default) else L.getD j default
theorem nM_len (L : List Mk) (k : Nat) : (nM L k).length = L.length := by simp [nM]
theorem nM_zero (L : List Mk) : nM L 0 = L := by
  apply List.ext_getElem
  · simp [nM]
  · intro j h1 h2
    simp [nM, List.getD, h2]
theorem nM_all (L : List Mk) : nM L L.length = L.map negM := by
  apply List.ext_getElem
  · simp [nM]
  · intro j h1 h2
    have h3 : j < L.length := by simpa using h2
    simp [nM, List.getD, h3]
theorem nM_get {L : List Mk} {k : Nat} (hk : k < L.length) : (nM L k).getD k default = L.getD k default := by simp [nM, List.getD, hk]
theorem nM_set {L : List Mk} {k : Nat} (h : k < L.length) : (nM L k).set k (negM (L.getD k default)) = nM L (k + 1) := by
  apply List.ext_getElem
  · simp [nM]
  · intro j h1 h2
    simp only [List.getElem_set, nM, List.getElem_map, List.getElem_range]
    by_cases e : k = j
    · subst e; simp
    · rw [if_neg e]
      by_cases e2 : j < k
      · rw [if_pos e2, if_pos (by omega)]
      · rw [if_neg e2, if_neg (by omega)]
theorem lat_bd {n : Int} {rs : List Bd} {a : Int} {j : Nat} (hj : j < (latL n rs a).length) : -1000000000 ≤ ((latL n rs a).getD j default).d ∧ ((latL n rs a).getD j default).d ≤ 1000000000 := by
  by_cases h : pofI n rs [a] = 0
  · have hv := dok_valid (pof_dok h)
    have hl : latL n rs a = (List.range n.toNat).map (mkF (plainB n.toNat rs) a) := if_pos h
    rw [hl] at hj ⊢
    have hj' : j < n.toNat := by simpa using hj
    have e : ((List.range n.toNat).map (mkF (plainB n.toNat rs) a)).getD j default = mkF (plainB n.toNat rs) a j := by simp [List.getD, hj']
    rw [e]
    exact fndM_bd (fun r hr => (plain_pb hv n.toNat (Nat.le_refl _)).2 r hr) a j
  · rw [latL_no h] at hj; simp at hj
theorem latestS (w : World) (n : Int) (h : HD) (K : Nat) (rs : List Bd) (hK : rs.length = K) (ho : goB h rs) (hr : BdsAt w (gp h) rs) (aa : Int) :
    Calls Try.prog 35 #[.agg #[.int .i64 n, gval h K], .int .i64 aa] w (Post (X := HD) (fun h => .tuple #[gval h (latL n rs aa).length, .int .i64 (pofI n rs [aa])]) (fun h => goR MR h (latL n rs aa)) (fun h => gbR MR 87 h (latL n rs aa)) w) := by
  have hc := Latest_ok w n (gp h) (gc h) rs hr aa
  rw [gvB_eq ho hK]; subst hK
  exact hc
theorem mk_few {n : Int} {rs : List Bd} {a : Int} : (latL n rs a).length ≤ 100000 ∧ (earL n rs a).length ≤ 100000 := by
  by_cases h : pofI n rs [a] = 0
  · have hp := (dok_valid (pof_dok h)).pts
    have e1 : latL n rs a = (List.range n.toNat).map (mkF (plainB n.toNat rs) a) := if_pos h
    have e2 : earL n rs a = (List.range n.toNat).map (mkE n.toNat rs a.toNat) := if_pos h
    rw [e1, e2]
    simp
    omega
  · rw [latL_no h, earL_no h]; simp
theorem neg_len {n : Int} {rs : List Bd} {a : Int} (hv : Valid n rs) : (latL n (rs.map flipR) a).length = (earL n rs a).length := by rw [← earL_lat hv, List.length_map]


set_option maxRecDepth 100000 in
set_option maxHeartbeats 4000000 in
theorem rLatest_ok (w0 : World) (n : Int) (p : Option Addr) (cap : Nat) (rs : List Bd) (hr : BdsAt w0 p rs) (aa : Int) :
    Calls Try.prog 36 #[cv n p rs.length cap, .int .i64 aa] w0 (Post (X := HD) (fun h => .tuple #[gval h (latL n rs aa).length, .int .i64 (pofI n rs [aa])]) (fun h => goR MR h (latL n rs aa)) (fun h => gbR MR 87 h (latL n rs aa)) w0) := by
  refine calls Try.func36 rfl (n := 55) rfl (by simp) ?_
  refine TC.seq ?_
  refine TC.region ?_
  refine TL.box rfl rfl (by decide) (fun b0 hb0 => ?_)
  refine TL.pure (PV.assign rfl) rfl (by decide) ?_
  refine TL.pure (PV.assign rfl) rfl (by decide) ?_
  refine TL.nil ?_
  refine TQ.thenC ?_
  refine TC.seq ?_
  refine TC.seq ?_
  refine TC.region ?_
  refine TL.pure (PV.loadBox rfl Tb.agg_24 (by repeat (first | exact List.Mem.head _ | refine fB_T ?_ _ | refine List.Mem.tail _ ?_ | refine List.mem_append_right _ ?_)) rfl) rfl (by decide) ?_
  refine TL.pure (PV.move rfl) rfl (by decide) ?_
  refine TL.pure (PV.move rfl) rfl (by decide) ?_
  refine TL.call rfl Tb.gofn_71 (fun a w hs => layered_ok w _ _ _ _ (hr.new hs.new) aa aa) rfl (by decide) (fun _ _ => ?_)
  refine TL.pure (PV.assign rfl) rfl (by decide) ?_
  refine TL.nil ?_
  refine TQ.thenC ?_
  refine TC.seq ?_
  refine TC.region ?_
  refine TL.pure (PV.move rfl) rfl (by decide) ?_
  refine TL.pure (PV.neq rfl rfl) rfl (by decide) ?_
  refine TL.nil ?_
  refine TQ.thenC ?_
  first | refine TC.condD rfl (fun hbad2 => ?_) (fun hbad2 => ?_) | refine TC.cond rfl (fun hbad2 => ?_) (fun hbad2 => ?_)
  · skip
    refine TC.seq ?_
    refine TC.region ?_
    refine TL.pure (PV.move rfl) rfl (by decide) ?_
    refine TL.pure (PV.assign rfl) rfl (by decide) ?_
    refine TL.pure (PV.assign rfl) rfl (by decide) ?_
    refine TL.nil ?_
    refine TQ.thenC ?_
    refine TC.ret ?_
    refine TQ.thenR ?_
    refine TQ.retE2 rfl rfl rfl ?_
    have hb1 : pofI n rs [aa] ≠ 0 := by rw [← pof_one]; exact hbad2
    exact ⟨none, by rw [pof_one, latL_no hb1]; rfl, by rw [latL_no hb1]; exact ⟨rfl, rfl⟩, List.nil_sublist _⟩
  · skip
    refine TC.skip ?_
    refine TQ.thenC ?_
    refine TC.seq ?_
    have e0 := Decidable.of_not_not hbad2
    rw [pof_one] at e0
    have hdk := pof_dok e0
    have hv := dok_valid hdk
    have hp := hv.pts
    have hra := pof_rng1 e0
    obtain ⟨N, rfl⟩ : ∃ N : Nat, n = N := ⟨n.toNat, by omega⟩
    refine TC.region ?_
    refine TL.pure (PV.loadBox rfl Tb.agg_24 (by repeat (first | exact List.Mem.head _ | refine fB_T ?_ _ | refine List.Mem.tail _ ?_ | refine List.mem_append_right _ ?_)) rfl) rfl (by decide) ?_
    refine TL.pure (PV.fieldAddr rfl Tb.fo_24_0) rfl (by decide) ?_
    refine TL.pure (PV.load rfl Tb.one_3 (by repeat (first | exact List.Mem.head _ | refine fB_T ?_ _ | refine List.Mem.tail _ ?_ | refine List.mem_append_right _ ?_)) rfl) rfl (by decide) ?_
    refine TL.call rfl Tb.gofn_72 (fun a w hs => walksN_ok w N p cap rs (hr.new hs.new) hv N (by omega)) rfl (by decide) (fun xw hxw => ?_)
    refine TL.pure (PV.move rfl) rfl (by decide) ?_
    refine TL.pure (PV.extract rfl rfl) rfl (by decide) ?_
    refine TL.pure (PV.extract rfl rfl) rfl (by decide) ?_
    refine TL.pure (PV.assign rfl) rfl (by decide) ?_
    refine TL.pure (PV.assign rfl) rfl (by decide) ?_
    refine TL.nil ?_
    refine TQ.thenC ?_
    refine TC.seq ?_
    refine TC.region ?_
    refine TL.pure (PV.assign rfl) rfl (by decide) ?_
    refine TL.nil ?_
    refine TQ.thenC ?_
    refine TC.seq ?_
    refine TC.seq ?_
    refine TC.region ?_
    refine TL.pure (PV.assign rfl) rfl (by decide) ?_
    refine TL.nil ?_
    refine TQ.thenC ?_
    refine TC.block ?_
    refine TC.lit [(1, _), (2, _), (4, _), (5, _), (7, _), (8, _), (9, _), (10, _)] (by repeat (first | exact True.intro | refine And.intro rfl ?_)) ?_
    refine TC.loopK [1, 2, 4, 5, 7, 8] (X := Nat × HD × List Mk) (fun v => LS (mkW N rs aa.toNat) N v.1 v.2) (fun v => [(10, .int .i64 v.1), (9, gval v.2.1 v.2.2.length)]) (fun v => gbR MR 87 v.2.1 v.2.2 ++ (fB xw.2.2 [(xw.1, Obj.cells (fS N xw.2.2).toArray 25 (0, 0)), (xw.2.1, Obj.cells (fK N xw.2.2).toArray 83 (0, 0))] ++ [(b0, Obj.cells #[.int .i64 N, .slice p rs.length cap] 24 (0, 0))])) (fun v => N - v.1) (0, none, []) (LS.zero _ _) (by repeat (first | exact True.intro | refine And.intro rfl ?_)) (List.Sublist.refl _) ?_
    intro v hv2
    refine TC.lit [(1, _), (2, _), (4, _), (5, _), (7, _), (8, _), (9, _), (10, _)] (by repeat (first | exact True.intro | refine And.intro rfl ?_)) ?_
    refine TC.seq ?_
    refine TC.seq ?_
    refine TC.region ?_
    refine TL.pure (PV.move rfl) rfl (by decide) ?_
    refine TL.pure (PV.fieldAddr rfl Tb.fo_24_0) rfl (by decide) ?_
    refine TL.pure (PV.load rfl Tb.one_3 (by repeat (first | exact List.Mem.head _ | refine fB_T ?_ _ | refine List.Mem.tail _ ?_ | refine List.mem_append_right _ ?_)) rfl) rfl (by decide) ?_
    refine TL.pure (PV.lss rfl rfl) rfl (by decide) ?_
    refine TL.nil ?_
    refine TQ.thenC ?_
    first | refine TC.condD rfl (fun hlt => ?_) (fun hlt => ?_) | refine TC.cond rfl (fun hlt => ?_) (fun hlt => ?_)
    · skip
      refine TC.skip ?_
      refine TQ.thenC ?_
      refine TC.seq ?_
      refine TC.block ?_
      refine TC.seq ?_
      have hvl := hv2.len
      have hvN := hv2.le
      refine TC.region ?_
      refine TL.pure (PV.move rfl) rfl (by decide) ?_
      refine TL.pure (PV.move rfl) rfl (by decide) ?_
      refine TL.pure (PV.index1 (j := aa.toNat) rfl rfl Tb.elm_80 (Int.toNat_of_nonneg (by omega)).symm (by omega)) rfl (by decide) ?_
      refine TL.pure (PV.loadG' rfl Tb.one_83 (by repeat (first | exact List.mem_append_left _ (fB_T (.tail _ (.head _)) _) | refine List.Mem.tail _ ?_ | refine List.mem_append_right _ ?_)) (hxw.getK (a := aa.toNat) (by omega))) rfl (by decide) ?_
      refine TL.pure (PV.move rfl) rfl (by decide) ?_
      refine TL.pure (PV.indexG (j := v.1) rfl rfl (hxw.okK _ (hxw.mem (a := aa.toNat) (by omega))) Tb.elm_83 rfl (by omega)) rfl (by decide) ?_
      refine TL.pure (PV.loadG' rfl Tb.one_4 (by repeat (first | exact List.mem_append_left _ (fB_K (hxw.mem (a := aa.toNat) (by omega)) _ (mem_gblk (hxw.okK _ (hxw.mem (a := aa.toNat) (by omega))) (by omega))) | refine List.Mem.tail _ ?_ | refine List.mem_append_right _ ?_)) (bval_at (xs := (walkN N rs (aa.toNat) N).kn) (by rw [(hxw.at_ (aa.toNat) (by omega)).2]) (by rw [(WOk.walk N rs (aa.toNat) N).kl]; omega))) rfl (by decide) ?_
      refine TL.pure (PV.build (cs := #[.bool ((walkN N rs aa.toNat N).kn.getD v.1 false), .int .i64 0]) rfl Tb.zero_87 Tb.pl_87 rfl) rfl (by decide) ?_
      refine TL.alloc Tb.zero_87 rfl (by decide) (fun b1 hb1 => ?_)
      refine TL.storeAgg rfl rfl Tb.cells_87 (by repeat (first | exact Upd.head _ | apply Upd.tail | apply Upd.appR)) rfl rfl rfl rfl rfl ?_
      refine TL.nil ?_
      refine TQ.thenC ?_
      refine TC.seq ?_
      refine TC.seq ?_
      refine TC.region ?_
      refine TL.pure (PV.fieldAddr rfl Tb.fo_87_0) rfl (by decide) ?_
      refine TL.pure (PV.load rfl Tb.one_4 (by repeat (first | exact List.Mem.head _ | refine fB_T ?_ _ | refine List.Mem.tail _ ?_ | refine List.mem_append_right _ ?_)) rfl) rfl (by decide) ?_
      refine TL.nil ?_
      refine TQ.thenC ?_
      first | refine TC.condD rfl (fun hk => ?_) (fun hk => ?_) | refine TC.cond rfl (fun hk => ?_) (fun hk => ?_)
      · skip
        let rx : Mk := ⟨((walkN N rs aa.toNat N).kn.getD v.1 false), ((walkN N rs aa.toNat N).sm.getD v.1 0)⟩
        refine TC.region ?_
        refine TL.pure (PV.move rfl) rfl (by decide) ?_
        refine TL.pure (PV.move rfl) rfl (by decide) ?_
        refine TL.pure (PV.index1 (j := aa.toNat) rfl rfl Tb.elm_51 (Int.toNat_of_nonneg (by omega)).symm (by omega)) rfl (by decide) ?_
        refine TL.pure (PV.loadG' rfl Tb.one_25 (by repeat (first | exact List.mem_append_left _ (fB_T (.head _) _) | refine List.Mem.tail _ ?_ | refine List.mem_append_right _ ?_)) (hxw.getS (a := aa.toNat) (by omega))) rfl (by decide) ?_
        refine TL.pure (PV.move rfl) rfl (by decide) ?_
        refine TL.pure (PV.indexG (j := v.1) rfl rfl (hxw.okS _ (hxw.mem (a := aa.toNat) (by omega))) Tb.elm_25 rfl (by omega)) rfl (by decide) ?_
        refine TL.pure (PV.loadG' rfl Tb.one_3 (by repeat (first | exact List.mem_append_left _ (fB_S (hxw.mem (a := aa.toNat) (by omega)) _ (mem_gblk (hxw.okS _ (hxw.mem (a := aa.toNat) (by omega))) (by omega))) | refine List.Mem.tail _ ?_ | refine List.mem_append_right _ ?_)) (ival_at (xs := (walkN N rs (aa.toNat) N).sm) (by rw [(hxw.at_ (aa.toNat) (by omega)).1]) (by rw [(WOk.walk N rs (aa.toNat) N).sl]; omega))) rfl (by decide) ?_
        refine TL.pure (PV.fieldAddr rfl Tb.fo_87_1) rfl (by decide) ?_
        refine TL.store rfl rfl Tb.cells_3 rfl (by repeat (first | exact Upd.head _ | apply Upd.tail | apply Upd.appR)) (by first | decide | (simp; done) | (simp; omega) | omega) rfl rfl ?_
        refine TL.nil ?_
        refine TQ.thenC ?_
        refine TC.region ?_
        refine TL.pure (PV.move rfl) rfl (by decide) ?_
        refine TL.pure (PV.loadBox rfl Tb.agg_87 (by repeat (first | exact List.Mem.head _ | refine fB_T ?_ _ | refine List.Mem.tail _ ?_ | refine List.mem_append_right _ ?_)) rfl) rfl (by decide) ?_
        refine TL.buildSlice (cs := (MR.cells rx).toArray) rfl Tb.sl_46 Tb.zi_87 (by decide) (fill_md rx) (by decide) rfl (by decide) (fun b5 hb5 => ?_)
        refine TL.appendRec (R := MR) (h0 := v.2.1) (ys := v.2.2) (r := rx) Tb.sl_46 Tb.zi_87 rfl rfl rfl (by repeat (first | exact List.Mem.head _ | refine List.Mem.tail _ ?_ | refine List.mem_append_right _ ?_)) hv2.ok (by repeat (first | exact TakeH.here _ _ _ _ | apply TakeH.tail | apply TakeH.app)) (by omega) (by omega) rfl (by decide) (fun h9 ho9 => ?_)
        refine TL.pure (PV.assign rfl) rfl (by decide) ?_
        refine TL.nil ?_
        refine TQ.blkN ?_
        refine TQ.thenC ?_
        refine TC.region ?_
        refine TL.pure (PV.move rfl) rfl (by decide) ?_
        refine TL.pure (PV.add rfl rfl (by omega)) rfl (by decide) ?_
        refine TL.pure (PV.assign rfl) rfl (by decide) ?_
        refine TL.nil ?_
        refine TQ.thenN ?_
        refine TQ.backK (v.1 + 1, _, _) (by repeat (first | exact True.intro | refine And.intro rfl ?_)) (by repeat (first | exact True.intro | refine And.intro rfl ?_)) (by repeat (first | exact List.Sublist.slnil | exact List.nil_sublist _ | exact List.Sublist.refl _ | exact List.sublist_append_left _ _ | refine List.Sublist.cons_cons _ ?_ | refine (List.append_sublist_append_left _).2 ?_ | refine List.Sublist.cons _ ?_ | refine List.Sublist.trans ?_ (List.sublist_append_right _ _))) (by first | exact hv2.put (by omega) (mk_y (k := ((walkN N rs aa.toNat N).kn.getD v.1 false)) hk rfl) ho9 | exact hv2.put (by omega) (mk_n (k := ((walkN N rs aa.toNat N).kn.getD v.1 false)) hk rfl) ho9) (by simp only; omega)
      · skip
        let rx : Mk := ⟨((walkN N rs aa.toNat N).kn.getD v.1 false), 0⟩
        refine TC.skip ?_
        refine TQ.thenC ?_
        refine TC.region ?_
        refine TL.pure (PV.move rfl) rfl (by decide) ?_
        refine TL.pure (PV.loadBox rfl Tb.agg_87 (by repeat (first | exact List.Mem.head _ | refine fB_T ?_ _ | refine List.Mem.tail _ ?_ | refine List.mem_append_right _ ?_)) rfl) rfl (by decide) ?_
        refine TL.buildSlice (cs := (MR.cells rx).toArray) rfl Tb.sl_46 Tb.zi_87 (by decide) (fill_md rx) (by decide) rfl (by decide) (fun b5 hb5 => ?_)
        refine TL.appendRec (R := MR) (h0 := v.2.1) (ys := v.2.2) (r := rx) Tb.sl_46 Tb.zi_87 rfl rfl rfl (by repeat (first | exact List.Mem.head _ | refine List.Mem.tail _ ?_ | refine List.mem_append_right _ ?_)) hv2.ok (by repeat (first | exact TakeH.here _ _ _ _ | apply TakeH.tail | apply TakeH.app)) (by omega) (by omega) rfl (by decide) (fun h9 ho9 => ?_)
        refine TL.pure (PV.assign rfl) rfl (by decide) ?_
        refine TL.nil ?_
        refine TQ.blkN ?_
        refine TQ.thenC ?_
        refine TC.region ?_
        refine TL.pure (PV.move rfl) rfl (by decide) ?_
        refine TL.pure (PV.add rfl rfl (by omega)) rfl (by decide) ?_
        refine TL.pure (PV.assign rfl) rfl (by decide) ?_
        refine TL.nil ?_
        refine TQ.thenN ?_
        refine TQ.backK (v.1 + 1, _, _) (by repeat (first | exact True.intro | refine And.intro rfl ?_)) (by repeat (first | exact True.intro | refine And.intro rfl ?_)) (by repeat (first | exact List.Sublist.slnil | exact List.nil_sublist _ | exact List.Sublist.refl _ | exact List.sublist_append_left _ _ | refine List.Sublist.cons_cons _ ?_ | refine (List.append_sublist_append_left _).2 ?_ | refine List.Sublist.cons _ ?_ | refine List.Sublist.trans ?_ (List.sublist_append_right _ _))) (by first | exact hv2.put (by omega) (mk_y (k := ((walkN N rs aa.toNat N).kn.getD v.1 false)) hk rfl) ho9 | exact hv2.put (by omega) (mk_n (k := ((walkN N rs aa.toNat N).kn.getD v.1 false)) hk rfl) ho9) (by simp only; omega)
    · skip
      refine TC.exit ?_
      refine TQ.thenE ?_
      refine TQ.thenE ?_
      refine TQ.blkS ?_
      refine TQ.thenC ?_
      refine TC.seq ?_
      refine TC.region ?_
      refine TL.pure (PV.move rfl) rfl (by decide) ?_
      refine TL.pure (PV.assign rfl) rfl (by decide) ?_
      refine TL.pure (PV.assign rfl) rfl (by decide) ?_
      refine TL.nil ?_
      refine TQ.thenC ?_
      refine TC.ret ?_
      refine TQ.retE2 rfl rfl rfl ?_
      have hkN : v.1 = N := by have := hv2.le; omega
      have hl9 := latL_W e0
      have hve := hv2.eq
      rw [hkN, ← hl9] at hve
      exact ⟨v.2.1, by rw [← hve, e0], by rw [← hve]; exact hv2.ok, by rw [← hve]; exact List.sublist_append_left _ _⟩

set_option maxRecDepth 100000 in
set_option maxHeartbeats 4000000 in
theorem rEarliest_ok (w0 : World) (n : Int) (p : Option Addr) (cap : Nat) (rs : List Bd) (hr : BdsAt w0 p rs) (aa : Int) :
    Calls Try.prog 38 #[cv n p rs.length cap, .int .i64 aa] w0 (Post (X := HD) (fun h => .tuple #[gval h (earL n rs aa).length, .int .i64 (pofI n rs [aa])]) (fun h => goR MR h (earL n rs aa)) (fun h => gbR MR 87 h (earL n rs aa)) w0) := by
  refine calls Try.func38 rfl (n := 56) rfl (by simp) ?_
  refine TC.seq ?_
  refine TC.region ?_
  refine TL.box rfl rfl (by decide) (fun b0 hb0 => ?_)
  refine TL.pure (PV.assign rfl) rfl (by decide) ?_
  refine TL.pure (PV.assign rfl) rfl (by decide) ?_
  refine TL.nil ?_
  refine TQ.thenC ?_
  refine TC.seq ?_
  refine TC.seq ?_
  refine TC.region ?_
  refine TL.pure (PV.loadBox rfl Tb.agg_24 (by repeat (first | exact List.Mem.head _ | refine fB_T ?_ _ | refine List.Mem.tail _ ?_ | refine List.mem_append_right _ ?_)) rfl) rfl (by decide) ?_
  refine TL.pure (PV.move rfl) rfl (by decide) ?_
  refine TL.pure (PV.move rfl) rfl (by decide) ?_
  refine TL.call rfl Tb.gofn_71 (fun a w hs => layered_ok w _ _ _ _ (hr.new hs.new) aa aa) rfl (by decide) (fun _ _ => ?_)
  refine TL.pure (PV.assign rfl) rfl (by decide) ?_
  refine TL.nil ?_
  refine TQ.thenC ?_
  refine TC.seq ?_
  refine TC.region ?_
  refine TL.pure (PV.move rfl) rfl (by decide) ?_
  refine TL.pure (PV.neq rfl rfl) rfl (by decide) ?_
  refine TL.nil ?_
  refine TQ.thenC ?_
  first | refine TC.condD rfl (fun hbad2 => ?_) (fun hbad2 => ?_) | refine TC.cond rfl (fun hbad2 => ?_) (fun hbad2 => ?_)
  · skip
    refine TC.seq ?_
    refine TC.region ?_
    refine TL.pure (PV.move rfl) rfl (by decide) ?_
    refine TL.pure (PV.assign rfl) rfl (by decide) ?_
    refine TL.pure (PV.assign rfl) rfl (by decide) ?_
    refine TL.nil ?_
    refine TQ.thenC ?_
    refine TC.ret ?_
    refine TQ.thenR ?_
    refine TQ.retE2 rfl rfl rfl ?_
    have hb1 : pofI n rs [aa] ≠ 0 := by rw [← pof_one]; exact hbad2
    exact ⟨none, by rw [pof_one, earL_no hb1]; rfl, by rw [earL_no hb1]; exact ⟨rfl, rfl⟩, List.nil_sublist _⟩
  · skip
    refine TC.skip ?_
    refine TQ.thenC ?_
    refine TC.seq ?_
    have e0 := Decidable.of_not_not hbad2
    rw [pof_one] at e0
    have hdk := pof_dok e0
    have hv := dok_valid hdk
    have hp := hv.pts
    have hra := pof_rng1 e0
    obtain ⟨N, rfl⟩ : ∃ N : Nat, n = N := ⟨n.toNat, by omega⟩
    refine TC.region ?_
    refine TL.pure (PV.loadBox rfl Tb.agg_24 (by repeat (first | exact List.Mem.head _ | refine fB_T ?_ _ | refine List.Mem.tail _ ?_ | refine List.mem_append_right _ ?_)) rfl) rfl (by decide) ?_
    refine TL.pure (PV.fieldAddr rfl Tb.fo_24_0) rfl (by decide) ?_
    refine TL.pure (PV.load rfl Tb.one_3 (by repeat (first | exact List.Mem.head _ | refine fB_T ?_ _ | refine List.Mem.tail _ ?_ | refine List.mem_append_right _ ?_)) rfl) rfl (by decide) ?_
    refine TL.call rfl Tb.gofn_72 (fun a w hs => walksN_ok w N p cap rs (hr.new hs.new) hv N (by omega)) rfl (by decide) (fun xw hxw => ?_)
    refine TL.pure (PV.move rfl) rfl (by decide) ?_
    refine TL.pure (PV.extract rfl rfl) rfl (by decide) ?_
    refine TL.pure (PV.extract rfl rfl) rfl (by decide) ?_
    refine TL.pure (PV.assign rfl) rfl (by decide) ?_
    refine TL.pure (PV.assign rfl) rfl (by decide) ?_
    refine TL.nil ?_
    refine TQ.thenC ?_
    refine TC.seq ?_
    refine TC.region ?_
    refine TL.pure (PV.assign rfl) rfl (by decide) ?_
    refine TL.nil ?_
    refine TQ.thenC ?_
    refine TC.seq ?_
    refine TC.seq ?_
    refine TC.region ?_
    refine TL.pure (PV.assign rfl) rfl (by decide) ?_
    refine TL.nil ?_
    refine TQ.thenC ?_
    refine TC.block ?_
    refine TC.lit [(1, _), (2, _), (4, _), (5, _), (7, _), (8, _), (9, _), (10, _)] (by repeat (first | exact True.intro | refine And.intro rfl ?_)) ?_
    refine TC.loopK [1, 2, 4, 5, 7, 8] (X := Nat × HD × List Mk) (fun v => LS (mkE N rs aa.toNat) N v.1 v.2) (fun v => [(10, .int .i64 v.1), (9, gval v.2.1 v.2.2.length)]) (fun v => gbR MR 87 v.2.1 v.2.2 ++ (fB xw.2.2 [(xw.1, Obj.cells (fS N xw.2.2).toArray 25 (0, 0)), (xw.2.1, Obj.cells (fK N xw.2.2).toArray 83 (0, 0))] ++ [(b0, Obj.cells #[.int .i64 N, .slice p rs.length cap] 24 (0, 0))])) (fun v => N - v.1) (0, none, []) (LS.zero _ _) (by repeat (first | exact True.intro | refine And.intro rfl ?_)) (List.Sublist.refl _) ?_
    intro v hv2
    refine TC.lit [(1, _), (2, _), (4, _), (5, _), (7, _), (8, _), (9, _), (10, _)] (by repeat (first | exact True.intro | refine And.intro rfl ?_)) ?_
    refine TC.seq ?_
    refine TC.seq ?_
    refine TC.region ?_
    refine TL.pure (PV.move rfl) rfl (by decide) ?_
    refine TL.pure (PV.fieldAddr rfl Tb.fo_24_0) rfl (by decide) ?_
    refine TL.pure (PV.load rfl Tb.one_3 (by repeat (first | exact List.Mem.head _ | refine fB_T ?_ _ | refine List.Mem.tail _ ?_ | refine List.mem_append_right _ ?_)) rfl) rfl (by decide) ?_
    refine TL.pure (PV.lss rfl rfl) rfl (by decide) ?_
    refine TL.nil ?_
    refine TQ.thenC ?_
    first | refine TC.condD rfl (fun hlt => ?_) (fun hlt => ?_) | refine TC.cond rfl (fun hlt => ?_) (fun hlt => ?_)
    · skip
      refine TC.skip ?_
      refine TQ.thenC ?_
      refine TC.seq ?_
      refine TC.block ?_
      refine TC.seq ?_
      have hvl := hv2.len
      have hvN := hv2.le
      have m1 := walk_sm hv (by omega) (v.1) (aa.toNat)
      refine TC.region ?_
      refine TL.pure (PV.move rfl) rfl (by decide) ?_
      refine TL.pure (PV.move rfl) rfl (by decide) ?_
      refine TL.pure (PV.index1 (j := v.1) rfl rfl Tb.elm_80 rfl (by omega)) rfl (by decide) ?_
      refine TL.pure (PV.loadG' rfl Tb.one_83 (by repeat (first | exact List.mem_append_left _ (fB_T (.tail _ (.head _)) _) | refine List.Mem.tail _ ?_ | refine List.mem_append_right _ ?_)) (hxw.getK (a := v.1) (by omega))) rfl (by decide) ?_
      refine TL.pure (PV.move rfl) rfl (by decide) ?_
      refine TL.pure (PV.indexG (j := aa.toNat) rfl rfl (hxw.okK _ (hxw.mem (a := v.1) (by omega))) Tb.elm_83 (Int.toNat_of_nonneg (by omega)).symm (by omega)) rfl (by decide) ?_
      refine TL.pure (PV.loadG' rfl Tb.one_4 (by repeat (first | exact List.mem_append_left _ (fB_K (hxw.mem (a := v.1) (by omega)) _ (mem_gblk (hxw.okK _ (hxw.mem (a := v.1) (by omega))) (by omega))) | refine List.Mem.tail _ ?_ | refine List.mem_append_right _ ?_)) (bval_at (xs := (walkN N rs (v.1) N).kn) (by rw [(hxw.at_ (v.1) (by omega)).2]) (by rw [(WOk.walk N rs (v.1) N).kl]; omega))) rfl (by decide) ?_
      refine TL.pure (PV.build (cs := #[.bool ((walkN N rs v.1 N).kn.getD aa.toNat false), .int .i64 0]) rfl Tb.zero_87 Tb.pl_87 rfl) rfl (by decide) ?_
      refine TL.alloc Tb.zero_87 rfl (by decide) (fun b1 hb1 => ?_)
      refine TL.storeAgg rfl rfl Tb.cells_87 (by repeat (first | exact Upd.head _ | apply Upd.tail | apply Upd.appR)) rfl rfl rfl rfl rfl ?_
      refine TL.nil ?_
      refine TQ.thenC ?_
      refine TC.seq ?_
      refine TC.seq ?_
      refine TC.region ?_
      refine TL.pure (PV.fieldAddr rfl Tb.fo_87_0) rfl (by decide) ?_
      refine TL.pure (PV.load rfl Tb.one_4 (by repeat (first | exact List.Mem.head _ | refine fB_T ?_ _ | refine List.Mem.tail _ ?_ | refine List.mem_append_right _ ?_)) rfl) rfl (by decide) ?_
      refine TL.nil ?_
      refine TQ.thenC ?_
      first | refine TC.condD rfl (fun hk => ?_) (fun hk => ?_) | refine TC.cond rfl (fun hk => ?_) (fun hk => ?_)
      · skip
        let rx : Mk := ⟨((walkN N rs v.1 N).kn.getD aa.toNat false), -((walkN N rs v.1 N).sm.getD aa.toNat 0)⟩
        refine TC.region ?_
        refine TL.pure (PV.move rfl) rfl (by decide) ?_
        refine TL.pure (PV.move rfl) rfl (by decide) ?_
        refine TL.pure (PV.index1 (j := v.1) rfl rfl Tb.elm_51 rfl (by omega)) rfl (by decide) ?_
        refine TL.pure (PV.loadG' rfl Tb.one_25 (by repeat (first | exact List.mem_append_left _ (fB_T (.head _) _) | refine List.Mem.tail _ ?_ | refine List.mem_append_right _ ?_)) (hxw.getS (a := v.1) (by omega))) rfl (by decide) ?_
        refine TL.pure (PV.move rfl) rfl (by decide) ?_
        refine TL.pure (PV.indexG (j := aa.toNat) rfl rfl (hxw.okS _ (hxw.mem (a := v.1) (by omega))) Tb.elm_25 (Int.toNat_of_nonneg (by omega)).symm (by omega)) rfl (by decide) ?_
        refine TL.pure (PV.loadG' rfl Tb.one_3 (by repeat (first | exact List.mem_append_left _ (fB_S (hxw.mem (a := v.1) (by omega)) _ (mem_gblk (hxw.okS _ (hxw.mem (a := v.1) (by omega))) (by omega))) | refine List.Mem.tail _ ?_ | refine List.mem_append_right _ ?_)) (ival_at (xs := (walkN N rs (v.1) N).sm) (by rw [(hxw.at_ (v.1) (by omega)).1]) (by rw [(WOk.walk N rs (v.1) N).sl]; omega))) rfl (by decide) ?_
        refine TL.pure (PV.neg rfl (by omega)) rfl (by decide) ?_
        refine TL.pure (PV.fieldAddr rfl Tb.fo_87_1) rfl (by decide) ?_
        refine TL.store rfl rfl Tb.cells_3 rfl (by repeat (first | exact Upd.head _ | apply Upd.tail | apply Upd.appR)) (by first | decide | (simp; done) | (simp; omega) | omega) rfl rfl ?_
        refine TL.nil ?_
        refine TQ.thenC ?_
        refine TC.region ?_
        refine TL.pure (PV.move rfl) rfl (by decide) ?_
        refine TL.pure (PV.loadBox rfl Tb.agg_87 (by repeat (first | exact List.Mem.head _ | refine fB_T ?_ _ | refine List.Mem.tail _ ?_ | refine List.mem_append_right _ ?_)) rfl) rfl (by decide) ?_
        refine TL.buildSlice (cs := (MR.cells rx).toArray) rfl Tb.sl_46 Tb.zi_87 (by decide) (fill_md rx) (by decide) rfl (by decide) (fun b5 hb5 => ?_)
        refine TL.appendRec (R := MR) (h0 := v.2.1) (ys := v.2.2) (r := rx) Tb.sl_46 Tb.zi_87 rfl rfl rfl (by repeat (first | exact List.Mem.head _ | refine List.Mem.tail _ ?_ | refine List.mem_append_right _ ?_)) hv2.ok (by repeat (first | exact TakeH.here _ _ _ _ | apply TakeH.tail | apply TakeH.app)) (by omega) (by omega) rfl (by decide) (fun h9 ho9 => ?_)
        refine TL.pure (PV.assign rfl) rfl (by decide) ?_
        refine TL.nil ?_
        refine TQ.blkN ?_
        refine TQ.thenC ?_
        refine TC.region ?_
        refine TL.pure (PV.move rfl) rfl (by decide) ?_
        refine TL.pure (PV.add rfl rfl (by omega)) rfl (by decide) ?_
        refine TL.pure (PV.assign rfl) rfl (by decide) ?_
        refine TL.nil ?_
        refine TQ.thenN ?_
        refine TQ.backK (v.1 + 1, _, _) (by repeat (first | exact True.intro | refine And.intro rfl ?_)) (by repeat (first | exact True.intro | refine And.intro rfl ?_)) (by repeat (first | exact List.Sublist.slnil | exact List.nil_sublist _ | exact List.Sublist.refl _ | exact List.sublist_append_left _ _ | refine List.Sublist.cons_cons _ ?_ | refine (List.append_sublist_append_left _).2 ?_ | refine List.Sublist.cons _ ?_ | refine List.Sublist.trans ?_ (List.sublist_append_right _ _))) (by first | exact hv2.put (by omega) (me_y (k := ((walkN N rs v.1 N).kn.getD aa.toNat false)) hk rfl) ho9 | exact hv2.put (by omega) (me_n (k := ((walkN N rs v.1 N).kn.getD aa.toNat false)) hk rfl) ho9) (by simp only; omega)
      · skip
        let rx : Mk := ⟨((walkN N rs v.1 N).kn.getD aa.toNat false), 0⟩
        refine TC.skip ?_
        refine TQ.thenC ?_
        refine TC.region ?_
        refine TL.pure (PV.move rfl) rfl (by decide) ?_
        refine TL.pure (PV.loadBox rfl Tb.agg_87 (by repeat (first | exact List.Mem.head _ | refine fB_T ?_ _ | refine List.Mem.tail _ ?_ | refine List.mem_append_right _ ?_)) rfl) rfl (by decide) ?_
        refine TL.buildSlice (cs := (MR.cells rx).toArray) rfl Tb.sl_46 Tb.zi_87 (by decide) (fill_md rx) (by decide) rfl (by decide) (fun b5 hb5 => ?_)
        refine TL.appendRec (R := MR) (h0 := v.2.1) (ys := v.2.2) (r := rx) Tb.sl_46 Tb.zi_87 rfl rfl rfl (by repeat (first | exact List.Mem.head _ | refine List.Mem.tail _ ?_ | refine List.mem_append_right _ ?_)) hv2.ok (by repeat (first | exact TakeH.here _ _ _ _ | apply TakeH.tail | apply TakeH.app)) (by omega) (by omega) rfl (by decide) (fun h9 ho9 => ?_)
        refine TL.pure (PV.assign rfl) rfl (by decide) ?_
        refine TL.nil ?_
        refine TQ.blkN ?_
        refine TQ.thenC ?_
        refine TC.region ?_
        refine TL.pure (PV.move rfl) rfl (by decide) ?_
        refine TL.pure (PV.add rfl rfl (by omega)) rfl (by decide) ?_
        refine TL.pure (PV.assign rfl) rfl (by decide) ?_
        refine TL.nil ?_
        refine TQ.thenN ?_
        refine TQ.backK (v.1 + 1, _, _) (by repeat (first | exact True.intro | refine And.intro rfl ?_)) (by repeat (first | exact True.intro | refine And.intro rfl ?_)) (by repeat (first | exact List.Sublist.slnil | exact List.nil_sublist _ | exact List.Sublist.refl _ | exact List.sublist_append_left _ _ | refine List.Sublist.cons_cons _ ?_ | refine (List.append_sublist_append_left _).2 ?_ | refine List.Sublist.cons _ ?_ | refine List.Sublist.trans ?_ (List.sublist_append_right _ _))) (by first | exact hv2.put (by omega) (me_y (k := ((walkN N rs v.1 N).kn.getD aa.toNat false)) hk rfl) ho9 | exact hv2.put (by omega) (me_n (k := ((walkN N rs v.1 N).kn.getD aa.toNat false)) hk rfl) ho9) (by simp only; omega)
    · skip
      refine TC.exit ?_
      refine TQ.thenE ?_
      refine TQ.thenE ?_
      refine TQ.blkS ?_
      refine TQ.thenC ?_
      refine TC.seq ?_
      refine TC.region ?_
      refine TL.pure (PV.move rfl) rfl (by decide) ?_
      refine TL.pure (PV.assign rfl) rfl (by decide) ?_
      refine TL.pure (PV.assign rfl) rfl (by decide) ?_
      refine TL.nil ?_
      refine TQ.thenC ?_
      refine TC.ret ?_
      refine TQ.retE2 rfl rfl rfl ?_
      have hkN : v.1 = N := by have := hv2.le; omega
      have hl9 := earL_E e0
      have hve := hv2.eq
      rw [hkN, ← hl9] at hve
      exact ⟨v.2.1, by rw [← hve, e0], by rw [← hve]; exact hv2.ok, by rw [← hve]; exact List.sublist_append_left _ _⟩

set_option maxRecDepth 100000 in
set_option maxHeartbeats 4000000 in
theorem Earliest_ok (w0 : World) (n : Int) (p : Option Addr) (cap : Nat) (rs : List Bd) (hr : BdsAt w0 p rs) (hl : rs.length ≤ 1000) (aa : Int) :
    Calls Try.prog 37 #[cv n p rs.length cap, .int .i64 aa] w0 (Post (X := HD) (fun h => .tuple #[gval h (earL n rs aa).length, .int .i64 (pofI n rs [aa])]) (fun h => goR MR h (earL n rs aa)) (fun h => gbR MR 87 h (earL n rs aa)) w0) := by
  refine calls Try.func37 rfl (n := 42) rfl (by simp) ?_
  refine TC.seq ?_
  refine TC.region ?_
  refine TL.box rfl rfl (by decide) (fun b0 hb0 => ?_)
  refine TL.pure (PV.assign rfl) rfl (by decide) ?_
  refine TL.pure (PV.assign rfl) rfl (by decide) ?_
  refine TL.nil ?_
  refine TQ.thenC ?_
  refine TC.seq ?_
  refine TC.region ?_
  refine TL.pure (PV.loadBox rfl Tb.agg_24 (by repeat (first | exact List.Mem.head _ | refine fB_T ?_ _ | refine List.Mem.tail _ ?_ | refine List.mem_append_right _ ?_)) rfl) rfl (by decide) ?_
  refine TL.call rfl Tb.gofn_54 (fun a w hs => turn_ok w n p cap rs (hr.new hs.new) hl) rfl (by decide) (fun xa hxa => ?_)
  refine TL.pure (PV.move rfl) rfl (by decide) ?_
  refine TL.pure (PV.extract rfl rfl) rfl (by decide) ?_
  refine TL.pure (PV.extract rfl rfl) rfl (by decide) ?_
  refine TL.alloc Tb.zero_24 rfl (by decide) (fun b1 hb1 => ?_)
  refine TL.storeAgg rfl rfl Tb.cells_24 (by repeat (first | exact Upd.head _ | apply Upd.tail | apply Upd.appR)) rfl rfl (by first | rfl | exact sv_one _ _ _) rfl rfl ?_
  refine TL.pure (PV.assign rfl) rfl (by decide) ?_
  refine TL.nil ?_
  refine TQ.thenC ?_
  refine TC.seq ?_
  refine TC.seq ?_
  refine TC.region ?_
  refine TL.pure (PV.move rfl) rfl (by decide) ?_
  refine TL.pure (PV.neq rfl rfl) rfl (by decide) ?_
  refine TL.nil ?_
  refine TQ.thenC ?_
  first | refine TC.condD rfl (fun hbad => ?_) (fun hbad => ?_) | refine TC.cond rfl (fun hbad => ?_) (fun hbad => ?_)
  · skip
    refine TC.seq ?_
    refine TC.region ?_
    refine TL.pure (PV.move rfl) rfl (by decide) ?_
    refine TL.pure (PV.assign rfl) rfl (by decide) ?_
    refine TL.pure (PV.assign rfl) rfl (by decide) ?_
    refine TL.nil ?_
    refine TQ.thenC ?_
    refine TC.ret ?_
    refine TQ.thenR ?_
    refine TQ.retE2 rfl rfl rfl ?_
    have hb1 : pofI n rs [aa] = validateI n rs := by have e : layI n rs [aa] = validateI n rs := if_pos hbad
                                                     unfold pofI; rw [e, if_pos hbad]
    exact ⟨none, by rw [earL_no (by rw [hb1]; exact hbad), hb1]; rfl, by rw [earL_no (by rw [hb1]; exact hbad)]; exact ⟨rfl, rfl⟩, List.nil_sublist _⟩
  · skip
    refine TC.skip ?_
    refine TQ.thenC ?_
    refine TC.seq ?_
    have hv := vof hbad
    have q1 : xa.1 = n := by rw [hxa.num, if_pos (show validateI n rs = 0 from hv)]
    have q2 : xa.2.2 = rs.map flipR := by rw [hxa.eq, if_pos (show validateI n rs = 0 from hv)]
    refine TC.region ?_
    refine TL.pure (PV.loadBox rfl Tb.agg_24 (by repeat (first | exact List.Mem.head _ | refine fB_T ?_ _ | refine List.Mem.tail _ ?_ | refine List.mem_append_right _ ?_)) rfl) rfl (by decide) ?_
    refine TL.pure (PV.move rfl) rfl (by decide) ?_
    refine TL.call rfl Tb.gofn_35 (fun a w hs => latestS w xa.1 xa.2.1 _ xa.2.2 rfl hxa.ok (BdsAt.s hs.new (fun yy hyy => by repeat (first | exact hyy | exact List.mem_append_left _ hyy | refine List.mem_append_right _ ?_ | refine List.Mem.tail _ ?_)) hxa.ok) aa) rfl (by decide) (fun h9 hh9 => ?_)
    refine TL.pure (PV.move rfl) rfl (by decide) ?_
    refine TL.pure (PV.extract rfl rfl) rfl (by decide) ?_
    refine TL.pure (PV.extract rfl rfl) rfl (by decide) ?_
    refine TL.pure (PV.assign rfl) rfl (by decide) ?_
    refine TL.pure (PV.assign rfl) rfl (by decide) ?_
    refine TL.nil ?_
    refine TQ.thenC ?_
    refine TC.seq ?_
    refine TC.seq ?_
    rw [q1, q2] at hh9 ⊢
    refine TC.region ?_
    refine TL.pure (PV.move rfl) rfl (by decide) ?_
    refine TL.pure (PV.lenG rfl hh9 Tb.sl_46) rfl (by decide) ?_
    refine TL.pure (PV.move rfl) rfl (by decide) ?_
    refine TL.nil ?_
    refine TQ.thenC ?_
    refine TC.block ?_
    refine TC.lit [(4, _), (5, _), (7, _), (8, _), (25, _), (26, _)] (by repeat (first | exact True.intro | refine And.intro rfl ?_)) ?_
    refine TC.loopK [4, 5, 7, 8, 25] (X := Nat) (fun k => k ≤ (latL n (rs.map flipR) aa).length) (fun k => [(26, .int .i64 k)]) (fun k => gbR MR 87 h9 (nM (latL n (rs.map flipR) aa) k) ++ []) (fun k => (latL n (rs.map flipR) aa).length - k) 0 (Nat.zero_le _) (by repeat (first | exact True.intro | refine And.intro rfl ?_)) (by rw [nM_zero]; repeat (first | exact List.Sublist.slnil | exact List.nil_sublist _ | exact List.Sublist.refl _ | exact List.sublist_append_left _ _ | refine List.Sublist.cons_cons _ ?_ | refine (List.append_sublist_append_left _).2 ?_ | refine List.Sublist.cons _ ?_ | refine List.Sublist.trans ?_ (List.sublist_append_right _ _))) ?_
    intro k hk
    refine TC.lit [(4, _), (5, _), (7, _), (8, _), (25, _), (26, _)] (by repeat (first | exact True.intro | refine And.intro rfl ?_)) ?_
    refine TC.seq ?_
    refine TC.region ?_
    refine TL.pure (PV.lss rfl rfl) rfl (by decide) ?_
    refine TL.nil ?_
    refine TQ.thenC ?_
    refine TC.seq ?_
    first | refine TC.condD rfl (fun hlt => ?_) (fun hlt => ?_) | refine TC.cond rfl (fun hlt => ?_) (fun hlt => ?_)
    · skip
      refine TC.skip ?_
      refine TQ.thenC ?_
      refine TC.seq ?_
      refine TC.block ?_
      refine TC.seq ?_
      refine TC.region ?_
      refine TL.pure (PV.move rfl) rfl (by decide) ?_
      refine TL.pure (PV.assign rfl) rfl (by decide) ?_
      refine TL.nil ?_
      refine TQ.thenC ?_
      have hb9 := lat_bd (n := n) (rs := rs.map flipR) (a := aa) (j := k) (by omega)
      have hgk := nM_get (L := (latL n (rs.map flipR) aa)) (k := k) (by omega)
      refine TC.region ?_
      refine TL.pure (PV.move rfl) rfl (by decide) ?_
      refine TL.pure (PV.move rfl) rfl (by decide) ?_
      refine TL.pure (PV.move rfl) rfl (by decide) ?_
      refine TL.pure (PV.move rfl) rfl (by decide) ?_
      refine TL.pure (PV.indexG (j := k) rfl rfl hh9 Tb.elm_46 rfl (by omega)) rfl (by decide) ?_
      refine TL.pure (PV.fieldAddr rfl Tb.fo_87_1) rfl (by decide) ?_
      refine TL.pure (PV.loadRecF (R := MR) (e := 87) (h := h9) (l := nM (latL n (rs.map flipR) aa) k) (j := k) (f := 1) (v := .int .i64 ((latL n (rs.map flipR) aa).getD k default).d) rfl Tb.one_3 (fun yy hyy => by repeat (first | exact hyy | exact List.mem_append_left _ hyy | refine List.mem_append_right _ ?_ | refine List.Mem.tail _ ?_)) (goR_len hh9 (nM_len _ _)) (by rw [nM_len]; omega) (by decide) (by rw [hgk]; rfl)) rfl (by decide) ?_
      refine TL.pure (PV.neg rfl (by omega)) rfl (by decide) ?_
      refine TL.pure (PV.indexG (j := k) rfl rfl hh9 Tb.elm_46 rfl (by omega)) rfl (by decide) ?_
      refine TL.pure (PV.fieldAddr rfl Tb.fo_87_1) rfl (by decide) ?_
      refine TL.putCell (R := MR) (h := h9) (l0 := nM (latL n (rs.map flipR) aa) k) (j := k) (f := 1) (r := negM ((latL n (rs.map flipR) aa).getD k default)) rfl rfl Tb.cells_3 rfl (goR_len hh9 (nM_len _ _)) (by rw [hgk]; rfl) (by repeat (first | exact PutH.here _ _ _ _ | apply PutH.tail | apply PutH.app)) (by rw [nM_len]; omega) (by decide) rfl rfl ?_
      rw [nM_set (by omega)]
      refine TL.nil ?_
      refine TQ.blkN ?_
      refine TQ.thenC ?_
      have hfew := (mk_few (n := n) (rs := rs.map flipR) (a := aa)).1
      refine TC.region ?_
      refine TL.pure (PV.add rfl rfl (by omega)) rfl (by decide) ?_
      refine TL.pure (PV.move rfl) rfl (by decide) ?_
      refine TL.nil ?_
      refine TQ.thenN ?_
      refine TQ.backK (k + 1) (by repeat (first | exact True.intro | refine And.intro rfl ?_)) (by repeat (first | exact True.intro | refine And.intro rfl ?_)) (List.Sublist.refl _) (by omega) (by omega)
    · skip
      refine TC.exit ?_
      refine TQ.thenE ?_
      refine TQ.thenE ?_
      refine TQ.blkS ?_
      refine TQ.thenC ?_
      refine TC.seq ?_
      refine TC.region ?_
      refine TL.pure (PV.move rfl) rfl (by decide) ?_
      refine TL.pure (PV.move rfl) rfl (by decide) ?_
      refine TL.pure (PV.assign rfl) rfl (by decide) ?_
      refine TL.pure (PV.assign rfl) rfl (by decide) ?_
      refine TL.nil ?_
      refine TQ.thenC ?_
      refine TC.ret ?_
      refine TQ.retE2 rfl rfl rfl ?_
      have hkN : k = (latL n (rs.map flipR) aa).length := by omega
      rw [hkN, nM_all, earL_lat hv]
      exact ⟨h9, by rw [flip_pof hv, neg_len hv], by rw [← earL_lat hv]; exact goR_len hh9 (List.length_map _), List.sublist_append_left _ _⟩

set_option maxRecDepth 100000 in
set_option maxHeartbeats 4000000 in
theorem coreMarks_ok (w0 : World) (n : Int) (p : Option Addr) (cap : Nat) (rs : List Bd) (hr : BdsAt w0 p rs) (aa : Int) :
    Calls Try.prog 9 #[cv n p rs.length cap, .int .i64 aa] w0 (Post (X := Unit) (fun _ => .bool true) (fun _ => True) (fun _ => []) w0) := by
  refine calls Try.func9 rfl (n := 61) rfl (by simp) ?_
  refine TC.seq ?_
  refine TC.region ?_
  refine TL.box rfl rfl (by decide) (fun b0 hb0 => ?_)
  refine TL.pure (PV.assign rfl) rfl (by decide) ?_
  refine TL.nil ?_
  refine TQ.thenC ?_
  refine TC.seq ?_
  refine TC.seq ?_
  refine TC.region ?_
  refine TL.pure (PV.loadBox rfl Tb.agg_24 (by repeat (first | exact List.Mem.head _ | refine fB_T ?_ _ | refine List.Mem.tail _ ?_ | refine List.mem_append_right _ ?_)) rfl) rfl (by decide) ?_
  refine TL.call rfl Tb.gofn_17 (fun a w hs => long_ok w _ _ _ _ (hr.new hs.new)) rfl (by decide) (fun _ _ => ?_)
  refine TL.nil ?_
  refine TQ.thenC ?_
  first | refine TC.condD rfl (fun hlong => ?_) (fun hlong => ?_) | refine TC.cond rfl (fun hlong => ?_) (fun hlong => ?_)
  · skip
    refine TC.seq ?_
    refine TC.region ?_
    refine TL.call rfl Tb.gofn_18 (fun a w hs => knownOk w) rfl (by decide) (fun _ _ => ?_)
    refine TL.pure (PV.assign rfl) rfl (by decide) ?_
    refine TL.nil ?_
    refine TQ.thenC ?_
    refine TC.ret ?_
    refine TQ.thenR ?_
    refine TQ.retE1 rfl rfl ?_
    first | exact ⟨(), rfl, trivial, List.nil_sublist _⟩ | (exfalso; simp_all; done)
  · skip
    refine TC.skip ?_
    refine TQ.thenC ?_
    refine TC.seq ?_
    refine TC.region ?_
    refine TL.pure (PV.loadBox rfl Tb.agg_24 (by repeat (first | exact List.Mem.head _ | refine fB_T ?_ _ | refine List.Mem.tail _ ?_ | refine List.mem_append_right _ ?_)) rfl) rfl (by decide) ?_
    refine TL.pure (PV.move rfl) rfl (by decide) ?_
    refine TL.call rfl Tb.gofn_35 (fun a w hs => Latest_ok w _ _ _ _ (hr.new hs.new) aa) rfl (by decide) (fun h1 o1 => ?_)
    refine TL.pure (PV.move rfl) rfl (by decide) ?_
    refine TL.pure (PV.extract rfl rfl) rfl (by decide) ?_
    refine TL.pure (PV.extract rfl rfl) rfl (by decide) ?_
    refine TL.pure (PV.assign rfl) rfl (by decide) ?_
    refine TL.pure (PV.assign rfl) rfl (by decide) ?_
    refine TL.nil ?_
    refine TQ.thenC ?_
    refine TC.seq ?_
    refine TC.region ?_
    refine TL.pure (PV.loadBox rfl Tb.agg_24 (by repeat (first | exact List.Mem.head _ | refine fB_T ?_ _ | refine List.Mem.tail _ ?_ | refine List.mem_append_right _ ?_)) rfl) rfl (by decide) ?_
    refine TL.pure (PV.move rfl) rfl (by decide) ?_
    refine TL.call rfl Tb.gofn_36 (fun a w hs => rLatest_ok w _ _ _ _ (hr.new hs.new) aa) rfl (by decide) (fun h2 o2 => ?_)
    refine TL.pure (PV.move rfl) rfl (by decide) ?_
    refine TL.pure (PV.extract rfl rfl) rfl (by decide) ?_
    refine TL.pure (PV.extract rfl rfl) rfl (by decide) ?_
    refine TL.pure (PV.assign rfl) rfl (by decide) ?_
    refine TL.pure (PV.assign rfl) rfl (by decide) ?_
    refine TL.nil ?_
    refine TQ.thenC ?_
    refine TC.seq ?_
    refine TC.region ?_
    refine TL.pure (PV.loadBox rfl Tb.agg_24 (by repeat (first | exact List.Mem.head _ | refine fB_T ?_ _ | refine List.Mem.tail _ ?_ | refine List.mem_append_right _ ?_)) rfl) rfl (by decide) ?_
    refine TL.pure (PV.move rfl) rfl (by decide) ?_
    refine TL.call rfl Tb.gofn_37 (fun a w hs => Earliest_ok w _ _ _ _ (hr.new hs.new) (by omega) aa) rfl (by decide) (fun h3 o3 => ?_)
    refine TL.pure (PV.move rfl) rfl (by decide) ?_
    refine TL.pure (PV.extract rfl rfl) rfl (by decide) ?_
    refine TL.pure (PV.extract rfl rfl) rfl (by decide) ?_
    refine TL.pure (PV.assign rfl) rfl (by decide) ?_
    refine TL.pure (PV.assign rfl) rfl (by decide) ?_
    refine TL.nil ?_
    refine TQ.thenC ?_
    refine TC.seq ?_
    refine TC.region ?_
    refine TL.pure (PV.loadBox rfl Tb.agg_24 (by repeat (first | exact List.Mem.head _ | refine fB_T ?_ _ | refine List.Mem.tail _ ?_ | refine List.mem_append_right _ ?_)) rfl) rfl (by decide) ?_
    refine TL.pure (PV.move rfl) rfl (by decide) ?_
    refine TL.call rfl Tb.gofn_38 (fun a w hs => rEarliest_ok w _ _ _ _ (hr.new hs.new) aa) rfl (by decide) (fun h4 o4 => ?_)
    refine TL.pure (PV.move rfl) rfl (by decide) ?_
    refine TL.pure (PV.extract rfl rfl) rfl (by decide) ?_
    refine TL.pure (PV.extract rfl rfl) rfl (by decide) ?_
    refine TL.pure (PV.assign rfl) rfl (by decide) ?_
    refine TL.pure (PV.assign rfl) rfl (by decide) ?_
    refine TL.nil ?_
    refine TQ.thenC ?_
    refine TC.seq ?_
    refine TC.region ?_
    refine TL.pure (PV.move rfl) rfl (by decide) ?_
    refine TL.pure (PV.move rfl) rfl (by decide) ?_
    refine TL.call rfl Tb.gofn_39 (fun a w hs => sameMG o1 o2 (RecsAt.s hs.new (fun yy hyy => by repeat (first | exact hyy | exact List.mem_append_left _ hyy | refine List.mem_append_right _ ?_ | refine List.Mem.tail _ ?_)) o1) (RecsAt.s hs.new (fun yy hyy => by repeat (first | exact hyy | exact List.mem_append_left _ hyy | refine List.mem_append_right _ ?_ | refine List.Mem.tail _ ?_)) o2) mk_few.1 mk_few.1) rfl (by decide) (fun _ _ => ?_)
    refine TL.pure (PV.move rfl) rfl (by decide) ?_
    first | refine TL.splitD 43 rfl (fun h1 => ?_) (fun h1 => ?_) | refine TL.split 43 rfl (fun h1 => ?_) (fun h1 => ?_)
    · skip
      refine TL.pure (PV.move rfl) rfl (by decide) ?_
      refine TL.pure (PV.move rfl) rfl (by decide) ?_
      refine TL.pure (PV.eql rfl rfl) rfl (by decide) ?_
      refine TL.pure (PV.pickT rfl rfl) rfl (by decide) ?_
      refine TL.pure (PV.move rfl) rfl (by decide) ?_
      first | refine TL.splitD 48 rfl (fun h2 => ?_) (fun h2 => ?_) | refine TL.split 48 rfl (fun h2 => ?_) (fun h2 => ?_)
      · skip
        refine TL.pure (PV.move rfl) rfl (by decide) ?_
        refine TL.pure (PV.move rfl) rfl (by decide) ?_
        refine TL.call rfl Tb.gofn_39 (fun a w hs => sameMG o3 o4 (RecsAt.s hs.new (fun yy hyy => by repeat (first | exact hyy | exact List.mem_append_left _ hyy | refine List.mem_append_right _ ?_ | refine List.Mem.tail _ ?_)) o3) (RecsAt.s hs.new (fun yy hyy => by repeat (first | exact hyy | exact List.mem_append_left _ hyy | refine List.mem_append_right _ ?_ | refine List.Mem.tail _ ?_)) o4) mk_few.2 mk_few.2) rfl (by decide) (fun _ _ => ?_)
        refine TL.pure (PV.pickT rfl rfl) rfl (by decide) ?_
        refine TL.pure (PV.move rfl) rfl (by decide) ?_
        first | refine TL.splitD 53 rfl (fun h3 => ?_) (fun h3 => ?_) | refine TL.split 53 rfl (fun h3 => ?_) (fun h3 => ?_)
        · skip
          refine TL.pure (PV.move rfl) rfl (by decide) ?_
          refine TL.pure (PV.move rfl) rfl (by decide) ?_
          refine TL.pure (PV.eql rfl rfl) rfl (by decide) ?_
          refine TL.pure (PV.pickT rfl rfl) rfl (by decide) ?_
          refine TL.pure (PV.move rfl) rfl (by decide) ?_
          first | refine TL.splitD 58 rfl (fun h4 => ?_) (fun h4 => ?_) | refine TL.split 58 rfl (fun h4 => ?_) (fun h4 => ?_)
          · skip
            refine TL.call rfl Tb.gofn_18 (fun a w hs => knownOk w) rfl (by decide) (fun _ _ => ?_)
            refine TL.pure (PV.pickT rfl rfl) rfl (by decide) ?_
            refine TL.pure (PV.assign rfl) rfl (by decide) ?_
            refine TL.nil ?_
            refine TQ.thenC ?_
            refine TC.ret ?_
            refine TQ.retE1 rfl rfl ?_
            first | exact ⟨(), rfl, trivial, List.nil_sublist _⟩ | (exfalso; simp_all; done)
          · skip
            refine TL.skip rfl (fun k hk => by cases hk; decide) ?_
            refine TL.pure (PV.pickF rfl rfl) rfl (by decide) ?_
            refine TL.pure (PV.assign rfl) rfl (by decide) ?_
            refine TL.nil ?_
            refine TQ.thenC ?_
            refine TC.ret ?_
            refine TQ.retE1 rfl rfl ?_
            first | exact ⟨(), rfl, trivial, List.nil_sublist _⟩ | (exfalso; simp_all; done)
        · skip
          refine TL.skip rfl (fun k hk => by cases hk; decide) ?_
          refine TL.skip rfl (fun k hk => by cases hk; decide) ?_
          refine TL.skip rfl (fun k hk => by cases hk; decide) ?_
          refine TL.pure (PV.pickF rfl rfl) rfl (by decide) ?_
          refine TL.pure (PV.move rfl) rfl (by decide) ?_
          refine TL.skip rfl (fun k hk => by cases hk; decide) ?_
          refine TL.pure (PV.pickF rfl rfl) rfl (by decide) ?_
          refine TL.pure (PV.assign rfl) rfl (by decide) ?_
          refine TL.nil ?_
          refine TQ.thenC ?_
          refine TC.ret ?_
          refine TQ.retE1 rfl rfl ?_
          first | exact ⟨(), rfl, trivial, List.nil_sublist _⟩ | (exfalso; simp_all; done)
      · skip
        refine TL.skip rfl (fun k hk => by cases hk; decide) ?_
        refine TL.skip rfl (fun k hk => by cases hk; decide) ?_
        refine TL.skip rfl (fun k hk => by cases hk; decide) ?_
        refine TL.pure (PV.pickF rfl rfl) rfl (by decide) ?_
        refine TL.pure (PV.move rfl) rfl (by decide) ?_
        refine TL.skip rfl (fun k hk => by cases hk; decide) ?_
        refine TL.skip rfl (fun k hk => by cases hk; decide) ?_
        refine TL.skip rfl (fun k hk => by cases hk; decide) ?_
        refine TL.pure (PV.pickF rfl rfl) rfl (by decide) ?_
        refine TL.pure (PV.move rfl) rfl (by decide) ?_
        refine TL.skip rfl (fun k hk => by cases hk; decide) ?_
        refine TL.pure (PV.pickF rfl rfl) rfl (by decide) ?_
        refine TL.pure (PV.assign rfl) rfl (by decide) ?_
        refine TL.nil ?_
        refine TQ.thenC ?_
        refine TC.ret ?_
        refine TQ.retE1 rfl rfl ?_
        first | exact ⟨(), rfl, trivial, List.nil_sublist _⟩ | (exfalso; simp_all; done)
    · skip
      refine TL.skip rfl (fun k hk => by cases hk; decide) ?_
      refine TL.skip rfl (fun k hk => by cases hk; decide) ?_
      refine TL.skip rfl (fun k hk => by cases hk; decide) ?_
      refine TL.pure (PV.pickF rfl rfl) rfl (by decide) ?_
      refine TL.pure (PV.move rfl) rfl (by decide) ?_
      refine TL.skip rfl (fun k hk => by cases hk; decide) ?_
      refine TL.skip rfl (fun k hk => by cases hk; decide) ?_
      refine TL.skip rfl (fun k hk => by cases hk; decide) ?_
      refine TL.pure (PV.pickF rfl rfl) rfl (by decide) ?_
      refine TL.pure (PV.move rfl) rfl (by decide) ?_
      refine TL.skip rfl (fun k hk => by cases hk; decide) ?_
      refine TL.skip rfl (fun k hk => by cases hk; decide) ?_
      refine TL.skip rfl (fun k hk => by cases hk; decide) ?_
      refine TL.pure (PV.pickF rfl rfl) rfl (by decide) ?_
      refine TL.pure (PV.move rfl) rfl (by decide) ?_
      refine TL.skip rfl (fun k hk => by cases hk; decide) ?_
      refine TL.pure (PV.pickF rfl rfl) rfl (by decide) ?_
      refine TL.pure (PV.assign rfl) rfl (by decide) ?_
      refine TL.nil ?_
      refine TQ.thenC ?_
      refine TC.ret ?_
      refine TQ.retE1 rfl rfl ?_
      first | exact ⟨(), rfl, trivial, List.nil_sublist _⟩ | (exfalso; simp_all; done)

theorem coreMarks_all (W : World) (n : Int) (p : Option Addr) (cap : Nat) (rs : List Bd) (hr : BdsAt W p rs) (_ : rs.length ≤ cap) (_ : I64 n) (aa : Int) (_ : I64 aa) :
    Calls Try.prog 9 #[cv n p rs.length cap, .int .i64 aa] W (Post (X := Unit) (fun _ => .bool true) (fun _ => True) (fun _ => []) W) := coreMarks_ok W n p cap rs hr aa

end Go.Proofs.Ytenalmddoljhoaa
