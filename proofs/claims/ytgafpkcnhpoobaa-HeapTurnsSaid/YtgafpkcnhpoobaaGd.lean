/- The matrix, how many heapings last, and Zero, by the reference: contracts. -/
import Derived.Test.YtgafpkcnhpoobaaGc
set_option linter.unusedVariables false
set_option linter.unusedSimpArgs false
namespace Go.Proofs.Ytgafpkcnhpoobaa
open Go.Sx Go.RowKit Go.Sand

theorem mat_put {ls : List (List Int)} {gs : List Int} (hB : HB ls gs) {i : Nat} (hi : i < gs.length) : (mk gs.length (fun j => - getM ls i j)).set i (limI ls gs i) = mk gs.length (mF ls gs i) := by
  refine mk_set hi ?_ fun j hj hne => ?_
  · show limI ls gs i = (if i = i then lim gs.length (lk ls) (gd gs) i else 0) - getM ls i i
    rw [if_pos rfl, hB.diag hi]; show lim gs.length (lk ls) (gd gs) i = _; omega
  · show - getM ls i j = (if j = i then lim gs.length (lk ls) (gd gs) i else 0) - getM ls i j
    rw [if_neg hne]; omega
structure RmI (ls : List (List Int)) (gs : List Int) (k : Nat) (y : HD × List (HD × List Int)) : Prop where
  le : k ≤ gs.length
  eq : y.2.map (·.2) = (List.range k).map fun i => mk gs.length (mF ls gs i)
  ok : goP y
  all : ∀ z ∈ y.2, goI z
theorem RmI.zero (ls : List (List Int)) (gs : List Int) : RmI ls gs 0 (none, []) := ⟨Nat.zero_le _, rfl, ⟨rfl, rfl⟩, by simp⟩
theorem RmI.len {ls : List (List Int)} {gs : List Int} {k : Nat} {y : HD × List (HD × List Int)} (h : RmI ls gs k y) : y.2.length = k := by
  have := congrArg List.length h.eq
  simpa using this
theorem rmi_step {ls : List (List Int)} {gs : List Int} {k : Nat} {y : HD × List (HD × List Int)} {h' h2 : HD} {r : List Int} (h : RmI ls gs k y) (hk : k < gs.length) (hr : r = mk gs.length (mF ls gs k)) (hro : goI (h2, r)) (ho : goP (h', y.2 ++ [(h2, r)])) : RmI ls gs (k + 1) (h', y.2 ++ [(h2, r)]) :=
  ⟨hk, by simp only [List.map_append, List.map_cons, List.map_nil]; rw [h.eq, List.range_succ, List.map_append, hr]; rfl, ho, fun z hz => by
    rcases List.mem_append.1 hz with hz | hz
    · exact h.all z hz
    · rw [List.mem_singleton.1 hz]; exact hro⟩
/-- A matrix of heaps in memory. -/
structure MxP (ls : List (List Int)) (gs : List Int) (y : HD × List (HD × List Int)) : Prop where
  eq : y.2.map (·.2) = tabM gs.length (mF ls gs)
  ok : goP y
  all : ∀ z ∈ y.2, goI z
theorem MxP.len {ls : List (List Int)} {gs : List Int} {y : HD × List (HD × List Int)} (h : MxP ls gs y) : y.2.length = gs.length := by
  have := congrArg List.length h.eq
  simpa [tabM] using this
theorem rdet_mx {ls : List (List Int)} {gs : List Int} (hB : HB ls gs) {y : HD × List (HD × List Int)} (h : MxP ls gs y) {w0 w : World} {G : Heap} (hn : New w0 w G) (hm : ∀ z ∈ gbP y, z ∈ G) (hb : ∀ z ∈ bl y.2, z ∈ G) :
    Calls Try.prog 89 #[gvP y] w (Post (X := Unit) (fun _ => .int .i64 (detF gs.length (mF ls gs))) (fun _ => True) (fun _ => []) w) := by
  have hr := RowsAt.g hn hm hb h.ok h.all
  rw [h.eq] at hr
  have h2 := det_ok gs.length (by have := hB.n; omega) w (gp y.1) (gc y.1) _ hr (tabM_sh _ _) (tab_safe hB)
  rw [tab_det] at h2
  rw [show gvP y = .slice (gp y.1) gs.length (gc y.1) by rw [show gvP y = .slice (gp y.1) y.2.length (gc y.1) from gval_eq h.ok, h.len]]
  exact h2
theorem sub_put {xs ys : List Int} {k : Nat} (hk : k < xs.length) : (adK xs ys (-1) k).set k (xs.getD k 0 - ys.getD k 0) = adK xs ys (-1) (k + 1) := by
  rw [show xs.getD k 0 - ys.getD k 0 = xs.getD k 0 + (-1) * ys.getD k 0 by omega]; exact ad_step hk
def fulL (ls : List (List Int)) (gs : List Int) : List Int := mk gs.length fun j => 2 * (limI ls gs j - 1)
theorem fulL_bd {ls : List (List Int)} {gs : List Int} (hB : HB ls gs) (k : Nat) : 0 ≤ (fulL ls gs).getD k 0 ∧ (fulL ls gs).getD k 0 ≤ 22 := by
  by_cases hk : k < gs.length
  · unfold fulL; rw [mk_at _ hk]; have := hB.lim hk; omega
  · have e : (fulL ls gs).getD k 0 = 0 := by simp [fulL, List.getD, mk_len, hk]
    omega
theorem fulL_len (ls : List (List Int)) (gs : List Int) : (fulL ls gs).length = gs.length := mk_len _ _
theorem fz_bd {ls : List (List Int)} {gs c m : List Int} (hB : HB ls gs) (h : StbL ls gs (fulL ls gs) c m) (k : Nat) : 0 ≤ (adN (fulL ls gs) c (-1)).getD k 0 ∧ (adN (fulL ls gs) c (-1)).getD k 0 ≤ 22 := by
  by_cases hk : k < gs.length
  · rw [ad_at (by rw [fulL_len]; exact hk)]
    have h1 := stb_c hB h k
    have h2 : c.getD k 0 < limI ls gs k := h.2.2.calm k hk
    have h3 := fulL_bd hB k
    have h4 : (fulL ls gs).getD k 0 = 2 * (limI ls gs k - 1) := mk_at _ hk
    omega
  · have e : (adN (fulL ls gs) c (-1)).getD k 0 = 0 := by simp [List.getD, ad_len, fulL_len, hk]
    omega
theorem zero_of {ls : List (List Int)} {gs c m d k : List Int} (hB : HB ls gs) (h : StbL ls gs (fulL ls gs) c m) (h2 : StbL ls gs (adN (fulL ls gs) c (-1)) d k) : LasP ls gs (List.replicate gs.length 0) d := by
  have hat : ∀ j, j < gs.length → gd (adN (fulL ls gs) c (-1)) j = gd (fulL ls gs) j - gd c j := fun j hj => by
    show (adN (fulL ls gs) c (-1)).getD j 0 = (fulL ls gs).getD j 0 - c.getD j 0
    rw [ad_at (by rw [fulL_len]; exact hj)]; omega
  refine ⟨⟨h2.1, lst_top hB.G (fun i hi => hB.diag hi) (fun i hi => ?_) h2.2.2⟩, ?_⟩
  · rw [hat i hi]
    have h3 : gd c i < limI ls gs i := h.2.2.calm i hi
    have h4 : gd (fulL ls gs) i = 2 * (limI ls gs i - 1) := mk_at _ hi
    show limI ls gs i - 1 ≤ _
    omega
  · have h3 := h.2.2.toRun.alk.sub (Alk.refl (n := gs.length) (l := lk ls) (g := gd gs) (gd c))
    exact (h3.symm.congr (a' := gd (List.replicate gs.length 0)) (fun i _ => by show (List.replicate gs.length (0 : Int)).getD i 0 = gd c i - gd c i; rw [rep_at]; omega) (fun i hi => hat i hi)).trans h2.2.2.toRun.alk


set_option maxRecDepth 100000 in
set_option maxHeartbeats 2000000 in
theorem rmatrix_ok (w0 : World) (p : Option Addr) (cp : Nat) (ls : List (List Int)) (hr : LsAt w0 p ls) (q : Option Addr) (cq : Nat) (gs : List Int) (hg : IntsAt w0 q gs) (hB : HB ls gs) :
    Calls Try.prog 90 #[hv p ls.length cp q gs.length cq] w0 (Post (X := HD × List (HD × List Int)) (fun y => gvP y) (fun y => MxP ls gs y) (fun y => gbP y ++ bl y.2) w0) := by
  have hn9 := hB.n
  have hl9 := hB.len
  refine calls Try.func90 rfl (n := 44) rfl (by simp) ?_
  refine TC.seq ?_
  refine TC.region ?_
  refine TL.box rfl rfl (by decide) (fun b0 hb0 => ?_)
  refine TL.pure (PV.assign rfl) rfl (by decide) ?_
  refine TL.nil ?_
  refine TQ.thenC ?_
  refine TC.seq ?_
  refine TC.region ?_
  refine TL.pure (PV.assign rfl) rfl (by decide) ?_
  refine TL.nil ?_
  refine TQ.thenC ?_
  refine TC.seq ?_
  refine TC.seq ?_
  refine TC.region ?_
  refine TL.pure (PV.assign rfl) rfl (by decide) ?_
  refine TL.nil ?_
  refine TQ.thenC ?_
  refine TC.block ?_
  refine TC.lit [(1, _), (2, _), (3, _), (4, _)] (by repeat (first | exact True.intro | refine And.intro rfl ?_)) ?_
  refine TC.loopK [1, 2] (X := Nat × HD × List (HD × List Int)) (fun y => RmI ls gs y.1 y.2) (fun y => [(4, .int .i64 y.1), (3, gvP y.2)]) (fun y => gbP y.2 ++ (bl y.2.2 ++ [(b0, Obj.cells #[.slice p ls.length cp, .slice q gs.length cq] 25 (0, 0))])) (fun y => gs.length - y.1) (0, none, []) (RmI.zero _ _) (by repeat (first | exact True.intro | refine And.intro rfl ?_)) (List.Sublist.refl _) ?_
  intro y hy
  have hyle := hy.le
  have hyl := hy.len
  refine TC.lit [(1, _), (2, _), (3, _), (4, _)] (by repeat (first | exact True.intro | refine And.intro rfl ?_)) ?_
  refine TC.seq ?_
  refine TC.seq ?_
  refine TC.region ?_
  refine TL.pure (PV.move rfl) rfl (by decide) ?_
  refine TL.pure (PV.fieldAddr rfl Tb.fo_25_1) rfl (by decide) ?_
  refine TL.pure (PV.load rfl Tb.one_23 (by repeat (first | exact List.Mem.head _ | refine List.Mem.tail _ ?_ | refine List.mem_append_right _ ?_)) rfl) rfl (by decide) ?_
  refine TL.pure (PV.len rfl Tb.sl_23) rfl (by decide) ?_
  refine TL.pure (PV.lss rfl rfl) rfl (by decide) ?_
  refine TL.nil ?_
  refine TQ.thenC ?_
  first | refine TC.condD rfl (fun hlt => ?_) (fun hlt => ?_) | refine TC.cond rfl (fun hlt => ?_) (fun hlt => ?_)
  · skip
    refine TC.skip ?_
    refine TQ.thenC ?_
    refine TC.seq ?_
    refine TC.block ?_
    refine TC.seq ?_
    refine TC.region ?_
    refine TL.pure (PV.assign rfl) rfl (by decide) ?_
    refine TL.nil ?_
    refine TQ.thenC ?_
    refine TC.seq ?_
    refine TC.seq ?_
    refine TC.region ?_
    refine TL.pure (PV.assign rfl) rfl (by decide) ?_
    refine TL.nil ?_
    refine TQ.thenC ?_
    refine TC.block ?_
    refine TC.lit [(1, _), (2, _), (3, _), (4, _), (5, _), (6, _)] (by repeat (first | exact True.intro | refine And.intro rfl ?_)) ?_
    refine TC.loopK [1, 2, 3, 4] (X := Nat × HD × List Int) (fun x => ApK (fun j => - getM ls y.1 j) gs.length x.1 x.2) (fun x => [(6, .int .i64 x.1), (5, gvI x.2)]) (fun x => gbI x.2 ++ (gbP y.2 ++ (bl y.2.2 ++ [(b0, Obj.cells #[.slice p ls.length cp, .slice q gs.length cq] 25 (0, 0))]))) (fun x => gs.length - x.1) (0, none, []) (ApK.zero _ _) (by repeat (first | exact True.intro | refine And.intro rfl ?_)) (List.Sublist.refl _) ?_
    intro x hx
    have hxle := hx.le
    have hxl := hx.len
    refine TC.lit [(1, _), (2, _), (3, _), (4, _), (5, _), (6, _)] (by repeat (first | exact True.intro | refine And.intro rfl ?_)) ?_
    refine TC.seq ?_
    refine TC.seq ?_
    refine TC.region ?_
    refine TL.pure (PV.move rfl) rfl (by decide) ?_
    refine TL.pure (PV.fieldAddr rfl Tb.fo_25_1) rfl (by decide) ?_
    refine TL.pure (PV.load rfl Tb.one_23 (by repeat (first | exact List.Mem.head _ | refine List.Mem.tail _ ?_ | refine List.mem_append_right _ ?_)) rfl) rfl (by decide) ?_
    refine TL.pure (PV.len rfl Tb.sl_23) rfl (by decide) ?_
    refine TL.pure (PV.lss rfl rfl) rfl (by decide) ?_
    refine TL.nil ?_
    refine TQ.thenC ?_
    first | refine TC.condD rfl (fun hlt2 => ?_) (fun hlt2 => ?_) | refine TC.cond rfl (fun hlt2 => ?_) (fun hlt2 => ?_)
    · skip
      refine TC.skip ?_
      refine TQ.thenC ?_
      refine TC.seq ?_
      refine TC.block ?_
      obtain ⟨q1, hq1p, p1, c1, hq1, hi1⟩ := hr y.1 (by omega)
      have hrk := hB.rowl (k := y.1) (by omega)
      rw [hrk] at hq1
      obtain ⟨q2, hq2p, hq2⟩ := hi1 x.1 (by omega)
      have hen : 0 ≤ (ls.getD y.1 []).getD x.1 0 ∧ (ls.getD y.1 []).getD x.1 0 ≤ 2 := hB.ent y.1 x.1
      refine TC.region ?_
      refine TL.pure (PV.move rfl) rfl (by decide) ?_
      refine TL.pure (PV.fieldAddr rfl Tb.fo_25_0) rfl (by decide) ?_
      refine TL.pure (PV.load rfl Tb.one_22 (by repeat (first | exact List.Mem.head _ | refine List.Mem.tail _ ?_ | refine List.mem_append_right _ ?_)) rfl) rfl (by decide) ?_
      refine TL.pure (PV.move rfl) rfl (by decide) ?_
      refine TL.pure (PV.indexA rfl hq1p rfl Tb.elm_22 rfl (by omega)) rfl (by decide) ?_
      refine TL.pure (PV.loadOld rfl Tb.one_23 hq1) rfl (by decide) ?_
      refine TL.pure (PV.move rfl) rfl (by decide) ?_
      refine TL.pure (PV.indexA rfl hq2p rfl Tb.elm_23 rfl (by omega)) rfl (by decide) ?_
      refine TL.pure (PV.loadOld rfl Tb.one_3 hq2) rfl (by decide) ?_
      refine TL.pure (PV.neg rfl (by omega)) rfl (by decide) ?_
      refine TL.buildSlice (cs := #[.int .i64 (- (ls.getD y.1 []).getD x.1 0)]) rfl Tb.sl_23 Tb.zi_3 (by decide) (fill_i _) (by decide) rfl (by decide) (fun bE hbE => ?_)
      refine TL.appendI (x0 := x.2) rfl rfl (by repeat (first | exact List.Mem.head _ | refine List.Mem.tail _ ?_ | refine List.mem_append_right _ ?_)) hx.ok (by repeat (first | exact TakeH.here _ _ _ _ | apply TakeH.tail | apply TakeH.app)) (by omega) rfl (by decide) (fun hh hho => ?_)
      refine TL.pure (PV.assign rfl) rfl (by decide) ?_
      refine TL.nil ?_
      refine TQ.blkN ?_
      refine TQ.thenC ?_
      refine TC.region ?_
      refine TL.pure (PV.move rfl) rfl (by decide) ?_
      refine TL.pure (PV.add rfl rfl (by omega)) rfl (by decide) ?_
      refine TL.pure (PV.assign rfl) rfl (by decide) ?_
      refine TL.nil ?_
      refine TQ.thenN ?_
      refine TQ.backK (x.1 + 1, hh, x.2.2 ++ [- (ls.getD y.1 []).getD x.1 0]) (by repeat (first | exact True.intro | refine And.intro rfl ?_)) (by repeat (first | exact True.intro | refine And.intro rfl ?_)) (List.Sublist.append_left (List.Sublist.cons _ (List.Sublist.refl _)) _) (hx.step (by omega) rfl hho) (by simp only; omega)
    · skip
      refine TC.exit ?_
      refine TQ.thenE ?_
      refine TQ.thenE ?_
      refine TQ.blkS ?_
      refine TQ.thenC ?_
      refine TC.seq ?_
      have hxe : x.2.2 = mk gs.length (fun j => - getM ls y.1 j) := hx.eq.trans (congrArg (fun n => mk n fun j => - getM ls y.1 j) (show x.1 = gs.length by omega))
      have hxo : goI (x.2.1, x.2.2.set y.1 (limI ls gs y.1)) := go_lenI hx.ok (by simp)
      have hxm : x.2.2.set y.1 (limI ls gs y.1) = mk gs.length (mF ls gs y.1) := by rw [hxe]; exact mat_put hB (by omega)
      refine TC.region ?_
      refine TL.pure (PV.move rfl) rfl (by decide) ?_
      refine TL.pure (PV.move rfl) rfl (by decide) ?_
      refine TL.pure (PV.loadBox rfl Tb.agg_25 (by repeat (first | exact List.Mem.head _ | refine List.Mem.tail _ ?_ | refine List.mem_append_right _ ?_)) rfl) rfl (by decide) ?_
      refine TL.pure (PV.move rfl) rfl (by decide) ?_
      refine TL.call rfl Tb.gofn_63 (fun a w hs => rlimit_ok w _ _ _ (hr.new hs.new) _ _ _ (hg.new hs.new) hB y.1 (by omega)) rfl (by decide) (fun _ _ => ?_)
      refine TL.pure (PV.indexG (j := y.1) rfl rfl hx.ok Tb.elm_23 rfl (by omega)) rfl (by decide) ?_
      refine TL.putI (h := x.2.1) (xs := x.2.2) (xs' := x.2.2.set y.1 (limI ls gs y.1)) (j := y.1) rfl rfl Tb.cells_3 hx.ok rfl (by repeat (first | exact PutH.here _ _ _ _ | apply PutH.tail | apply PutH.app)) (by omega) rfl rfl ?_
      refine TL.nil ?_
      refine TQ.thenC ?_
      refine TC.region ?_
      refine TL.pure (PV.move rfl) rfl (by decide) ?_
      refine TL.pure (PV.move rfl) rfl (by decide) ?_
      have hxl5 : x.2.2.length = (x.2.2.set y.1 (limI ls gs y.1)).length := by simp
      skip
      refine TL.buildSlice (cs := #[gvI (x.2.1, x.2.2.set y.1 (limI ls gs y.1))]) (by rfl) Tb.sl_22 Tb.zi_23 (by decide) (by rw [show gvI x.2 = gvI (x.2.1, x.2.2.set y.1 (limI ls gs y.1)) by show gval _ _ = gval _ _; rw [hxl5]]; exact fill_g _ _) (by decide) rfl (by decide) (fun bO hbO => ?_)
      refine TL.appendP (x0 := y.2) (y := (x.2.1, x.2.2.set y.1 (limI ls gs y.1))) rfl rfl (by repeat (first | exact List.Mem.head _ | refine List.Mem.tail _ ?_ | refine List.mem_append_right _ ?_)) hy.ok (by repeat (first | exact TakeH.here _ _ _ _ | apply TakeH.tail | apply TakeH.app)) (by have := hy.len; omega) rfl (by decide) (fun hP_ hP => ?_)
      refine TL.pure (PV.assign rfl) rfl (by decide) ?_
      refine TL.nil ?_
      refine TQ.blkN ?_
      refine TQ.thenC ?_
      refine TC.region ?_
      refine TL.pure (PV.move rfl) rfl (by decide) ?_
      refine TL.pure (PV.add rfl rfl (by omega)) rfl (by decide) ?_
      refine TL.pure (PV.assign rfl) rfl (by decide) ?_
      refine TL.nil ?_
      refine TQ.thenN ?_
      refine TQ.backK (y.1 + 1, hP_, y.2.2 ++ [(x.2.1, x.2.2.set y.1 (limI ls gs y.1))]) (by repeat (first | exact True.intro | refine And.intro rfl ?_)) (by repeat (first | exact True.intro | refine And.intro rfl ?_)) (by rw [bl_snoc]; simp only [List.append_assoc]; exact List.Sublist.append_left (List.Sublist.cons _ (List.Sublist.refl _)) _) (rmi_step hy (by omega) hxm hxo hP) (by simp only; omega)
  · skip
    refine TC.exit ?_
    refine TQ.thenE ?_
    refine TQ.thenE ?_
    refine TQ.blkS ?_
    refine TQ.thenC ?_
    refine TC.seq ?_
    refine TC.region ?_
    refine TL.pure (PV.move rfl) rfl (by decide) ?_
    refine TL.pure (PV.assign rfl) rfl (by decide) ?_
    refine TL.nil ?_
    refine TQ.thenC ?_
    refine TC.ret ?_
    refine TQ.retE1 rfl rfl ?_
    exact ⟨y.2, rfl, ⟨hy.eq.trans (congrArg (fun n => (List.range n).map fun i => mk gs.length (mF ls gs i)) (show y.1 = gs.length by omega)), hy.ok, hy.all⟩, List.Sublist.append_left (List.sublist_append_left _ _) _⟩

set_option maxRecDepth 100000 in
theorem rCount_ok (w0 : World) (p : Option Addr) (cp : Nat) (ls : List (List Int)) (hr : LsAt w0 p ls) (q : Option Addr) (cq : Nat) (gs : List Int) (hg : IntsAt w0 q gs) (hlo : ∀ k, (ls.getD k []).length ≤ 1000000) :
    Calls Try.prog 46 #[hv p ls.length cp q gs.length cq] w0 (Post (X := Unit) (fun _ => .tuple #[.int .i64 (couI ls gs), .int .i64 (validI ls gs)]) (fun _ => True) (fun _ => []) w0) := by
  refine calls Try.func46 rfl (n := 13) rfl (by simp) ?_
  refine TC.seq ?_
  refine TC.region ?_
  refine TL.box rfl rfl (by decide) (fun b0 hb0 => ?_)
  refine TL.pure (PV.assign rfl) rfl (by decide) ?_
  refine TL.pure (PV.assign rfl) rfl (by decide) ?_
  refine TL.nil ?_
  refine TQ.thenC ?_
  refine TC.seq ?_
  refine TC.region ?_
  refine TL.pure (PV.loadBox rfl Tb.agg_25 (by repeat (first | exact List.Mem.head _ | refine List.Mem.tail _ ?_ | refine List.mem_append_right _ ?_)) rfl) rfl (by decide) ?_
  refine TL.call rfl Tb.gofn_25 (fun a w hs => rvalidate_ok w _ _ _ (hr.new hs.new) _ _ _ (hg.new hs.new)) rfl (by decide) (fun _ _ => ?_)
  refine TL.pure (PV.assign rfl) rfl (by decide) ?_
  refine TL.nil ?_
  refine TQ.thenC ?_
  refine TC.seq ?_
  refine TC.seq ?_
  refine TC.region ?_
  refine TL.pure (PV.move rfl) rfl (by decide) ?_
  refine TL.pure (PV.neq rfl rfl) rfl (by decide) ?_
  refine TL.nil ?_
  refine TQ.thenC ?_
  first | refine TC.condD rfl (fun hbad => ?_) (fun hbad => ?_) | refine TC.cond rfl (fun hbad => ?_) (fun hbad => ?_)
  · skip
    refine TC.seq ?_
    refine TC.region ?_
    refine TL.pure (PV.move rfl) rfl (by decide) ?_
    refine TL.pure (PV.assign rfl) rfl (by decide) ?_
    refine TL.pure (PV.assign rfl) rfl (by decide) ?_
    refine TL.nil ?_
    refine TQ.thenC ?_
    refine TC.ret ?_
    refine TQ.thenR ?_
    refine TQ.retE2 rfl rfl rfl ?_
    exact ⟨(), by rw [cou_bad hbad], trivial, List.nil_sublist _⟩
  · skip
    refine TC.skip ?_
    refine TQ.thenC ?_
    refine TC.seq ?_
    refine TC.region ?_
    refine TL.pure (PV.loadBox rfl Tb.agg_25 (by repeat (first | exact List.Mem.head _ | refine List.Mem.tail _ ?_ | refine List.mem_append_right _ ?_)) rfl) rfl (by decide) ?_
    refine TL.call rfl Tb.gofn_90 (fun a w hs => rmatrix_ok w _ _ _ (hr.new hs.new) _ _ _ (hg.new hs.new) (hb_of hbad)) rfl (by decide) (fun y9 hy9 => ?_)
    refine TL.call rfl Tb.gofn_89 (fun a w hs => rdet_mx (hb_of hbad) hy9 hs.new (fun yy hyy => by repeat (first | exact List.mem_append_left _ hyy | exact List.mem_append_left _ (List.mem_append_right _ hyy) | exact List.mem_append_left _ (List.mem_append_left _ hyy) | refine List.mem_append_right _ ?_ | refine List.Mem.tail _ ?_)) (fun yy hyy => by repeat (first | exact List.mem_append_left _ hyy | exact List.mem_append_left _ (List.mem_append_right _ hyy) | exact List.mem_append_left _ (List.mem_append_left _ hyy) | refine List.mem_append_right _ ?_ | refine List.Mem.tail _ ?_))) rfl (by decide) (fun _ _ => ?_)
    refine TL.pure (PV.assign rfl) rfl (by decide) ?_
    refine TL.pure (PV.assign rfl) rfl (by decide) ?_
    refine TL.nil ?_
    refine TQ.thenC ?_
    refine TC.ret ?_
    refine TQ.retE2 rfl rfl rfl ?_
    exact ⟨(), by rw [cou_ok hbad, Decidable.of_not_not hbad], trivial, List.nil_sublist _⟩

set_option maxRecDepth 100000 in
set_option maxHeartbeats 2000000 in
theorem rzero_ok (w0 : World) (p : Option Addr) (cp : Nat) (ls : List (List Int)) (hr : LsAt w0 p ls) (q : Option Addr) (cq : Nat) (gs : List Int) (hg : IntsAt w0 q gs) (hB : HB ls gs) :
    Calls Try.prog 92 #[hv p ls.length cp q gs.length cq] w0 (Post (X := HD × List Int) (fun y => gval y.1 gs.length) (fun y => LasP ls gs (List.replicate gs.length 0) y.2 ∧ goI y) (fun y => gbI y) w0) := by
  have hn9 := hB.n
  have hl9 := hB.len
  have hfl := fulL_len ls gs
  have hfb := fulL_bd hB
  refine calls Try.func92 rfl (n := 58) rfl (by simp) ?_
  refine TC.seq ?_
  refine TC.region ?_
  refine TL.box rfl rfl (by decide) (fun b0 hb0 => ?_)
  refine TL.pure (PV.assign rfl) rfl (by decide) ?_
  refine TL.nil ?_
  refine TQ.thenC ?_
  refine TC.seq ?_
  refine TC.region ?_
  refine TL.pure (PV.assign rfl) rfl (by decide) ?_
  refine TL.nil ?_
  refine TQ.thenC ?_
  refine TC.seq ?_
  refine TC.seq ?_
  refine TC.region ?_
  refine TL.pure (PV.assign rfl) rfl (by decide) ?_
  refine TL.nil ?_
  refine TQ.thenC ?_
  refine TC.block ?_
  refine TC.lit [(1, _), (2, _), (3, _), (4, _)] (by repeat (first | exact True.intro | refine And.intro rfl ?_)) ?_
  refine TC.loopK [1, 2] (X := Nat × HD × List Int) (fun x => ApK (fun j => 2 * (limI ls gs j - 1)) gs.length x.1 x.2) (fun x => [(4, .int .i64 x.1), (3, gvI x.2)]) (fun x => gbI x.2 ++ [(b0, Obj.cells #[.slice p ls.length cp, .slice q gs.length cq] 25 (0, 0))]) (fun x => gs.length - x.1) (0, none, []) (ApK.zero _ _) (by repeat (first | exact True.intro | refine And.intro rfl ?_)) (List.Sublist.refl _) ?_
  intro x hx
  have hxle := hx.le
  have hxl := hx.len
  refine TC.lit [(1, _), (2, _), (3, _), (4, _)] (by repeat (first | exact True.intro | refine And.intro rfl ?_)) ?_
  refine TC.seq ?_
  refine TC.seq ?_
  refine TC.region ?_
  refine TL.pure (PV.move rfl) rfl (by decide) ?_
  refine TL.pure (PV.fieldAddr rfl Tb.fo_25_1) rfl (by decide) ?_
  refine TL.pure (PV.load rfl Tb.one_23 (by repeat (first | exact List.Mem.head _ | refine List.Mem.tail _ ?_ | refine List.mem_append_right _ ?_)) rfl) rfl (by decide) ?_
  refine TL.pure (PV.len rfl Tb.sl_23) rfl (by decide) ?_
  refine TL.pure (PV.lss rfl rfl) rfl (by decide) ?_
  refine TL.nil ?_
  refine TQ.thenC ?_
  first | refine TC.condD rfl (fun hlt => ?_) (fun hlt => ?_) | refine TC.cond rfl (fun hlt => ?_) (fun hlt => ?_)
  · skip
    refine TC.skip ?_
    refine TQ.thenC ?_
    refine TC.seq ?_
    refine TC.block ?_
    have hlk := hB.lim (i := x.1) (by omega)
    refine TC.region ?_
    refine TL.pure (PV.move rfl) rfl (by decide) ?_
    refine TL.pure (PV.loadBox rfl Tb.agg_25 (by repeat (first | exact List.Mem.head _ | refine List.Mem.tail _ ?_ | refine List.mem_append_right _ ?_)) rfl) rfl (by decide) ?_
    refine TL.pure (PV.move rfl) rfl (by decide) ?_
    refine TL.call rfl Tb.gofn_63 (fun a w hs => rlimit_ok w _ _ _ (hr.new hs.new) _ _ _ (hg.new hs.new) hB x.1 (by omega)) rfl (by decide) (fun _ _ => ?_)
    refine TL.pure (PV.sub rfl rfl (by omega)) rfl (by decide) ?_
    refine TL.pure (PV.mul rfl rfl (by omega)) rfl (by decide) ?_
    refine TL.buildSlice (cs := #[.int .i64 (2 * (limI ls gs x.1 - 1))]) rfl Tb.sl_23 Tb.zi_3 (by decide) (fill_i _) (by decide) rfl (by decide) (fun bE hbE => ?_)
    refine TL.appendI (x0 := x.2) rfl rfl (by repeat (first | exact List.Mem.head _ | refine List.Mem.tail _ ?_ | refine List.mem_append_right _ ?_)) hx.ok (by repeat (first | exact TakeH.here _ _ _ _ | apply TakeH.tail | apply TakeH.app)) (by omega) rfl (by decide) (fun hh hho => ?_)
    refine TL.pure (PV.assign rfl) rfl (by decide) ?_
    refine TL.nil ?_
    refine TQ.blkN ?_
    refine TQ.thenC ?_
    refine TC.region ?_
    refine TL.pure (PV.move rfl) rfl (by decide) ?_
    refine TL.pure (PV.add rfl rfl (by omega)) rfl (by decide) ?_
    refine TL.pure (PV.assign rfl) rfl (by decide) ?_
    refine TL.nil ?_
    refine TQ.thenN ?_
    refine TQ.backK (x.1 + 1, hh, x.2.2 ++ [2 * (limI ls gs x.1 - 1)]) (by repeat (first | exact True.intro | refine And.intro rfl ?_)) (by repeat (first | exact True.intro | refine And.intro rfl ?_)) (List.Sublist.append_left (List.Sublist.cons _ (List.Sublist.refl _)) _) (hx.step (by omega) rfl hho) (by simp only; omega)
  · skip
    refine TC.exit ?_
    refine TQ.thenE ?_
    refine TQ.thenE ?_
    refine TQ.blkS ?_
    refine TQ.thenC ?_
    refine TC.seq ?_
    have he : x.2.2 = fulL ls gs := hx.eq.trans (congrArg (fun n => mk n fun j => 2 * (limI ls gs j - 1)) (show x.1 = gs.length by omega))
    have hxl8 : x.2.2.length = gs.length := by omega
    refine TC.region ?_
    refine TL.pure (PV.loadBox rfl Tb.agg_25 (by repeat (first | exact List.Mem.head _ | refine List.Mem.tail _ ?_ | refine List.mem_append_right _ ?_)) rfl) rfl (by decide) ?_
    refine TL.pure (PV.move rfl) rfl (by decide) ?_
    refine TL.call rfl Tb.gofn_77 (fun a w hs => (by rw [show gvI x.2 = .slice (gp x.2.1) x.2.2.length (gc x.2.1) from gval_eq hx.ok]; exact rsettle_ok w _ _ _ (hr.new hs.new) _ _ _ (hg.new hs.new) hB _ _ x.2.2 (IntsAt.g (x := x.2) hs.new (fun yy hyy => by repeat (first | exact List.mem_append_left _ hyy | exact List.mem_append_left _ (List.mem_append_right _ hyy) | exact List.mem_append_left _ (List.mem_append_left _ hyy) | refine List.mem_append_right _ ?_ | refine List.Mem.tail _ ?_)) hx.ok) _ rfl (by omega) (fun k => by rw [he]; have := hfb k; omega))) rfl (by decide) (fun y9 hy9 => ?_)
    refine TL.pure (PV.move rfl) rfl (by decide) ?_
    refine TL.pure (PV.extract rfl rfl) rfl (by decide) ?_
    refine TL.pure (PV.extract rfl rfl) rfl (by decide) ?_
    refine TL.pure (PV.extract rfl rfl) rfl (by decide) ?_
    refine TL.pure (PV.assign rfl) rfl (by decide) ?_
    refine TL.pure (PV.assign rfl) rfl (by decide) ?_
    refine TL.pure (PV.assign rfl) rfl (by decide) ?_
    refine TL.nil ?_
    refine TQ.thenC ?_
    refine TC.seq ?_
    refine TC.seq ?_
    have hy9s : StbL ls gs (fulL ls gs) y9.2.2.1 y9.2.2.2 := he ▸ hy9.1
    have hcl := hy9s.1
    refine TC.region ?_
    refine TL.pure (PV.assign rfl) rfl (by decide) ?_
    refine TL.nil ?_
    refine TQ.thenC ?_
    refine TC.block ?_
    refine TC.lit [(1, _), (2, _), (3, _), (5, _), (8, _)] (by repeat (first | exact True.intro | refine And.intro rfl ?_)) ?_
    refine TC.loopK [1, 2, 3, 5] (X := Nat) (fun k => k ≤ gs.length) (fun k => [(8, .int .i64 k)]) (fun k => gbI (y9.1, y9.2.2.1) ++ ([(y9.2.1, Obj.cells (intsA y9.2.2.2) 3 (0, 0))] ++ (gbI (x.2.1, adK (fulL ls gs) y9.2.2.1 (-1) k) ++ [(b0, Obj.cells #[.slice p ls.length cp, .slice q gs.length cq] 25 (0, 0))]))) (fun k => gs.length - k) 0 (Nat.zero_le _) (by repeat (first | exact True.intro | refine And.intro rfl ?_)) (by rw [← ad_start, ← he]; simp only [List.append_assoc]; exact List.Sublist.refl _) ?_
    intro k hk
    refine TC.lit [(1, _), (2, _), (3, _), (5, _), (8, _)] (by repeat (first | exact True.intro | refine And.intro rfl ?_)) ?_
    refine TC.seq ?_
    refine TC.seq ?_
    refine TC.region ?_
    refine TL.pure (PV.move rfl) rfl (by decide) ?_
    refine TL.pure (PV.move rfl) rfl (by decide) ?_
    refine TL.pure (PV.lenG rfl hx.ok Tb.sl_23) rfl (by decide) ?_
    refine TL.pure (PV.lss rfl rfl) rfl (by decide) ?_
    refine TL.nil ?_
    refine TQ.thenC ?_
    first | refine TC.condD rfl (fun hlt2 => ?_) (fun hlt2 => ?_) | refine TC.cond rfl (fun hlt2 => ?_) (fun hlt2 => ?_)
    · skip
      refine TC.skip ?_
      refine TQ.thenC ?_
      refine TC.seq ?_
      refine TC.block ?_
      have h7 := stb_c hB hy9s k
      have h8 := hfb k
      refine TC.draw 10 Tb.mixed (by kernel_rfl) ?_
      simp only [List.take_succ_cons, List.take_zero, List.drop_succ_cons, List.drop_zero]
      refine TS.pure (PV.move rfl) rfl (by decide) ?_
      refine TS.pure (PV.move rfl) rfl (by decide) ?_
      refine TS.pure (PV.indexG (j := k) rfl rfl hx.ok Tb.elm_23 rfl (by omega)) rfl (by decide) ?_
      refine TS.pure (PV.loadGI (y := (x.2.1, adK (fulL ls gs) y9.2.2.1 (-1) k)) (j := k) (v := (fulL ls gs).getD k 0) rfl Tb.one_3 (fun yy hyy => by repeat (first | exact List.mem_append_left _ hyy | exact List.mem_append_left _ (List.mem_append_right _ hyy) | exact List.mem_append_left _ (List.mem_append_left _ hyy) | refine List.mem_append_right _ ?_ | refine List.Mem.tail _ ?_)) (go_lenI hx.ok (by rw [adK_len]; omega)) (by show k < (adK _ _ _ _).length; rw [adK_len]; omega) (adK_at (by omega))) rfl (by decide) ?_
      refine TS.pure (PV.move rfl) rfl (by decide) ?_
      refine TS.pure (PV.move rfl) rfl (by decide) ?_
      refine TS.pure (PV.indexG (j := k) rfl rfl hy9.2 Tb.elm_23 rfl (by omega)) rfl (by decide) ?_
      refine TS.pure (PV.loadGI (y := (y9.1, y9.2.2.1)) (j := k) (v := y9.2.2.1.getD k 0) rfl Tb.one_3 (fun yy hyy => by repeat (first | exact List.mem_append_left _ hyy | exact List.mem_append_left _ (List.mem_append_right _ hyy) | exact List.mem_append_left _ (List.mem_append_left _ hyy) | refine List.mem_append_right _ ?_ | refine List.Mem.tail _ ?_)) (go_lenI hy9.2 hcl) (by show k < y9.2.2.1.length; omega) rfl) rfl (by decide) ?_
      refine TS.pure (PV.sub rfl rfl (by omega)) rfl (by decide) ?_
      refine TS.pure (PV.indexG (j := k) rfl rfl hx.ok Tb.elm_23 rfl (by omega)) rfl (by decide) ?_
      refine TS.nil ?_
      refine TL.putI (h := x.2.1) (xs := adK (fulL ls gs) y9.2.2.1 (-1) k) (xs' := adK (fulL ls gs) y9.2.2.1 (-1) (k + 1)) (j := k) rfl rfl Tb.cells_3 (go_lenI hx.ok (by rw [adK_len]; omega)) (sub_put (by omega)) (by repeat (first | exact PutH.here _ _ _ _ | apply PutH.tail | apply PutH.app)) (by rw [adK_len]; omega) rfl rfl ?_
      refine TL.nil ?_
      refine TQ.blkN ?_
      refine TQ.thenC ?_
      refine TC.region ?_
      refine TL.pure (PV.move rfl) rfl (by decide) ?_
      refine TL.pure (PV.add rfl rfl (by omega)) rfl (by decide) ?_
      refine TL.pure (PV.assign rfl) rfl (by decide) ?_
      refine TL.nil ?_
      refine TQ.thenN ?_
      refine TQ.backK (k + 1) (by repeat (first | exact True.intro | refine And.intro rfl ?_)) (by repeat (first | exact True.intro | refine And.intro rfl ?_)) (List.Sublist.refl _) (by omega) (by omega)
    · skip
      refine TC.exit ?_
      refine TQ.thenE ?_
      refine TQ.thenE ?_
      refine TQ.blkS ?_
      refine TQ.thenC ?_
      refine TC.seq ?_
      have hke : adK (fulL ls gs) y9.2.2.1 (-1) k = adN (fulL ls gs) y9.2.2.1 (-1) := ad_end (by omega)
      rw [hke]
      have hxk : goI (x.2.1, adN (fulL ls gs) y9.2.2.1 (-1)) := go_lenI hx.ok (by rw [ad_len, hfl]; omega)
      refine TC.region ?_
      refine TL.pure (PV.loadBox rfl Tb.agg_25 (by repeat (first | exact List.Mem.head _ | refine List.Mem.tail _ ?_ | refine List.mem_append_right _ ?_)) rfl) rfl (by decide) ?_
      refine TL.pure (PV.move rfl) rfl (by decide) ?_
      refine TL.call rfl Tb.gofn_77 (fun a w hs => (by rw [show gvI x.2 = .slice (gp x.2.1) x.2.2.length (gc x.2.1) from gval_eq hx.ok, hxl8]; exact rsettle_ok w _ _ _ (hr.new hs.new) _ _ _ (hg.new hs.new) hB _ _ (adN (fulL ls gs) y9.2.2.1 (-1)) (IntsAt.g (x := (x.2.1, adN (fulL ls gs) y9.2.2.1 (-1))) hs.new (fun yy hyy => by repeat (first | exact List.mem_append_left _ hyy | exact List.mem_append_left _ (List.mem_append_right _ hyy) | exact List.mem_append_left _ (List.mem_append_left _ hyy) | refine List.mem_append_right _ ?_ | refine List.Mem.tail _ ?_)) hxk) _ (by rw [ad_len, hfl]) (by rw [ad_len, hfl]) (fun k => by have := fz_bd hB hy9s k; omega))) rfl (by decide) (fun z9 hz9 => ?_)
      refine TL.pure (PV.move rfl) rfl (by decide) ?_
      refine TL.pure (PV.extract rfl rfl) rfl (by decide) ?_
      refine TL.pure (PV.extract rfl rfl) rfl (by decide) ?_
      refine TL.pure (PV.extract rfl rfl) rfl (by decide) ?_
      refine TL.pure (PV.assign rfl) rfl (by decide) ?_
      refine TL.pure (PV.assign rfl) rfl (by decide) ?_
      refine TL.pure (PV.assign rfl) rfl (by decide) ?_
      refine TL.nil ?_
      refine TQ.thenC ?_
      refine TC.seq ?_
      refine TC.region ?_
      refine TL.pure (PV.move rfl) rfl (by decide) ?_
      refine TL.pure (PV.assign rfl) rfl (by decide) ?_
      refine TL.nil ?_
      refine TQ.thenC ?_
      refine TC.ret ?_
      refine TQ.retE1 rfl rfl ?_
      exact ⟨(z9.1, z9.2.2.1), rfl, ⟨zero_of hB hy9s hz9.1, go_lenI hz9.2 hz9.1.1⟩, by simp only [List.append_assoc]; exact List.sublist_append_left _ _⟩

set_option maxRecDepth 100000 in
set_option maxHeartbeats 1000000 in
theorem rZero_ok (w0 : World) (p : Option Addr) (cp : Nat) (ls : List (List Int)) (hr : LsAt w0 p ls) (q : Option Addr) (cq : Nat) (gs : List Int) (hg : IntsAt w0 q gs) (hlo : ∀ k, (ls.getD k []).length ≤ 1000000) :
    Calls Try.prog 48 #[hv p ls.length cp q gs.length cq] w0 (Post (X := HD × List Int) (fun y => .tuple #[gval y.1 y.2.length, .int .i64 (validI ls gs)]) (fun y => ZerP ls gs y.2 ∧ goI y) (fun y => gbI y) w0) := by
  refine calls Try.func48 rfl (n := 12) rfl (by simp) ?_
  refine TC.seq ?_
  refine TC.region ?_
  refine TL.box rfl rfl (by decide) (fun b0 hb0 => ?_)
  refine TL.pure (PV.assign rfl) rfl (by decide) ?_
  refine TL.pure (PV.assign rfl) rfl (by decide) ?_
  refine TL.nil ?_
  refine TQ.thenC ?_
  refine TC.seq ?_
  refine TC.region ?_
  refine TL.pure (PV.loadBox rfl Tb.agg_25 (by repeat (first | exact List.Mem.head _ | refine List.Mem.tail _ ?_ | refine List.mem_append_right _ ?_)) rfl) rfl (by decide) ?_
  refine TL.call rfl Tb.gofn_25 (fun a w hs => rvalidate_ok w _ _ _ (hr.new hs.new) _ _ _ (hg.new hs.new)) rfl (by decide) (fun _ _ => ?_)
  refine TL.pure (PV.assign rfl) rfl (by decide) ?_
  refine TL.nil ?_
  refine TQ.thenC ?_
  refine TC.seq ?_
  refine TC.seq ?_
  refine TC.region ?_
  refine TL.pure (PV.move rfl) rfl (by decide) ?_
  refine TL.pure (PV.neq rfl rfl) rfl (by decide) ?_
  refine TL.nil ?_
  refine TQ.thenC ?_
  first | refine TC.condD rfl (fun hbad => ?_) (fun hbad => ?_) | refine TC.cond rfl (fun hbad => ?_) (fun hbad => ?_)
  · skip
    refine TC.seq ?_
    refine TC.region ?_
    refine TL.pure (PV.move rfl) rfl (by decide) ?_
    refine TL.pure (PV.assign rfl) rfl (by decide) ?_
    refine TL.pure (PV.assign rfl) rfl (by decide) ?_
    refine TL.nil ?_
    refine TQ.thenC ?_
    refine TC.ret ?_
    refine TQ.thenR ?_
    refine TQ.retE2 rfl rfl rfl ?_
    exact ⟨(none, []), rfl, ⟨⟨fun _ => rfl, fun h2 => absurd hbad h2⟩, goI_nil⟩, List.nil_sublist _⟩
  · skip
    refine TC.skip ?_
    refine TQ.thenC ?_
    refine TC.seq ?_
    refine TC.region ?_
    refine TL.pure (PV.loadBox rfl Tb.agg_25 (by repeat (first | exact List.Mem.head _ | refine List.Mem.tail _ ?_ | refine List.mem_append_right _ ?_)) rfl) rfl (by decide) ?_
    refine TL.call rfl Tb.gofn_92 (fun a w hs => rzero_ok w _ _ _ (hr.new hs.new) _ _ _ (hg.new hs.new) (hb_of hbad)) rfl (by decide) (fun y9 hy9 => ?_)
    refine TL.pure (PV.assign rfl) rfl (by decide) ?_
    refine TL.pure (PV.assign rfl) rfl (by decide) ?_
    refine TL.nil ?_
    refine TQ.thenC ?_
    refine TC.ret ?_
    refine TQ.retE2 rfl rfl rfl ?_
    exact ⟨(y9.1, y9.2), by rw [Decidable.of_not_not hbad, hy9.1.1.1], ⟨⟨fun h2 => absurd h2 hbad, fun _ => hy9.1⟩, hy9.2⟩, List.sublist_append_left _ _⟩

end Go.Proofs.Ytgafpkcnhpoobaa
