/- The room of a yard: contract. -/
import Derived.Test.YtkkipbkkijoneaaLe
import Derived.Test.YtkkipbkkijoneaaDp
set_option linter.unusedVariables false
set_option linter.unusedSimpArgs false
namespace Go.Proofs.Ytkkipbkkijoneaa
open Go.Sx Go.RowKit Go.Sand

theorem rwB_snoc (rs : List RW) (r : RW) : rwB (rs ++ [r]) = rwB rs ++ gbI (r.h, r.l) := by simp [rwB]
structure EK (ss : List St) (N k : Nat) (h : HD) (rs : List RW) : Prop where
  le : k ≤ ss.length
  ln : rs.length = k
  go : goR rwR h rs
  ok : rwOk rs
  v : ∀ t, t < k → (rs.getD t default).l = effL (ss.getD t default)
  nl : ∀ t, t < k → (rs.getD t default).l.length = N
theorem EK.step {ss : List St} {N k : Nat} {h : HD} {rs : List RW} (e : EK ss N k h rs) (hk : k < ss.length) {h' h9 : HD} (ho : goR rwR h' (rs ++ [⟨h9, effL (ss.getD k default)⟩])) (h1 : goI (h9, effL (ss.getD k default))) (hn : (effL (ss.getD k default)).length = N) : EK ss N (k + 1) h' (rs ++ [⟨h9, effL (ss.getD k default)⟩]) where
  le := by omega
  ln := by rw [List.length_append, e.ln]; rfl
  go := ho
  ok := fun r hr => by
    rcases List.mem_append.1 hr with hr | hr
    · exact e.ok r hr
    · rw [List.mem_singleton] at hr; subst hr; exact h1
  v := fun t ht => by
    have hl := e.ln
    rw [List.getD_eq_getElem?_getD]
    by_cases h9 : t < k
    · rw [List.getElem?_append_left (by omega), ← List.getD_eq_getElem?_getD]; exact e.v t h9
    · obtain rfl : t = k := by omega
      rw [List.getElem?_append_right (by omega), hl, Nat.sub_self]; rfl
  nl := fun t ht => by
    have hl := e.ln
    rw [List.getD_eq_getElem?_getD]
    by_cases h9 : t < k
    · rw [List.getElem?_append_left (by omega), ← List.getD_eq_getElem?_getD]; exact e.nl t h9
    · obtain rfl : t = k := by omega
      rw [List.getElem?_append_right (by omega), hl, Nat.sub_self]; exact hn
def hK (rs : List RW) (i : Nat) : HD := (rs.getD i default).h
def lK (rs : List RW) (i : Nat) : List Int := (rs.getD i default).l
theorem rs_map (rs : List RW) : rs = (List.range rs.length).map fun i => rs.getD i default := List.ext_getElem (by simp) fun j h1 h2 => by simp [List.getD, h1]
theorem rwB_blk (rs : List RW) : rwB rs = blk (hK rs) (lK rs) (List.range rs.length) := by
  have h : rwB rs = rwB ((List.range rs.length).map fun i => rs.getD i default) := congrArg rwB (rs_map rs)
  rw [h]
  unfold rwB blk
  rw [List.flatMap_map]
  rfl
theorem rcs_I {rs : List RW} {N : Nat} (hN : ∀ t, t < rs.length → (rs.getD t default).l.length = N) : rcs rwR rs = rcs (rwI (hK rs) N) (List.range rs.length) := by
  have h : rcs rwR rs = rcs rwR ((List.range rs.length).map fun i => rs.getD i default) := congrArg (rcs rwR) (rs_map rs)
  rw [h]
  unfold rcs
  rw [List.flatMap_map]
  have key : ∀ l : List Nat, (∀ x ∈ l, x < rs.length) → l.flatMap (fun a => rwR.cells (rs.getD a default)) = l.flatMap (rwI (hK rs) N).cells := fun l hl => by
    induction l with
    | nil => rfl
    | cons x l ih =>
      rw [List.flatMap_cons, List.flatMap_cons, ih fun y hy => hl y (List.mem_cons_of_mem _ hy)]
      show [gval _ (rs.getD x default).l.length] ++ _ = [gval _ N] ++ _
      rw [hN x (hl x List.mem_cons_self)]
      rfl
  exact key _ fun x hx => List.mem_range.1 hx
theorem rk_zero {ss : List St} {N : Nat} {h : HD} {rs : List RW} (e : EK ss N ss.length h rs) (hd : ∀ i, i < ss.length → effL (ss.getD i default) = mk N (dd ss i)) : RK (dd ss) ss.length N h (hK rs) ⟨0, [], [], List.range ss.length, lK rs⟩ := by
  have hl := e.ln
  have hat : ∀ t, t < ss.length → (List.range ss.length).getD t 0 = t := fun t ht => by simp [List.getD, ht]
  refine ⟨El.zero _ _, List.length_range, fun t ht => by rw [hat t ht]; exact ht, fun t u ht hu h => by rw [hat t ht, hat u hu] at h; exact h, fun i hi => ⟨i, hi, hat i hi⟩, fun t ht => absurd ht (Nat.not_lt_zero _), (fun y hy => by cases hy), ?_, fun i hi => ?_, fun t _ ht => ?_, Nat.zero_le _⟩
  · have h1 := e.go
    have h2 := rcs_I (rs := rs) (N := N) fun t ht => e.nl t (by omega)
    unfold goR at h1 ⊢
    rw [h2, hl] at h1
    rw [List.length_range]
    exact h1
  · exact ⟨e.ok _ (rw_at (by omega)), e.nl i hi⟩
  · show (rs.getD ((List.range ss.length).getD t 0) default).l = _
    rw [hat t ht, e.v t ht, hd t ht]
    exact mk_congr fun j _ => (Ab_nil _ _ _).symm
theorem dd_all {n : Int} {ss : List St} (h : VY n ss) (i p : Nat) : -3 ≤ dd ss i p ∧ dd ss i p ≤ 3 := by
  by_cases hi : i < ss.length
  · exact dd_bd h hi p
  · have e : ss.getD i default = default := by rw [List.getD_eq_getElem?_getD, List.getElem?_eq_none (by omega)]; rfl
    unfold dd
    rw [e]
    simp [default, instInhabitedSt.default]
theorem IsRk.le {M : Nat → Row} {S n r : Nat} (h : IsRk M S n r) : r ≤ S ∧ r ≤ n := by
  obtain ⟨I, J, h1, h2, h3, h4, h5, h6, _⟩ := h.yes
  have a := h3.length_le_of_subset (l₂ := List.range S) fun x hx => List.mem_range.2 (h5 x hx)
  have b := h4.length_le_of_subset (l₂ := List.range n) fun x hx => List.mem_range.2 (h6 x hx)
  rw [List.length_range] at a b
  omega
def spc (n : Int) (ss : List St) (r : Nat) : Int := if validI n ss ≠ 0 then 0 else n - r


set_option maxRecDepth 100000 in
set_option maxHeartbeats 4000000 in
theorem Space_ok (w0 : World) (n : Int) (p : Option Addr) (cp : Nat) (ss : List St) (hr : StsAt w0 p ss) (hS : SmS ss) :
    Calls Try.prog 45 #[yv n p ss.length cp] w0 (Post (X := Nat) (fun r => .tuple #[.int .i64 (spc n ss r), .int .i64 (validI n ss)]) (fun r => ¬ validI n ss ≠ 0 → IsRk (dd ss) ss.length n.toNat r) (fun _ => []) w0) := by
  refine calls Try.func45 rfl (n := 33) rfl (by simp) ?_
  refine TC.seq ?_
  refine TC.region ?_
  refine TL.box rfl rfl (by decide) (fun b0 hb0 => ?_)
  refine TL.pure (PV.assign rfl) rfl (by decide) ?_
  refine TL.pure (PV.assign rfl) rfl (by decide) ?_
  refine TL.nil ?_
  refine TQ.thenC ?_
  refine TC.seq ?_
  refine TC.seq ?_
  refine TC.region ?_
  refine TL.pure (PV.loadBox rfl Tb.agg_24 (by repeat (first | exact List.Mem.head _ | refine List.Mem.tail _ ?_ | refine List.mem_append_right _ ?_)) rfl) rfl (by decide) ?_
  refine TL.call rfl Tb.gofn_24 (fun a w hs => validate_ok w _ _ _ _ (hr.new hs.new) hS) rfl (by decide) (fun _ _ => ?_)
  refine TL.pure (PV.assign rfl) rfl (by decide) ?_
  refine TL.nil ?_
  refine TQ.thenC ?_
  refine TC.seq ?_
  refine TC.region ?_
  refine TL.pure (PV.move rfl) rfl (by decide) ?_
  refine TL.pure (PV.neq rfl rfl) rfl (by decide) ?_
  refine TL.nil ?_
  refine TQ.thenC ?_
  first | refine TC.condD rfl (fun a1 => ?_) (fun a1 => ?_) | refine TC.cond rfl (fun a1 => ?_) (fun a1 => ?_)
  · skip
    refine TC.seq ?_
    refine TC.region ?_
    refine TL.pure (PV.move rfl) rfl (by decide) ?_
    refine TL.pure (PV.assign rfl) rfl (by decide) ?_
    refine TL.pure (PV.assign rfl) rfl (by decide) ?_
    refine TL.nil ?_
    refine TQ.thenC ?_
    refine TC.ret ?_
    refine TQ.thenR ?_
    refine TQ.retE2 rfl rfl rfl ?_
    exact ⟨0, by unfold spc; rw [if_pos a1], fun h => absurd a1 h, List.nil_sublist _⟩
  · skip
    refine TC.skip ?_
    refine TQ.thenC ?_
    refine TC.seq ?_
    have hV := vy_of a1
    obtain ⟨N, rfl⟩ : ∃ N : Nat, n = N := ⟨n.toNat, by have := hV.hn; omega⟩
    have hn6 := hV.hn
    have hsl := hV.len
    refine TC.region ?_
    refine TL.pure (PV.assign rfl) rfl (by decide) ?_
    refine TL.nil ?_
    refine TQ.thenC ?_
    refine TC.seq ?_
    refine TC.seq ?_
    refine TC.region ?_
    refine TL.pure (PV.fieldAddr rfl Tb.fo_24_1) rfl (by decide) ?_
    refine TL.pure (PV.load rfl Tb.one_22 (by repeat (first | exact List.Mem.head _ | refine List.Mem.tail _ ?_ | refine List.mem_append_right _ ?_)) rfl) rfl (by decide) ?_
    refine TL.pure (PV.len rfl Tb.sl_22) rfl (by decide) ?_
    refine TL.pure (PV.move rfl) rfl (by decide) ?_
    refine TL.nil ?_
    refine TQ.thenC ?_
    refine TC.block ?_
    refine TC.lit [(1, _), (2, _), (3, _), (5, _), (14, _), (15, _), (16, _)] (by repeat (first | exact True.intro | refine And.intro rfl ?_)) ?_
    refine TC.loopK [1, 2, 3, 14, 15] (X := Nat × HD × List RW) (fun x => EK ss N x.1 x.2.1 x.2.2) (fun x => [(16, .int .i64 x.1), (5, gval x.2.1 x.2.2.length)]) (fun x => gbR rwR 25 x.2.1 x.2.2 ++ (rwB x.2.2 ++ [(b0, Obj.cells #[.int .i64 N, .slice p ss.length cp] 24 (0, 0))])) (fun x => ss.length - x.1) (0, none, []) ⟨Nat.zero_le _, rfl, ⟨rfl, rfl⟩, (fun r hr => by cases hr), fun t ht => absurd ht (Nat.not_lt_zero _), fun t ht => absurd ht (Nat.not_lt_zero _)⟩ (by repeat (first | exact True.intro | refine And.intro rfl ?_)) (by repeat (first | exact List.Sublist.slnil | exact List.nil_sublist _ | exact List.Sublist.refl _ | refine List.Sublist.cons_cons _ ?_ | refine List.Sublist.cons _ ?_ | refine List.Sublist.trans ?_ (List.sublist_append_right _ _))) ?_
    intro x hx9
    refine TC.lit [(1, _), (2, _), (3, _), (5, _), (14, _), (15, _), (16, _)] (by repeat (first | exact True.intro | refine And.intro rfl ?_)) ?_
    refine TC.seq ?_
    refine TC.region ?_
    refine TL.pure (PV.lss rfl rfl) rfl (by decide) ?_
    refine TL.nil ?_
    refine TQ.thenC ?_
    refine TC.seq ?_
    first | refine TC.condD rfl (fun hlt => ?_) (fun hlt => ?_) | refine TC.cond rfl (fun hlt => ?_) (fun hlt => ?_)
    · skip
      refine TC.skip ?_
      refine TQ.thenC ?_
      refine TC.seq ?_
      refine TC.block ?_
      refine TC.seq ?_
      obtain ⟨q1, hq1p, pa, pb, ca, cb, hq10, hq11, hta, htb⟩ := hr x.1 (by omega)
      have hxl := hx9.ln
      have htl := hV.tl (k := x.1) (by omega)
      have hel := eff_len (ss.getD x.1 default)
      have hen : (effL (ss.getD x.1 default)).length = N := by omega
      refine TC.region ?_
      refine TL.pure (PV.indexA (j := x.1) rfl hq1p rfl Tb.elm_22 rfl (by omega)) rfl (by decide) ?_
      refine TL.pure (PV.loadAggA rfl Tb.agg_63 rfl (two_cells hq10 hq11)) rfl (by decide) ?_
      refine TL.alloc Tb.zero_63 rfl (by decide) (fun bq hbq => ?_)
      refine TL.storeAgg (vs := [.slice pa (ss.getD x.1 default).t.length ca, .slice pb (ss.getD x.1 default).g.length cb]) rfl rfl Tb.cells_63 (by repeat (first | exact Upd.head _ | apply Upd.tail | apply Upd.appR)) rfl rfl rfl rfl rfl ?_
      refine TL.nil ?_
      refine TQ.thenC ?_
      refine TC.region ?_
      refine TL.pure (PV.move rfl) rfl (by decide) ?_
      refine TL.pure (PV.loadBox (cs := [.slice pa (ss.getD x.1 default).t.length ca, .slice pb (ss.getD x.1 default).g.length cb]) rfl Tb.agg_63 (by repeat (first | exact List.Mem.head _ | refine List.Mem.tail _ ?_ | refine List.mem_append_right _ ?_)) rfl) rfl (by decide) ?_
      refine TL.call rfl Tb.gofn_79 (fun a w hs => effect_ok w pa pb ca cb (ss.getD x.1 default) (hta.new hs.new) (htb.new hs.new) (by omega) (by omega) (fun j => by have := hV.tb (k := x.1) (by omega) j; omega)) rfl (by decide) (fun h9 hh9 => ?_)
      refine TL.buildSlice (cs := #[gval h9 (ss.getD x.1 default).g.length]) rfl Tb.sl_97 Tb.zi_25 (by decide) (by rw [← hel, gval_eq hh9]; exact fill_o _ _ _) (by decide) rfl (by decide) (fun bE hbE => ?_)
      refine TL.appendRec (R := rwR) (h0 := x.2.1) (ys := x.2.2) (b := bE) (r := (⟨h9, effL (ss.getD x.1 default)⟩ : RW)) Tb.sl_97 Tb.zi_25 rfl rfl rfl (by show (bE, Obj.cells #[gval h9 (effL (ss.getD x.1 default)).length] 25 (0, 0)) ∈ _; rw [hel]; exact (by repeat (first | exact List.Mem.head _ | refine List.Mem.tail _ ?_ | refine List.mem_append_right _ ?_))) hx9.go (by repeat (first | exact TakeH.here _ _ _ _ | apply TakeH.tail | apply TakeH.app)) (by omega) (by omega) rfl (by decide) (fun hh hho => ?_)
      refine TL.pure (PV.assign rfl) rfl (by decide) ?_
      refine TL.nil ?_
      refine TQ.blkN ?_
      refine TQ.thenC ?_
      refine TC.region ?_
      refine TL.pure (PV.add rfl rfl (by omega)) rfl (by decide) ?_
      refine TL.pure (PV.move rfl) rfl (by decide) ?_
      refine TL.nil ?_
      refine TQ.thenN ?_
      refine TQ.perm (G' := (gbR rwR 25 hh (x.2.2 ++ [(⟨h9, effL (ss.getD x.1 default)⟩ : RW)]) ++ (rwB (x.2.2 ++ [(⟨h9, effL (ss.getD x.1 default)⟩ : RW)]) ++ [(b0, Obj.cells #[.int .i64 N, .slice p ss.length cp] 24 (0, 0))])) ++ [(bE, Obj.cells #[gval h9 (ss.getD x.1 default).g.length] 25 (0, 0)), (bq, Obj.cells #[.slice pa (ss.getD x.1 default).t.length ca, .slice pb (ss.getD x.1 default).g.length cb] 63 (0, 0))]) (perm_of fun c9 => by simp only [List.map_append, List.sum_append, List.map_cons, List.sum_cons, List.map_nil, List.sum_nil, rwB_snoc]; omega) ?_
      refine TQ.backK (x.1 + 1, hh, (x.2.2 ++ [(⟨h9, effL (ss.getD x.1 default)⟩ : RW)])) (by repeat (first | exact True.intro | refine And.intro rfl ?_)) (by repeat (first | exact True.intro | refine And.intro rfl ?_)) (List.sublist_append_left _ _) (hx9.step (by omega) hho hh9 hen) (by simp only; omega)
    · skip
      refine TC.exit ?_
      refine TQ.thenE ?_
      refine TQ.thenE ?_
      refine TQ.blkS ?_
      refine TQ.thenC ?_
      refine TC.seq ?_
      have hxe : x.1 = ss.length := by have := hx9.le; omega
      have hl9 := hx9.ln
      have hk9 := hx9
      rw [hxe] at hk9
      have hgb : gbR rwR 25 x.2.1 x.2.2 = gbR (rwI (hK x.2.2) N) 25 x.2.1 (List.range ss.length) := by have h5 := rcs_I (rs := x.2.2) (N := N) (fun t ht => hx9.nl t (by omega)); unfold gbR; rw [h5, hl9, hxe]
      have hrb : rwB x.2.2 = blk (hK x.2.2) (lK x.2.2) (List.range ss.length) := by rw [rwB_blk, hl9, hxe]
      refine TC.perm (G' := blk (hK x.2.2) (lK x.2.2) (List.range ss.length) ++ (gbR (rwI (hK x.2.2) N) 25 x.2.1 (List.range ss.length) ++ [(b0, Obj.cells #[.int .i64 N, .slice p ss.length cp] 24 (0, 0))])) (by rw [hgb, hrb]; exact perm_of fun c9 => by simp only [List.map_append, List.sum_append, List.map_cons, List.sum_cons, List.map_nil, List.sum_nil]; omega) ?_
      have hll : x.2.2.length = ss.length := by omega
      rw [hll]
      have hd9 : ∀ i, i < ss.length → effL (ss.getD i default) = mk N (dd ss i) := fun i hi => mk_eq (by have h1 := eff_len (ss.getD i default); have h2 := hV.tl (k := i) hi; omega) fun j hj => eff_all hV hi j
      refine TC.mixV [true, true, true, true, true, false, true, true, true] [(b0, Obj.cells #[.int .i64 N, .slice p ss.length cp] 24 (0, 0))] 9 Tb.mixed rfl (by kernel_rfl) (by kernel_rfl) (by kernel_rfl) (by kernel_rfl) (by repeat (first | exact List.Sublist.slnil | exact List.nil_sublist _ | exact List.Sublist.refl _ | refine List.Sublist.cons_cons _ ?_ | refine List.Sublist.cons _ ?_ | refine List.Sublist.trans ?_ (List.sublist_append_right _ _))) ?_
      refine TV.virt 0 rfl rfl (by decide) rfl (by kernel_rfl) (SOK.pure (PV.fieldAddr rfl Tb.fo_24_0) rfl) ?_
      refine TV.virt 1 rfl rfl (by decide) rfl (by kernel_rfl) (SOK.pure (PV.load rfl Tb.one_3 (by repeat (first | exact List.Mem.head _ | refine List.Mem.tail _ ?_ | refine List.mem_append_right _ ?_)) rfl) rfl) ?_
      refine TV.virt 2 rfl rfl (by decide) rfl (by kernel_rfl) (SOK.pure (PV.move rfl) rfl) ?_
      refine TV.virt 3 rfl rfl (by decide) rfl (by kernel_rfl) (SOK.pure (PV.fieldAddr rfl Tb.fo_24_0) rfl) ?_
      refine TV.virt 4 rfl rfl (by decide) rfl (by kernel_rfl) (SOK.pure (PV.load rfl Tb.one_3 (by repeat (first | exact List.Mem.head _ | refine List.Mem.tail _ ?_ | refine List.mem_append_right _ ?_)) rfl) rfl) ?_
      refine TV.step [5] (by kernel_rfl) (by decide) rfl ⟨⟨_, rfl, ?_⟩, trivial⟩
      refine TL.callW (X := Nat) (fun r => .int .i64 (r : Nat)) (fun r => IsRk (dd ss) ss.length N r) (fun _ => [(b0, Obj.cells #[.int .i64 N, .slice p ss.length cp] 24 (0, 0))]) rfl Tb.gofn_94 (fun a w hs => rank_ok (R9 := [(b0, Obj.cells #[.int .i64 N, .slice p ss.length cp] 24 (0, 0))]) (dd ss) ss.length N x.2.1 (hK x.2.2) (lK x.2.2) (List.range ss.length) hs.new (rk_zero hk9 hd9) (dd_all hV) hsl (by omega)) rfl (by decide) (fun r9 hr9 => ?_)
      refine TL.nil ?_
      refine TV.next (.inl (by repeat (first | exact List.Sublist.slnil | exact List.nil_sublist _ | exact List.Sublist.refl _ | refine List.Sublist.cons_cons _ ?_ | refine List.Sublist.cons _ ?_ | refine List.Sublist.trans ?_ (List.sublist_append_right _ _)))) ?_
      refine TV.virt 6 rfl rfl (by decide) rfl (by kernel_rfl) (SOK.pure (PV.sub rfl rfl (by have := hr9.le; omega)) rfl) ?_
      refine TV.virt 7 rfl rfl (by decide) rfl (by kernel_rfl) (SOK.pure (PV.assign rfl) rfl) ?_
      refine TV.virt 8 rfl rfl (by decide) rfl (by kernel_rfl) (SOK.pure (PV.assign rfl) rfl) ?_
      refine TV.done (by kernel_rfl) ?_
      refine TQ.thenC ?_
      refine TC.ret ?_
      refine TQ.retE2 rfl rfl rfl ?_
      exact ⟨r9, by unfold spc; rw [if_neg a1, Decidable.of_not_not a1], fun _ => by rw [Int.toNat_natCast]; exact hr9, List.nil_sublist _⟩

end Go.Proofs.Ytkkipbkkijoneaa
