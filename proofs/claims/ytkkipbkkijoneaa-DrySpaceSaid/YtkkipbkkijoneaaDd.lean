/- Lists of steps, done: contracts. -/
import Derived.Test.YtkkipbkkijoneaaDc
set_option linter.unusedVariables false
set_option linter.unusedSimpArgs false
namespace Go.Proofs.Ytkkipbkkijoneaa
open Go.Sx Go.RowKit

/-- A value reads as a list. -/
def IsI (w : World) (v : Value) (xs : List Int) : Prop := ∃ p c, v = .slice p xs.length c ∧ IntsAt w p xs
theorem IsI.of {w : World} {p : Option Addr} {c : Nat} {xs : List Int} (h : IntsAt w p xs) : IsI w (.slice p xs.length c) xs := ⟨p, c, rfl, h⟩
theorem IsI.new {w0 w : World} {G : Heap} {v : Value} {xs : List Int} (h : IsI w0 v xs) (hn : New w0 w G) : IsI w v xs := by
  obtain ⟨p, c, rfl, hx⟩ := h
  exact ⟨p, c, rfl, hx.new hn⟩
theorem IsI.g {w0 w : World} {G : Heap} {h : HD} {xs : List Int} (hn : New w0 w G) (hm : ∀ y ∈ gbI (h, xs), y ∈ G) (ho : goI (h, xs)) : IsI w (gval h xs.length) xs :=
  ⟨_, _, gval_eq ho, IntsAt.g (x := (h, xs)) hn hm ho⟩
theorem IsI.gl {w0 w : World} {G : Heap} {h : HD} {xs : List Int} {n : Nat} (hl : xs.length = n) (hn : New w0 w G) (hm : ∀ y ∈ gbI (h, xs), y ∈ G) (ho : goI (h, xs)) : IsI w (gval h n) xs := by
  subst hl
  exact IsI.g hn hm ho
def doF (m : List Int) (s : St) (p : Nat) : Int := m.getD p 0 - s.t.getD p 0 + s.g.getD p 0
theorem doN_mk (m : List Int) (s : St) : doN m s = mk m.length (doF m s) := rfl
theorem mk_succ (n : Nat) (f : Nat → Int) : mk (n + 1) f = mk n f ++ [f n] := by simp [mk, List.range_succ]
theorem goI_nil : goI (none, []) := ⟨rfl, rfl⟩
/-- The step with a number. -/
def stS (ss : List St) (i : Int) : St := ss.getD i.toNat default
/-- What a list makes of a filling: the filling, how far it comes, the error. -/
def rn (ss : List St) : List Int → List Int → Nat → List Int × Nat × Int
  | m, [], k => (m, k, 0)
  | m, i :: l, k => if doI m (stS ss i) = 0 then rn ss (doN m (stS ss i)) l (k + 1) else ([], k, doI m (stS ss i))
theorem drop_at {xs : List Int} {k : Nat} (hk : k < xs.length) : xs.drop k = xs.getD k 0 :: xs.drop (k + 1) := by
  rw [List.drop_eq_getElem_cons hk, List.getD_eq_getElem?_getD, List.getElem?_eq_getElem hk]
  rfl
theorem rn_step {ss : List St} {m xs : List Int} {k : Nat} (hk : k < xs.length) (h : doI m (stS ss (xs.getD k 0)) = 0) : rn ss m (xs.drop k) k = rn ss (doN m (stS ss (xs.getD k 0))) (xs.drop (k + 1)) (k + 1) := by
  rw [drop_at hk, rn, if_pos h]
theorem rn_stop {ss : List St} {m xs : List Int} {k : Nat} (hk : k < xs.length) (h : doI m (stS ss (xs.getD k 0)) ≠ 0) : rn ss m (xs.drop k) k = ([], k, doI m (stS ss (xs.getD k 0))) := by
  rw [drop_at hk, rn, if_neg h]
theorem rn_end {ss : List St} {m xs : List Int} {k : Nat} (hk : xs.length ≤ k) : rn ss m (xs.drop k) k = (m, k, 0) := by
  rw [List.drop_eq_nil_of_le hk]; rfl
def runR (n : Int) (ss : List St) (m xs : List Int) : List Int × Nat × Int :=
  if filI n ss [m] ≠ 0 then ([], 0, filI n ss [m]) else if listI ss.length xs ≠ 0 then ([], 0, listI ss.length xs) else rn ss m xs 0
theorem run_1 {n : Int} {ss : List St} {m xs : List Int} (h : filI n ss [m] ≠ 0) : runR n ss m xs = ([], 0, filI n ss [m]) := if_pos h
theorem run_2 {n : Int} {ss : List St} {m xs : List Int} (h : ¬ filI n ss [m] ≠ 0) (h2 : listI ss.length xs ≠ 0) : runR n ss m xs = ([], 0, listI ss.length xs) := by unfold runR; rw [if_neg h, if_pos h2]
theorem run_3 {n : Int} {ss : List St} {m xs : List Int} (h : ¬ filI n ss [m] ≠ 0) (h2 : ¬ listI ss.length xs ≠ 0) : runR n ss m xs = rn ss m xs 0 := by unfold runR; rw [if_neg h, if_neg h2]
/-- The lists of a run. -/
structure RunK (n : Int) (ss : List St) (m0 xs : List Int) (k : Nat) (m : List Int) : Prop where
  le : k ≤ xs.length
  vm : VM n ss m
  eq : rn ss m0 xs 0 = rn ss m (xs.drop k) k
theorem RunK.zero {n : Int} {ss : List St} {m xs : List Int} (h : VM n ss m) : RunK n ss m xs 0 m := ⟨Nat.zero_le _, h, by rw [List.drop_zero]⟩
theorem RunK.step {n : Int} {ss : List St} {m0 xs m : List Int} {k : Nat} (h : RunK n ss m0 xs k m) (hk : k < xs.length) (hi : 0 ≤ xs.getD k 0 ∧ xs.getD k 0 < ss.length) (h0 : doI m (stS ss (xs.getD k 0)) = 0) :
    RunK n ss m0 xs (k + 1) (doN m (stS ss (xs.getD k 0))) :=
  ⟨hk, h.vm.next (show (xs.getD k 0).toNat < ss.length by omega) h0, by rw [h.eq, rn_step hk h0]⟩
def canR (n : Int) (ss : List St) (xs : List Int) (i : Int) : Bool := if stpI n ss xs i = 0 then canB xs (stS ss i) else false
def doRI (n : Int) (ss : List St) (xs : List Int) (i : Int) : Int := if stpI n ss xs i ≠ 0 then stpI n ss xs i else doI xs (stS ss i)
def doRL (n : Int) (ss : List St) (xs : List Int) (i : Int) : List Int := if stpI n ss xs i ≠ 0 then [] else doL xs (stS ss i)
theorem doL_0 {m : List Int} {s : St} (h : doI m s = 0) : doL m s = doN m s := if_pos h


set_option maxRecDepth 100000 in
theorem sameInts_ok (w0 : World) (vx : Value) (xs : List Int) (hv : IsI w0 vx xs) (vy : Value) (ys : List Int) (hu : IsI w0 vy ys) (hl : xs.length ≤ 1000000) (hl2 : ys.length ≤ 1000000) :
    Calls Try.prog 26 #[vx, vy] w0 (Post (X := Unit) (fun _ => .bool (decide (xs = ys))) (fun _ => True) (fun _ => []) w0) := by
  obtain ⟨pl, cl, rfl, hx⟩ := hv
  obtain ⟨p2, c2, rfl, hy⟩ := hu
  refine calls Try.func26 rfl (n := 26) rfl (by simp) ?_
  refine TC.seq ?_
  refine TC.region ?_
  refine TL.pure (PV.assign rfl) rfl (by decide) ?_
  refine TL.nil ?_
  refine TQ.thenC ?_
  refine TC.seq ?_
  refine TC.seq ?_
  refine TC.region ?_
  refine TL.pure (PV.move rfl) rfl (by decide) ?_
  refine TL.pure (PV.len rfl Tb.sl_25) rfl (by decide) ?_
  refine TL.pure (PV.move rfl) rfl (by decide) ?_
  refine TL.pure (PV.len rfl Tb.sl_25) rfl (by decide) ?_
  refine TL.pure (PV.neq rfl rfl) rfl (by decide) ?_
  refine TL.nil ?_
  refine TQ.thenC ?_
  first | refine TC.condD rfl (fun hne => ?_) (fun hne => ?_) | refine TC.cond rfl (fun hne => ?_) (fun hne => ?_)
  · skip
    refine TC.seq ?_
    refine TC.region ?_
    refine TL.pure (PV.assign rfl) rfl (by decide) ?_
    refine TL.nil ?_
    refine TQ.thenC ?_
    refine TC.ret ?_
    refine TQ.thenR ?_
    refine TQ.retE1 rfl rfl ?_
    exact ⟨(), by rw [decide_eq_false (fun e => by subst e; omega)], trivial, List.nil_sublist _⟩
  · skip
    refine TC.skip ?_
    refine TQ.thenC ?_
    refine TC.seq ?_
    refine TC.seq ?_
    refine TC.region ?_
    refine TL.pure (PV.assign rfl) rfl (by decide) ?_
    refine TL.nil ?_
    refine TQ.thenC ?_
    refine TC.block ?_
    -- live and written in the loop, not told: [4]
    refine TC.loopG [0, 1] (X := Nat) (fun k => k ≤ xs.length ∧ ∀ j, j < k → xs.getD j 0 = ys.getD j 0) (fun k => [(5, .int .i64 k)]) (fun k => xs.length - k) 0 ⟨Nat.zero_le _, fun j hj => absurd hj (Nat.not_lt_zero _)⟩ (by repeat (first | exact True.intro | refine And.intro rfl ?_)) ?_
    intro k hk
    refine TC.seq ?_
    refine TC.seq ?_
    refine TC.region ?_
    refine TL.pure (PV.move rfl) rfl (by decide) ?_
    refine TL.pure (PV.move rfl) rfl (by decide) ?_
    refine TL.pure (PV.len rfl Tb.sl_25) rfl (by decide) ?_
    refine TL.pure (PV.lss rfl rfl) rfl (by decide) ?_
    refine TL.nil ?_
    refine TQ.thenC ?_
    first | refine TC.condD rfl (fun hlt => ?_) (fun hlt => ?_) | refine TC.cond rfl (fun hlt => ?_) (fun hlt => ?_)
    · skip
      refine TC.skip ?_
      refine TQ.thenC ?_
      refine TC.seq ?_
      refine TC.block ?_
      refine TC.seq ?_
      obtain ⟨q1, hq1p, hq1⟩ := hx k (by omega)
      obtain ⟨q2, hq2p, hq2⟩ := hy k (by omega)
      refine TC.any Tb.mixed rfl rfl ?_
      refine TA.op (OpOK.pure (PV.move rfl) rfl (by decide)) (by decide) ?_
      refine TA.op (OpOK.pure (PV.move rfl) rfl (by decide)) (by decide) ?_
      refine TA.op (OpOK.pure (PV.indexA rfl hq1p rfl Tb.elm_25 rfl (by omega)) rfl (by decide)) (by decide) ?_
      refine TA.op (OpOK.pure (PV.loadOld rfl Tb.one_3 hq1) rfl (by decide)) (by decide) ?_
      refine TA.op (OpOK.pure (PV.move rfl) rfl (by decide)) (by decide) ?_
      refine TA.op (OpOK.pure (PV.move rfl) rfl (by decide)) (by decide) ?_
      refine TA.op (OpOK.pure (PV.indexA rfl hq2p rfl Tb.elm_25 rfl (by omega)) rfl (by decide)) (by decide) ?_
      refine TA.op (OpOK.pure (PV.loadOld rfl Tb.one_3 hq2) rfl (by decide)) (by decide) ?_
      refine TA.op (OpOK.pure (PV.neq rfl rfl) rfl (by decide)) (by decide) ?_
      show TQ _ _ _ _ _
      refine TQ.thenC ?_
      first | refine TC.condD rfl (fun hno => ?_) (fun hno => ?_) | refine TC.cond rfl (fun hno => ?_) (fun hno => ?_)
      · skip
        refine TC.seq ?_
        refine TC.region ?_
        refine TL.pure (PV.assign rfl) rfl (by decide) ?_
        refine TL.nil ?_
        refine TQ.thenC ?_
        refine TC.ret ?_
        refine TQ.blkR ?_
        refine TQ.thenR ?_
        refine TQ.thenR ?_
        refine TQ.blkR ?_
        refine TQ.thenR ?_
        refine TQ.retE1 rfl rfl ?_
        exact ⟨(), by rw [decide_eq_false (fun e => by subst e; omega)], trivial, List.nil_sublist _⟩
      · skip
        refine TC.skip ?_
        refine TQ.blkN ?_
        refine TQ.thenC ?_
        refine TC.region ?_
        refine TL.pure (PV.move rfl) rfl (by decide) ?_
        refine TL.pure (PV.add rfl rfl (by omega)) rfl (by decide) ?_
        refine TL.pure (PV.assign rfl) rfl (by decide) ?_
        refine TL.nil ?_
        refine TQ.thenN ?_
        refine TQ.backK (k + 1) (by repeat (first | exact True.intro | refine And.intro rfl ?_)) (by repeat (first | exact True.intro | refine And.intro rfl ?_)) (by repeat (first | exact List.Sublist.slnil | exact List.nil_sublist _ | exact List.Sublist.refl _ | refine List.Sublist.cons_cons _ ?_ | refine List.Sublist.cons _ ?_ | refine List.Sublist.trans ?_ (List.sublist_append_right _ _))) ⟨by omega, fun j hj => if e : j < k then hk.2 j e else (show k = j by omega) ▸ (by omega)⟩ (by omega)
    · skip
      refine TC.exit ?_
      refine TQ.thenE ?_
      refine TQ.thenE ?_
      refine TQ.blkS ?_
      refine TQ.thenC ?_
      refine TC.seq ?_
      refine TC.region ?_
      refine TL.pure (PV.assign rfl) rfl (by decide) ?_
      refine TL.nil ?_
      refine TQ.thenC ?_
      refine TC.ret ?_
      refine TQ.retE1 rfl rfl ?_
      exact ⟨(), by rw [decide_eq_true (ints_ext (by omega) (fun j hj => hk.2 j (by omega)))], trivial, List.nil_sublist _⟩

set_option maxRecDepth 100000 in
theorem large_ok (w0 : World) (vx : Value) (xs : List Int) (hv : IsI w0 vx xs) :
    Calls Try.prog 18 #[vx] w0 (Post (X := Unit) (fun _ => .bool (decide (100 < xs.length))) (fun _ => True) (fun _ => []) w0) := by
  obtain ⟨pl, cl, rfl, hx⟩ := hv
  refine calls Try.func18 rfl (n := 6) rfl (by simp) ?_
  refine TC.seq ?_
  refine TC.region ?_
  refine TL.pure (PV.assign rfl) rfl (by decide) ?_
  refine TL.nil ?_
  refine TQ.thenC ?_
  refine TC.seq ?_
  refine TC.region ?_
  refine TL.pure (PV.move rfl) rfl (by decide) ?_
  refine TL.pure (PV.len rfl Tb.sl_25) rfl (by decide) ?_
  refine TL.pure (PV.gtr rfl rfl) rfl (by decide) ?_
  refine TL.pure (PV.assign rfl) rfl (by decide) ?_
  refine TL.nil ?_
  refine TQ.thenC ?_
  refine TC.ret ?_
  refine TQ.retE1 rfl rfl ?_
  exact ⟨(), by congr 1; rw [decide_eq_decide]; omega, trivial, List.nil_sublist _⟩

set_option maxRecDepth 100000 in
set_option maxHeartbeats 1000000 in
theorem rdo_ok (w0 : World) (n : Int) (p : Option Addr) (cp : Nat) (ss : List St) (hr : StsAt w0 p ss) (vx : Value) (xs : List Int) (hv : IsI w0 vx xs) (hV : VM n ss xs) (i : Nat) (hi : i < ss.length) :
    Calls Try.prog 69 #[yv n p ss.length cp, vx, .int .i64 i] w0 (Post (X := HD) (fun h => .tuple #[gval h (doL xs (ss.getD i default)).length, .int .i64 (doI xs (ss.getD i default))]) (fun h => goI (h, doL xs (ss.getD i default))) (fun h => gbI (h, doL xs (ss.getD i default))) w0) := by
  obtain ⟨pl, cl, rfl, hx⟩ := hv
  have hF := hV.fits hi
  have hml := hV.ml
  have htl := hF.tl
  have hgl := hF.gl
  have hm6 := hF.m6
  refine calls Try.func69 rfl (n := 54) rfl (by simp) ?_
  refine TC.seq ?_
  refine TC.region ?_
  refine TL.box rfl rfl (by decide) (fun b0 hb0 => ?_)
  refine TL.pure (PV.assign rfl) rfl (by decide) ?_
  refine TL.pure (PV.assign rfl) rfl (by decide) ?_
  refine TL.nil ?_
  refine TQ.thenC ?_
  refine TC.seq ?_
  refine TC.seq ?_
  refine TC.region ?_
  refine TL.pure (PV.loadBox rfl Tb.agg_24 (by repeat (first | exact List.Mem.head _ | refine List.Mem.tail _ ?_ | refine List.mem_append_right _ ?_)) rfl) rfl (by decide) ?_
  refine TL.pure (PV.move rfl) rfl (by decide) ?_
  refine TL.pure (PV.move rfl) rfl (by decide) ?_
  refine TL.call rfl Tb.gofn_66 (fun a w hs => covers_ok w _ _ _ _ (hr.new hs.new) _ _ _ (hx.new hs.new) hV i hi) rfl (by decide) (fun _ _ => ?_)
  refine TL.pure ((by first | exact PV.notD rfl | exact PV.not rfl)) rfl (by decide) ?_
  refine TL.nil ?_
  refine TQ.thenC ?_
  first | refine TC.condD rfl (fun hc => ?_) (fun hc => ?_) | refine TC.cond rfl (fun hc => ?_) (fun hc => ?_)
  · skip
    refine TC.seq ?_
    refine TC.region ?_
    refine TL.pure (PV.assign rfl) rfl (by decide) ?_
    refine TL.pure (PV.assign rfl) rfl (by decide) ?_
    refine TL.nil ?_
    refine TQ.thenC ?_
    refine TC.ret ?_
    refine TQ.thenR ?_
    refine TQ.retE2 rfl rfl rfl ?_
    have h6 := do_6 (s := ss.getD i default) (fun h => by rw [h] at hc; cases hc)
    have h6n : doI xs (ss.getD i default) ≠ 0 := by rw [h6]; decide
    exact ⟨none, by rw [doL_z h6n, h6]; rfl, by rw [doL_z h6n]; exact goI_nil, List.nil_sublist _⟩
  · skip
    refine TC.skip ?_
    refine TQ.thenC ?_
    refine TC.seq ?_
    refine TC.region ?_
    refine TL.pure (PV.assign rfl) rfl (by decide) ?_
    refine TL.nil ?_
    refine TQ.thenC ?_
    refine TC.seq ?_
    refine TC.seq ?_
    refine TC.region ?_
    refine TL.pure (PV.assign rfl) rfl (by decide) ?_
    refine TL.nil ?_
    refine TQ.thenC ?_
    refine TC.block ?_
    refine TC.lit [(1, _), (2, _), (3, _), (6, _), (7, _), (8, _), (9, _)] (by repeat (first | exact True.intro | refine And.intro rfl ?_)) ?_
    refine TC.loopK [1, 2, 3, 6, 7] (X := Nat × HD) (fun x => x.1 ≤ xs.length ∧ goI (x.2, mk x.1 (doF xs (ss.getD i default)))) (fun x => [(9, .int .i64 x.1), (8, gval x.2 x.1)]) (fun x => gbI (x.2, mk x.1 (doF xs (ss.getD i default))) ++ [(b0, Obj.cells #[.int .i64 n, .slice p ss.length cp] 24 (0, 0))]) (fun x => xs.length - x.1) (0, none) ⟨Nat.zero_le _, goI_nil⟩ (by repeat (first | exact True.intro | refine And.intro rfl ?_)) (by repeat (first | exact List.Sublist.slnil | exact List.nil_sublist _ | exact List.Sublist.refl _ | refine List.Sublist.cons_cons _ ?_ | refine List.Sublist.cons _ ?_ | refine List.Sublist.trans ?_ (List.sublist_append_right _ _))) ?_
    intro x hx9
    refine TC.lit [(1, _), (2, _), (3, _), (6, _), (7, _), (8, _), (9, _)] (by repeat (first | exact True.intro | refine And.intro rfl ?_)) ?_
    refine TC.seq ?_
    refine TC.seq ?_
    refine TC.region ?_
    refine TL.pure (PV.move rfl) rfl (by decide) ?_
    refine TL.pure (PV.fieldAddr rfl Tb.fo_24_0) rfl (by decide) ?_
    refine TL.pure (PV.load rfl Tb.one_3 (by repeat (first | exact List.Mem.head _ | refine List.Mem.tail _ ?_ | refine List.mem_append_right _ ?_)) rfl) rfl (by decide) ?_
    refine TL.pure (PV.lss rfl rfl) rfl (by decide) ?_
    refine TL.nil ?_
    refine TQ.thenC ?_
    first | refine TC.condD rfl (fun hlt => ?_) (fun hlt => ?_) | refine TC.cond rfl (fun hlt => ?_) (fun hlt => ?_)
    · skip
      refine TC.skip ?_
      refine TQ.thenC ?_
      refine TC.seq ?_
      refine TC.block ?_
      obtain ⟨q2, hq2p, hq2⟩ := hx x.1 (by omega)
      obtain ⟨q1, hq1p, pa, pb, ca, cb, hq10, hq11, hta, htb⟩ := hr i (by omega)
      obtain ⟨q3, hq3p, hq3⟩ := hta x.1 (by omega)
      obtain ⟨q4, hq4p, hq4⟩ := htb x.1 (by omega)
      have hb1 := hF.mb x.1
      have hb2 := hF.tb x.1
      have hb3 := hF.gb x.1
      refine TC.mixE [false, true, true, true, true, true, true, true, true, true, true, true, true, true, true, true, true, true, true, true, true, true, true, true, true, false, false, false] [(b0, Obj.cells #[.int .i64 n, .slice p ss.length cp] 24 (0, 0))] 4 Tb.mixed rfl (by kernel_rfl) (by kernel_rfl) (by kernel_rfl) (by kernel_rfl) (by repeat (first | exact List.Sublist.slnil | exact List.nil_sublist _ | exact List.Sublist.refl _ | refine List.Sublist.cons_cons _ ?_ | refine List.Sublist.cons _ ?_ | refine List.Sublist.trans ?_ (List.sublist_append_right _ _))) ?_
      refine TY.no ?_
      refine TY.op (SOK.pure (PV.move rfl) rfl) (by decide) ?_
      refine TY.op (SOK.pure (PV.move rfl) rfl) (by decide) ?_
      refine TY.op (SOK.pure (PV.indexA rfl hq2p rfl Tb.elm_25 rfl (by omega)) rfl) (by decide) ?_
      refine TY.op (SOK.pure (PV.loadOld rfl Tb.one_3 hq2) rfl) (by decide) ?_
      refine TY.op (SOK.pure (PV.fieldAddr rfl Tb.fo_24_1) rfl) (by decide) ?_
      refine TY.op (SOK.pure (PV.load rfl Tb.one_22 (by repeat (first | exact List.Mem.head _ | refine List.Mem.tail _ ?_ | refine List.mem_append_right _ ?_)) rfl) rfl) (by decide) ?_
      refine TY.op (SOK.pure (PV.move rfl) rfl) (by decide) ?_
      refine TY.op (SOK.pure (PV.indexA rfl hq1p rfl Tb.elm_22 rfl (by omega)) rfl) (by decide) ?_
      refine TY.op (SOK.pure (PV.fieldAddrA rfl Tb.fo_63_0) rfl) (by decide) ?_
      refine TY.op (SOK.pure (PV.loadOld rfl Tb.one_25 hq10) rfl) (by decide) ?_
      refine TY.op (SOK.pure (PV.move rfl) rfl) (by decide) ?_
      refine TY.op (SOK.pure (PV.indexA rfl hq3p rfl Tb.elm_25 rfl (by omega)) rfl) (by decide) ?_
      refine TY.op (SOK.pure (PV.loadOld rfl Tb.one_3 hq3) rfl) (by decide) ?_
      refine TY.op (SOK.pure (PV.sub rfl rfl (by omega)) rfl) (by decide) ?_
      refine TY.op (SOK.pure (PV.fieldAddr rfl Tb.fo_24_1) rfl) (by decide) ?_
      refine TY.op (SOK.pure (PV.load rfl Tb.one_22 (by repeat (first | exact List.Mem.head _ | refine List.Mem.tail _ ?_ | refine List.mem_append_right _ ?_)) rfl) rfl) (by decide) ?_
      refine TY.op (SOK.pure (PV.move rfl) rfl) (by decide) ?_
      refine TY.op (SOK.pure (PV.indexA rfl hq1p rfl Tb.elm_22 rfl (by omega)) rfl) (by decide) ?_
      refine TY.op (SOK.pure (PV.fieldAddrA rfl Tb.fo_63_1) rfl) (by decide) ?_
      refine TY.op (SOK.pure (PV.loadOld rfl Tb.one_25 hq11) rfl) (by decide) ?_
      refine TY.op (SOK.pure (PV.move rfl) rfl) (by decide) ?_
      refine TY.op (SOK.pure (PV.indexA rfl hq4p rfl Tb.elm_25 rfl (by omega)) rfl) (by decide) ?_
      refine TY.op (SOK.pure (PV.loadOld rfl Tb.one_3 hq4) rfl) (by decide) ?_
      refine TY.op (SOK.pure (PV.add rfl rfl (by omega)) rfl) (by decide) ?_
      refine TY.no ?_
      refine TY.no ?_
      refine TY.no ?_
      refine TY.fin ?_
      refine TX.step [0, 25] (by kernel_rfl) (by decide) ⟨⟨_, rfl, ?_⟩, ⟨_, rfl, ?_⟩, trivial⟩
      · skip
        refine TL.pure (PV.move rfl) rfl (by decide) ?_
        refine TL.nil ?_
        refine TX.next (.inl (by repeat (first | exact List.Sublist.slnil | exact List.nil_sublist _ | exact List.Sublist.refl _ | refine List.Sublist.cons_cons _ ?_ | refine List.Sublist.cons _ ?_ | refine List.Sublist.trans ?_ (List.sublist_append_right _ _)))) ?_
        refine TX.step [25] (by kernel_rfl) (by decide) ⟨⟨_, rfl, ?_⟩, trivial⟩
        refine TL.buildSlice (cs := #[.int .i64 (doF xs (ss.getD i default) x.1)]) rfl Tb.sl_25 Tb.zi_3 (by decide) (fill_i _) (by decide) rfl (by decide) (fun bE hbE => ?_)
        refine TL.nil ?_
        refine TX.next (.inl (by repeat (first | exact List.Sublist.slnil | exact List.nil_sublist _ | exact List.Sublist.refl _ | refine List.Sublist.cons_cons _ ?_ | refine List.Sublist.cons _ ?_ | refine List.Sublist.trans ?_ (List.sublist_append_right _ _)))) ?_
        refine TX.step [26] (by kernel_rfl) (by decide) ⟨⟨_, rfl, ?_⟩, trivial⟩
        refine TL.appendI (x0 := (x.2, mk x.1 (doF xs (ss.getD i default)))) (by show some (gval x.2 x.1) = some (gval x.2 (mk x.1 _).length); rw [mk_len]) rfl (by repeat (first | exact List.Mem.head _ | refine List.Mem.tail _ ?_ | refine List.mem_append_right _ ?_)) hx9.2 (by repeat (first | exact TakeH.here _ _ _ _ | apply TakeH.tail | apply TakeH.app)) (by show (mk x.1 _).length ≤ 1000000; rw [mk_len]; omega) rfl (by decide) (fun hh hho => ?_)
        refine TL.nil ?_
        refine TX.next (.inl (by repeat (first | exact List.Sublist.slnil | exact List.nil_sublist _ | exact List.Sublist.refl _ | refine List.Sublist.cons_cons _ ?_ | refine List.Sublist.cons _ ?_ | refine List.Sublist.trans ?_ (List.sublist_append_right _ _)))) ?_
        refine TX.step [27] (by kernel_rfl) (by decide) ⟨⟨_, rfl, ?_⟩, trivial⟩
        refine TL.pure (PV.assign rfl) rfl (by decide) ?_
        refine TL.nil ?_
        refine TX.next (.inr (by kernel_rfl)) ?_
        refine TX.done (by kernel_rfl) ?_
        refine TQ.blkN ?_
        refine TQ.thenC ?_
        refine TC.region ?_
        refine TL.pure (PV.move rfl) rfl (by decide) ?_
        refine TL.pure (PV.add rfl rfl (by omega)) rfl (by decide) ?_
        refine TL.pure (PV.assign rfl) rfl (by decide) ?_
        refine TL.nil ?_
        refine TQ.thenN ?_
        refine TQ.backK (x.1 + 1, hh) (And.intro rfl (And.intro (by show some (gval hh (mk x.1 _ ++ [_]).length) = some (gval hh (x.1 + 1)); rw [List.length_append, mk_len]; rfl) True.intro)) (by repeat (first | exact True.intro | refine And.intro rfl ?_)) (by simp only [mk_succ]; exact List.Sublist.append_left (List.sublist_cons_self _ _) _) ⟨by simp only; omega, by simp only; rw [mk_succ]; exact hho⟩ (by simp only; omega)
      · skip
        refine TL.buildSlice (cs := #[.int .i64 (doF xs (ss.getD i default) x.1)]) rfl Tb.sl_25 Tb.zi_3 (by decide) (fill_i _) (by decide) rfl (by decide) (fun bE hbE => ?_)
        refine TL.nil ?_
        refine TX.next (.inl (by repeat (first | exact List.Sublist.slnil | exact List.nil_sublist _ | exact List.Sublist.refl _ | refine List.Sublist.cons_cons _ ?_ | refine List.Sublist.cons _ ?_ | refine List.Sublist.trans ?_ (List.sublist_append_right _ _)))) ?_
        refine TX.step [0] (by kernel_rfl) (by decide) ⟨⟨_, rfl, ?_⟩, trivial⟩
        refine TL.pure (PV.move rfl) rfl (by decide) ?_
        refine TL.nil ?_
        refine TX.next (.inl (by repeat (first | exact List.Sublist.slnil | exact List.nil_sublist _ | exact List.Sublist.refl _ | refine List.Sublist.cons_cons _ ?_ | refine List.Sublist.cons _ ?_ | refine List.Sublist.trans ?_ (List.sublist_append_right _ _)))) ?_
        refine TX.step [26] (by kernel_rfl) (by decide) ⟨⟨_, rfl, ?_⟩, trivial⟩
        refine TL.appendI (x0 := (x.2, mk x.1 (doF xs (ss.getD i default)))) (by show some (gval x.2 x.1) = some (gval x.2 (mk x.1 _).length); rw [mk_len]) rfl (by repeat (first | exact List.Mem.head _ | refine List.Mem.tail _ ?_ | refine List.mem_append_right _ ?_)) hx9.2 (by repeat (first | exact TakeH.here _ _ _ _ | apply TakeH.tail | apply TakeH.app)) (by show (mk x.1 _).length ≤ 1000000; rw [mk_len]; omega) rfl (by decide) (fun hh hho => ?_)
        refine TL.nil ?_
        refine TX.next (.inl (by repeat (first | exact List.Sublist.slnil | exact List.nil_sublist _ | exact List.Sublist.refl _ | refine List.Sublist.cons_cons _ ?_ | refine List.Sublist.cons _ ?_ | refine List.Sublist.trans ?_ (List.sublist_append_right _ _)))) ?_
        refine TX.step [27] (by kernel_rfl) (by decide) ⟨⟨_, rfl, ?_⟩, trivial⟩
        refine TL.pure (PV.assign rfl) rfl (by decide) ?_
        refine TL.nil ?_
        refine TX.next (.inr (by kernel_rfl)) ?_
        refine TX.done (by kernel_rfl) ?_
        refine TQ.blkN ?_
        refine TQ.thenC ?_
        refine TC.region ?_
        refine TL.pure (PV.move rfl) rfl (by decide) ?_
        refine TL.pure (PV.add rfl rfl (by omega)) rfl (by decide) ?_
        refine TL.pure (PV.assign rfl) rfl (by decide) ?_
        refine TL.nil ?_
        refine TQ.thenN ?_
        refine TQ.backK (x.1 + 1, hh) (And.intro rfl (And.intro (by show some (gval hh (mk x.1 _ ++ [_]).length) = some (gval hh (x.1 + 1)); rw [List.length_append, mk_len]; rfl) True.intro)) (by repeat (first | exact True.intro | refine And.intro rfl ?_)) (by simp only [mk_succ]; exact List.Sublist.append_left (List.sublist_cons_self _ _) _) ⟨by simp only; omega, by simp only; rw [mk_succ]; exact hho⟩ (by simp only; omega)
    · skip
      refine TC.exit ?_
      refine TQ.thenE ?_
      refine TQ.thenE ?_
      refine TQ.blkS ?_
      refine TQ.thenC ?_
      refine TC.seq ?_
      refine TC.seq ?_
      have hdn : doN xs (ss.getD i default) = mk x.1 (doF xs (ss.getD i default)) := by rw [doN_mk, show x.1 = xs.length by omega]
      refine TC.region ?_
      refine TL.pure (PV.move rfl) rfl (by decide) ?_
      refine TL.pure (PV.fieldAddr rfl Tb.fo_24_0) rfl (by decide) ?_
      refine TL.pure (PV.load rfl Tb.one_3 (by repeat (first | exact List.Mem.head _ | refine List.Mem.tail _ ?_ | refine List.mem_append_right _ ?_)) rfl) rfl (by decide) ?_
      refine TL.call rfl Tb.gofn_72 (fun a w hs => (by rw [show gval x.2 x.1 = .slice (gp x.2) (doN xs (ss.getD i default)).length (gc x.2) by rw [hdn]; have h9 := gval_eq hx9.2; simp only [mk_len] at h9 ⊢; exact h9]; exact rall_ok w _ _ _ (by rw [hdn]; exact IntsAt.g (x := (x.2, mk x.1 (doF xs (ss.getD i default)))) hs.new (fun yy hyy => by repeat (first | exact List.mem_append_left _ hyy | exact List.mem_append_left _ (List.mem_append_right _ hyy) | exact List.mem_append_left _ (List.mem_append_left _ hyy) | refine List.mem_append_right _ ?_ | refine List.Mem.tail _ ?_)) hx9.2) (by rw [doN_len]; omega) _ _ _)) rfl (by decide) (fun _ _ => ?_)
      refine TL.pure ((by first | exact PV.notD rfl | exact PV.not rfl)) rfl (by decide) ?_
      refine TL.nil ?_
      refine TQ.thenC ?_
      first | refine TC.condD rfl (fun h5 => ?_) (fun h5 => ?_) | refine TC.cond rfl (fun h5 => ?_) (fun h5 => ?_)
      · skip
        refine TC.seq ?_
        refine TC.region ?_
        refine TL.pure (PV.assign rfl) rfl (by decide) ?_
        refine TL.pure (PV.assign rfl) rfl (by decide) ?_
        refine TL.nil ?_
        refine TQ.thenC ?_
        refine TC.ret ?_
        refine TQ.thenR ?_
        refine TQ.retE2 rfl rfl rfl ?_
        have hc2 : canB xs (ss.getD i default) = true := by cases h : canB xs (ss.getD i default) <;> rw [h] at hc <;> simp at hc ⊢
        have h53 : doI xs (ss.getD i default) = 3 := by unfold doI; rw [if_pos hc2, if_neg (by intro h9; unfold numB at h5; rw [h9, decide_eq_true (by rw [doN_len]; exact hml)] at h5; simp at h5)]
        have h5n : doI xs (ss.getD i default) ≠ 0 := by rw [h53]; decide
        exact ⟨none, by rw [doL_z h5n, h53]; rfl, by rw [doL_z h5n]; exact goI_nil, List.nil_sublist _⟩
      · skip
        refine TC.skip ?_
        refine TQ.thenC ?_
        refine TC.seq ?_
        refine TC.region ?_
        refine TL.pure (PV.move rfl) rfl (by decide) ?_
        refine TL.pure (PV.assign rfl) rfl (by decide) ?_
        refine TL.pure (PV.assign rfl) rfl (by decide) ?_
        refine TL.nil ?_
        refine TQ.thenC ?_
        refine TC.ret ?_
        refine TQ.retE2 rfl rfl rfl ?_
        have hc2 : canB xs (ss.getD i default) = true := by cases h : canB xs (ss.getD i default) <;> rw [h] at hc <;> simp at hc ⊢
        have h50 : doI xs (ss.getD i default) = 0 := by unfold doI; rw [if_pos hc2, if_pos (by unfold numB at h5; rw [decide_eq_true (by rw [doN_len]; exact hml)] at h5; simpa using h5)]
        exact ⟨x.2, by rw [doL_0 h50, h50, hdn, mk_len], by rw [doL_0 h50, hdn]; exact hx9.2, by rw [doL_0 h50, hdn]; exact List.sublist_append_left _ _⟩

end Go.Proofs.Ytkkipbkkijoneaa
