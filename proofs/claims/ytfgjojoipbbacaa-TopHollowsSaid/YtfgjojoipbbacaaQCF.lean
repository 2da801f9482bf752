/- Which columns are open: contracts. -/
import Derived.Test.YtfgjojoipbbacaaQCE
import Derived.Scope
set_option linter.unusedVariables false
set_option linter.unusedSimpArgs false
namespace Go.Sx
section
variable {P : Program} {n : Nat} {w0 : World} {E : Env} {G : Heap} {Q : Exit → Act → World → Prop} {c : Code}
theorem TC.scope (h : TC P n w0 c (Exit.noGoto Q) E G) : TC P n w0 (.scope c) Q E G := fun a w hs => wp_scope_straight (h a w hs)
theorem TC.label {l : Nat} (h : TQ n w0 (Q .normal) E G) : TC P n w0 (.label l) Q E G := fun a w hs => wp_label (h a w hs)
theorem TQ.scR (h : TQ n w0 (Q .ret) E G) : TQ n w0 (Exit.noGoto Q .ret) E G := h
end
end Go.Sx
namespace Go.Proofs.Ytfgjojoipbbacaa
open Go.Sx Go.RowKit

theorem fill_i (v : Int) : Instr.fill (fun i => some (i * 1, 1)) ((Array.range (1 * 1)).map ((Value.int .i64 0).cells[· % (Value.int .i64 0).cells.size]!)) [(0, .int .i64 v)] = some #[.int .i64 v] := by kernel_rfl
def opB (ls : List (List Int)) (xs : List Int) (c : Nat) : Bool := !decide (xs.getD c 0 = (dep ls : Int)) && (nearL ls c).all fun d => decide (xs.getD c 0 ≤ xs.getD d.toNat 0)
/-- The columns before k that are open. -/
def opN (ls : List (List Int)) (xs : List Int) : Nat → List Int
  | 0 => []
  | k + 1 => if opB ls xs k = true then opN ls xs k ++ [(k : Int)] else opN ls xs k
theorem op_len (ls : List (List Int)) (xs : List Int) : ∀ k, (opN ls xs k).length ≤ k
  | 0 => Nat.le_refl 0
  | k + 1 => by
    have := op_len ls xs k
    unfold opN
    split
    · rw [List.length_append]; show _ + 1 ≤ _; omega
    · omega
theorem op_full {ls : List (List Int)} {xs : List Int} {k : Nat} (h : xs.getD k 0 = (dep ls : Int)) : opB ls xs k = false := by
  unfold opB
  rw [decide_eq_true h]
  rfl
theorem op_low {ls : List (List Int)} {xs : List Int} {k u : Nat} (hu : u < (nearL ls k).length) (h : xs.getD ((nearL ls k).getD u 0).toNat 0 < xs.getD k 0) : opB ls xs k = false := by
  unfold opB
  rw [all_no (k := u) (d := 0) hu (decide_eq_false (by omega)), Bool.and_false]
theorem op_yes {ls : List (List Int)} {xs : List Int} {k : Nat} (h : ¬ xs.getD k 0 = (dep ls : Int)) (h2 : ∀ u, u < (nearL ls k).length → ¬ xs.getD ((nearL ls k).getD u 0).toNat 0 < xs.getD k 0) : opB ls xs k = true := by
  unfold opB
  rw [decide_eq_false h, all_yes (f := fun (d : Int) => decide (xs.getD k 0 ≤ xs.getD d.toNat 0)) (d := 0) (fun j hj => decide_eq_true (by have := h2 j hj; omega))]
  rfl
theorem near_bd {ls : List (List Int)} {c u : Nat} (hu : u < (nearL ls c).length) : 0 ≤ (nearL ls c).getD u 0 ∧ (nearL ls c).getD u 0 < ls.length := by
  have h1 : (nearL ls c).getD u 0 ∈ nearL ls c := by
    rw [show (nearL ls c).getD u 0 = (nearL ls c)[u] by simp [List.getD, hu]]
    exact List.getElem_mem _
  have h2 := (List.mem_filter.1 h1).2
  unfold nrB wiB at h2
  have := of_decide_eq_true h2
  omega
theorem near_len (ls : List (List Int)) (c : Nat) : (nearL ls c).length ≤ 3 := List.length_filter_le _ _
theorem app_get {ys : List Int} {s : List Value} {j : Nat} (hj : j < ys.length) : (ys.map (Value.int .i64) ++ s).toArray[j]? = some (.int .i64 (ys.getD j 0)) := by
  simp [List.getElem?_append_left, hj, List.getD]
structure OS (ls : List (List Int)) (xs : List Int) (k : Nat) (y : HD × List Int) : Prop where
  le : k ≤ ls.length
  eq : y.2 = opN ls xs k
  ok : goI y
theorem OS.zero (ls : List (List Int)) (xs : List Int) : OS ls xs 0 (none, []) := ⟨Nat.zero_le _, rfl, ⟨rfl, rfl⟩⟩
theorem OS.skip {ls : List (List Int)} {xs : List Int} {k : Nat} {y : HD × List Int} (h : OS ls xs k y) (hk : k < ls.length) (hb : opB ls xs k = false) : OS ls xs (k + 1) y :=
  ⟨hk, by rw [h.eq]; show _ = if opB ls xs k = true then _ else _; rw [if_neg (by rw [hb]; decide)], h.ok⟩
theorem OS.step {ls : List (List Int)} {xs : List Int} {k : Nat} {y : HD × List Int} {h' : HD} (h : OS ls xs k y) (hk : k < ls.length) (hb : opB ls xs k = true) (ho : goI (h', y.2 ++ [(k : Int)])) : OS ls xs (k + 1) (h', y.2 ++ [(k : Int)]) :=
  ⟨hk, by show y.2 ++ _ = _; rw [h.eq]; show _ = if opB ls xs k = true then _ else _; rw [if_pos hb], ho⟩


set_option maxRecDepth 100000 in
set_option maxHeartbeats 2000000 in
theorem open_ok (w0 : World) (p : Option Addr) (cap : Nat) (ls : List (List Int)) (hr : LsAt w0 p ls) (hb : 1 ≤ ls.length ∧ ls.length ≤ 6) (xs : List Int) (hx : xs.length = 6) :
    Calls Try.prog 86 #[bv p ls.length cap, .agg (intsA xs)] w0 (Post (X := HD) (fun h => gvI (h, opN ls xs ls.length)) (fun h => goI (h, opN ls xs ls.length)) (fun h => gbI (h, opN ls xs ls.length)) w0) := by
  refine calls Try.func86 rfl (n := 43) rfl (by simp) ?_
  refine TC.seq ?_
  refine TC.region ?_
  refine TL.box rfl rfl (by decide) (fun b0 hb0 => ?_)
  refine TL.box rfl rfl (by decide) (fun b1 hb1 => ?_)
  refine TL.pure (PV.assign rfl) rfl (by decide) ?_
  refine TL.nil ?_
  refine TQ.thenC ?_
  refine TC.scope ?_
  refine TC.seq ?_
  refine TC.region ?_
  refine TL.pure (PV.assign rfl) rfl (by decide) ?_
  refine TL.nil ?_
  refine TQ.thenC ?_
  refine TC.seq ?_
  refine TC.label ?_
  refine TQ.thenC ?_
  refine TC.seq ?_
  refine TC.seq ?_
  refine TC.region ?_
  refine TL.pure (PV.fieldAddr rfl Tb.fo_24_0) rfl (by decide) ?_
  refine TL.pure (PV.load rfl Tb.one_22 (by repeat (first | exact List.Mem.head _ | refine List.Mem.tail _ ?_ | refine List.mem_append_right _ ?_)) rfl) rfl (by decide) ?_
  refine TL.pure (PV.len rfl Tb.sl_22) rfl (by decide) ?_
  refine TL.pure (PV.move rfl) rfl (by decide) ?_
  refine TL.nil ?_
  refine TQ.thenC ?_
  refine TC.block ?_
  refine TC.lit [(2, _), (3, _), (4, _), (5, _), (11, _), (12, _)] (by repeat (first | exact True.intro | refine And.intro rfl ?_)) ?_
  refine TC.loopK [2, 3, 4, 11] (X := Nat × HD × List Int) (fun v => OS ls xs v.1 v.2) (fun v => [(12, .int .i64 v.1), (5, gvI v.2)]) (fun v => gbI v.2 ++ ((b1, Obj.cells (intsA xs) 69 (0, 0)) :: [(b0, Obj.cells #[.slice p ls.length cap] 24 (0, 0))])) (fun v => ls.length - v.1) (0, none, []) (OS.zero ls xs) (by repeat (first | exact True.intro | refine And.intro rfl ?_)) (by repeat (first | exact List.Sublist.slnil | exact List.nil_sublist _ | exact List.Sublist.refl _ | exact List.sublist_append_left _ _ | refine List.Sublist.cons_cons _ ?_ | refine (List.append_sublist_append_left _).2 ?_ | refine List.Sublist.cons _ ?_ | refine List.Sublist.trans ?_ (List.sublist_append_right _ _))) ?_
  intro v hv
  refine TC.lit [(2, _), (3, _), (4, _), (5, _), (11, _), (12, _)] (by repeat (first | exact True.intro | refine And.intro rfl ?_)) ?_
  refine TC.seq ?_
  refine TC.region ?_
  refine TL.pure (PV.lss rfl rfl) rfl (by decide) ?_
  refine TL.nil ?_
  refine TQ.thenC ?_
  refine TC.seq ?_
  first | refine TC.condD rfl (fun hlt => ?_) (fun hlt => ?_) | refine TC.cond rfl (fun hlt => ?_) (fun hlt => ?_)
  · skip
    refine TC.skip ?_
    refine TQ.thenC ?_
    refine TC.seq ?_
    refine TC.block ?_
    refine TC.seq ?_
    have hvl := op_len ls xs v.1
    have hve := hv.eq
    have hnl := near_len ls v.1
    refine TC.region ?_
    refine TL.pure (PV.move rfl) rfl (by decide) ?_
    refine TL.pure (PV.assign rfl) rfl (by decide) ?_
    refine TL.nil ?_
    refine TQ.thenC ?_
    refine TC.seq ?_
    refine TC.seq ?_
    refine TC.any Tb.mixed rfl rfl ?_
    refine TA.op (OpOK.pure (PV.move rfl) rfl (by decide)) (by decide) ?_
    refine TA.op (OpOK.pure (PV.indexArr (j := v.1) rfl rfl arr_69 rfl (by omega)) rfl (by decide)) (by decide) ?_
    refine TA.op (OpOK.pure (PV.loadI (xs := xs) rfl Tb.one_3 (by repeat (first | exact List.Mem.head _ | refine List.Mem.tail _ ?_ | refine List.mem_append_right _ ?_)) (by omega)) rfl (by decide)) (by decide) ?_
    refine TA.op (OpOK.pure (PV.loadBox rfl Tb.agg_24 (by repeat (first | exact List.Mem.head _ | refine List.Mem.tail _ ?_ | refine List.mem_append_right _ ?_)) rfl) rfl (by decide)) (by decide) ?_
    refine TA.op (OpOK.call rfl Tb.gofn_62 (fun a w hs => depth_ok w _ _ _ (hr.new hs.new) (by omega)) rfl (by decide)) (by decide) ?_
    refine TA.op (OpOK.pure (PV.eql rfl rfl) rfl (by decide)) (by decide) ?_
    show TQ _ _ _ _ _
    refine TQ.thenC ?_
    first | refine TC.condD rfl (fun hfull => ?_) (fun hfull => ?_) | refine TC.cond rfl (fun hfull => ?_) (fun hfull => ?_)
    · skip
      let nx : Nat × HD × List Int := (v.1 + 1, v.2)
      have hnx : OS ls xs nx.1 nx.2 := hv.skip (by omega) (op_full (by simpa using hfull))
      refine TC.exit ?_
      refine TQ.thenE ?_
      refine TQ.blkS ?_
      refine TQ.thenC ?_
      refine TC.region ?_
      refine TL.pure (PV.add rfl rfl (by omega)) rfl (by decide) ?_
      refine TL.pure (PV.move rfl) rfl (by decide) ?_
      refine TL.nil ?_
      refine TQ.thenN ?_
      refine TQ.backK nx (by repeat (first | exact True.intro | refine And.intro rfl ?_)) (by repeat (first | exact True.intro | refine And.intro rfl ?_)) (by repeat (first | exact List.Sublist.slnil | exact List.nil_sublist _ | exact List.Sublist.refl _ | exact List.sublist_append_left _ _ | refine List.Sublist.cons_cons _ ?_ | refine (List.append_sublist_append_left _).2 ?_ | refine List.Sublist.cons _ ?_ | refine List.Sublist.trans ?_ (List.sublist_append_right _ _))) hnx (by show ls.length - (v.1 + 1) < _; omega)
    · skip
      refine TC.skip ?_
      refine TQ.thenC ?_
      refine TC.seq ?_
      refine TC.seq ?_
      refine TC.region ?_
      refine TL.pure (PV.loadBox rfl Tb.agg_24 (by repeat (first | exact List.Mem.head _ | refine List.Mem.tail _ ?_ | refine List.mem_append_right _ ?_)) rfl) rfl (by decide) ?_
      refine TL.pure (PV.move rfl) rfl (by decide) ?_
      refine TL.call rfl Tb.gofn_104 (fun a w hs => near_ok w _ _ _ (hr.new hs.new) hb v.1 (by omega)) rfl (by decide) (fun x9 _ => ?_)
      refine TL.pure (PV.len rfl Tb.sl_25) rfl (by decide) ?_
      refine TL.pure (PV.move rfl) rfl (by decide) ?_
      refine TL.nil ?_
      refine TQ.thenC ?_
      refine TC.block ?_
      refine TC.lit [(2, _), (3, _), (4, _), (5, _), (6, _), (11, _), (12, _), (23, _), (24, _), (25, _)] (by repeat (first | exact True.intro | refine And.intro rfl ?_)) ?_
      refine TC.loopG [2, 3, 4, 5, 6, 11, 12, 23, 24] (X := Nat × Unit) (fun u => ∀ j, j < u.1 → ¬ xs.getD ((nearL ls v.1).getD j 0).toNat 0 < xs.getD v.1 0) (fun u => [(25, .int .i64 u.1)]) (fun u => (nearL ls v.1).length - u.1) (0, ()) (fun j hj => absurd hj (Nat.not_lt_zero _)) (by repeat (first | exact True.intro | refine And.intro rfl ?_)) ?_
      intro u hu
      refine TC.lit [(2, _), (3, _), (4, _), (5, _), (6, _), (11, _), (12, _), (23, _), (24, _), (25, _)] (by repeat (first | exact True.intro | refine And.intro rfl ?_)) ?_
      refine TC.seq ?_
      refine TC.region ?_
      refine TL.pure (PV.lss rfl rfl) rfl (by decide) ?_
      refine TL.nil ?_
      refine TQ.thenC ?_
      refine TC.seq ?_
      first | refine TC.condD rfl (fun hlt2 => ?_) (fun hlt2 => ?_) | refine TC.cond rfl (fun hlt2 => ?_) (fun hlt2 => ?_)
      · skip
        refine TC.skip ?_
        refine TQ.thenC ?_
        refine TC.seq ?_
        refine TC.block ?_
        refine TC.seq ?_
        refine TC.region ?_
        refine TL.pure (PV.index1 (j := u.1) rfl rfl Tb.elm_25 rfl (by omega)) rfl (by decide) ?_
        refine TL.pure (PV.loadG' rfl Tb.one_3 (by repeat (first | exact List.Mem.head _ | refine List.Mem.tail _ ?_ | refine List.mem_append_right _ ?_)) (app_get (by omega))) rfl (by decide) ?_
        refine TL.pure (PV.assign rfl) rfl (by decide) ?_
        refine TL.nil ?_
        refine TQ.thenC ?_
        refine TC.seq ?_
        obtain ⟨n1, n2⟩ := near_bd (ls := ls) (c := v.1) (u := u.1) (by omega)
        refine TC.any Tb.mixed rfl rfl ?_
        refine TA.op (OpOK.pure (PV.move rfl) rfl (by decide)) (by decide) ?_
        refine TA.op (OpOK.pure (PV.indexArr (j := ((nearL ls v.1).getD u.1 0).toNat) rfl rfl arr_69 (by omega) (by omega)) rfl (by decide)) (by decide) ?_
        refine TA.op (OpOK.pure (PV.loadI (xs := xs) rfl Tb.one_3 (by repeat (first | exact List.Mem.head _ | refine List.Mem.tail _ ?_ | refine List.mem_append_right _ ?_)) (by omega)) rfl (by decide)) (by decide) ?_
        refine TA.op (OpOK.pure (PV.move rfl) rfl (by decide)) (by decide) ?_
        refine TA.op (OpOK.pure (PV.indexArr (j := v.1) rfl rfl arr_69 rfl (by omega)) rfl (by decide)) (by decide) ?_
        refine TA.op (OpOK.pure (PV.loadI (xs := xs) rfl Tb.one_3 (by repeat (first | exact List.Mem.head _ | refine List.Mem.tail _ ?_ | refine List.mem_append_right _ ?_)) (by omega)) rfl (by decide)) (by decide) ?_
        refine TA.op (OpOK.pure (PV.lss rfl rfl) rfl (by decide)) (by decide) ?_
        show TQ _ _ _ _ _
        refine TQ.thenC ?_
        first | refine TC.condD rfl (fun hlow => ?_) (fun hlow => ?_) | refine TC.cond rfl (fun hlow => ?_) (fun hlow => ?_)
        · skip
          let nx : Nat × HD × List Int := (v.1 + 1, v.2)
          have hnx : OS ls xs nx.1 nx.2 := hv.skip (by omega) (op_low (u := u.1) (by omega) hlow)
          refine TC.exit ?_
          refine TQ.blkE (by decide) ?_
          refine TQ.thenE ?_
          refine TQ.thenE ?_
          refine TQ.blkE (by decide) ?_
          refine TQ.thenE ?_
          refine TQ.blkS ?_
          refine TQ.thenC ?_
          refine TC.region ?_
          refine TL.pure (PV.add rfl rfl (by omega)) rfl (by decide) ?_
          refine TL.pure (PV.move rfl) rfl (by decide) ?_
          refine TL.nil ?_
          refine TQ.thenN ?_
          refine TQ.backK nx (by repeat (first | exact True.intro | refine And.intro rfl ?_)) (by repeat (first | exact True.intro | refine And.intro rfl ?_)) (by repeat (first | exact List.Sublist.slnil | exact List.nil_sublist _ | exact List.Sublist.refl _ | exact List.sublist_append_left _ _ | refine List.Sublist.cons_cons _ ?_ | refine (List.append_sublist_append_left _).2 ?_ | refine List.Sublist.cons _ ?_ | refine List.Sublist.trans ?_ (List.sublist_append_right _ _))) hnx (by show ls.length - (v.1 + 1) < _; omega)
        · skip
          refine TC.skip ?_
          refine TQ.blkN ?_
          refine TQ.thenC ?_
          refine TC.region ?_
          refine TL.pure (PV.add rfl rfl (by omega)) rfl (by decide) ?_
          refine TL.pure (PV.move rfl) rfl (by decide) ?_
          refine TL.nil ?_
          refine TQ.thenN ?_
          refine TQ.backK (u.1 + 1, ()) (by repeat (first | exact True.intro | refine And.intro rfl ?_)) (by repeat (first | exact True.intro | refine And.intro rfl ?_)) (by repeat (first | exact List.Sublist.slnil | exact List.nil_sublist _ | exact List.Sublist.refl _ | refine List.Sublist.cons_cons _ ?_ | refine List.Sublist.cons _ ?_ | refine List.Sublist.trans ?_ (List.sublist_append_right _ _))) (fun j hj => if e : j < u.1 then hu j e else (show u.1 = j by simp only at hj; omega) ▸ hlow) (by simp only; omega)
      · skip
        refine TC.exit ?_
        refine TQ.thenE ?_
        refine TQ.thenE ?_
        refine TQ.blkS ?_
        refine TQ.thenC ?_
        have hop : opB ls xs v.1 = true := op_yes (by simpa using hfull) (fun j hj => hu j (by omega))
        refine TC.region ?_
        refine TL.pure (PV.move rfl) rfl (by decide) ?_
        refine TL.pure (PV.move rfl) rfl (by decide) ?_
        refine TL.buildSlice (cs := #[.int .i64 (v.1 : Int)]) rfl Tb.sl_25 Tb.zi_3 (by decide) (fill_i _) (by decide) rfl (by decide) (fun bI hbI => ?_)
        refine TL.appendI (x0 := v.2) (v := (v.1 : Int)) rfl rfl (by repeat (first | exact List.Mem.head _ | refine List.Mem.tail _ ?_ | refine List.mem_append_right _ ?_)) hv.ok (by repeat (first | exact TakeH.here _ _ _ _ | apply TakeH.tail | apply TakeH.app)) (by rw [hve]; omega) rfl (by decide) (fun h9 ho9 => ?_)
        let nx : Nat × HD × List Int := (v.1 + 1, h9, v.2.2 ++ [(v.1 : Int)])
        have hnx : OS ls xs nx.1 nx.2 := hv.step (by omega) hop ho9
        refine TL.pure (PV.assign rfl) rfl (by decide) ?_
        refine TL.nil ?_
        refine TQ.blkN ?_
        refine TQ.thenC ?_
        refine TC.region ?_
        refine TL.pure (PV.add rfl rfl (by omega)) rfl (by decide) ?_
        refine TL.pure (PV.move rfl) rfl (by decide) ?_
        refine TL.nil ?_
        refine TQ.thenN ?_
        refine TQ.backK nx (by repeat (first | exact True.intro | refine And.intro rfl ?_)) (by repeat (first | exact True.intro | refine And.intro rfl ?_)) (by repeat (first | exact List.Sublist.slnil | exact List.nil_sublist _ | exact List.Sublist.refl _ | exact List.sublist_append_left _ _ | refine List.Sublist.cons_cons _ ?_ | refine (List.append_sublist_append_left _).2 ?_ | refine List.Sublist.cons _ ?_ | refine List.Sublist.trans ?_ (List.sublist_append_right _ _))) hnx (by show ls.length - (v.1 + 1) < _; omega)
  · skip
    refine TC.exit ?_
    refine TQ.thenE ?_
    refine TQ.thenE ?_
    refine TQ.blkS ?_
    refine TQ.thenC ?_
    refine TC.seq ?_
    refine TC.region ?_
    refine TL.pure (PV.move rfl) rfl (by decide) ?_
    refine TL.pure (PV.assign rfl) rfl (by decide) ?_
    refine TL.nil ?_
    refine TQ.thenC ?_
    refine TC.ret ?_
    refine TQ.scR ?_
    refine TQ.retE1 rfl rfl ?_
    have e9 : v.1 = ls.length := by have := hv.le; omega
    have e8 := hv.eq
    rw [e9] at e8
    exact ⟨v.2.1, by rw [← e8], by rw [← e8]; exact hv.ok, by rw [← e8]; exact List.sublist_append_left _ _⟩

end Go.Proofs.Ytfgjojoipbbacaa
