/- Texts joined. -/
import Derived.Test.YtbnjmkidbfmomaaGreatDoorQCd
import Derived.Test.YtbnjmkidbfmomaaGreatDoorQMD
set_option linter.unusedSimpArgs false
set_option linter.unusedVariables false
/- Hollows as arrays: contracts. -/
namespace Go.Proofs.YtbnjmkidbfmomaaGreatDoor.C
open Go.Sx Go.RowKit

theorem arr_69 : arrOf Tryz.prog 250 = some (6, 3, 1) := by kernel_rfl
theorem ints_one (xs : List Int) : (xs.map (Value.int .i64)).all Value.oneCell' = true := by
  rw [List.all_eq_true]
  intro v hv
  obtain ⟨i, _, rfl⟩ := List.mem_map.1 hv
  rfl
/-- Column by column. -/
def mixN (f : Int → Int → Int) (xs ys : List Int) (k : Nat) : List Int := (List.zipWith f xs ys).take k ++ xs.drop k
theorem map_len {xs : List Int} (h : xs.length = 6) : (xs.map (Value.int .i64)).length = 6 := by rw [List.length_map, h]
def Z6 : Array Value := #[.int .i64 0, .int .i64 0, .int .i64 0, .int .i64 0, .int .i64 0, .int .i64 0]

end Go.Proofs.YtbnjmkidbfmomaaGreatDoor.C

/- Which columns are open: contracts. -/
namespace Go.Sx
section
variable {P : Program} {n : Nat} {w0 : World} {E : Env} {G : Heap} {Q : Exit → Act → World → Prop} {c : Code}
end
end Go.Sx
namespace Go.Proofs.YtbnjmkidbfmomaaGreatDoor.C
open Go.Sx Go.RowKit

theorem fill_i (v : Int) : Instr.fill (fun i => some (i * 1, 1)) ((Array.range (1 * 1)).map ((Value.int .i64 0).cells[· % (Value.int .i64 0).cells.size]!)) [(0, .int .i64 v)] = some #[.int .i64 v] := by kernel_rfl
def opB (ls : List (List Int)) (xs : List Int) (c : Nat) : Bool := !decide (xs.getD c 0 = (dep ls : Int)) && (nearL ls c).all fun d => decide (xs.getD c 0 ≤ xs.getD d.toNat 0)
/-- The columns before k that are open. -/
def opN (ls : List (List Int)) (xs : List Int) : Nat → List Int
  | 0 => []
  | k + 1 => if opB ls xs k = true then opN ls xs k ++ [(k : Int)] else opN ls xs k
theorem op_len (ls : List (List Int)) (xs : List Int) : ∀ k, (opN ls xs k).length ≤ k
  | 0 => Nat.le_refl 0
  | k + 1 => by
    have := op_len ls xs k
    unfold opN
    split
    · rw [List.length_append]; show _ + 1 ≤ _; omega
    · omega
theorem op_full {ls : List (List Int)} {xs : List Int} {k : Nat} (h : xs.getD k 0 = (dep ls : Int)) : opB ls xs k = false := by
  unfold opB
  rw [decide_eq_true h]
  rfl
theorem op_low {ls : List (List Int)} {xs : List Int} {k u : Nat} (hu : u < (nearL ls k).length) (h : xs.getD ((nearL ls k).getD u 0).toNat 0 < xs.getD k 0) : opB ls xs k = false := by
  unfold opB
  rw [all_no (k := u) (d := 0) hu (decide_eq_false (by omega)), Bool.and_false]
theorem op_yes {ls : List (List Int)} {xs : List Int} {k : Nat} (h : ¬ xs.getD k 0 = (dep ls : Int)) (h2 : ∀ u, u < (nearL ls k).length → ¬ xs.getD ((nearL ls k).getD u 0).toNat 0 < xs.getD k 0) : opB ls xs k = true := by
  unfold opB
  rw [decide_eq_false h, all_yes (f := fun (d : Int) => decide (xs.getD k 0 ≤ xs.getD d.toNat 0)) (d := 0) (fun j hj => decide_eq_true (by have := h2 j hj; omega))]
  rfl
theorem near_bd {ls : List (List Int)} {c u : Nat} (hu : u < (nearL ls c).length) : 0 ≤ (nearL ls c).getD u 0 ∧ (nearL ls c).getD u 0 < ls.length := by
  have h1 : (nearL ls c).getD u 0 ∈ nearL ls c := by
    rw [show (nearL ls c).getD u 0 = (nearL ls c)[u] by simp [List.getD, hu]]
    exact List.getElem_mem _
  have h2 := (List.mem_filter.1 h1).2
  unfold nrB wiB at h2
  have := of_decide_eq_true h2
  omega
theorem near_len (ls : List (List Int)) (c : Nat) : (nearL ls c).length ≤ 3 := List.length_filter_le _ _
theorem app_get {ys : List Int} {s : List Value} {j : Nat} (hj : j < ys.length) : (ys.map (Value.int .i64) ++ s).toArray[j]? = some (.int .i64 (ys.getD j 0)) := by
  simp [List.getElem?_append_left, hj, List.getD]
structure OS (ls : List (List Int)) (xs : List Int) (k : Nat) (y : HD × List Int) : Prop where
  le : k ≤ ls.length
  eq : y.2 = opN ls xs k
  ok : goI y
theorem OS.zero (ls : List (List Int)) (xs : List Int) : OS ls xs 0 (none, []) := ⟨Nat.zero_le _, rfl, ⟨rfl, rfl⟩⟩
theorem OS.skip {ls : List (List Int)} {xs : List Int} {k : Nat} {y : HD × List Int} (h : OS ls xs k y) (hk : k < ls.length) (hb : opB ls xs k = false) : OS ls xs (k + 1) y :=
  ⟨hk, by rw [h.eq]; show _ = if opB ls xs k = true then _ else _; rw [if_neg (by rw [hb]; decide)], h.ok⟩
theorem OS.step {ls : List (List Int)} {xs : List Int} {k : Nat} {y : HD × List Int} {h' : HD} (h : OS ls xs k y) (hk : k < ls.length) (hb : opB ls xs k = true) (ho : goI (h', y.2 ++ [(k : Int)])) : OS ls xs (k + 1) (h', y.2 ++ [(k : Int)]) :=
  ⟨hk, by show y.2 ++ _ = _; rw [h.eq]; show _ = if opB ls xs k = true then _ else _; rw [if_pos hb], ho⟩

set_option maxRecDepth 100000 in
set_option maxHeartbeats 2000000 in
theorem open_ok (w0 : World) (p : Option Addr) (cap : Nat) (ls : List (List Int)) (hr : LsAt w0 p ls) (hb : 1 ≤ ls.length ∧ ls.length ≤ 6) (xs : List Int) (hx : xs.length = 6) :
    Calls Tryz.prog 213 #[bv p ls.length cap, .agg (intsA xs)] w0 (Post (X := HD) (fun h => gvI (h, opN ls xs ls.length)) (fun h => goI (h, opN ls xs ls.length)) (fun h => gbI (h, opN ls xs ls.length)) w0) := by
  refine calls Tryz.func213 rfl (n := 43) rfl (by simp) ?_
  refine TC.seq ?_
  refine TC.region ?_
  refine TL.box rfl rfl (by decide) (fun b0 hb0 => ?_)
  refine TL.box rfl rfl (by decide) (fun b1 hb1 => ?_)
  refine TL.pure (PV.assign rfl) rfl (by decide) ?_
  refine TL.nil ?_
  refine TQ.thenC ?_
  refine TC.scope ?_
  refine TC.seq ?_
  refine TC.region ?_
  refine TL.pure (PV.assign rfl) rfl (by decide) ?_
  refine TL.nil ?_
  refine TQ.thenC ?_
  refine TC.seq ?_
  refine TC.label ?_
  refine TQ.thenC ?_
  refine TC.seq ?_
  refine TC.seq ?_
  refine TC.region ?_
  refine TL.pure (PV.fieldAddr rfl Tb.fo_24_0) rfl (by decide) ?_
  refine TL.pure (PV.load rfl Tb.one_22 (by repeat (first | exact List.Mem.head _ | refine List.Mem.tail _ ?_ | refine List.mem_append_right _ ?_)) rfl) rfl (by decide) ?_
  refine TL.pure (PV.len rfl Tb.sl_22) rfl (by decide) ?_
  refine TL.pure (PV.move rfl) rfl (by decide) ?_
  refine TL.nil ?_
  refine TQ.thenC ?_
  refine TC.block ?_
  refine TC.lit [(2, _), (3, _), (4, _), (5, _), (11, _), (12, _)] (by repeat (first | exact True.intro | refine And.intro rfl ?_)) ?_
  refine TC.loopK [2, 3, 4, 11] (X := Nat × HD × List Int) (fun v => OS ls xs v.1 v.2) (fun v => [(12, .int .i64 v.1), (5, gvI v.2)]) (fun v => gbI v.2 ++ ((b1, Obj.cells (intsA xs) 250 (0, 0)) :: [(b0, Obj.cells #[.slice p ls.length cap] 24 (0, 0))])) (fun v => ls.length - v.1) (0, none, []) (OS.zero ls xs) (by repeat (first | exact True.intro | refine And.intro rfl ?_)) (by repeat (first | exact List.Sublist.slnil | exact List.nil_sublist _ | exact List.Sublist.refl _ | exact List.sublist_append_left _ _ | refine List.Sublist.cons_cons _ ?_ | refine (List.append_sublist_append_left _).2 ?_ | refine List.Sublist.cons _ ?_ | refine List.Sublist.trans ?_ (List.sublist_append_right _ _))) ?_
  intro v hv
  refine TC.lit [(2, _), (3, _), (4, _), (5, _), (11, _), (12, _)] (by repeat (first | exact True.intro | refine And.intro rfl ?_)) ?_
  refine TC.seq ?_
  refine TC.region ?_
  refine TL.pure (PV.lss rfl rfl) rfl (by decide) ?_
  refine TL.nil ?_
  refine TQ.thenC ?_
  refine TC.seq ?_
  first | refine TC.condD rfl (fun hlt => ?_) (fun hlt => ?_) | refine TC.cond rfl (fun hlt => ?_) (fun hlt => ?_)
  · refine TC.skip ?_
    refine TQ.thenC ?_
    refine TC.seq ?_
    refine TC.block ?_
    refine TC.seq ?_
    have hvl := op_len ls xs v.1
    have hve := hv.eq
    have hnl := near_len ls v.1
    refine TC.region ?_
    refine TL.pure (PV.move rfl) rfl (by decide) ?_
    refine TL.pure (PV.assign rfl) rfl (by decide) ?_
    refine TL.nil ?_
    refine TQ.thenC ?_
    refine TC.seq ?_
    refine TC.seq ?_
    refine TC.any Tb.mixed rfl rfl ?_
    refine TA.op (OpOK.pure (PV.move rfl) rfl (by decide)) (by decide) ?_
    refine TA.op (OpOK.pure (PV.indexArr (j := v.1) rfl rfl arr_69 rfl (by omega)) rfl (by decide)) (by decide) ?_
    refine TA.op (OpOK.pure (PV.loadI (xs := xs) rfl Tb.one_3 (by repeat (first | exact List.Mem.head _ | refine List.Mem.tail _ ?_ | refine List.mem_append_right _ ?_)) (by omega)) rfl (by decide)) (by decide) ?_
    refine TA.op (OpOK.pure (PV.loadBox rfl Tb.agg_24 (by repeat (first | exact List.Mem.head _ | refine List.Mem.tail _ ?_ | refine List.mem_append_right _ ?_)) rfl) rfl (by decide)) (by decide) ?_
    refine TA.op (OpOK.call rfl Tb.gofn_132 (fun a w hs => depth_ok w _ _ _ (hr.new hs.new) (by omega)) rfl (by decide)) (by decide) ?_
    refine TA.op (OpOK.pure (PV.eql rfl rfl) rfl (by decide)) (by decide) ?_
    show TQ _ _ _ _ _
    refine TQ.thenC ?_
    first | refine TC.condD rfl (fun hfull => ?_) (fun hfull => ?_) | refine TC.cond rfl (fun hfull => ?_) (fun hfull => ?_)
    · let nx : Nat × HD × List Int := (v.1 + 1, v.2)
      have hnx : OS ls xs nx.1 nx.2 := hv.skip (by omega) (op_full (by simpa using hfull))
      refine TC.exit ?_
      refine TQ.thenE ?_
      refine TQ.blkS ?_
      refine TQ.thenC ?_
      refine TC.region ?_
      refine TL.pure (PV.add rfl rfl (by omega)) rfl (by decide) ?_
      refine TL.pure (PV.move rfl) rfl (by decide) ?_
      refine TL.nil ?_
      refine TQ.thenN ?_
      refine TQ.backK nx (by repeat (first | exact True.intro | refine And.intro rfl ?_)) (by repeat (first | exact True.intro | refine And.intro rfl ?_)) (by repeat (first | exact List.Sublist.slnil | exact List.nil_sublist _ | exact List.Sublist.refl _ | exact List.sublist_append_left _ _ | refine List.Sublist.cons_cons _ ?_ | refine (List.append_sublist_append_left _).2 ?_ | refine List.Sublist.cons _ ?_ | refine List.Sublist.trans ?_ (List.sublist_append_right _ _))) hnx (by show ls.length - (v.1 + 1) < _; omega)
    · refine TC.skip ?_
      refine TQ.thenC ?_
      refine TC.seq ?_
      refine TC.seq ?_
      refine TC.region ?_
      refine TL.pure (PV.loadBox rfl Tb.agg_24 (by repeat (first | exact List.Mem.head _ | refine List.Mem.tail _ ?_ | refine List.mem_append_right _ ?_)) rfl) rfl (by decide) ?_
      refine TL.pure (PV.move rfl) rfl (by decide) ?_
      refine TL.call rfl Tb.gofn_238 (fun a w hs => near_ok w _ _ _ (hr.new hs.new) hb v.1 (by omega)) rfl (by decide) (fun x9 _ => ?_)
      refine TL.pure (PV.len rfl Tb.sl_25) rfl (by decide) ?_
      refine TL.pure (PV.move rfl) rfl (by decide) ?_
      refine TL.nil ?_
      refine TQ.thenC ?_
      refine TC.block ?_
      refine TC.lit [(2, _), (3, _), (4, _), (5, _), (6, _), (11, _), (12, _), (23, _), (24, _), (25, _)] (by repeat (first | exact True.intro | refine And.intro rfl ?_)) ?_
      refine TC.loopG [2, 3, 4, 5, 6, 11, 12, 23, 24] (X := Nat × Unit) (fun u => ∀ j, j < u.1 → ¬ xs.getD ((nearL ls v.1).getD j 0).toNat 0 < xs.getD v.1 0) (fun u => [(25, .int .i64 u.1)]) (fun u => (nearL ls v.1).length - u.1) (0, ()) (fun j hj => absurd hj (Nat.not_lt_zero _)) (by repeat (first | exact True.intro | refine And.intro rfl ?_)) ?_
      intro u hu
      refine TC.lit [(2, _), (3, _), (4, _), (5, _), (6, _), (11, _), (12, _), (23, _), (24, _), (25, _)] (by repeat (first | exact True.intro | refine And.intro rfl ?_)) ?_
      refine TC.seq ?_
      refine TC.region ?_
      refine TL.pure (PV.lss rfl rfl) rfl (by decide) ?_
      refine TL.nil ?_
      refine TQ.thenC ?_
      refine TC.seq ?_
      first | refine TC.condD rfl (fun hlt2 => ?_) (fun hlt2 => ?_) | refine TC.cond rfl (fun hlt2 => ?_) (fun hlt2 => ?_)
      · refine TC.skip ?_
        refine TQ.thenC ?_
        refine TC.seq ?_
        refine TC.block ?_
        refine TC.seq ?_
        refine TC.region ?_
        refine TL.pure (PV.index1 (j := u.1) rfl rfl Tb.elm_25 rfl (by omega)) rfl (by decide) ?_
        refine TL.pure (PV.loadG' rfl Tb.one_3 (by repeat (first | exact List.Mem.head _ | refine List.Mem.tail _ ?_ | refine List.mem_append_right _ ?_)) (app_get (by omega))) rfl (by decide) ?_
        refine TL.pure (PV.assign rfl) rfl (by decide) ?_
        refine TL.nil ?_
        refine TQ.thenC ?_
        refine TC.seq ?_
        obtain ⟨n1, n2⟩ := near_bd (ls := ls) (c := v.1) (u := u.1) (by omega)
        refine TC.any Tb.mixed rfl rfl ?_
        refine TA.op (OpOK.pure (PV.move rfl) rfl (by decide)) (by decide) ?_
        refine TA.op (OpOK.pure (PV.indexArr (j := ((nearL ls v.1).getD u.1 0).toNat) rfl rfl arr_69 (by omega) (by omega)) rfl (by decide)) (by decide) ?_
        refine TA.op (OpOK.pure (PV.loadI (xs := xs) rfl Tb.one_3 (by repeat (first | exact List.Mem.head _ | refine List.Mem.tail _ ?_ | refine List.mem_append_right _ ?_)) (by omega)) rfl (by decide)) (by decide) ?_
        refine TA.op (OpOK.pure (PV.move rfl) rfl (by decide)) (by decide) ?_
        refine TA.op (OpOK.pure (PV.indexArr (j := v.1) rfl rfl arr_69 rfl (by omega)) rfl (by decide)) (by decide) ?_
        refine TA.op (OpOK.pure (PV.loadI (xs := xs) rfl Tb.one_3 (by repeat (first | exact List.Mem.head _ | refine List.Mem.tail _ ?_ | refine List.mem_append_right _ ?_)) (by omega)) rfl (by decide)) (by decide) ?_
        refine TA.op (OpOK.pure (PV.lss rfl rfl) rfl (by decide)) (by decide) ?_
        show TQ _ _ _ _ _
        refine TQ.thenC ?_
        first | refine TC.condD rfl (fun hlow => ?_) (fun hlow => ?_) | refine TC.cond rfl (fun hlow => ?_) (fun hlow => ?_)
        · let nx : Nat × HD × List Int := (v.1 + 1, v.2)
          have hnx : OS ls xs nx.1 nx.2 := hv.skip (by omega) (op_low (u := u.1) (by omega) hlow)
          refine TC.exit ?_
          refine TQ.blkE (by decide) ?_
          refine TQ.thenE ?_
          refine TQ.thenE ?_
          refine TQ.blkE (by decide) ?_
          refine TQ.thenE ?_
          refine TQ.blkS ?_
          refine TQ.thenC ?_
          refine TC.region ?_
          refine TL.pure (PV.add rfl rfl (by omega)) rfl (by decide) ?_
          refine TL.pure (PV.move rfl) rfl (by decide) ?_
          refine TL.nil ?_
          refine TQ.thenN ?_
          refine TQ.backK nx (by repeat (first | exact True.intro | refine And.intro rfl ?_)) (by repeat (first | exact True.intro | refine And.intro rfl ?_)) (by repeat (first | exact List.Sublist.slnil | exact List.nil_sublist _ | exact List.Sublist.refl _ | exact List.sublist_append_left _ _ | refine List.Sublist.cons_cons _ ?_ | refine (List.append_sublist_append_left _).2 ?_ | refine List.Sublist.cons _ ?_ | refine List.Sublist.trans ?_ (List.sublist_append_right _ _))) hnx (by show ls.length - (v.1 + 1) < _; omega)
        · refine TC.skip ?_
          refine TQ.blkN ?_
          refine TQ.thenC ?_
          refine TC.region ?_
          refine TL.pure (PV.add rfl rfl (by omega)) rfl (by decide) ?_
          refine TL.pure (PV.move rfl) rfl (by decide) ?_
          refine TL.nil ?_
          refine TQ.thenN ?_
          refine TQ.backK (u.1 + 1, ()) (by repeat (first | exact True.intro | refine And.intro rfl ?_)) (by repeat (first | exact True.intro | refine And.intro rfl ?_)) (by repeat (first | exact .slnil | exact List.nil_sublist _ | exact .refl _ | refine .cons_cons _ ?_ | refine .cons _ ?_ | refine .trans ?_ (List.sublist_append_right _ _))) (fun j hj => if e : j < u.1 then hu j e else (show u.1 = j by simp only at hj; omega) ▸ hlow) (by simp only; omega)
      · refine TC.exit ?_
        refine TQ.thenE ?_
        refine TQ.thenE ?_
        refine TQ.blkS ?_
        refine TQ.thenC ?_
        have hop : opB ls xs v.1 = true := op_yes (by simpa using hfull) (fun j hj => hu j (by omega))
        refine TC.region ?_
        refine TL.pure (PV.move rfl) rfl (by decide) ?_
        refine TL.pure (PV.move rfl) rfl (by decide) ?_
        refine TL.buildSlice (cs := #[.int .i64 (v.1 : Int)]) rfl Tb.sl_25 Tb.zi_3 (by decide) (fill_i _) (by decide) rfl (by decide) (fun bI hbI => ?_)
        refine TL.appendI (x0 := v.2) (v := (v.1 : Int)) rfl rfl (by repeat (first | exact List.Mem.head _ | refine List.Mem.tail _ ?_ | refine List.mem_append_right _ ?_)) hv.ok (by repeat (first | exact TakeH.here _ _ _ _ | apply TakeH.tail | apply TakeH.app)) (by rw [hve]; omega) rfl (by decide) (fun h9 ho9 => ?_)
        let nx : Nat × HD × List Int := (v.1 + 1, h9, v.2.2 ++ [(v.1 : Int)])
        have hnx : OS ls xs nx.1 nx.2 := hv.step (by omega) hop ho9
        refine TL.pure (PV.assign rfl) rfl (by decide) ?_
        refine TL.nil ?_
        refine TQ.blkN ?_
        refine TQ.thenC ?_
        refine TC.region ?_
        refine TL.pure (PV.add rfl rfl (by omega)) rfl (by decide) ?_
        refine TL.pure (PV.move rfl) rfl (by decide) ?_
        refine TL.nil ?_
        refine TQ.thenN ?_
        refine TQ.backK nx (by repeat (first | exact True.intro | refine And.intro rfl ?_)) (by repeat (first | exact True.intro | refine And.intro rfl ?_)) (by repeat (first | exact List.Sublist.slnil | exact List.nil_sublist _ | exact List.Sublist.refl _ | exact List.sublist_append_left _ _ | refine List.Sublist.cons_cons _ ?_ | refine (List.append_sublist_append_left _).2 ?_ | refine List.Sublist.cons _ ?_ | refine List.Sublist.trans ?_ (List.sublist_append_right _ _))) hnx (by show ls.length - (v.1 + 1) < _; omega)
  · refine TC.exit ?_
    refine TQ.thenE ?_
    refine TQ.thenE ?_
    refine TQ.blkS ?_
    refine TQ.thenC ?_
    refine TC.seq ?_
    refine TC.region ?_
    refine TL.pure (PV.move rfl) rfl (by decide) ?_
    refine TL.pure (PV.assign rfl) rfl (by decide) ?_
    refine TL.nil ?_
    refine TQ.thenC ?_
    refine TC.ret ?_
    refine TQ.scR ?_
    refine TQ.retE1 rfl rfl ?_
    have e9 : v.1 = ls.length := by have := hv.le; omega
    have e8 := hv.eq
    rw [e9] at e8
    exact ⟨v.2.1, by rw [← e8], by rw [← e8]; exact hv.ok, by rw [← e8]; exact List.sublist_append_left _ _⟩

end Go.Proofs.YtbnjmkidbfmomaaGreatDoor.C

/- Lists of ints beside each other, hollows of lists, Open: contracts. -/
namespace Go.Sx
open Go.RowKit Go.Proofs.YtbnjmkidbfmomaaGreatDoor
section
variable {P : Program} {n : Nat} {w0 : World} {E : Env} {G : Heap} {ty : TypeId} {pos : String} {aft : Array Edge} {g : Option (Nat × Bool)} {ops : Array Oper} {Q : Exit → Act → World → Prop} {l : List Oper}
end
end Go.Sx
namespace Go.Proofs.YtbnjmkidbfmomaaGreatDoor.C
open Go.Sx Go.RowKit

theorem sz_3 : (Tryz.prog.info? 3).map (·.size) = some 1 := by kernel_rfl
/-- The list as a hollow: 0 in the columns that the bog does not have. -/
def pad6 (xs : List Int) : List Int := xs ++ List.replicate (6 - xs.length) 0
theorem pad_len {xs : List Int} (h : xs.length ≤ 6) : (pad6 xs).length = 6 := by
  unfold pad6
  rw [List.length_append, List.length_replicate]
  omega
theorem pad_put {xs : List Int} (h : xs.length ≤ 6) : putA Z6 0 (xs.map (Value.int .i64)) = intsA (pad6 xs) := by
  have h1 := putA_list (xs.map (Value.int .i64)) 0 ((List.replicate 6 (0 : Int)).map (Value.int .i64)) (by simp; omega)
  rw [show Z6 = ((List.replicate 6 (0 : Int)).map (Value.int .i64)).toArray from rfl]
  refine Array.toList_inj.1 ?_
  rw [h1]
  unfold intsA pad6
  simp only [List.take_zero, List.nil_append, List.length_map, Nat.zero_add, List.map_append, ← List.map_drop, List.drop_replicate]
def opnI (ls : List (List Int)) (xs : List Int) : List Int := if holI ls xs = 0 then opN ls (pad6 xs) ls.length else []

set_option maxRecDepth 100000 in
set_option maxHeartbeats 1000000 in
theorem hollowOf_ok (w0 : World) (pl : Option Addr) (cl : Nat) (xs : List Int) (hx : IntsAt w0 pl xs) (hl : xs.length ≤ 6) :
    Calls Tryz.prog 214 #[.slice pl xs.length cl] w0 (Post (X := Unit) (fun _ => .agg (intsA (pad6 xs))) (fun _ => True) (fun _ => []) w0) := by
  refine calls Tryz.func214 rfl (n := 8) rfl (by simp) ?_
  refine TC.seq ?_
  refine TC.region ?_
  refine TL.alloc Tb.zero_250 rfl (by decide) (fun b0 hb0 => ?_)
  refine TL.nil ?_
  refine TQ.thenC ?_
  refine TC.seq ?_
  refine TC.region ?_
  refine TL.alloc Tb.zero_250 rfl (by decide) (fun b1 hb1 => ?_)
  refine TL.nil ?_
  refine TQ.thenC ?_
  refine TC.seq ?_
  refine TC.region ?_
  refine TL.pure (PV.sliceAll rfl arr_69 (by decide)) rfl (by decide) ?_
  refine TL.pure (PV.move rfl) rfl (by decide) ?_
  refine TL.copyI (xs := xs) (arr := Z6) (e := 3) rfl rfl Tb.sl_25 sz_3 hx hl (by decide) (by rw [pad_put hl]; exact (by repeat (first | exact Upd.head _ | apply Upd.tail | apply Upd.appR))) rfl (by decide) ?_
  refine TL.nil ?_
  refine TQ.thenC ?_
  refine TC.seq ?_
  refine TC.region ?_
  refine TL.pure (PV.loadBox (cs := (pad6 xs).map (Value.int .i64)) rfl Tb.agg_250 (by repeat (first | exact List.Mem.head _ | refine List.Mem.tail _ ?_ | refine List.mem_append_right _ ?_)) (map_len (pad_len hl))) rfl (by decide) ?_
  refine TL.storeAgg (vs := (pad6 xs).map (Value.int .i64)) rfl rfl Tb.cells_250 (by repeat (first | exact Upd.head _ | apply Upd.tail | apply Upd.appR)) (map_len (pad_len hl)) rfl (ints_one _) rfl rfl ?_
  refine TL.nil ?_
  refine TQ.thenC ?_
  refine TC.ret ?_
  refine TQ.retR rfl (Res.agg rfl Tb.agg_250 (by repeat (first | exact List.Mem.head _ | refine List.Mem.tail _ ?_ | refine List.mem_append_right _ ?_)) (map_len (pad_len hl)) Res.nil) ?_
  simp only [tup]
  exact ⟨(), rfl, trivial, List.nil_sublist _⟩

end Go.Proofs.YtbnjmkidbfmomaaGreatDoor.C

/- Open: contract. -/
namespace Go.Proofs.YtbnjmkidbfmomaaGreatDoor.C
open Go.Sx Go.RowKit

set_option maxRecDepth 100000 in
set_option maxHeartbeats 1000000 in
theorem Open_ok (w0 : World) (p : Option Addr) (cap : Nat) (ls : List (List Int)) (hr : LsAt w0 p ls) (pl : Option Addr) (cl : Nat) (xs : List Int) (hx : IntsAt w0 pl xs) :
    Calls Tryz.prog 184 #[bv p ls.length cap, .slice pl xs.length cl] w0 (Post (X := HD) (fun h => .tuple #[gval h (opnI ls xs).length, .int .i64 (holI ls xs)]) (fun h => goI (h, opnI ls xs)) (fun h => gbI (h, opnI ls xs)) w0) := by
  refine calls Tryz.func184 rfl (n := 17) rfl (by simp) ?_
  refine TC.seq ?_
  refine TC.region ?_
  refine TL.box rfl rfl (by decide) (fun b0 hb0 => ?_)
  refine TL.pure (PV.assign rfl) rfl (by decide) ?_
  refine TL.pure (PV.assign rfl) rfl (by decide) ?_
  refine TL.nil ?_
  refine TQ.thenC ?_
  refine TC.seq ?_
  refine TC.seq ?_
  refine TC.region ?_
  refine TL.pure (PV.loadBox rfl Tb.agg_24 (by repeat (first | exact List.Mem.head _ | refine List.Mem.tail _ ?_ | refine List.mem_append_right _ ?_)) rfl) rfl (by decide) ?_
  refine TL.pure (PV.move rfl) rfl (by decide) ?_
  refine TL.call rfl Tb.gofn_55 (fun a w hs => checkHollow_ok w _ _ _ (hr.new hs.new) _ _ _ (hx.new hs.new)) rfl (by decide) (fun _ _ => ?_)
  refine TL.pure (PV.assign rfl) rfl (by decide) ?_
  refine TL.nil ?_
  refine TQ.thenC ?_
  refine TC.seq ?_
  refine TC.region ?_
  refine TL.pure (PV.move rfl) rfl (by decide) ?_
  refine TL.pure (PV.neq rfl rfl) rfl (by decide) ?_
  refine TL.nil ?_
  refine TQ.thenC ?_
  first | refine TC.condD rfl (fun hbad => ?_) (fun hbad => ?_) | refine TC.cond rfl (fun hbad => ?_) (fun hbad => ?_)
  · refine TC.seq ?_
    refine TC.region ?_
    refine TL.pure (PV.move rfl) rfl (by decide) ?_
    refine TL.pure (PV.assign rfl) rfl (by decide) ?_
    refine TL.pure (PV.assign rfl) rfl (by decide) ?_
    refine TL.nil ?_
    refine TQ.thenC ?_
    refine TC.ret ?_
    refine TQ.thenR ?_
    refine TQ.retE2 rfl rfl rfl ?_
    have e9 : opnI ls xs = [] := if_neg hbad
    exact ⟨none, by rw [e9]; rfl, by rw [e9]; exact ⟨rfl, rfl⟩, List.nil_sublist _⟩
  · refine TC.skip ?_
    refine TQ.thenC ?_
    refine TC.seq ?_
    have hb := (hol_nb hbad).1
    have hn := hb.vb.n
    have hl9 := hb.len
    have e9 : opnI ls xs = opN ls (pad6 xs) ls.length := if_pos (Decidable.of_not_not hbad)
    refine TC.mix [true, true, false, false, false, false] _ 4 Tb.mixed rfl (by kernel_rfl) (by kernel_rfl) (by kernel_rfl) (by kernel_rfl) (List.Sublist.refl _) ?_
    refine TB.op (SOK.pure (PV.loadBox rfl Tb.agg_24 (by repeat (first | exact List.Mem.head _ | refine List.Mem.tail _ ?_ | refine List.mem_append_right _ ?_)) rfl) rfl) (by decide) ?_
    refine TB.op (SOK.pure (PV.move rfl) rfl) (by decide) ?_
    refine TB.no ?_
    refine TB.no ?_
    refine TB.no ?_
    refine TB.no ?_
    refine TB.fin ?_
    refine TX.step [2] (by kernel_rfl) (by decide) ⟨⟨_, rfl, ?_⟩, trivial⟩
    refine TL.call rfl Tb.gofn_214 (fun a w hs => hollowOf_ok w _ _ _ (hx.new hs.new) (by omega)) rfl (by decide) (fun _ _ => ?_)
    refine TL.nil ?_
    refine TX.next (.inl (by repeat (first | exact .slnil | exact List.nil_sublist _ | exact .refl _ | refine .cons_cons _ ?_ | refine .cons _ ?_ | refine .trans ?_ (List.sublist_append_right _ _)))) ?_
    refine TX.step [3] (by kernel_rfl) (by decide) ⟨⟨_, rfl, ?_⟩, trivial⟩
    refine TL.call rfl Tb.gofn_213 (fun a w hs => open_ok w _ _ _ (hr.new hs.new) hn _ (pad_len (by omega))) rfl (by decide) (fun h9 hh9 => ?_)
    refine TL.nil ?_
    refine TX.next (.inl (by repeat (first | exact .slnil | exact List.nil_sublist _ | exact .refl _ | refine .cons_cons _ ?_ | refine .cons _ ?_ | refine .trans ?_ (List.sublist_append_right _ _)))) ?_
    refine TX.step [4] (by kernel_rfl) (by decide) ⟨⟨_, rfl, ?_⟩, trivial⟩
    refine TL.pure (PV.assign rfl) rfl (by decide) ?_
    refine TL.nil ?_
    refine TX.next (.inr (by kernel_rfl)) ?_
    refine TX.step [5] (by kernel_rfl) (by decide) ⟨⟨_, rfl, ?_⟩, trivial⟩
    refine TL.pure (PV.assign rfl) rfl (by decide) ?_
    refine TL.nil ?_
    refine TX.next (.inr (by kernel_rfl)) ?_
    refine TX.done (by kernel_rfl) ?_
    refine TQ.thenC ?_
    refine TC.ret ?_
    refine TQ.retE2 rfl rfl rfl ?_
    exact ⟨h9, by rw [e9, Decidable.of_not_not hbad], by rw [e9]; exact hh9, by rw [e9]; exact List.sublist_append_left _ _⟩

end Go.Proofs.YtbnjmkidbfmomaaGreatDoor.C

/- Hollows that are joined: mathematics. -/
namespace Go.Proofs.YtbnjmkidbfmomaaGreatDoor.C
open Go.Sx Go.RowKit

/-- A right hollow, as a list. -/
structure HO (ls : List (List Int)) (hs : List Int) : Prop extends NB ls hs where
  stp : ∀ k, k + 1 < ls.length → -1 ≤ hs.getD (k + 1) 0 - hs.getD k 0 ∧ hs.getD (k + 1) 0 - hs.getD k 0 ≤ 1
theorem num_ok {ls : List (List Int)} {hs : List Int} (hv : ¬ validI ls ≠ 0) (h : NB ls hs) : numI ls hs = 0 :=
  num_0 hv ⟨h.len, all_yes (d := 0) fun k _ => decide_eq_true (h.at_ k)⟩
theorem ho_to {ls : List (List Int)} {hs : List Int} (hv : ¬ validI ls ≠ 0) (h : HO ls hs) : holI ls hs = 0 :=
  hol_0 (by rw [num_ok hv h.toNB]; decide) (right_yes fun k hk => decide_eq_true (h.stp k (by have := h.len; omega)))
theorem goI_nil : goI (none, []) := ⟨rfl, rfl⟩
section
variable {P : Program} {n : Nat} {w0 : World} {E : Env} {G : Heap} {ty : TypeId} {pos : String} {aft : Array Edge} {g : Option (Nat × Bool)} {ops : Array Oper} {Q : Exit → Act → World → Prop} {l : List Oper}
end
theorem go_len {h : HD} {n : Nat} {xs l : List Int} (ho : gok h n 1 (ival xs)) (hl : l.length = n) : gok h n 1 (ival l) := by
  obtain ⟨h1, h2⟩ := ho
  refine ⟨by simp [hl], ?_⟩
  cases h with
  | none => exact h2
  | some hh =>
    obtain ⟨b, c, sp⟩ := hh
    simp only [List.length_map] at h1 h2 ⊢
    exact ⟨by omega, h2.2⟩
theorem go_lenI {h : HD} {n : Nat} {xs l : List Int} (ho : gok h n 1 (ival xs)) (hl : l.length = n) : goI (h, l) := by
  have := go_len ho hl
  subst hl
  exact this
/-! Lists that are joined, column by column. -/
end Go.Proofs.YtbnjmkidbfmomaaGreatDoor.C

/- Right hollows found from the empty one: the mathematics. -/
namespace Go.Proofs.YtbnjmkidbfmomaaGreatDoor.C
open Go.Sx Go.RowKit
theorem op_ne {ls : List (List Int)} {xs : List Int} {c : Nat} (h : opB ls xs c = true) : ¬ xs.getD c 0 = (dep ls : Int) := fun e => by rw [op_full e] at h; cases h
theorem op_near {ls : List (List Int)} {xs : List Int} {c d : Nat} (h : opB ls xs c = true) (hd : d < ls.length) (hn : (d : Int) = c - 1 ∨ (d : Int) = c + 1) : xs.getD c 0 ≤ xs.getD d 0 := by
  unfold opB at h
  rw [Bool.and_eq_true] at h
  have h1 : (d : Int) ∈ nearL ls c := by
    unfold nearL
    rw [List.mem_filter]
    refine ⟨by rcases hn with e | e <;> simp [e], ?_⟩
    unfold nrB wiB
    exact decide_eq_true (by omega)
  have := of_decide_eq_true (List.all_eq_true.1 h.2 _ h1)
  simpa using this
theorem set_at {xs : List Int} {c d : Nat} {v : Int} (hc : c < xs.length) : (xs.set c v).getD d 0 = if c = d then v else xs.getD d 0 := by
  simp only [List.getD_eq_getElem?_getD, List.getElem?_set]
  by_cases h : c = d
  · subst h
    simp [hc]
  · simp [h]
theorem worK_set {ls : List (List Int)} {k : List Int} {c : Nat} (hk : c < k.length) (h0 : 0 ≤ k.getD c 0) : ∀ n, worK ls (k.set c (k.getD c 0 + 1)) n = worK ls k n + if c < n then (ls.getD c []).getD (k.getD c 0).toNat 0 else 0
  | 0 => by simp [worK]
  | n + 1 => by
    have ih := worK_set hk h0 n (ls := ls)
    show worK ls (k.set c (k.getD c 0 + 1)) n + sumN (ls.getD n []) ((k.set c (k.getD c 0 + 1)).getD n 0).toNat = worK ls k n + sumN (ls.getD n []) (k.getD n 0).toNat + _
    rw [ih, set_at hk]
    by_cases e : c = n
    · subst e
      rw [if_pos rfl, if_neg (Nat.lt_irrefl _), if_pos (by omega), show (k.getD c 0 + 1).toNat = (k.getD c 0).toNat + 1 by omega]
      show _ + (sumN (ls.getD c []) _ + (ls.getD c []).getD _ 0) = _
      omega
    · rw [if_neg e]
      by_cases h : c < n
      · rw [if_pos h, if_pos (by omega)]
        omega
      · rw [if_neg h, if_neg (by omega)]
        omega
theorem op_get {ls : List (List Int)} {xs : List Int} : ∀ {n u : Nat}, u < (opN ls xs n).length → ∃ c : Nat, c < n ∧ (opN ls xs n).getD u 0 = c ∧ opB ls xs c = true
  | 0, u, h => by simp [opN] at h
  | n + 1, u, h => by
    unfold opN at h ⊢
    by_cases hb : opB ls xs n = true
    · rw [if_pos hb] at h ⊢
      rw [List.length_append, List.length_singleton] at h
      by_cases hu : u < (opN ls xs n).length
      · obtain ⟨c, h1, h2, h3⟩ := op_get hu
        exact ⟨c, by omega, by rw [← h2, List.getD_eq_getElem?_getD, List.getElem?_append_left hu, List.getD_eq_getElem?_getD], h3⟩
      · refine ⟨n, by omega, ?_, hb⟩
        rw [List.getD_eq_getElem?_getD, List.getElem?_append_right (by omega), show u - (opN ls xs n).length = 0 by omega]
        rfl
    · rw [if_neg hb] at h ⊢
      obtain ⟨c, h1, h2, h3⟩ := op_get h
      exact ⟨c, by omega, h2, h3⟩
theorem op_idx {ls : List (List Int)} {xs : List Int} {c : Nat} (hb : opB ls xs c = true) : ∀ {n : Nat}, c < n → ∃ u, u < (opN ls xs n).length ∧ (opN ls xs n).getD u 0 = c
  | 0, h => by omega
  | n + 1, h => by
    unfold opN
    by_cases e : c = n
    · subst e
      rw [if_pos hb]
      refine ⟨(opN ls xs c).length, by simp, ?_⟩
      rw [List.getD_eq_getElem?_getD, List.getElem?_append_right (Nat.le_refl _), Nat.sub_self]
      rfl
    · obtain ⟨u, h1, h2⟩ := op_idx hb (n := n) (by omega)
      split
      · exact ⟨u, by rw [List.length_append]; omega, by rw [← h2, List.getD_eq_getElem?_getD, List.getElem?_append_left h1, List.getD_eq_getElem?_getD]⟩
      · exact ⟨u, h1, h2⟩
end Go.Proofs.YtbnjmkidbfmomaaGreatDoor.C

/- Open by the reference: contracts; which columns are open: the law's contract. -/
namespace Go.Proofs.YtbnjmkidbfmomaaGreatDoor.C
open Go.Sx Go.RowKit

abbrev upL (xs : List Int) (c : Nat) : List Int := xs.set c (xs.getD c 0 + 1)
theorem pad_at {xs : List Int} (c : Nat) : (pad6 xs).getD c 0 = xs.getD c 0 := by
  unfold pad6
  simp only [List.getD_eq_getElem?_getD]
  by_cases h : c < xs.length
  · rw [List.getElem?_append_left h]
  · rw [List.getElem?_append_right (by omega), List.getElem?_eq_none (l := xs) (by omega), List.getElem?_replicate]
    split <;> rfl
theorem up_at {xs : List Int} {c k : Nat} (hc : c < xs.length) : (upL xs c).getD k 0 = if c = k then xs.getD c 0 + 1 else xs.getD k 0 := set_at hc
theorem HO.up {ls : List (List Int)} {xs : List Int} {c : Nat} (h : HO ls xs) (hc : c < ls.length) (ho : opB ls (pad6 xs) c = true) : HO ls (upL xs c) := by
  have hl := h.len
  have hn := op_ne ho
  rw [pad_at] at hn
  have hnear : ∀ d : Nat, d < ls.length → ((d : Int) = c - 1 ∨ (d : Int) = c + 1) → xs.getD c 0 ≤ xs.getD d 0 := fun d hd he => by
    have := op_near ho hd he
    rwa [pad_at, pad_at] at this
  have ha := h.at_ c
  refine ⟨⟨h.vb, by rw [List.length_set]; exact hl, fun k => ?_⟩, fun k hk => ?_⟩
  · rw [up_at (by omega)]
    have := h.at_ k
    split <;> omega
  · rw [up_at (by omega), up_at (by omega)]
    have hs := h.stp k hk
    by_cases e1 : c = k + 1
    · subst e1
      rw [if_pos rfl, if_neg (by omega)]
      have := hnear k (by omega) (.inl (by omega))
      omega
    · by_cases e2 : c = k
      · subst e2
        rw [if_neg (by omega), if_pos rfl]
        have := hnear (c + 1) hk (.inr (by omega))
        omega
      · rw [if_neg e1, if_neg e2]; exact hs
theorem opn_ok {ls : List (List Int)} {xs : List Int} (h : ¬ holI ls xs ≠ 0) : opnI ls xs = opN ls (pad6 xs) ls.length := if_pos (Decidable.of_not_not h)
end Go.Proofs.YtbnjmkidbfmomaaGreatDoor.C

/- Orders: contracts. -/
namespace Go.Proofs.YtbnjmkidbfmomaaGreatDoor.C
open Go.Sx Go.RowKit

theorem mem_getD {xs : List Int} {v : Int} : v ∈ xs ↔ ∃ k, k < xs.length ∧ xs.getD k 0 = v := by
  constructor
  · intro h
    obtain ⟨j, hj, rfl⟩ := List.getElem_of_mem h
    exact ⟨j, hj, by simp [List.getD, hj]⟩
  · rintro ⟨k, hk, rfl⟩
    simp [List.getD, hk]
theorem mem_op {ls : List (List Int)} {xs : List Int} {n : Nat} {v : Int} (h0 : 0 ≤ v) (hn : v < n) : v ∈ opN ls xs n ↔ opB ls xs v.toNat = true := by
  rw [mem_getD]
  constructor
  · rintro ⟨k, hk, e⟩
    obtain ⟨c, h1, h2, h3⟩ := op_get hk
    obtain rfl : v = c := by rw [← e, h2]
    rwa [Int.toNat_natCast]
  · intro h
    obtain ⟨u, h1, h2⟩ := op_idx h (n := n) (by omega)
    exact ⟨u, h1, by omega⟩
theorem rep_at (n k : Nat) : (List.replicate n (0 : Int)).getD k 0 = 0 := by
  by_cases hk : k < n <;> simp [List.getD, hk]
theorem ho_zero {ls : List (List Int)} (hv : VB ls) : HO ls (List.replicate ls.length 0) :=
  ⟨⟨hv, by simp, fun k => by rw [rep_at]; omega⟩, fun k _ => by rw [rep_at, rep_at]; omega⟩
set_option maxRecDepth 100000 in
theorem indexI_ok (w0 : World) (pl : Option Addr) (cl : Nat) (xs : List Int) (hx : IntsAt w0 pl xs) (hl : xs.length ≤ 1000000) (v : Int) :
    Calls Tryz.prog 215 #[.slice pl xs.length cl, .int .i64 v] w0 (Post (X := Int) (fun i => .int .i64 i) (fun i => (i = -1 ∧ ∀ j, j < xs.length → ¬ v = xs.getD j 0) ∨ (0 ≤ i ∧ ∃ k, k < xs.length ∧ v = xs.getD k 0)) (fun _ => []) w0) := by
  refine calls Tryz.func215 rfl (n := 19) rfl (by simp) ?_
  refine TC.seq ?_
  refine TC.region ?_
  refine TL.pure (PV.assign rfl) rfl (by decide) ?_
  refine TL.nil ?_
  refine TQ.thenC ?_
  refine TC.seq ?_
  refine TC.seq ?_
  refine TC.region ?_
  refine TL.pure (PV.move rfl) rfl (by decide) ?_
  refine TL.pure (PV.len rfl Tb.sl_25) rfl (by decide) ?_
  refine TL.pure (PV.move rfl) rfl (by decide) ?_
  refine TL.nil ?_
  refine TQ.thenC ?_
  refine TC.block ?_
  -- live and written in the loop, not told: [4]
  refine TC.loopG [0, 1, 7] (X := Nat) (fun k => k ≤ xs.length ∧ ∀ j, j < k → ¬ v = xs.getD j 0) (fun k => [(8, .int .i64 k)]) (fun k => xs.length - k) 0 ⟨Nat.zero_le _, fun j hj => absurd hj (Nat.not_lt_zero _)⟩ (by repeat (first | exact True.intro | refine And.intro rfl ?_)) ?_
  intro k hk
  refine TC.seq ?_
  refine TC.region ?_
  refine TL.pure (PV.lss rfl rfl) rfl (by decide) ?_
  refine TL.nil ?_
  refine TQ.thenC ?_
  refine TC.seq ?_
  first | refine TC.condD rfl (fun hlt => ?_) (fun hlt => ?_) | refine TC.cond rfl (fun hlt => ?_) (fun hlt => ?_)
  · refine TC.skip ?_
    refine TQ.thenC ?_
    refine TC.seq ?_
    refine TC.block ?_
    refine TC.seq ?_
    refine TC.region ?_
    refine TL.pure (PV.move rfl) rfl (by decide) ?_
    refine TL.pure (PV.assign rfl) rfl (by decide) ?_
    refine TL.nil ?_
    refine TQ.thenC ?_
    refine TC.seq ?_
    obtain ⟨q2, hq2p, hq2⟩ := hx k (by omega)
    refine TC.region ?_
    refine TL.pure (PV.move rfl) rfl (by decide) ?_
    refine TL.pure (PV.move rfl) rfl (by decide) ?_
    refine TL.pure (PV.move rfl) rfl (by decide) ?_
    refine TL.pure (PV.indexA rfl hq2p rfl Tb.elm_25 rfl (by omega)) rfl (by decide) ?_
    refine TL.pure (PV.loadOld rfl Tb.one_3 hq2) rfl (by decide) ?_
    refine TL.pure (PV.eql rfl rfl) rfl (by decide) ?_
    refine TL.nil ?_
    refine TQ.thenC ?_
    first | refine TC.condD rfl (fun hno => ?_) (fun hno => ?_) | refine TC.cond rfl (fun hno => ?_) (fun hno => ?_)
    · refine TC.seq ?_
      refine TC.region ?_
      refine TL.pure (PV.move rfl) rfl (by decide) ?_
      refine TL.pure (PV.assign rfl) rfl (by decide) ?_
      refine TL.nil ?_
      refine TQ.thenC ?_
      refine TC.ret ?_
      refine TQ.blkR ?_
      refine TQ.thenR ?_
      refine TQ.thenR ?_
      refine TQ.blkR ?_
      refine TQ.thenR ?_
      refine TQ.retE1 rfl rfl ?_
      first | exact ⟨k, rfl, .inr ⟨by omega, k, by omega, hno⟩, List.nil_sublist _⟩ | exact ⟨-1, rfl, .inl ⟨rfl, fun j hj => hk.2 j (by omega)⟩, List.nil_sublist _⟩
    · refine TC.skip ?_
      refine TQ.blkN ?_
      refine TQ.thenC ?_
      refine TC.region ?_
      refine TL.pure (PV.add rfl rfl (by omega)) rfl (by decide) ?_
      refine TL.pure (PV.move rfl) rfl (by decide) ?_
      refine TL.nil ?_
      refine TQ.thenN ?_
      refine TQ.backK (k + 1) (by repeat (first | exact True.intro | refine And.intro rfl ?_)) (by repeat (first | exact True.intro | refine And.intro rfl ?_)) (by repeat (first | exact .slnil | exact List.nil_sublist _ | exact .refl _ | refine .cons_cons _ ?_ | refine .cons _ ?_ | refine .trans ?_ (List.sublist_append_right _ _))) ⟨by omega, fun j hj => if e : j < k then hk.2 j e else (show k = j by omega) ▸ hno⟩ (by omega)
  · refine TC.exit ?_
    refine TQ.thenE ?_
    refine TQ.thenE ?_
    refine TQ.blkS ?_
    refine TQ.thenC ?_
    refine TC.seq ?_
    refine TC.region ?_
    refine TL.pure (PV.assign rfl) rfl (by decide) ?_
    refine TL.nil ?_
    refine TQ.thenC ?_
    refine TC.ret ?_
    refine TQ.retE1 rfl rfl ?_
    first | exact ⟨k, rfl, .inr ⟨by omega, k, by omega, hno⟩, List.nil_sublist _⟩ | exact ⟨-1, rfl, .inl ⟨rfl, fun j hj => hk.2 j (by omega)⟩, List.nil_sublist _⟩

set_option maxRecDepth 100000 in
theorem containsI_ok (w0 : World) (pl : Option Addr) (cl : Nat) (xs : List Int) (hx : IntsAt w0 pl xs) (hl : xs.length ≤ 1000000) (v : Int) :
    Calls Tryz.prog 185 #[.slice pl xs.length cl, .int .i64 v] w0 (Post (X := Unit) (fun _ => .bool (decide (v ∈ xs))) (fun _ => True) (fun _ => []) w0) := by
  refine calls Tryz.func185 rfl (n := 9) rfl (by simp) ?_
  refine TC.seq ?_
  refine TC.region ?_
  refine TL.pure (PV.assign rfl) rfl (by decide) ?_
  refine TL.nil ?_
  refine TQ.thenC ?_
  refine TC.seq ?_
  refine TC.region ?_
  refine TL.pure (PV.move rfl) rfl (by decide) ?_
  refine TL.pure (PV.move rfl) rfl (by decide) ?_
  refine TL.call rfl Tb.gofn_215 (fun a w hs => indexI_ok w _ _ xs (hx.new hs.new) hl v) rfl (by decide) (fun i9 hi9 => ?_)
  refine TL.pure (PV.geq rfl rfl) rfl (by decide) ?_
  refine TL.pure (PV.assign rfl) rfl (by decide) ?_
  refine TL.nil ?_
  refine TQ.thenC ?_
  refine TC.ret ?_
  refine TQ.retE1 rfl rfl ?_
  refine ⟨(), ?_, trivial, List.nil_sublist _⟩
  congr 1
  rw [decide_eq_decide, mem_getD]
  rcases hi9 with ⟨rfl, h9⟩ | ⟨h9, k, hk, hk2⟩
  · exact ⟨fun h => absurd h (by decide), fun ⟨k, hk, h⟩ => absurd h.symm (h9 k hk)⟩
  · exact ⟨fun _ => ⟨k, hk, hk2.symm⟩, fun _ => h9⟩

end Go.Proofs.YtbnjmkidbfmomaaGreatDoor.C

