/- Way, and the reference's: contracts. -/
import Derived.Test.YtkkipbkkijoneaaDu
import Derived.Test.YtkkipbkkijoneaaDp
set_option linter.unusedVariables false
set_option linter.unusedSimpArgs false
namespace Go.Proofs.Ytkkipbkkijoneaa
open Go.Sx Go.RowKit Go.Sand

theorem way_some {ss : List St} {m m' : List Int} {i : Nat} (hs : nxW ss m i = some m') : pad6 (doL m (ss.getD i default)) = pad6 m' := by
  unfold nxW at hs
  split at hs
  · rename_i h1
    simp only [Option.some.injEq] at hs
    subst hs
    rw [doL_0 h1]
  · cases hs
theorem goal_num {n : Int} {ss : List St} {m goal : List Int} (h : ¬ filI n ss [m, goal] ≠ 0) : ¬ filI n ss [m] ≠ 0 ∧ numB n 0 50 goal = true := by
  rw [filI_two] at h
  by_cases h1 : filI n ss [m] ≠ 0
  · rw [if_pos h1] at h; exact absurd h1 h
  · refine ⟨h1, ?_⟩
    rw [if_neg h1] at h
    cases h2 : numB n 0 50 goal with
    | true => rfl
    | false => rw [h2] at h; exact absurd (by decide) h
theorem fill_o2 (x y : Option Addr) (n c m d : Nat) : Instr.fill (fun i => some (i * 1, 1)) ((Array.range (2 * 1)).map ((Value.slice none 0 0).cells[· % (Value.slice none 0 0).cells.size]!)) [(0, .slice x n c), (1, .slice y m d)] = some #[.slice x n c, .slice y m d] := by kernel_rfl


set_option maxRecDepth 100000 in
set_option maxHeartbeats 2000000 in
theorem wayF_ok (w0 : World) (n : Int) (p : Option Addr) (cp : Nat) (ss : List St) (hr : StsAt w0 p ss) (m : List Int) (hV : VM n ss m) (i : Nat) (hi : i < ss.length) (a : Addr) (ha0 : w0.cell? (a.add 0) = some (.int .i64 n)) (ha1 : w0.cell? (a.add 1) = some (.slice p ss.length cp)) :
    Calls Try.prog 85 #[.agg (intsA (pad6 m)), .int .i64 i, .pointer (some a)] w0 (Post (X := List Int) (fun xs => .tuple #[.agg (intsA xs), .bool (nxW ss m i).isSome]) (fun xs => xs.length = 6 ∧ ∀ s', nxW ss m i = some s' → xs = pad6 s') (fun _ => []) w0) := by
  obtain ⟨q1, hq1p, pa, pb, ca, cb, hq10, hq11, hta, htb⟩ := hr i (by omega)
  have hF := hV.fits hi
  have hm6 := pad_len hV.l6
  have hl6 := pad_len (doL_l6 (s := (ss.getD i default)) hV.l6)
  refine calls Try.func85 rfl (n := 22) rfl (by simp) ?_
  refine TC.seq ?_
  refine TC.region ?_
  refine TL.box rfl rfl (by decide) (fun b0 hb0 => ?_)
  refine TL.alloc Tb.zero_70 rfl (by decide) (fun b1 hb1 => ?_)
  refine TL.pure (PV.assign rfl) rfl (by decide) ?_
  refine TL.nil ?_
  refine TQ.thenC ?_
  refine TC.seq ?_
  refine TC.mixV [true, true, true, true, true, true, false, true, true, true, false, false, true] [(b0, Obj.cells (intsA (pad6 m)) 70 (0, 0))] 13 Tb.mixed rfl (by kernel_rfl) (by kernel_rfl) (by kernel_rfl) (by kernel_rfl) (by repeat (first | exact List.Sublist.slnil | exact List.nil_sublist _ | exact List.Sublist.refl _ | refine List.Sublist.cons_cons _ ?_ | refine List.Sublist.cons _ ?_ | refine List.Sublist.trans ?_ (List.sublist_append_right _ _))) ?_
  refine TV.virt 0 rfl rfl (by decide) rfl (by kernel_rfl) (SOK.pure (PV.loadBox (cs := (pad6 m).map (Value.int .i64)) rfl Tb.agg_70 (by repeat (first | exact List.Mem.head _ | refine List.Mem.tail _ ?_ | refine List.mem_append_right _ ?_)) (map_len hm6)) rfl) ?_
  refine TV.virt 1 rfl rfl (by decide) rfl (by kernel_rfl) (SOK.pure (PV.fieldAddrA rfl Tb.fo_24_1) rfl) ?_
  refine TV.virt 2 rfl rfl (by decide) rfl (by kernel_rfl) (SOK.pure (PV.loadOld rfl Tb.one_22 ha1) rfl) ?_
  refine TV.virt 3 rfl rfl (by decide) rfl (by kernel_rfl) (SOK.pure (PV.move rfl) rfl) ?_
  refine TV.virt 4 rfl rfl (by decide) rfl (by kernel_rfl) (SOK.pure (PV.indexA (j := i) rfl hq1p rfl Tb.elm_22 rfl hi) rfl) ?_
  refine TV.virt 5 rfl rfl (by decide) rfl (by kernel_rfl) (SOK.pure (PV.loadAggA rfl Tb.agg_63 rfl (two_cells hq10 hq11)) rfl) ?_
  refine TV.step [6, 10] (by kernel_rfl) (by decide) rfl ⟨⟨_, rfl, ?_⟩, ⟨_, rfl, ?_⟩, trivial⟩
  · skip
    refine TL.call rfl Tb.gofn_67 (fun a w hs => do_ok w m pa pb ca cb (ss.getD i default) (hta.new hs.new) (htb.new hs.new) hF) rfl (by decide) (fun _ _ => ?_)
    refine TL.nil ?_
    refine TV.next (.inl (by repeat (first | exact List.Sublist.slnil | exact List.nil_sublist _ | exact List.Sublist.refl _ | refine List.Sublist.cons_cons _ ?_ | refine List.Sublist.cons _ ?_ | refine List.Sublist.trans ?_ (List.sublist_append_right _ _)))) ?_
    refine TV.virt 7 rfl rfl (by decide) rfl (by kernel_rfl) (SOK.pure (PV.move rfl) rfl) ?_
    refine TV.virt 8 rfl rfl (by decide) rfl (by kernel_rfl) (SOK.pure (PV.extract rfl rfl) rfl) ?_
    refine TV.virt 9 rfl rfl (by decide) rfl (by kernel_rfl) (SOK.pure (PV.extract rfl rfl) rfl) ?_
    refine TV.step [10] (by kernel_rfl) (by decide) rfl ⟨⟨_, rfl, ?_⟩, trivial⟩
    refine TL.alloc Tb.zero_70 rfl (by decide) (fun bt hbt => ?_)
    refine TL.nil ?_
    refine TV.next (.inl (by repeat (first | exact List.Sublist.slnil | exact List.nil_sublist _ | exact List.Sublist.refl _ | refine List.Sublist.cons_cons _ ?_ | refine List.Sublist.cons _ ?_ | refine List.Sublist.trans ?_ (List.sublist_append_right _ _)))) ?_
    refine TV.step [11] (by kernel_rfl) (by decide) rfl ⟨⟨_, rfl, ?_⟩, trivial⟩
    refine TL.storeAgg (vs := (pad6 (doL m (ss.getD i default))).map (Value.int .i64)) rfl rfl Tb.cells_70 (by repeat (first | exact Upd.head _ | apply Upd.tail | apply Upd.appR)) (map_len hl6) rfl (ints_one _) rfl rfl ?_
    refine TL.nil ?_
    refine TV.next (.inl (by repeat (first | exact List.Sublist.slnil | exact List.nil_sublist _ | exact List.Sublist.refl _ | refine List.Sublist.cons_cons _ ?_ | refine List.Sublist.cons _ ?_ | refine List.Sublist.trans ?_ (List.sublist_append_right _ _)))) ?_
    refine TV.virt 12 rfl rfl (by decide) rfl (by kernel_rfl) (SOK.pure (PV.assign rfl) rfl) ?_
    refine TV.done (by kernel_rfl) ?_
    refine TQ.thenC ?_
    refine TC.seq ?_
    refine TC.region ?_
    refine TL.pure (PV.loadBox (cs := (pad6 (doL m (ss.getD i default))).map (Value.int .i64)) rfl Tb.agg_70 (by repeat (first | exact List.Mem.head _ | refine List.Mem.tail _ ?_ | refine List.mem_append_right _ ?_)) (map_len hl6)) rfl (by decide) ?_
    refine TL.pure (PV.move rfl) rfl (by decide) ?_
    refine TL.pure (PV.eql rfl rfl) rfl (by decide) ?_
    refine TL.storeAgg (vs := (pad6 (doL m (ss.getD i default))).map (Value.int .i64)) rfl rfl Tb.cells_70 (by repeat (first | exact Upd.head _ | apply Upd.tail | apply Upd.appR)) (map_len hl6) rfl (ints_one _) rfl rfl ?_
    refine TL.pure (PV.assign rfl) rfl (by decide) ?_
    refine TL.nil ?_
    refine TQ.thenC ?_
    refine TC.ret ?_
    refine TQ.retR rfl (Res.agg rfl Tb.agg_70 (by repeat (first | exact List.Mem.head _ | refine List.Mem.tail _ ?_ | refine List.mem_append_right _ ?_)) (map_len hl6) (Res.tmp rfl Res.nil)) ?_
    simp only [tup]
    refine ⟨pad6 (doL m (ss.getD i default)), ?_, ⟨hl6, fun s' hs' => way_some hs'⟩, List.nil_sublist _⟩; rw [nxW_bool]; rfl
  · skip
    refine TL.alloc Tb.zero_70 rfl (by decide) (fun bt hbt => ?_)
    refine TL.nil ?_
    refine TV.next (.inl (by repeat (first | exact List.Sublist.slnil | exact List.nil_sublist _ | exact List.Sublist.refl _ | refine List.Sublist.cons_cons _ ?_ | refine List.Sublist.cons _ ?_ | refine List.Sublist.trans ?_ (List.sublist_append_right _ _)))) ?_
    refine TV.step [6] (by kernel_rfl) (by decide) rfl ⟨⟨_, rfl, ?_⟩, trivial⟩
    refine TL.call rfl Tb.gofn_67 (fun a w hs => do_ok w m pa pb ca cb (ss.getD i default) (hta.new hs.new) (htb.new hs.new) hF) rfl (by decide) (fun _ _ => ?_)
    refine TL.nil ?_
    refine TV.next (.inl (by repeat (first | exact List.Sublist.slnil | exact List.nil_sublist _ | exact List.Sublist.refl _ | refine List.Sublist.cons_cons _ ?_ | refine List.Sublist.cons _ ?_ | refine List.Sublist.trans ?_ (List.sublist_append_right _ _)))) ?_
    refine TV.virt 7 rfl rfl (by decide) rfl (by kernel_rfl) (SOK.pure (PV.move rfl) rfl) ?_
    refine TV.virt 8 rfl rfl (by decide) rfl (by kernel_rfl) (SOK.pure (PV.extract rfl rfl) rfl) ?_
    refine TV.virt 9 rfl rfl (by decide) rfl (by kernel_rfl) (SOK.pure (PV.extract rfl rfl) rfl) ?_
    refine TV.step [11] (by kernel_rfl) (by decide) rfl ⟨⟨_, rfl, ?_⟩, trivial⟩
    refine TL.storeAgg (vs := (pad6 (doL m (ss.getD i default))).map (Value.int .i64)) rfl rfl Tb.cells_70 (by repeat (first | exact Upd.head _ | apply Upd.tail | apply Upd.appR)) (map_len hl6) rfl (ints_one _) rfl rfl ?_
    refine TL.nil ?_
    refine TV.next (.inl (by repeat (first | exact List.Sublist.slnil | exact List.nil_sublist _ | exact List.Sublist.refl _ | refine List.Sublist.cons_cons _ ?_ | refine List.Sublist.cons _ ?_ | refine List.Sublist.trans ?_ (List.sublist_append_right _ _)))) ?_
    refine TV.virt 12 rfl rfl (by decide) rfl (by kernel_rfl) (SOK.pure (PV.assign rfl) rfl) ?_
    refine TV.done (by kernel_rfl) ?_
    refine TQ.thenC ?_
    refine TC.seq ?_
    refine TC.region ?_
    refine TL.pure (PV.loadBox (cs := (pad6 (doL m (ss.getD i default))).map (Value.int .i64)) rfl Tb.agg_70 (by repeat (first | exact List.Mem.head _ | refine List.Mem.tail _ ?_ | refine List.mem_append_right _ ?_)) (map_len hl6)) rfl (by decide) ?_
    refine TL.pure (PV.move rfl) rfl (by decide) ?_
    refine TL.pure (PV.eql rfl rfl) rfl (by decide) ?_
    refine TL.storeAgg (vs := (pad6 (doL m (ss.getD i default))).map (Value.int .i64)) rfl rfl Tb.cells_70 (by repeat (first | exact Upd.head _ | apply Upd.tail | apply Upd.appR)) (map_len hl6) rfl (ints_one _) rfl rfl ?_
    refine TL.pure (PV.assign rfl) rfl (by decide) ?_
    refine TL.nil ?_
    refine TQ.thenC ?_
    refine TC.ret ?_
    refine TQ.retR rfl (Res.agg rfl Tb.agg_70 (by repeat (first | exact List.Mem.head _ | refine List.Mem.tail _ ?_ | refine List.mem_append_right _ ?_)) (map_len hl6) (Res.tmp rfl Res.nil)) ?_
    simp only [tup]
    refine ⟨pad6 (doL m (ss.getD i default)), ?_, ⟨hl6, fun s' hs' => way_some hs'⟩, List.nil_sublist _⟩; rw [nxW_bool]; rfl

set_option maxRecDepth 100000 in
set_option maxHeartbeats 1000000 in
theorem wayE_ok (w0 : World) (m : List Int) (hm6 : m.length ≤ 6) (pz : Option Addr) (cz : Nat) (goal : List Int) (hz : IntsAt w0 pz goal) (hgm : goal.length = m.length) (a : Addr) (ha : w0.cell? a = some (.slice pz goal.length cz)) :
    Calls Try.prog 86 #[.agg (intsA (pad6 m)), .pointer (some a)] w0 (Post (X := Unit) (fun _ => .bool (decide (m = goal))) (fun _ => True) (fun _ => []) w0) := by
  have hp6 := pad_len hm6
  have hg6 := pad_len (xs := goal) (by omega)
  refine calls Try.func86 rfl (n := 8) rfl (by simp) ?_
  refine TC.seq ?_
  refine TC.region ?_
  refine TL.box rfl rfl (by decide) (fun b0 hb0 => ?_)
  refine TL.pure (PV.assign rfl) rfl (by decide) ?_
  refine TL.nil ?_
  refine TQ.thenC ?_
  refine TC.seq ?_
  refine TC.mixV [true, true, false, true, true] [(b0, Obj.cells (intsA (pad6 m)) 70 (0, 0))] 5 Tb.mixed rfl (by kernel_rfl) (by kernel_rfl) (by kernel_rfl) (by kernel_rfl) (by repeat (first | exact List.Sublist.slnil | exact List.nil_sublist _ | exact List.Sublist.refl _ | refine List.Sublist.cons_cons _ ?_ | refine List.Sublist.cons _ ?_ | refine List.Sublist.trans ?_ (List.sublist_append_right _ _))) ?_
  refine TV.virt 0 rfl rfl (by decide) rfl (by kernel_rfl) (SOK.pure (PV.loadBox (cs := (pad6 m).map (Value.int .i64)) rfl Tb.agg_70 (by repeat (first | exact List.Mem.head _ | refine List.Mem.tail _ ?_ | refine List.mem_append_right _ ?_)) (map_len hp6)) rfl) ?_
  refine TV.virt 1 rfl rfl (by decide) rfl (by kernel_rfl) (SOK.pure (PV.loadOld rfl Tb.one_25 ha) rfl) ?_
  refine TV.step [2] (by kernel_rfl) (by decide) rfl ⟨⟨_, rfl, ?_⟩, trivial⟩
  refine TL.call rfl Tb.gofn_63 (fun a w hs => fillingOf_ok w _ _ _ (hz.new hs.new) (by omega)) rfl (by decide) (fun _ _ => ?_)
  refine TL.nil ?_
  refine TV.next (.inl (by repeat (first | exact List.Sublist.slnil | exact List.nil_sublist _ | exact List.Sublist.refl _ | refine List.Sublist.cons_cons _ ?_ | refine List.Sublist.cons _ ?_ | refine List.Sublist.trans ?_ (List.sublist_append_right _ _)))) ?_
  refine TV.virt 3 rfl rfl (by decide) rfl (by kernel_rfl) (SOK.pure (PV.cmp rfl rfl (eq70_guard _ _ _ _) (eq70 hp6 hg6)) rfl) ?_
  refine TV.virt 4 rfl rfl (by decide) rfl (by kernel_rfl) (SOK.pure (PV.assign rfl) rfl) ?_
  refine TV.done (by kernel_rfl) ?_
  refine TQ.thenC ?_
  refine TC.ret ?_
  refine TQ.retE1 rfl rfl ?_
  exact ⟨(), by rw [pad_dec hgm.symm], trivial, List.nil_sublist _⟩

set_option maxRecDepth 100000 in
theorem isMost_ok (w0 : World) (most : Int) :
    Calls Try.prog 84 #[.int .i64 most] w0 (Post (X := Unit) (fun _ => .bool (wiB most 0 5)) (fun _ => True) (fun _ => []) w0) := by
  refine calls Try.func84 rfl (n := 9) rfl (by simp) ?_
  refine TC.seq ?_
  refine TC.region ?_
  refine TL.pure (PV.assign rfl) rfl (by decide) ?_
  refine TL.nil ?_
  refine TQ.thenC ?_
  refine TC.seq ?_
  refine TC.region ?_
  refine TL.pure (PV.move rfl) rfl (by decide) ?_
  refine TL.pure (PV.geq rfl rfl) rfl (by decide) ?_
  refine TL.pure (PV.move rfl) rfl (by decide) ?_
  first | refine TL.splitD 5 rfl (fun a1 => ?_) (fun a1 => ?_) | refine TL.split 5 rfl (fun a1 => ?_) (fun a1 => ?_)
  · skip
    refine TL.pure (PV.move rfl) rfl (by decide) ?_
    refine TL.pure (PV.leq rfl rfl) rfl (by decide) ?_
    refine TL.pure (PV.pickT rfl rfl) rfl (by decide) ?_
    refine TL.pure (PV.assign rfl) rfl (by decide) ?_
    refine TL.nil ?_
    refine TQ.thenC ?_
    refine TC.ret ?_
    refine TQ.retE1 rfl rfl ?_
    exact ⟨(), by unfold wiB; congr 1; first | (rw [decide_eq_decide]; omega) | (symm; exact decide_eq_false (by omega)), trivial, List.nil_sublist _⟩
  · skip
    refine TL.skip rfl (fun k hk => by cases hk; decide) ?_
    refine TL.skip rfl (fun k hk => by cases hk; decide) ?_
    refine TL.pure (PV.pickF rfl rfl) rfl (by decide) ?_
    refine TL.pure (PV.assign rfl) rfl (by decide) ?_
    refine TL.nil ?_
    refine TQ.thenC ?_
    refine TC.ret ?_
    refine TQ.retE1 rfl rfl ?_
    exact ⟨(), by unfold wiB; congr 1; first | (rw [decide_eq_decide]; omega) | (symm; exact decide_eq_false (by omega)), trivial, List.nil_sublist _⟩

set_option maxRecDepth 100000 in
set_option maxHeartbeats 4000000 in
theorem Way_ok (w0 : World) (n : Int) (p : Option Addr) (cp : Nat) (ss : List St) (hr : StsAt w0 p ss) (hS : SmS ss) (vx : Value) (xs : List Int) (hv : IsI w0 vx xs) (hl : xs.length ≤ 1000000) (vz : Value) (goal : List Int) (hw : IsI w0 vz goal) (hgl : goal.length ≤ 1000000) (most : Int) :
    Calls Try.prog 37 #[yv n p ss.length cp, vx, vz, .int .i64 most] w0 (Post (X := HD) (fun h => .tuple #[gval h (wayR n ss xs goal most).1.length, .bool (wayR n ss xs goal most).2.1, .int .i64 (wayR n ss xs goal most).2.2]) (fun h => goI (h, (wayR n ss xs goal most).1)) (fun h => gbI (h, (wayR n ss xs goal most).1)) w0) := by
  obtain ⟨pl, cl, rfl, hx⟩ := hv
  obtain ⟨pz, cz, rfl, hz⟩ := hw
  refine calls Try.func37 rfl (n := 50) rfl (by simp) ?_
  refine TC.seq ?_
  refine TC.region ?_
  refine TL.box rfl rfl (by decide) (fun b0 hb0 => ?_)
  refine TL.box rfl rfl (by decide) (fun b1 hb1 => ?_)
  refine TL.pure (PV.assign rfl) rfl (by decide) ?_
  refine TL.pure (PV.assign rfl) rfl (by decide) ?_
  refine TL.pure (PV.assign rfl) rfl (by decide) ?_
  refine TL.nil ?_
  refine TQ.thenC ?_
  refine TC.seq ?_
  refine TC.seq ?_
  refine TC.region ?_
  refine TL.pure (PV.loadBox rfl Tb.agg_24 (by repeat (first | exact List.Mem.head _ | refine List.Mem.tail _ ?_ | refine List.mem_append_right _ ?_)) rfl) rfl (by decide) ?_
  refine TL.pure (PV.move rfl) rfl (by decide) ?_
  refine TL.pure (PV.load rfl Tb.one_25 (by repeat (first | exact List.Mem.head _ | refine List.Mem.tail _ ?_ | refine List.mem_append_right _ ?_)) rfl) rfl (by decide) ?_
  refine TL.buildSlice (cs := #[.slice pl xs.length cl, .slice pz goal.length cz]) rfl Tb.sl_97 Tb.zi_25 (by decide) (fill_o2 _ _ _ _ _ _) (by decide) rfl (by decide) (fun bS hbS => ?_)
  refine TL.call rfl Tb.gofn_73 (fun a w hs => valFil_ok w _ _ _ _ (hr.new hs.new) hS _ _ 2 [xs, goal] (LsAt.two hs.new (by repeat (first | exact List.Mem.head _ | refine List.Mem.tail _ ?_ | refine List.mem_append_right _ ?_)) (hx.new hs.new) (hz.new hs.new)) rfl (two_len hl hgl) (by simp)) rfl (by decide) (fun _ _ => ?_)
  refine TL.pure (PV.assign rfl) rfl (by decide) ?_
  refine TL.nil ?_
  refine TQ.thenC ?_
  refine TC.seq ?_
  refine TC.region ?_
  refine TL.pure (PV.move rfl) rfl (by decide) ?_
  refine TL.pure (PV.neq rfl rfl) rfl (by decide) ?_
  refine TL.nil ?_
  refine TQ.thenC ?_
  first | refine TC.condD rfl (fun a1 => ?_) (fun a1 => ?_) | refine TC.cond rfl (fun a1 => ?_) (fun a1 => ?_)
  · skip
    refine TC.seq ?_
    refine TC.region ?_
    refine TL.pure (PV.move rfl) rfl (by decide) ?_
    refine TL.pure (PV.assign rfl) rfl (by decide) ?_
    refine TL.pure (PV.assign rfl) rfl (by decide) ?_
    refine TL.pure (PV.assign rfl) rfl (by decide) ?_
    refine TL.nil ?_
    refine TQ.thenC ?_
    refine TC.ret ?_
    refine TQ.thenR ?_
    refine TQ.retE3 rfl rfl rfl rfl ?_
    exact ⟨none, by rw [way_1 a1]; rfl, by rw [way_1 a1]; exact goI_nil, List.nil_sublist _⟩
  · skip
    refine TC.skip ?_
    refine TQ.thenC ?_
    refine TC.seq ?_
    refine TC.seq ?_
    refine TC.region ?_
    refine TL.pure (PV.move rfl) rfl (by decide) ?_
    refine TL.call rfl Tb.gofn_84 (fun a w hs => isMost_ok w most) rfl (by decide) (fun _ _ => ?_)
    refine TL.pure ((by first | exact PV.notD rfl | exact PV.not rfl)) rfl (by decide) ?_
    refine TL.nil ?_
    refine TQ.thenC ?_
    first | refine TC.condD rfl (fun a2 => ?_) (fun a2 => ?_) | refine TC.cond rfl (fun a2 => ?_) (fun a2 => ?_)
    · skip
      refine TC.seq ?_
      refine TC.region ?_
      refine TL.pure (PV.assign rfl) rfl (by decide) ?_
      refine TL.pure (PV.assign rfl) rfl (by decide) ?_
      refine TL.pure (PV.assign rfl) rfl (by decide) ?_
      refine TL.nil ?_
      refine TQ.thenC ?_
      refine TC.ret ?_
      refine TQ.thenR ?_
      refine TQ.retE3 rfl rfl rfl rfl ?_
      exact ⟨none, by rw [way_2 a1 (by unfold wiB; simpa using a2)]; rfl, by rw [way_2 a1 (by unfold wiB; simpa using a2)]; exact goI_nil, List.nil_sublist _⟩
    · skip
      refine TC.skip ?_
      refine TQ.thenC ?_
      refine TC.seq ?_
      refine TC.region ?_
      refine TL.pure (PV.makeFunc rfl) rfl (by decide) ?_
      refine TL.pure (PV.assign rfl) rfl (by decide) ?_
      refine TL.nil ?_
      refine TQ.thenC ?_
      refine TC.seq ?_
      refine TC.region ?_
      refine TL.pure (PV.makeFunc rfl) rfl (by decide) ?_
      refine TL.pure (PV.assign rfl) rfl (by decide) ?_
      refine TL.nil ?_
      refine TQ.thenC ?_
      refine TC.seq ?_
      refine TC.seq ?_
      have hgf : ¬ filI n ss [xs, goal] ≠ 0 := a1
      have hmo : wiB most 0 5 = true := by unfold wiB; simpa using a2
      have hm5 : 0 ≤ most ∧ most ≤ 5 := of_decide_eq_true hmo
      obtain ⟨N, hN⟩ : ∃ N : Nat, most + 1 = N := ⟨(most + 1).toNat, by omega⟩
      have hgn := goal_num hgf
      have hV := vm_of hgn.1
      have hgl6 := num_len hgn.2
      have hml := hV.ml
      have hsl := hV.toVY.len
      have e9 := way_3 (ss := ss) (m := xs) (goal := goal) a1 hmo hN
      refine TC.region ?_
      refine TL.pure (PV.move rfl) rfl (by decide) ?_
      refine TL.pure (PV.add rfl rfl (by omega)) rfl (by decide) ?_
      refine TL.pure (PV.move rfl) rfl (by decide) ?_
      refine TL.nil ?_
      refine TQ.thenC ?_
      refine TC.block ?_
      -- live and written in the loop, not told: [8, 9, 10]
      refine TC.lit [(1, _), (4, _), (12, _), (13, _), (31, _), (32, _)] (by repeat (first | exact True.intro | refine And.intro rfl ?_)) ?_
      rw [hN]
      refine TC.loopK [1, 4, 12, 13, 31] (X := Nat) (fun k => k ≤ N ∧ wyG ss goal xs (N - 0) 0 = wyG ss goal xs (N - k) k) (fun k => [(32, .int .i64 k)]) (fun k => [(b1, Obj.cells #[.slice pz goal.length cz] 25 (0, 0)), (b0, Obj.cells #[.int .i64 n, .slice p ss.length cp] 24 (0, 0))]) (fun k => N - k) 0 ⟨Nat.zero_le _, rfl⟩ (by repeat (first | exact True.intro | refine And.intro rfl ?_)) (by repeat (first | exact List.Sublist.slnil | exact List.nil_sublist _ | exact List.Sublist.refl _ | refine List.Sublist.cons_cons _ ?_ | refine List.Sublist.cons _ ?_ | refine List.Sublist.trans ?_ (List.sublist_append_right _ _))) ?_
      intro k hk
      refine TC.lit [(1, _), (4, _), (12, _), (13, _), (31, _), (32, _)] (by repeat (first | exact True.intro | refine And.intro rfl ?_)) ?_
      refine TC.seq ?_
      refine TC.region ?_
      refine TL.pure (PV.lss rfl rfl) rfl (by decide) ?_
      refine TL.nil ?_
      refine TQ.thenC ?_
      refine TC.seq ?_
      first | refine TC.condD rfl (fun hlt => ?_) (fun hlt => ?_) | refine TC.cond rfl (fun hlt => ?_) (fun hlt => ?_)
      · skip
        refine TC.skip ?_
        refine TQ.thenC ?_
        refine TC.seq ?_
        refine TC.block ?_
        refine TC.seq ?_
        refine TC.region ?_
        refine TL.pure (PV.move rfl) rfl (by decide) ?_
        refine TL.pure (PV.assign rfl) rfl (by decide) ?_
        refine TL.nil ?_
        refine TQ.thenC ?_
        refine TC.seq ?_
        refine TC.mixV [true, false, true, true, true, true, true, true, false, true, true, true, true, true] [(b1, Obj.cells #[.slice pz goal.length cz] 25 (0, 0)), (b0, Obj.cells #[.int .i64 n, .slice p ss.length cp] 24 (0, 0))] 14 Tb.mixed rfl (by kernel_rfl) (by kernel_rfl) (by kernel_rfl) (by kernel_rfl) (by repeat (first | exact List.Sublist.slnil | exact List.nil_sublist _ | exact List.Sublist.refl _ | refine List.Sublist.cons_cons _ ?_ | refine List.Sublist.cons _ ?_ | refine List.Sublist.trans ?_ (List.sublist_append_right _ _))) ?_
        refine TV.virt 0 rfl rfl (by decide) rfl (by kernel_rfl) (SOK.pure (PV.move rfl) rfl) ?_
        refine TV.virt 2 rfl rfl (by decide) rfl (by kernel_rfl) (SOK.pure (PV.fieldAddr rfl Tb.fo_24_1) rfl) ?_
        refine TV.virt 3 rfl rfl (by decide) rfl (by kernel_rfl) (SOK.pure (PV.load rfl Tb.one_22 (by repeat (first | exact List.Mem.head _ | refine List.Mem.tail _ ?_ | refine List.mem_append_right _ ?_)) rfl) rfl) ?_
        refine TV.virt 4 rfl rfl (by decide) rfl (by kernel_rfl) (SOK.pure (PV.len rfl Tb.sl_22) rfl) ?_
        refine TV.virt 5 rfl rfl (by decide) rfl (by kernel_rfl) (SOK.pure (PV.move rfl) rfl) ?_
        refine TV.virt 6 rfl rfl (by decide) rfl (by kernel_rfl) (SOK.pure (PV.move rfl) rfl) ?_
        refine TV.virt 7 rfl rfl (by decide) rfl (by kernel_rfl) (SOK.pure (PV.move rfl) rfl) ?_
        refine TV.step [1] (by kernel_rfl) (by decide) rfl ⟨⟨_, rfl, ?_⟩, trivial⟩
        refine TL.call rfl Tb.gofn_63 (fun a w hs => fillingOf_ok w _ _ _ (hx.new hs.new) hV.l6) rfl (by decide) (fun _ _ => ?_)
        refine TL.nil ?_
        refine TV.next (.inl (by repeat (first | exact List.Sublist.slnil | exact List.nil_sublist _ | exact List.Sublist.refl _ | refine List.Sublist.cons_cons _ ?_ | refine List.Sublist.cons _ ?_ | refine List.Sublist.trans ?_ (List.sublist_append_right _ _)))) ?_
        refine TV.step [8] (by kernel_rfl) (by decide) rfl ⟨⟨_, rfl, ?_⟩, trivial⟩
        refine TL.call rfl Tb.gofn_87 (fun a w hs => (by exact firstfilling_ok _ _ 85 86 [] [.pointer (some ⟨b0, 0, none⟩)] [] [.pointer (some ⟨b1, 0, none⟩)] pad6 (VM n ss) (nxW ss) (fun m => decide (m = goal)) ss.length hsl (fun s h i s' hi hs9 => nxW_next h hi hs9) (fun s h => pad_len h.l6) k (by omega) w ⟨rfl, Tb.gofn_85, fun w2 G2 hn2 s i hs2 hi => wayF_ok w2 n p cp ss (hr.new (hs.new.trans hn2)) s hs2 i hi ⟨b0, 0, none⟩ ((hs.new.trans hn2).cell (by repeat (first | exact List.Mem.head _ | refine List.Mem.tail _ ?_ | refine List.mem_append_right _ ?_)) rfl) ((hs.new.trans hn2).cell (by repeat (first | exact List.Mem.head _ | refine List.Mem.tail _ ?_ | refine List.mem_append_right _ ?_)) rfl)⟩ ⟨rfl, Tb.gofn_86, fun w2 G2 hn2 s hs2 => wayE_ok w2 s (hs2.l6) _ _ _ (hz.new (hs.new.trans hn2)) (by have h5 := hs2.ml; omega) ⟨b1, 0, none⟩ ((hs.new.trans hn2).cell (by repeat (first | exact List.Mem.head _ | refine List.Mem.tail _ ?_ | refine List.mem_append_right _ ?_)) rfl)⟩ xs hV)) rfl (by decide) (fun h9 hh9 => ?_)
        refine TL.nil ?_
        refine TV.next (.inl (by repeat (first | exact List.Sublist.slnil | exact List.nil_sublist _ | exact List.Sublist.refl _ | refine List.Sublist.cons_cons _ ?_ | refine List.Sublist.cons _ ?_ | refine List.Sublist.trans ?_ (List.sublist_append_right _ _)))) ?_
        refine TV.virt 9 rfl rfl (by decide) rfl (by kernel_rfl) (SOK.pure (PV.move rfl) rfl) ?_
        refine TV.virt 10 rfl rfl (by decide) rfl (by kernel_rfl) (SOK.pure (PV.extract rfl rfl) rfl) ?_
        refine TV.virt 11 rfl rfl (by decide) rfl (by kernel_rfl) (SOK.pure (PV.extract rfl rfl) rfl) ?_
        refine TV.virt 12 rfl rfl (by decide) rfl (by kernel_rfl) (SOK.pure (PV.assign rfl) rfl) ?_
        refine TV.virt 13 rfl rfl (by decide) rfl (by kernel_rfl) (SOK.pure (PV.assign rfl) rfl) ?_
        refine TV.done (by kernel_rfl) ?_
        refine TQ.thenC ?_
        refine TC.seq ?_
        refine TC.region ?_
        refine TL.pure (PV.move rfl) rfl (by decide) ?_
        refine TL.nil ?_
        refine TQ.thenC ?_
        first | refine TC.condD rfl (fun hok => ?_) (fun hok => ?_) | refine TC.cond rfl (fun hok => ?_) (fun hok => ?_)
        · skip
          refine TC.seq ?_
          refine TC.region ?_
          refine TL.pure (PV.move rfl) rfl (by decide) ?_
          refine TL.pure (PV.assign rfl) rfl (by decide) ?_
          refine TL.pure (PV.assign rfl) rfl (by decide) ?_
          refine TL.pure (PV.assign rfl) rfl (by decide) ?_
          refine TL.nil ?_
          refine TQ.thenC ?_
          refine TC.ret ?_
          refine TQ.blkR ?_
          refine TQ.thenR ?_
          refine TQ.thenR ?_
          refine TQ.blkR ?_
          refine TQ.thenR ?_
          refine TQ.retE3 rfl rfl rfl rfl ?_
          have e8 : wyG ss goal xs (N - 0) 0 = ((flW ss goal k xs).1, true) := hk.2.trans (wyG_yes (by omega) hok)
          rw [e8] at e9
          exact ⟨h9, by rw [e9], by rw [e9]; exact hh9, by rw [e9]; exact List.sublist_append_left _ _⟩
        · skip
          have hno := wyG_no (N := N) (ss := ss) (goal := goal) (m := xs) (k := k) (by omega) (by simpa using hok)
          refine TC.skip ?_
          refine TQ.blkN ?_
          refine TQ.thenC ?_
          refine TC.region ?_
          refine TL.pure (PV.add rfl rfl (by omega)) rfl (by decide) ?_
          refine TL.pure (PV.move rfl) rfl (by decide) ?_
          refine TL.nil ?_
          refine TQ.thenN ?_
          refine TQ.backK (k + 1) (by repeat (first | exact True.intro | refine And.intro rfl ?_)) (by repeat (first | exact True.intro | refine And.intro rfl ?_)) (by repeat (first | exact List.Sublist.slnil | exact List.nil_sublist _ | exact List.Sublist.refl _ | refine List.Sublist.cons_cons _ ?_ | refine List.Sublist.cons _ ?_ | refine List.Sublist.trans ?_ (List.sublist_append_right _ _))) ⟨by omega, by rw [hk.2, hno]⟩ (by omega)
      · skip
        refine TC.exit ?_
        refine TQ.thenE ?_
        refine TQ.thenE ?_
        refine TQ.blkS ?_
        refine TQ.thenC ?_
        refine TC.seq ?_
        refine TC.region ?_
        refine TL.pure (PV.assign rfl) rfl (by decide) ?_
        refine TL.pure (PV.assign rfl) rfl (by decide) ?_
        refine TL.pure (PV.assign rfl) rfl (by decide) ?_
        refine TL.nil ?_
        refine TQ.thenC ?_
        refine TC.ret ?_
        refine TQ.retE3 rfl rfl rfl rfl ?_
        have e8 : wyG ss goal xs (N - 0) 0 = ([], false) := hk.2.trans (wyG_end (by omega))
        rw [e8] at e9
        exact ⟨none, by rw [e9]; rfl, by rw [e9]; exact goI_nil, List.nil_sublist _⟩

set_option maxRecDepth 100000 in
set_option maxHeartbeats 4000000 in
theorem rway_step (w0 : World) (n : Int) (p : Option Addr) (cp : Nat) (ss : List St) (hr : StsAt w0 p ss) (hS : SmS ss) (vx : Value) (xs : List Int) (hv : IsI w0 vx xs) (vz : Value) (goal : List Int) (hw : IsI w0 vz goal) (hV : VM n ss xs) (hgm : (goal.length : Int) = n) (L : Nat) (hL : L ≤ 8) (ih : ∀ L' : Nat, L = L' + 1 → ∀ w G, New w0 w G → ∀ (vx : Value) (xs : List Int) (hv : IsI w vx xs), VM n ss xs → Calls Try.prog 88 #[yv n p ss.length cp, vx, vz, .int .i64 L'] w (Post (X := HD) (fun h => .tuple #[gval h (flW ss goal L' xs).1.length, .bool (flW ss goal L' xs).2]) (fun h => goI (h, (flW ss goal L' xs).1)) (fun h => gbI (h, (flW ss goal L' xs).1)) w)) :
    Calls Try.prog 88 #[yv n p ss.length cp, vx, vz, .int .i64 L] w0 (Post (X := HD) (fun h => .tuple #[gval h (flW ss goal L xs).1.length, .bool (flW ss goal L xs).2]) (fun h => goI (h, (flW ss goal L xs).1)) (fun h => gbI (h, (flW ss goal L xs).1)) w0) := by
  obtain ⟨pl, cl, rfl, hx⟩ := hv
  obtain ⟨pz, cz, rfl, hz⟩ := hw
  have hsl := hV.toVY.len
  have hml := hV.ml
  have h6 := hV.l6
  refine calls Try.func88 rfl (n := 50) rfl (by simp) ?_
  refine TC.seq ?_
  refine TC.region ?_
  refine TL.box rfl rfl (by decide) (fun b0 hb0 => ?_)
  refine TL.pure (PV.assign rfl) rfl (by decide) ?_
  refine TL.pure (PV.assign rfl) rfl (by decide) ?_
  refine TL.nil ?_
  refine TQ.thenC ?_
  refine TC.seq ?_
  refine TC.seq ?_
  refine TC.region ?_
  refine TL.pure (PV.move rfl) rfl (by decide) ?_
  refine TL.pure (PV.eql rfl rfl) rfl (by decide) ?_
  refine TL.nil ?_
  refine TQ.thenC ?_
  first | refine TC.condD rfl (fun a1 => ?_) (fun a1 => ?_) | refine TC.cond rfl (fun a1 => ?_) (fun a1 => ?_)
  · skip
    refine TC.seq ?_
    refine TC.region ?_
    refine TL.pure (PV.move rfl) rfl (by decide) ?_
    refine TL.pure (PV.move rfl) rfl (by decide) ?_
    refine TL.call rfl Tb.gofn_90 (fun a w hs => same_ok w _ _ _ (hx.new hs.new) _ _ _ (hz.new hs.new) (by omega) (by omega)) rfl (by decide) (fun _ _ => ?_)
    refine TL.pure (PV.assign rfl) rfl (by decide) ?_
    refine TL.pure (PV.assign rfl) rfl (by decide) ?_
    refine TL.nil ?_
    refine TQ.thenC ?_
    refine TC.ret ?_
    refine TQ.thenR ?_
    refine TQ.retE2 rfl rfl rfl ?_
    obtain rfl : L = 0 := by omega
    exact ⟨none, rfl, goI_nil, List.nil_sublist _⟩
  · skip
    refine TC.skip ?_
    refine TQ.thenC ?_
    refine TC.seq ?_
    refine TC.seq ?_
    refine TC.region ?_
    refine TL.pure (PV.assign rfl) rfl (by decide) ?_
    refine TL.nil ?_
    refine TQ.thenC ?_
    refine TC.block ?_
    -- live and written in the loop, not told: [8, 9]
    refine TC.lit [(1, _), (2, _), (3, _), (4, _), (10, _)] (by repeat (first | exact True.intro | refine And.intro rfl ?_)) ?_
    obtain ⟨M, rfl⟩ : ∃ M, L = M + 1 := ⟨L - 1, by omega⟩
    refine TC.loopK [1, 2, 3, 4] (X := Nat) (fun k => k ≤ ss.length ∧ flW ss goal (M + 1) xs = flG (nxW ss) (flW ss goal M) xs (ss.length - k) k) (fun k => [(10, .int .i64 k)]) (fun k => [(b0, Obj.cells #[.int .i64 n, .slice p ss.length cp] 24 (0, 0))]) (fun k => ss.length - k) 0 ⟨Nat.zero_le _, rfl⟩ (by repeat (first | exact True.intro | refine And.intro rfl ?_)) (by repeat (first | exact List.Sublist.slnil | exact List.nil_sublist _ | exact List.Sublist.refl _ | refine List.Sublist.cons_cons _ ?_ | refine List.Sublist.cons _ ?_ | refine List.Sublist.trans ?_ (List.sublist_append_right _ _))) ?_
    intro k hk
    refine TC.lit [(1, _), (2, _), (3, _), (4, _), (10, _)] (by repeat (first | exact True.intro | refine And.intro rfl ?_)) ?_
    refine TC.seq ?_
    refine TC.seq ?_
    refine TC.region ?_
    refine TL.pure (PV.move rfl) rfl (by decide) ?_
    refine TL.pure (PV.fieldAddr rfl Tb.fo_24_1) rfl (by decide) ?_
    refine TL.pure (PV.load rfl Tb.one_22 (by repeat (first | exact List.Mem.head _ | refine List.Mem.tail _ ?_ | refine List.mem_append_right _ ?_)) rfl) rfl (by decide) ?_
    refine TL.pure (PV.len rfl Tb.sl_22) rfl (by decide) ?_
    refine TL.pure (PV.lss rfl rfl) rfl (by decide) ?_
    refine TL.nil ?_
    refine TQ.thenC ?_
    first | refine TC.condD rfl (fun hlt2 => ?_) (fun hlt2 => ?_) | refine TC.cond rfl (fun hlt2 => ?_) (fun hlt2 => ?_)
    · skip
      refine TC.skip ?_
      refine TQ.thenC ?_
      refine TC.seq ?_
      refine TC.block ?_
      refine TC.seq ?_
      refine TC.region ?_
      refine TL.pure (PV.loadBox rfl Tb.agg_24 (by repeat (first | exact List.Mem.head _ | refine List.Mem.tail _ ?_ | refine List.mem_append_right _ ?_)) rfl) rfl (by decide) ?_
      refine TL.pure (PV.move rfl) rfl (by decide) ?_
      refine TL.pure (PV.move rfl) rfl (by decide) ?_
      refine TL.call rfl Tb.gofn_69 (fun a w hs => rdo_ok w _ _ _ _ (hr.new hs.new) _ _ (IsI.of (hx.new hs.new)) hV k (by omega)) rfl (by decide) (fun h8 hh8 => ?_)
      refine TL.pure (PV.move rfl) rfl (by decide) ?_
      refine TL.pure (PV.extract rfl rfl) rfl (by decide) ?_
      refine TL.pure (PV.extract rfl rfl) rfl (by decide) ?_
      refine TL.pure (PV.assign rfl) rfl (by decide) ?_
      refine TL.pure (PV.assign rfl) rfl (by decide) ?_
      refine TL.nil ?_
      refine TQ.thenC ?_
      refine TC.seq ?_
      refine TC.seq ?_
      refine TC.region ?_
      refine TL.pure (PV.move rfl) rfl (by decide) ?_
      refine TL.pure (PV.neq rfl rfl) rfl (by decide) ?_
      refine TL.nil ?_
      refine TQ.thenC ?_
      first | refine TC.condD rfl (fun a3 => ?_) (fun a3 => ?_) | refine TC.cond rfl (fun a3 => ?_) (fun a3 => ?_)
      · skip
        have hnn : nxW ss xs k = none := if_neg a3
        have hfl : flG (nxW ss) (flW ss goal M) xs (ss.length - k) k = flG (nxW ss) (flW ss goal M) xs (ss.length - (k + 1)) (k + 1) := flG_none (by omega) hnn
        refine TC.exit ?_
        refine TQ.thenE ?_
        refine TQ.blkS ?_
        refine TQ.thenC ?_
        refine TC.region ?_
        refine TL.pure (PV.move rfl) rfl (by decide) ?_
        refine TL.pure (PV.add rfl rfl (by omega)) rfl (by decide) ?_
        refine TL.pure (PV.assign rfl) rfl (by decide) ?_
        refine TL.nil ?_
        refine TQ.thenN ?_
        refine TQ.backK (k + 1) (by repeat (first | exact True.intro | refine And.intro rfl ?_)) (by repeat (first | exact True.intro | refine And.intro rfl ?_)) (by repeat (first | exact List.Sublist.slnil | exact List.nil_sublist _ | exact List.Sublist.refl _ | refine List.Sublist.cons_cons _ ?_ | refine List.Sublist.cons _ ?_ | refine List.Sublist.trans ?_ (List.sublist_append_right _ _))) ⟨by omega, by rw [hk.2, hfl]⟩ (by omega)
      · skip
        have a3 := Decidable.of_not_not a3
        have hsm : nxW ss xs k = some (doN xs (ss.getD k default)) := if_pos a3
        have hI2 := nxW_next hV (by omega) hsm
        rw [doL_0 a3] at hh8
        rw [doL_0 a3]
        have hlm : (flW ss goal M (doN xs (ss.getD k default))).1.length ≤ M := fl_len M _
        refine TC.skip ?_
        refine TQ.thenC ?_
        refine TC.seq ?_
        refine TC.region ?_
        refine TL.pure (PV.loadBox rfl Tb.agg_24 (by repeat (first | exact List.Mem.head _ | refine List.Mem.tail _ ?_ | refine List.mem_append_right _ ?_)) rfl) rfl (by decide) ?_
        refine TL.pure (PV.move rfl) rfl (by decide) ?_
        refine TL.pure (PV.move rfl) rfl (by decide) ?_
        refine TL.pure (PV.move rfl) rfl (by decide) ?_
        refine TL.pure (PV.sub rfl rfl (by omega)) rfl (by decide) ?_
        refine TL.call rfl Tb.gofn_88 (fun a w hs => (by have h8 := ih M rfl w _ hs.new _ (doN xs (ss.getD k default)) (IsI.g (h := h8) hs.new (fun yy hyy => by repeat (first | exact List.mem_append_left _ hyy | exact List.mem_append_left _ (List.mem_append_right _ hyy) | exact List.mem_append_left _ (List.mem_append_left _ hyy) | refine List.mem_append_right _ ?_ | refine List.Mem.tail _ ?_)) hh8) hI2; rw [show ((M : Nat) : Int) = ((M + 1 : Nat) : Int) - 1 by omega] at h8; exact h8)) rfl (by decide) (fun h9 hh9 => ?_)
        refine TL.pure (PV.move rfl) rfl (by decide) ?_
        refine TL.pure (PV.extract rfl rfl) rfl (by decide) ?_
        refine TL.pure (PV.extract rfl rfl) rfl (by decide) ?_
        refine TL.pure (PV.assign rfl) rfl (by decide) ?_
        refine TL.pure (PV.assign rfl) rfl (by decide) ?_
        refine TL.nil ?_
        refine TQ.thenC ?_
        refine TC.seq ?_
        refine TC.region ?_
        refine TL.pure (PV.move rfl) rfl (by decide) ?_
        refine TL.nil ?_
        refine TQ.thenC ?_
        first | refine TC.condD rfl (fun hok => ?_) (fun hok => ?_) | refine TC.cond rfl (fun hok => ?_) (fun hok => ?_)
        · skip
          refine TC.seq ?_
          refine TC.region ?_
          refine TL.pure (PV.move rfl) rfl (by decide) ?_
          refine TL.buildSlice (cs := #[.int .i64 k]) rfl Tb.sl_25 Tb.zi_3 (by decide) (fill_i _) (by decide) rfl (by decide) (fun bE hbE => ?_)
          refine TL.pure (PV.move rfl) rfl (by decide) ?_
          refine TL.cons1 (bE := bE) (v := k) (h := h9) (rest := (flW ss goal M (doN xs (ss.getD k default))).1) rfl rfl (by repeat (first | exact Take.head _ | apply Take.tail | apply Take.appR)) (fun yy hyy => by repeat (first | exact List.mem_append_left _ hyy | exact List.mem_append_left _ (List.mem_append_right _ hyy) | exact List.mem_append_left _ (List.mem_append_left _ hyy) | refine List.mem_append_right _ ?_ | refine List.Mem.tail _ ?_)) hh9 (by omega) rfl (by decide) (fun hh hho => ?_)
          refine TL.pure (PV.assign rfl) rfl (by decide) ?_
          refine TL.pure (PV.assign rfl) rfl (by decide) ?_
          refine TL.nil ?_
          refine TQ.thenC ?_
          refine TC.ret ?_
          refine TQ.blkR ?_
          refine TQ.thenR ?_
          refine TQ.thenR ?_
          refine TQ.blkR ?_
          refine TQ.thenR ?_
          refine TQ.retE2 rfl rfl rfl ?_
          have e9 : flW ss goal (M + 1) xs = ((k : Int) :: (flW ss goal M (doN xs (ss.getD k default))).1, true) := hk.2.trans (flG_yes (by omega) hsm hok)
          exact ⟨hh, by rw [e9], by rw [e9]; exact hho, by rw [e9]; exact List.sublist_append_left _ _⟩
        · skip
          have hfl : flG (nxW ss) (flW ss goal M) xs (ss.length - k) k = flG (nxW ss) (flW ss goal M) xs (ss.length - (k + 1)) (k + 1) := flG_no (by omega) hsm (by simpa using hok)
          refine TC.skip ?_
          refine TQ.blkN ?_
          refine TQ.thenC ?_
          refine TC.region ?_
          refine TL.pure (PV.move rfl) rfl (by decide) ?_
          refine TL.pure (PV.add rfl rfl (by omega)) rfl (by decide) ?_
          refine TL.pure (PV.assign rfl) rfl (by decide) ?_
          refine TL.nil ?_
          refine TQ.thenN ?_
          refine TQ.backK (k + 1) (by repeat (first | exact True.intro | refine And.intro rfl ?_)) (by repeat (first | exact True.intro | refine And.intro rfl ?_)) (by repeat (first | exact List.Sublist.slnil | exact List.nil_sublist _ | exact List.Sublist.refl _ | refine List.Sublist.cons_cons _ ?_ | refine List.Sublist.cons _ ?_ | refine List.Sublist.trans ?_ (List.sublist_append_right _ _))) ⟨by omega, by rw [hk.2, hfl]⟩ (by omega)
    · skip
      refine TC.exit ?_
      refine TQ.thenE ?_
      refine TQ.thenE ?_
      refine TQ.blkS ?_
      refine TQ.thenC ?_
      refine TC.seq ?_
      refine TC.region ?_
      refine TL.pure (PV.assign rfl) rfl (by decide) ?_
      refine TL.pure (PV.assign rfl) rfl (by decide) ?_
      refine TL.nil ?_
      refine TQ.thenC ?_
      refine TC.ret ?_
      refine TQ.retE2 rfl rfl rfl ?_
      have e9 : flW ss goal (M + 1) xs = ([], false) := hk.2.trans (flG_end (by omega))
      exact ⟨none, by rw [e9]; rfl, by rw [e9]; exact goI_nil, List.nil_sublist _⟩

theorem rway_ok (n : Int) (p : Option Addr) (cp : Nat) (ss : List St) (hS : SmS ss) (vz : Value) (goal : List Int) (hgm : (goal.length : Int) = n) : ∀ (L : Nat), L ≤ 8 → ∀ (w0 : World), StsAt w0 p ss → ∀ (vx : Value) (xs : List Int) (hv : IsI w0 vx xs) (hw : IsI w0 vz goal), VM n ss xs →
    Calls Try.prog 88 #[yv n p ss.length cp, vx, vz, .int .i64 L] w0 (Post (X := HD) (fun h => .tuple #[gval h (flW ss goal L xs).1.length, .bool (flW ss goal L xs).2]) (fun h => goI (h, (flW ss goal L xs).1)) (fun h => gbI (h, (flW ss goal L xs).1)) w0)
  | 0, hL, w0, hr, vx, xs, hv, hw, hV => rway_step w0 n p cp ss hr hS vx xs hv vz goal hw hV hgm 0 hL (fun L' h => by omega)
  | L + 1, hL, w0, hr, vx, xs, hv, hw, hV => rway_step w0 n p cp ss hr hS vx xs hv vz goal hw hV hgm (L + 1) hL (fun L' h w G hn vx xs hv hV => by
      obtain rfl : L = L' := by omega
      exact rway_ok n p cp ss hS vz goal hgm L (by omega) w (hr.new hn) vx xs hv (hw.new hn) hV)

set_option maxRecDepth 100000 in
set_option maxHeartbeats 4000000 in
theorem rWay_ok (w0 : World) (n : Int) (p : Option Addr) (cp : Nat) (ss : List St) (hr : StsAt w0 p ss) (hS : SmS ss) (vx : Value) (xs : List Int) (hv : IsI w0 vx xs) (hl : xs.length ≤ 1000000) (vz : Value) (goal : List Int) (hw : IsI w0 vz goal) (hgl : goal.length ≤ 1000000) (most : Int) :
    Calls Try.prog 38 #[yv n p ss.length cp, vx, vz, .int .i64 most] w0 (Post (X := HD) (fun h => .tuple #[gval h (wayR n ss xs goal most).1.length, .bool (wayR n ss xs goal most).2.1, .int .i64 (wayR n ss xs goal most).2.2]) (fun h => goI (h, (wayR n ss xs goal most).1)) (fun h => gbI (h, (wayR n ss xs goal most).1)) w0) := by
  obtain ⟨pl, cl, rfl, hx⟩ := hv
  obtain ⟨pz, cz, rfl, hz⟩ := hw
  refine calls Try.func38 rfl (n := 46) rfl (by simp) ?_
  refine TC.seq ?_
  refine TC.region ?_
  refine TL.box rfl rfl (by decide) (fun b0 hb0 => ?_)
  refine TL.pure (PV.assign rfl) rfl (by decide) ?_
  refine TL.pure (PV.assign rfl) rfl (by decide) ?_
  refine TL.pure (PV.assign rfl) rfl (by decide) ?_
  refine TL.nil ?_
  refine TQ.thenC ?_
  refine TC.seq ?_
  refine TC.seq ?_
  refine TC.region ?_
  refine TL.pure (PV.loadBox rfl Tb.agg_24 (by repeat (first | exact List.Mem.head _ | refine List.Mem.tail _ ?_ | refine List.mem_append_right _ ?_)) rfl) rfl (by decide) ?_
  refine TL.pure (PV.move rfl) rfl (by decide) ?_
  refine TL.call rfl Tb.gofn_75 (fun a w hs => rfilled_ok w _ _ _ _ (hr.new hs.new) hS _ _ _ (hx.new hs.new) hl) rfl (by decide) (fun _ _ => ?_)
  refine TL.pure (PV.assign rfl) rfl (by decide) ?_
  refine TL.nil ?_
  refine TQ.thenC ?_
  refine TC.seq ?_
  refine TC.region ?_
  refine TL.pure (PV.move rfl) rfl (by decide) ?_
  refine TL.pure (PV.neq rfl rfl) rfl (by decide) ?_
  refine TL.nil ?_
  refine TQ.thenC ?_
  first | refine TC.condD rfl (fun a1 => ?_) (fun a1 => ?_) | refine TC.cond rfl (fun a1 => ?_) (fun a1 => ?_)
  · skip
    refine TC.seq ?_
    refine TC.region ?_
    refine TL.pure (PV.move rfl) rfl (by decide) ?_
    refine TL.pure (PV.assign rfl) rfl (by decide) ?_
    refine TL.pure (PV.assign rfl) rfl (by decide) ?_
    refine TL.pure (PV.assign rfl) rfl (by decide) ?_
    refine TL.nil ?_
    refine TQ.thenC ?_
    refine TC.ret ?_
    refine TQ.thenR ?_
    refine TQ.retE3 rfl rfl rfl rfl ?_
    exact ⟨none, by rw [way_1 (by rw [goal_fil a1]; exact a1), goal_fil a1]; rfl, by rw [way_1 (by rw [goal_fil a1]; exact a1), goal_fil a1]; exact goI_nil, List.nil_sublist _⟩
  · skip
    refine TC.skip ?_
    refine TQ.thenC ?_
    refine TC.seq ?_
    refine TC.seq ?_
    refine TC.region ?_
    refine TL.pure (PV.move rfl) rfl (by decide) ?_
    refine TL.pure (PV.fieldAddr rfl Tb.fo_24_0) rfl (by decide) ?_
    refine TL.pure (PV.load rfl Tb.one_3 (by repeat (first | exact List.Mem.head _ | refine List.Mem.tail _ ?_ | refine List.mem_append_right _ ?_)) rfl) rfl (by decide) ?_
    refine TL.call rfl Tb.gofn_72 (fun a w hs => rall_ok w _ _ _ (hz.new hs.new) hgl _ _ _) rfl (by decide) (fun _ _ => ?_)
    refine TL.pure ((by first | exact PV.notD rfl | exact PV.not rfl)) rfl (by decide) ?_
    refine TL.pure (PV.move rfl) rfl (by decide) ?_
    first | refine TL.splitD 26 rfl (fun a2 => ?_) (fun a2 => ?_) | refine TL.split 26 rfl (fun a2 => ?_) (fun a2 => ?_)
    · skip
      refine TL.skip rfl (fun k hk => by cases hk; decide) ?_
      refine TL.skip rfl (fun k hk => by cases hk; decide) ?_
      refine TL.skip rfl (fun k hk => by cases hk; decide) ?_
      refine TL.pure (PV.pickT rfl rfl) rfl (by decide) ?_
      refine TL.nil ?_
      refine TQ.thenC ?_
      refine TC.condT rfl ?_
      refine TC.seq ?_
      refine TC.region ?_
      refine TL.pure (PV.assign rfl) rfl (by decide) ?_
      refine TL.pure (PV.assign rfl) rfl (by decide) ?_
      refine TL.pure (PV.assign rfl) rfl (by decide) ?_
      refine TL.nil ?_
      refine TQ.thenC ?_
      refine TC.ret ?_
      refine TQ.thenR ?_
      refine TQ.retE3 rfl rfl rfl rfl ?_
      exact ⟨none, by rw [goal_1 a1 (by simpa using a2)]; rfl, by rw [goal_1 a1 (by simpa using a2)]; exact goI_nil, List.nil_sublist _⟩
    · skip
      refine TL.pure (PV.move rfl) rfl (by decide) ?_
      refine TL.call rfl Tb.gofn_71 (fun a w hs => within_ok w _ _ _) rfl (by decide) (fun _ _ => ?_)
      refine TL.pure ((by first | exact PV.notD rfl | exact PV.not rfl)) rfl (by decide) ?_
      refine TL.pure (PV.pickF rfl rfl) rfl (by decide) ?_
      refine TL.nil ?_
      refine TQ.thenC ?_
      first | refine TC.condD rfl (fun a3 => ?_) (fun a3 => ?_) | refine TC.cond rfl (fun a3 => ?_) (fun a3 => ?_)
      · skip
        refine TC.seq ?_
        refine TC.region ?_
        refine TL.pure (PV.assign rfl) rfl (by decide) ?_
        refine TL.pure (PV.assign rfl) rfl (by decide) ?_
        refine TL.pure (PV.assign rfl) rfl (by decide) ?_
        refine TL.nil ?_
        refine TQ.thenC ?_
        refine TC.ret ?_
        refine TQ.thenR ?_
        refine TQ.retE3 rfl rfl rfl rfl ?_
        exact ⟨none, by rw [way_2 (goal_0 a1 (by simpa using a2)) (by unfold wiB; simpa using a3)]; rfl, by rw [way_2 (goal_0 a1 (by simpa using a2)) (by unfold wiB; simpa using a3)]; exact goI_nil, List.nil_sublist _⟩
      · skip
        refine TC.skip ?_
        refine TQ.thenC ?_
        refine TC.seq ?_
        refine TC.seq ?_
        have hnu : numB n 0 50 goal = true := by simpa using a2
        have hmo : wiB most 0 5 = true := by unfold wiB; simpa using a3
        have hm5 : 0 ≤ most ∧ most ≤ 5 := of_decide_eq_true hmo
        obtain ⟨N, hN⟩ : ∃ N : Nat, most + 1 = N := ⟨(most + 1).toNat, by omega⟩
        have hV := vm_of a1
        have hgl6 := num_len hnu
        have e9 := way_3 (ss := ss) (m := xs) (goal := goal) (goal_0 a1 hnu) hmo hN
        refine TC.region ?_
        refine TL.pure (PV.assign rfl) rfl (by decide) ?_
        refine TL.nil ?_
        refine TQ.thenC ?_
        refine TC.block ?_
        -- live and written in the loop, not told: [8, 9, 10]
        refine TC.lit [(1, _), (2, _), (3, _), (4, _), (12, _)] (by repeat (first | exact True.intro | refine And.intro rfl ?_)) ?_
        refine TC.loopK [1, 2, 3, 4] (X := Nat) (fun k => k ≤ N ∧ wyG ss goal xs (N - 0) 0 = wyG ss goal xs (N - k) k) (fun k => [(12, .int .i64 k)]) (fun k => [(b0, Obj.cells #[.int .i64 n, .slice p ss.length cp] 24 (0, 0))]) (fun k => N - k) 0 ⟨Nat.zero_le _, rfl⟩ (by repeat (first | exact True.intro | refine And.intro rfl ?_)) (by repeat (first | exact List.Sublist.slnil | exact List.nil_sublist _ | exact List.Sublist.refl _ | refine List.Sublist.cons_cons _ ?_ | refine List.Sublist.cons _ ?_ | refine List.Sublist.trans ?_ (List.sublist_append_right _ _))) ?_
        intro k hk
        refine TC.lit [(1, _), (2, _), (3, _), (4, _), (12, _)] (by repeat (first | exact True.intro | refine And.intro rfl ?_)) ?_
        refine TC.seq ?_
        refine TC.seq ?_
        refine TC.region ?_
        refine TL.pure (PV.move rfl) rfl (by decide) ?_
        refine TL.pure (PV.move rfl) rfl (by decide) ?_
        refine TL.pure (PV.leq rfl rfl) rfl (by decide) ?_
        refine TL.nil ?_
        refine TQ.thenC ?_
        first | refine TC.condD rfl (fun hlt => ?_) (fun hlt => ?_) | refine TC.cond rfl (fun hlt => ?_) (fun hlt => ?_)
        · skip
          refine TC.skip ?_
          refine TQ.thenC ?_
          refine TC.seq ?_
          refine TC.block ?_
          refine TC.seq ?_
          refine TC.region ?_
          refine TL.pure (PV.loadBox rfl Tb.agg_24 (by repeat (first | exact List.Mem.head _ | refine List.Mem.tail _ ?_ | refine List.mem_append_right _ ?_)) rfl) rfl (by decide) ?_
          refine TL.pure (PV.move rfl) rfl (by decide) ?_
          refine TL.pure (PV.move rfl) rfl (by decide) ?_
          refine TL.pure (PV.move rfl) rfl (by decide) ?_
          refine TL.call rfl Tb.gofn_88 (fun a w hs => rway_ok n p cp ss hS _ goal hgl6 k (by omega) w (hr.new hs.new) _ _ (IsI.of (hx.new hs.new)) (IsI.of (hz.new hs.new)) hV) rfl (by decide) (fun h9 hh9 => ?_)
          refine TL.pure (PV.move rfl) rfl (by decide) ?_
          refine TL.pure (PV.extract rfl rfl) rfl (by decide) ?_
          refine TL.pure (PV.extract rfl rfl) rfl (by decide) ?_
          refine TL.pure (PV.assign rfl) rfl (by decide) ?_
          refine TL.pure (PV.assign rfl) rfl (by decide) ?_
          refine TL.nil ?_
          refine TQ.thenC ?_
          refine TC.seq ?_
          refine TC.region ?_
          refine TL.pure (PV.move rfl) rfl (by decide) ?_
          refine TL.nil ?_
          refine TQ.thenC ?_
          first | refine TC.condD rfl (fun hok => ?_) (fun hok => ?_) | refine TC.cond rfl (fun hok => ?_) (fun hok => ?_)
          · skip
            refine TC.seq ?_
            refine TC.region ?_
            refine TL.pure (PV.move rfl) rfl (by decide) ?_
            refine TL.pure (PV.assign rfl) rfl (by decide) ?_
            refine TL.pure (PV.assign rfl) rfl (by decide) ?_
            refine TL.pure (PV.assign rfl) rfl (by decide) ?_
            refine TL.nil ?_
            refine TQ.thenC ?_
            refine TC.ret ?_
            refine TQ.blkR ?_
            refine TQ.thenR ?_
            refine TQ.thenR ?_
            refine TQ.blkR ?_
            refine TQ.thenR ?_
            refine TQ.retE3 rfl rfl rfl rfl ?_
            have e8 : wyG ss goal xs (N - 0) 0 = ((flW ss goal k xs).1, true) := hk.2.trans (wyG_yes (by omega) hok)
            rw [e8] at e9
            exact ⟨h9, by rw [e9], by rw [e9]; exact hh9, by rw [e9]; exact List.sublist_append_left _ _⟩
          · skip
            have hno := wyG_no (N := N) (ss := ss) (goal := goal) (m := xs) (k := k) (by omega) (by simpa using hok)
            refine TC.skip ?_
            refine TQ.blkN ?_
            refine TQ.thenC ?_
            refine TC.region ?_
            refine TL.pure (PV.move rfl) rfl (by decide) ?_
            refine TL.pure (PV.add rfl rfl (by omega)) rfl (by decide) ?_
            refine TL.pure (PV.assign rfl) rfl (by decide) ?_
            refine TL.nil ?_
            refine TQ.thenN ?_
            refine TQ.backK (k + 1) (by repeat (first | exact True.intro | refine And.intro rfl ?_)) (by repeat (first | exact True.intro | refine And.intro rfl ?_)) (by repeat (first | exact List.Sublist.slnil | exact List.nil_sublist _ | exact List.Sublist.refl _ | refine List.Sublist.cons_cons _ ?_ | refine List.Sublist.cons _ ?_ | refine List.Sublist.trans ?_ (List.sublist_append_right _ _))) ⟨by omega, by rw [hk.2, hno]⟩ (by omega)
        · skip
          refine TC.exit ?_
          refine TQ.thenE ?_
          refine TQ.thenE ?_
          refine TQ.blkS ?_
          refine TQ.thenC ?_
          refine TC.seq ?_
          refine TC.region ?_
          refine TL.pure (PV.assign rfl) rfl (by decide) ?_
          refine TL.pure (PV.assign rfl) rfl (by decide) ?_
          refine TL.pure (PV.assign rfl) rfl (by decide) ?_
          refine TL.nil ?_
          refine TQ.thenC ?_
          refine TC.ret ?_
          refine TQ.retE3 rfl rfl rfl rfl ?_
          have e8 : wyG ss goal xs (N - 0) 0 = ([], false) := hk.2.trans (wyG_end (by omega))
          rw [e8] at e9
          exact ⟨none, by rw [e9]; rfl, by rw [e9]; exact goI_nil, List.nil_sublist _⟩

end Go.Proofs.Ytkkipbkkijoneaa
