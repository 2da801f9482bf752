/- A bound is left out in place; bounds from the last one on: contracts. -/
import Derived.Test.YtenalmddoljhoaaWG
import Derived.Test.YtenalmddoljhoaaVKs
import Derived.Test.YtenalmddoljhoaaRg
import Derived.Test.YtenalmddoljhoaaSw
set_option linter.unusedVariables false
set_option linter.unusedSimpArgs false
namespace Go.Proofs.Ytenalmddoljhoaa
open Go.Sx Go.RowKit
theorem lay_0 {n : Int} {rs : List Bd} {a b : Int} (h : ¬ validateI n rs ≠ 0) (h2 : (0 ≤ a ∧ a ≤ n - 1) ∧ (0 ≤ b ∧ b ≤ n - 1)) : layI n rs [a, b] = 0 := by
  unfold layI
  rw [if_neg h, if_pos]
  refine List.all_eq_true.2 fun x hx => ?_
  simp only [List.mem_cons, List.not_mem_nil, or_false] at hx
  rcases hx with rfl | rfl <;> exact decide_eq_true (by omega)
theorem okB_bd {n : Int} {r : Bd} (h2 : (0 ≤ r.a ∧ r.a ≤ n - 1) ∧ (0 ≤ r.b ∧ r.b ≤ n - 1)) : okB n r = isBoundB r := by
  have e1 : isLayerB n r.a = true := decide_eq_true (by omega)
  have e2 : isLayerB n r.b = true := decide_eq_true (by omega)
  unfold okB
  rw [e1, e2]
  rfl

def delB (l : List Bd) (i : Nat) : List Bd := l.take i ++ l.drop (i + 1)
theorem delB_len {l : List Bd} {i : Nat} (h : i < l.length) : (delB l i).length = l.length - 1 := by simp [delB]; omega
theorem bdc_split (l : List Bd) (i : Nat) : bdc l = bdc (l.take i) ++ bdc (l.drop i) := by rw [← bdc_app, List.take_append_drop]
theorem take_next {l : List Bd} {k : Nat} (h : k < l.length) : l.take (k + 1) = l.take k ++ [l.getD k default] := by
  rw [List.take_add_one]
  simp [List.getD, h]
/-- The bounds from the last one on, as far as they have come. -/
def bwd (l : List Bd) (k : Nat) : List (Nat × Bd) := (List.range k).map fun j => (l.length - 1 - j, l.getD (l.length - 1 - j) default)
theorem bwd_next (l : List Bd) (k : Nat) : bwd l (k + 1) = bwd l k ++ [(l.length - 1 - k, l.getD (l.length - 1 - k) default)] := by simp [bwd, List.range_succ]
theorem bwd_len (l : List Bd) (k : Nat) : (bwd l k).length = k := by simp [bwd]
theorem bwd_take (l : List Bd) {j k : Nat} (h : j ≤ k) : bwd l j = (bwd l k).take j := by
  unfold bwd
  rw [← List.map_take, List.take_range, Nat.min_eq_left h]
theorem tail_at {w : World} {b cap : Nat} {l : List Bd} {sp : List Value} {i : Nat} {e : TypeId} {w0 : World} {G : Heap} (hn : New w0 w G) (hm : (b, Obj.cells (bdc l ++ sp).toArray e (0, 0)) ∈ G) (hc : i + 1 < cap ∨ l.length ≤ i + 1) : BdsAt w (cutA (some ⟨b, 0, none⟩) cap (i + 1) 3) (l.drop (i + 1)) := by
  intro j hj
  have hj' : i + 1 + j < l.length := by simp at hj; omega
  refine ⟨⟨b, (i + 1) * 3, none⟩, ?_, fun u v hv => ?_⟩
  · unfold cutA; rw [if_neg (by omega)]; simp [add_off]
  · have hb : w.heap[b]? = some (.cells (bdc l ++ sp).toArray e (0, 0)) := hn.here _ hm
    have hu : u < 3 := by have := (List.getElem?_eq_some_iff.1 hv).1; simpa using this
    rw [add_off, add_off]
    simp only [World.cell?, hb, Option.isSome_none, Bool.false_eq_true, if_false, List.getElem?_toArray]
    have hl := bdc_len l
    rw [show (i + 1) * 3 + j * 3 + u = (i + 1 + j) * 3 + u by omega, List.getElem?_append_left (by omega), bdc_get hj' hu]
    rw [← hv]
    simp [List.getD, List.getElem?_drop]
theorem del_cells {l : List Bd} {sp : List Value} {i : Nat} (hi : i < l.length) : (bdc l ++ sp).take (i * 3) ++ bdc (l.drop (i + 1)) ++ (bdc l ++ sp).drop (i * 3 + (bdc (l.drop (i + 1))).length) = bdc (delB l i) ++ (bdc (l.drop (l.length - 1)) ++ sp) := by
  have hl := bdc_len l
  rw [bdc_len, List.length_drop, List.take_append_of_le_length (by omega), bdc_take, ← bdc_app]
  show bdc (delB l i) ++ _ = _
  congr 1
  rw [show i * 3 + (l.length - (i + 1)) * 3 = (l.length - 1) * 3 by omega, List.drop_append, show (l.length - 1) * 3 - (bdc l).length = 0 by omega, List.drop_zero]
  congr 1
  have h1 := bdc_split l (l.length - 1)
  have h2 : (bdc (l.take (l.length - 1))).length = (l.length - 1) * 3 := by rw [bdc_len, List.length_take, Nat.min_eq_left (by omega)]
  rw [h1, ← h2, List.drop_left']
  rfl
theorem clr_cells {l : List Bd} {sp : List Value} {i : Nat} (hi : i < l.length) : (bdc (delB l i) ++ (bdc (l.drop (l.length - 1)) ++ sp)).take ((l.length - 1) * 3) ++ zB 1 ++ (bdc (delB l i) ++ (bdc (l.drop (l.length - 1)) ++ sp)).drop ((l.length - 1) * 3 + (zB 1).length) = bdc (delB l i) ++ (zB 1 ++ sp) := by
  have h1 : (bdc (delB l i)).length = (l.length - 1) * 3 := by rw [bdc_len, delB_len hi]
  have h2 : (bdc (l.drop (l.length - 1))).length = 3 := by rw [bdc_len, List.length_drop]; omega
  rw [zB_len, ← h1, List.take_left', List.append_assoc]
  · congr 2
    rw [List.drop_append, List.drop_eq_nil_of_le (by omega), List.nil_append, List.drop_append, List.drop_eq_nil_of_le (by omega), List.nil_append, h2]
    simp
  · rfl


set_option maxRecDepth 100000 in
set_option maxHeartbeats 1000000 in
theorem delete_ok {w0 w : World} {b cap : Nat} {sp : List Value} {l : List Bd} {R : Heap} (hn : New w0 w ((b, Obj.cells (bdc (l) ++ sp).toArray 42 (0, 0)) :: R)) (hg : goB (some (b, cap, sp)) l) (i : Nat) (hi : i < l.length) (hl : l.length ≤ 100000) :
    Calls Try.prog 83 #[.slice (some ⟨b, 0, none⟩) l.length cap, .int .i64 i, .int .i64 ((i : Int) + 1)] w (Post (X := List Value) (fun sp' => gval (some (b, cap, sp')) (delB l i).length) (fun sp' => goB (some (b, cap, sp')) (delB l i)) (fun sp' => (b, Obj.cells (bdc (delB l i) ++ sp').toArray 42 (0, 0)) :: R) w0) := by
  have hcl : l.length ≤ cap := hg.2.2
  have hsz := hg.2.1
  have hbl := bdc_len l
  have hdl := delB_len hi
  refine callsM hn Try.func83 rfl (n := 33) rfl (by simp) ?_
  refine TC.seq ?_
  refine TC.region ?_
  refine TL.pure (PV.assign rfl) rfl (by decide) ?_
  refine TL.nil ?_
  refine TQ.thenC ?_
  refine TC.seq ?_
  refine TC.region ?_
  refine TL.pure (PV.move rfl) rfl (by decide) ?_
  refine TL.pure (PV.move rfl) rfl (by decide) ?_
  refine TL.pure (PV.move rfl) rfl (by decide) ?_
  refine TL.pure (PV.move rfl) rfl (by decide) ?_
  refine TL.pure (PV.len rfl Tb.sl_22) rfl (by decide) ?_
  refine TL.pure (PV.slice3 (l := i) (h := i + 1) (m := l.length) rfl rfl rfl rfl Tb.elm_22 rfl rfl rfl (by omega) (by omega) (by omega)) rfl (by decide) ?_
  refine TL.nil ?_
  refine TQ.thenC ?_
  refine TC.seq ?_
  refine TC.seq ?_
  refine TC.region ?_
  refine TL.pure (PV.move rfl) rfl (by decide) ?_
  refine TL.pure (PV.move rfl) rfl (by decide) ?_
  refine TL.pure (PV.eql rfl rfl) rfl (by decide) ?_
  refine TL.nil ?_
  refine TQ.thenC ?_
  first | refine TC.condD rfl (fun heq => ?_) (fun heq => ?_) | refine TC.cond rfl (fun heq => ?_) (fun heq => ?_)
  · skip
    omega
  · skip
    refine TC.skip ?_
    refine TQ.thenC ?_
    refine TC.seq ?_
    refine TC.region ?_
    refine TL.pure (PV.move rfl) rfl (by decide) ?_
    refine TL.pure (PV.len rfl Tb.sl_22) rfl (by decide) ?_
    refine TL.pure (PV.assign rfl) rfl (by decide) ?_
    refine TL.nil ?_
    refine TQ.thenC ?_
    refine TC.seq ?_
    refine TC.draw 6 Tb.mixed (by kernel_rfl) ?_
    simp only [List.take_succ_cons, List.take_zero, List.drop_succ_cons, List.drop_zero]
    refine TS.pure (PV.move rfl) rfl (by decide) ?_
    refine TS.pure (PV.move rfl) rfl (by decide) ?_
    refine TS.pure (PV.sliceHb (h := i) rfl rfl Tb.elm_22 rfl (by omega)) rfl (by decide) ?_
    refine TS.pure (PV.move rfl) rfl (by decide) ?_
    refine TS.pure (PV.move rfl) rfl (by decide) ?_
    refine TS.pure (PV.sliceL (l := i + 1) rfl rfl Tb.elm_22 rfl (by omega)) rfl (by decide) ?_
    refine TS.nil ?_
    refine TL.appendRoom (cs := bdc l ++ sp) (news := bdc (l.drop (i + 1))) (m := l.length - (i + 1)) (G' := (b, Obj.cells (bdc (delB l i) ++ (bdc (l.drop (l.length - 1)) ++ sp)).toArray 42 (0, 0)) :: R) rfl rfl Tb.sl_22 Tb.zi_42 (by rw [del_cells hi]; exact Upd.head _) (by rw [List.length_append, bdc_len, bdc_len, List.length_drop]; omega) (by omega) (fun w' hN => bds_src Tb.sl_22 (by simp) (tail_at hN (List.Mem.head _) (by omega))) rfl (by decide) ?_
    refine TL.pure (PV.assign rfl) rfl (by decide) ?_
    refine TL.nil ?_
    refine TQ.thenC ?_
    refine TC.seq ?_
    refine TC.region ?_
    refine TL.pure (PV.move rfl) rfl (by decide) ?_
    refine TL.pure (PV.move rfl) rfl (by decide) ?_
    refine TL.pure (PV.len rfl Tb.sl_22) rfl (by decide) ?_
    refine TL.pure (PV.move rfl) rfl (by decide) ?_
    refine TL.pure (PV.sliceLHb (l := l.length - 1) (h := l.length) rfl rfl rfl Tb.elm_22 (by omega) rfl (by omega) (by omega)) rfl (by decide) ?_
    refine TL.clearN (cs := bdc (delB l i) ++ (bdc (l.drop (l.length - 1)) ++ sp)) (zs := zB 1) (G' := (b, Obj.cells (bdc (delB l i) ++ (zB 1 ++ sp)).toArray 42 (0, 0)) :: R) rfl (by omega) Tb.sl_22 Tb.zi_42 (by rw [show l.length - (l.length - 1) = 1 by omega]) (zB_one _) (by rw [clr_cells hi]; exact Upd.head _) (by rw [zB_len, List.length_append, List.length_append, bdc_len, bdc_len, List.length_drop]; omega) rfl rfl ?_
    refine TL.nil ?_
    refine TQ.thenC ?_
    refine TC.seq ?_
    refine TC.region ?_
    refine TL.pure (PV.move rfl) rfl (by decide) ?_
    refine TL.pure (PV.assign rfl) rfl (by decide) ?_
    refine TL.nil ?_
    refine TQ.thenC ?_
    refine TC.ret ?_
    refine TQ.retE1 rfl rfl ?_
    exact ⟨zB 1 ++ sp, by show _ = Value.slice (some ⟨b, 0, none⟩) (delB l i).length cap; rw [hdl]; congr 1; omega, ⟨bdc_len _, by rw [bdc_len, List.length_append, zB_len]; omega, by omega⟩, List.Sublist.refl _⟩

set_option maxRecDepth 100000 in
theorem backward_ok (w0 : World) (p : Option Addr) (cap : Nat) (rs : List Bd) :
    Calls Try.prog 82 #[.slice p rs.length cap] w0 (Post (X := Nat) (fun b => .func (.func 90) #[] #[.pointer (some ⟨b, 0, none⟩)]) (fun _ => True) (fun b => [(b, Obj.cells #[.slice p rs.length cap] 22 (0, 0))]) w0) := by
  refine calls Try.func82 rfl (n := 4) rfl (by simp) ?_
  refine TC.seq ?_
  refine TC.region ?_
  refine TL.box rfl rfl (by decide) (fun b0 hb0 => ?_)
  refine TL.pure (PV.assign rfl) rfl (by decide) ?_
  refine TL.nil ?_
  refine TQ.thenC ?_
  refine TC.seq ?_
  refine TC.region ?_
  refine TL.pure (PV.makeFunc rfl) rfl (by decide) ?_
  refine TL.pure (PV.assign rfl) rfl (by decide) ?_
  refine TL.nil ?_
  refine TQ.thenC ?_
  refine TC.ret ?_
  refine TQ.retE1 rfl rfl ?_
  exact ⟨b0, rfl, trivial, List.Sublist.refl _⟩

set_option maxRecDepth 100000 in
set_option maxHeartbeats 1000000 in
theorem backward_it (w0 : World) (p : Option Addr) (cap : Nat) (rs : List Bd) (hr : BdsAt w0 p rs) (hl : rs.length ≤ 100000) (bB : Nat) :
    Iter Try.prog 90 [.pointer (some ⟨bB, 0, none⟩)] (fun x : Nat × Bd => [.int .i64 x.1, x.2.val]) w0 [(bB, Obj.cells #[.slice p rs.length cap] 22 (0, 0))] (fun l => l = bwd rs rs.length) (fun l => l <+: bwd rs rs.length) := by
  intro X Y w lY F H Fx Hx s0 hk hY h0 hN
  refine callsIG Try.func90 rfl (n := 19) rfl (by simp) hN ?_
  refine TG.seq ?_
  refine TG.region (by repeat (first | with_reducible exact RB.lo | with_reducible exact QN.lo | with_reducible exact bodyM_lo | with_reducible exact bodyP_lo | with_reducible apply lo_then | with_reducible apply lo_blk)) (by kernel_rfl) ?_
  refine TL.pure (PV.load rfl Tb.one_22 (hk _ _ (List.Mem.head _)) rfl) rfl (by decide) ?_
  refine TL.pure (PV.len rfl Tb.sl_22) rfl (by decide) ?_
  refine TL.pure (PV.sub rfl rfl (by omega)) rfl (by decide) ?_
  refine TL.pure (PV.assign rfl) rfl (by decide) ?_
  refine TL.nil ?_
  refine TQ.thenG ?_
  refine TG.block ?_
  refine TG.loopK [0, 1] (X := Nat × Int × X) (fun y => y.1 ≤ rs.length ∧ y.2.1 = (rs.length : Int) - 1 - y.1 ∧ F (bwd rs y.1) y.2.2) (fun y => [(3, .int .i64 y.2.1)]) (fun y => H y.2.2) (fun y => rs.length - y.1) (0, (rs.length : Int) - 1, s0) ⟨Nat.zero_le _, by simp, h0⟩ (by repeat (first | exact True.intro | refine And.intro rfl ?_)) (List.Sublist.refl _) ?_
  intro y hy
  refine TG.seq ?_
  refine TG.seq ?_
  refine TG.region (by repeat (first | with_reducible exact RB.lo | with_reducible exact QN.lo | with_reducible exact bodyM_lo | with_reducible exact bodyP_lo | with_reducible apply lo_then | with_reducible apply lo_blk)) (by kernel_rfl) ?_
  refine TL.pure (PV.move rfl) rfl (by decide) ?_
  refine TL.pure (PV.geq rfl rfl) rfl (by decide) ?_
  refine TL.nil ?_
  refine TQ.thenG ?_
  first | refine TG.condD rfl (fun hge => ?_) (fun hge => ?_) | refine TG.cond rfl (fun hge => ?_) (fun hge => ?_)
  · skip
    refine TG.skip ?_
    refine TQ.thenG ?_
    refine TG.seq ?_
    refine TG.block ?_
    refine TG.seq ?_
    obtain ⟨q2, hq2p, hq2⟩ := hr (rs.length - 1 - y.1) (by omega)
    have hm9 : y.2.1 = ((rs.length - 1 - y.1 : Nat) : Int) := by omega
    refine TG.regionL ?_
    refine TGL.pre 6 (by repeat (first | with_reducible exact RB.lo | with_reducible exact QN.lo | with_reducible exact bodyM_lo | with_reducible exact bodyP_lo | with_reducible apply lo_then | with_reducible apply lo_blk)) (by kernel_rfl) ?_
    simp only [List.take_succ_cons, List.take_zero, List.drop_succ_cons, List.drop_zero]
    refine TL.pure (PV.move rfl) rfl (by decide) ?_
    refine TL.pure (PV.move rfl) rfl (by decide) ?_
    refine TL.pure (PV.load rfl Tb.one_22 (hk _ _ (List.Mem.head _)) rfl) rfl (by decide) ?_
    refine TL.pure (PV.move rfl) rfl (by decide) ?_
    refine TL.pure (PV.indexA (j := rs.length - 1 - y.1) rfl hq2p rfl Tb.elm_22 hm9 (by omega)) rfl (by decide) ?_
    refine TL.pure (PV.loadAggA rfl Tb.agg_42 rfl hq2) rfl (by decide) ?_
    refine TL.nil ?_
    refine TQ.thenL ?_
    refine TGL.yield (F (bwd rs (y.1 + 1))) H (fun z => Fx (bwd rs (y.1 + 1)) z) Hx rfl rfl (fun w' hw' => ?_) rfl (by decide) (fun s1 hs1 => ?_) (fun z hz => ?_)
    · skip
      have h7 := hY (bwd rs y.1) (rs.length - 1 - y.1, (rs.getD (rs.length - 1 - y.1) default)) y.2.2 w' [] (by rw [← bwd_next, bwd_take rs (show y.1 + 1 ≤ rs.length by omega)]; exact List.take_prefix _ _) hy.2.2 (by rw [List.append_nil]; exact hw')
      rw [← bwd_next] at h7
      dsimp only at h7
      rw [← hm9] at h7
      simpa using h7
    · skip
      refine TGL.opsAll (by repeat (first | with_reducible exact RB.lo | with_reducible exact QN.lo | with_reducible exact bodyM_lo | with_reducible exact bodyP_lo | with_reducible apply lo_then | with_reducible apply lo_blk)) (by kernel_rfl) ?_
      refine TL.pure (PV.not rfl) rfl (by decide) ?_
      refine TL.nil ?_
      refine TQ.thenG ?_
      refine TG.condF rfl ?_
      refine TG.skip ?_
      refine TQ.gblkN ?_
      refine TQ.thenG ?_
      refine TG.region (by repeat (first | with_reducible exact RB.lo | with_reducible exact QN.lo | with_reducible exact bodyM_lo | with_reducible exact bodyP_lo | with_reducible apply lo_then | with_reducible apply lo_blk)) (by kernel_rfl) ?_
      refine TL.pure (PV.move rfl) rfl (by decide) ?_
      refine TL.pure (PV.sub rfl rfl (by omega)) rfl (by decide) ?_
      refine TL.pure (PV.assign rfl) rfl (by decide) ?_
      refine TL.nil ?_
      refine TQ.backG (y.1 + 1, y.2.1 - 1, s1) (by repeat (first | exact True.intro | refine And.intro rfl ?_)) (by repeat (first | exact True.intro | refine And.intro rfl ?_)) (List.Sublist.refl _) ⟨by simp only; omega, by simp only; omega, hs1⟩ (by simp only; omega)
    · skip
      refine TGL.opsAll (by repeat (first | with_reducible exact RB.lo | with_reducible exact QN.lo | with_reducible exact bodyM_lo | with_reducible exact bodyP_lo | with_reducible apply lo_then | with_reducible apply lo_blk)) (by kernel_rfl) ?_
      refine TL.pure (PV.not rfl) rfl (by decide) ?_
      refine TL.nil ?_
      refine TQ.thenG ?_
      refine TG.condT rfl ?_
      refine TG.ret ?_
      refine TQ.gblkR ?_
      refine TQ.gthenR ?_
      refine TQ.gthenR ?_
      refine TQ.gblkR ?_
      refine TQ.retI rfl (fun w9 v9 hw9 => ⟨⟨_, rfl⟩, .inr ⟨_, z, by rw [bwd_take rs (show y.1 + 1 ≤ rs.length by omega)]; exact List.take_prefix _ _, hz, hw9⟩⟩)
  · skip
    refine TG.exit ?_
    refine TQ.gthenE ?_
    refine TQ.gthenE ?_
    refine TQ.gblkS ?_
    refine TQ.retIN rfl (fun w9 v9 hw9 => ⟨⟨_, rfl⟩, .inl ⟨_, y.2.2, by rw [show y.1 = rs.length by omega], hy.2.2, hw9⟩⟩)

end Go.Proofs.Ytenalmddoljhoaa
