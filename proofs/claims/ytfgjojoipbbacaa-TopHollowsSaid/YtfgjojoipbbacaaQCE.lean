/- Hollows as arrays: contracts. -/
import Derived.Test.YtfgjojoipbbacaaQCD
import Derived.Test.YtfgjojoipbbacaaQAr
set_option linter.unusedVariables false
set_option linter.unusedSimpArgs false
namespace Go.Proofs.Ytfgjojoipbbacaa
open Go.Sx Go.RowKit

theorem arr_69 : arrOf Try.prog 69 = some (6, 3, 1) := by kernel_rfl
theorem ints_one (xs : List Int) : (xs.map (Value.int .i64)).all Value.oneCell' = true := by
  rw [List.all_eq_true]
  intro v hv
  obtain ⟨i, _, rfl⟩ := List.mem_map.1 hv
  rfl
/-- Column by column. -/
def mixN (f : Int → Int → Int) (xs ys : List Int) (k : Nat) : List Int := (List.zipWith f xs ys).take k ++ xs.drop k
theorem mix_len {f : Int → Int → Int} {xs ys : List Int} (hx : xs.length = 6) (hy : ys.length = 6) (k : Nat) : (mixN f xs ys k).length = 6 := by
  unfold mixN
  rw [List.length_append, List.length_take, List.length_zipWith, List.length_drop]
  omega
theorem mix_at {f : Int → Int → Int} {xs ys : List Int} (hx : xs.length = 6) (hy : ys.length = 6) {k : Nat} (hk : k < 6) : (mixN f xs ys k).getD k 0 = xs.getD k 0 := by
  unfold mixN
  have hl : ((List.zipWith f xs ys).take k).length = k := by rw [List.length_take, List.length_zipWith]; omega
  rw [List.getD_eq_getElem?_getD, List.getElem?_append_right (by omega), hl, List.getElem?_drop, List.getD_eq_getElem?_getD, Nat.sub_self, Nat.add_zero]
theorem mix_set {f : Int → Int → Int} {xs ys : List Int} (hx : xs.length = 6) (hy : ys.length = 6) {k : Nat} (hk : k < 6) : (mixN f xs ys k).set k (f (xs.getD k 0) (ys.getD k 0)) = mixN f xs ys (k + 1) := by
  unfold mixN
  have hl : ((List.zipWith f xs ys).take k).length = k := by rw [List.length_take, List.length_zipWith]; omega
  rw [List.set_append_right _ _ (by omega), hl, Nat.sub_self, List.drop_eq_getElem_cons (by omega), List.set_cons_zero, List.take_add_one, List.getElem?_zipWith]
  simp [List.getD, hx, hy, hk, List.append_assoc]
theorem mix_end {f : Int → Int → Int} {xs ys : List Int} (hx : xs.length = 6) (hy : ys.length = 6) {k : Nat} (hk : 6 ≤ k) : mixN f xs ys k = List.zipWith f xs ys := by
  unfold mixN
  rw [List.take_of_length_le (by rw [List.length_zipWith]; omega), List.drop_of_length_le (by omega), List.append_nil]
theorem map_len {xs : List Int} (h : xs.length = 6) : (xs.map (Value.int .i64)).length = 6 := by rw [List.length_map, h]
def Z6 : Array Value := #[.int .i64 0, .int .i64 0, .int .i64 0, .int .i64 0, .int .i64 0, .int .i64 0]


set_option maxRecDepth 100000 in
set_option maxHeartbeats 1000000 in
theorem deeper_ok (w0 : World) (xs : List Int) (hx : xs.length = 6) (c : Nat) (hc : c < 6) (hb : -1000000 ≤ xs.getD c 0 ∧ xs.getD c 0 ≤ 1000000) :
    Calls Try.prog 90 #[.agg (intsA xs), .int .i64 c] w0 (Post (X := Unit) (fun _ => .agg (intsA (xs.set c (xs.getD c 0 + 1)))) (fun _ => True) (fun _ => []) w0) := by
  refine calls Try.func90 rfl (n := 11) rfl (by simp) ?_
  refine TC.seq ?_
  refine TC.region ?_
  refine TL.box rfl rfl (by decide) (fun b0 hb0 => ?_)
  refine TL.alloc Tb.zero_69 rfl (by decide) (fun b1 hb1 => ?_)
  refine TL.nil ?_
  refine TQ.thenC ?_
  refine TC.seq ?_
  refine TC.region ?_
  refine TL.pure (PV.move rfl) rfl (by decide) ?_
  refine TL.pure (PV.indexArr (j := c) rfl rfl arr_69 rfl hc) rfl (by decide) ?_
  refine TL.pure (PV.loadI (xs := xs) rfl Tb.one_3 (by repeat (first | exact List.Mem.head _ | refine List.Mem.tail _ ?_ | refine List.mem_append_right _ ?_)) (by omega)) rfl (by decide) ?_
  refine TL.pure (PV.add rfl rfl (by omega)) rfl (by decide) ?_
  refine TL.pure (PV.indexArr (j := c) rfl rfl arr_69 rfl hc) rfl (by decide) ?_
  refine TL.storeI (xs := xs) (j := c) (v := xs.getD c 0 + 1) rfl rfl Tb.cells_3 (by repeat (first | exact Upd.head _ | apply Upd.tail | apply Upd.appR)) (by omega) rfl rfl ?_
  refine TL.nil ?_
  refine TQ.thenC ?_
  refine TC.seq ?_
  refine TC.region ?_
  refine TL.pure (PV.loadBox (cs := (xs.set c (xs.getD c 0 + 1)).map (Value.int .i64)) rfl Tb.agg_69 (by repeat (first | exact List.Mem.head _ | refine List.Mem.tail _ ?_ | refine List.mem_append_right _ ?_)) (map_len (by simp [hx]))) rfl (by decide) ?_
  refine TL.storeAgg (vs := (xs.set c (xs.getD c 0 + 1)).map (Value.int .i64)) rfl rfl Tb.cells_69 (by repeat (first | exact Upd.head _ | apply Upd.tail | apply Upd.appR)) (map_len (by simp [hx])) rfl (ints_one _) rfl rfl ?_
  refine TL.nil ?_
  refine TQ.thenC ?_
  refine TC.ret ?_
  refine TQ.retR rfl (Res.agg rfl Tb.agg_69 (by repeat (first | exact List.Mem.head _ | refine List.Mem.tail _ ?_ | refine List.mem_append_right _ ?_)) (map_len (by simp [hx])) Res.nil) ?_
  simp only [tup]
  exact ⟨(), rfl, trivial, List.nil_sublist _⟩

set_option maxRecDepth 100000 in
set_option maxHeartbeats 1000000 in
theorem both_ok (w0 : World) (xs ys : List Int) (hx : xs.length = 6) (hy : ys.length = 6) :
    Calls Try.prog 69 #[.agg (intsA xs), .agg (intsA ys)] w0 (Post (X := Unit) (fun _ => .agg (intsA (List.zipWith min xs ys))) (fun _ => True) (fun _ => []) w0) := by
  refine calls Try.func69 rfl (n := 20) rfl (by simp) ?_
  refine TC.seq ?_
  refine TC.region ?_
  refine TL.box rfl rfl (by decide) (fun b0 hb0 => ?_)
  refine TL.box rfl rfl (by decide) (fun b1 hb1 => ?_)
  refine TL.alloc Tb.zero_69 rfl (by decide) (fun b2 hb2 => ?_)
  refine TL.nil ?_
  refine TQ.thenC ?_
  refine TC.seq ?_
  refine TC.seq ?_
  refine TC.region ?_
  refine TL.pure (PV.move rfl) rfl (by decide) ?_
  refine TL.nil ?_
  refine TQ.thenC ?_
  refine TC.block ?_
  refine TC.lit [(2, _), (3, _), (4, _), (6, _)] (by repeat (first | exact True.intro | refine And.intro rfl ?_)) ?_
  refine TC.loopK [2, 3, 4] (X := Nat × Unit) (fun k => k.1 ≤ 6) (fun k => [(6, .int .i64 k.1)]) (fun k => [(b2, Obj.cells Z6 69 (0, 0)), (b1, Obj.cells (intsA ys) 69 (0, 0)), (b0, Obj.cells (intsA (mixN min xs ys k.1)) 69 (0, 0))]) (fun k => 6 - k.1) (0, ()) (by simp) (by repeat (first | exact True.intro | refine And.intro rfl ?_)) (List.Sublist.refl _) ?_
  intro k hk
  refine TC.lit [(2, _), (3, _), (4, _), (6, _)] (by repeat (first | exact True.intro | refine And.intro rfl ?_)) ?_
  refine TC.seq ?_
  refine TC.region ?_
  refine TL.pure (PV.lss rfl rfl) rfl (by decide) ?_
  refine TL.nil ?_
  refine TQ.thenC ?_
  refine TC.seq ?_
  first | refine TC.condD rfl (fun hlt => ?_) (fun hlt => ?_) | refine TC.cond rfl (fun hlt => ?_) (fun hlt => ?_)
  · skip
    refine TC.skip ?_
    refine TQ.thenC ?_
    refine TC.seq ?_
    refine TC.block ?_
    refine TC.seq ?_
    have hl6 := mix_len (f := min) hx hy k.1
    have hat := mix_at (f := min) hx hy (show k.1 < 6 by omega)
    refine TC.region ?_
    refine TL.pure (PV.move rfl) rfl (by decide) ?_
    refine TL.pure (PV.assign rfl) rfl (by decide) ?_
    refine TL.nil ?_
    refine TQ.thenC ?_
    refine TC.mix [true, true, true, true, true, true, true, true, true, false] _ 1 Tb.mixed rfl (by kernel_rfl) (by kernel_rfl) (by kernel_rfl) (by kernel_rfl) (List.Sublist.refl _) ?_
    refine TB.op (SOK.pure (PV.move rfl) rfl) (by decide) ?_
    refine TB.op (SOK.pure (PV.move rfl) rfl) (by decide) ?_
    refine TB.op (SOK.pure (PV.indexArr (j := k.1) rfl rfl arr_69 rfl (by omega)) rfl) (by decide) ?_
    refine TB.op (SOK.pure (PV.loadIv (xs := mixN min xs ys k.1) rfl Tb.one_3 (by repeat (first | exact List.Mem.head _ | refine List.Mem.tail _ ?_ | refine List.mem_append_right _ ?_)) (by omega) hat) rfl) (by decide) ?_
    refine TB.op (SOK.pure (PV.move rfl) rfl) (by decide) ?_
    refine TB.op (SOK.pure (PV.indexArr (j := k.1) rfl rfl arr_69 rfl (by omega)) rfl) (by decide) ?_
    refine TB.op (SOK.pure (PV.loadI (xs := ys) rfl Tb.one_3 (by repeat (first | exact List.Mem.head _ | refine List.Mem.tail _ ?_ | refine List.mem_append_right _ ?_)) (by omega)) rfl) (by decide) ?_
    refine TB.op (SOK.pure (PV.min rfl rfl Tb.int_3) rfl) (by decide) ?_
    refine TB.op (SOK.pure (PV.indexArr (j := k.1) rfl rfl arr_69 rfl (by omega)) rfl) (by decide) ?_
    refine TB.no ?_
    refine TB.fin ?_
    refine TX.step [9] (by kernel_rfl) (by decide) ⟨⟨_, rfl, ?_⟩, trivial⟩
    refine TL.storeI (xs := mixN min xs ys k.1) (j := k.1) (v := min (xs.getD k.1 0) (ys.getD k.1 0)) (G' := [(b2, Obj.cells Z6 69 (0, 0)), (b1, Obj.cells (intsA ys) 69 (0, 0)), (b0, Obj.cells (intsA (mixN min xs ys (k.1 + 1))) 69 (0, 0))]) rfl rfl Tb.cells_3 (by rw [mix_set hx hy (by omega)]; exact Upd.tail _ (Upd.tail _ (Upd.head _))) (by omega) rfl rfl ?_
    refine TL.nil ?_
    refine TX.next (.inr (by kernel_rfl)) ?_
    refine TX.done (by kernel_rfl) ?_
    refine TQ.blkN ?_
    refine TQ.thenC ?_
    refine TC.region ?_
    refine TL.pure (PV.add rfl rfl (by omega)) rfl (by decide) ?_
    refine TL.pure (PV.move rfl) rfl (by decide) ?_
    refine TL.nil ?_
    refine TQ.thenN ?_
    refine TQ.backK (k.1 + 1, ()) (by repeat (first | exact True.intro | refine And.intro rfl ?_)) (by repeat (first | exact True.intro | refine And.intro rfl ?_)) (List.Sublist.refl _) (by simp only; omega) (by simp only; omega)
  · skip
    refine TC.exit ?_
    refine TQ.thenE ?_
    refine TQ.thenE ?_
    refine TQ.blkS ?_
    refine TQ.thenC ?_
    refine TC.seq ?_
    have hend := mix_end (f := min) hx hy (show 6 ≤ k.1 by omega)
    rw [hend]
    refine TC.region ?_
    refine TL.pure (PV.loadBox (cs := (List.zipWith min xs ys).map (Value.int .i64)) rfl Tb.agg_69 (by repeat (first | exact List.Mem.head _ | refine List.Mem.tail _ ?_ | refine List.mem_append_right _ ?_)) (map_len (by simp [hx, hy]))) rfl (by decide) ?_
    refine TL.storeAgg (vs := (List.zipWith min xs ys).map (Value.int .i64)) rfl rfl Tb.cells_69 (by repeat (first | exact Upd.head _ | apply Upd.tail | apply Upd.appR)) (map_len (by simp [hx, hy])) rfl (ints_one _) rfl rfl ?_
    refine TL.nil ?_
    refine TQ.thenC ?_
    refine TC.ret ?_
    refine TQ.retR rfl (Res.agg rfl Tb.agg_69 (by repeat (first | exact List.Mem.head _ | refine List.Mem.tail _ ?_ | refine List.mem_append_right _ ?_)) (map_len (by simp [hx, hy])) Res.nil) ?_
    simp only [tup]
    exact ⟨(), rfl, trivial, List.nil_sublist _⟩

set_option maxRecDepth 100000 in
set_option maxHeartbeats 1000000 in
theorem either_ok (w0 : World) (xs ys : List Int) (hx : xs.length = 6) (hy : ys.length = 6) :
    Calls Try.prog 72 #[.agg (intsA xs), .agg (intsA ys)] w0 (Post (X := Unit) (fun _ => .agg (intsA (List.zipWith max xs ys))) (fun _ => True) (fun _ => []) w0) := by
  refine calls Try.func72 rfl (n := 20) rfl (by simp) ?_
  refine TC.seq ?_
  refine TC.region ?_
  refine TL.box rfl rfl (by decide) (fun b0 hb0 => ?_)
  refine TL.box rfl rfl (by decide) (fun b1 hb1 => ?_)
  refine TL.alloc Tb.zero_69 rfl (by decide) (fun b2 hb2 => ?_)
  refine TL.nil ?_
  refine TQ.thenC ?_
  refine TC.seq ?_
  refine TC.seq ?_
  refine TC.region ?_
  refine TL.pure (PV.move rfl) rfl (by decide) ?_
  refine TL.nil ?_
  refine TQ.thenC ?_
  refine TC.block ?_
  refine TC.lit [(2, _), (3, _), (4, _), (6, _)] (by repeat (first | exact True.intro | refine And.intro rfl ?_)) ?_
  refine TC.loopK [2, 3, 4] (X := Nat × Unit) (fun k => k.1 ≤ 6) (fun k => [(6, .int .i64 k.1)]) (fun k => [(b2, Obj.cells Z6 69 (0, 0)), (b1, Obj.cells (intsA ys) 69 (0, 0)), (b0, Obj.cells (intsA (mixN max xs ys k.1)) 69 (0, 0))]) (fun k => 6 - k.1) (0, ()) (by simp) (by repeat (first | exact True.intro | refine And.intro rfl ?_)) (List.Sublist.refl _) ?_
  intro k hk
  refine TC.lit [(2, _), (3, _), (4, _), (6, _)] (by repeat (first | exact True.intro | refine And.intro rfl ?_)) ?_
  refine TC.seq ?_
  refine TC.region ?_
  refine TL.pure (PV.lss rfl rfl) rfl (by decide) ?_
  refine TL.nil ?_
  refine TQ.thenC ?_
  refine TC.seq ?_
  first | refine TC.condD rfl (fun hlt => ?_) (fun hlt => ?_) | refine TC.cond rfl (fun hlt => ?_) (fun hlt => ?_)
  · skip
    refine TC.skip ?_
    refine TQ.thenC ?_
    refine TC.seq ?_
    refine TC.block ?_
    refine TC.seq ?_
    have hl6 := mix_len (f := max) hx hy k.1
    have hat := mix_at (f := max) hx hy (show k.1 < 6 by omega)
    refine TC.region ?_
    refine TL.pure (PV.move rfl) rfl (by decide) ?_
    refine TL.pure (PV.assign rfl) rfl (by decide) ?_
    refine TL.nil ?_
    refine TQ.thenC ?_
    refine TC.mix [true, true, true, true, true, true, true, true, true, false] _ 1 Tb.mixed rfl (by kernel_rfl) (by kernel_rfl) (by kernel_rfl) (by kernel_rfl) (List.Sublist.refl _) ?_
    refine TB.op (SOK.pure (PV.move rfl) rfl) (by decide) ?_
    refine TB.op (SOK.pure (PV.move rfl) rfl) (by decide) ?_
    refine TB.op (SOK.pure (PV.indexArr (j := k.1) rfl rfl arr_69 rfl (by omega)) rfl) (by decide) ?_
    refine TB.op (SOK.pure (PV.loadIv (xs := mixN max xs ys k.1) rfl Tb.one_3 (by repeat (first | exact List.Mem.head _ | refine List.Mem.tail _ ?_ | refine List.mem_append_right _ ?_)) (by omega) hat) rfl) (by decide) ?_
    refine TB.op (SOK.pure (PV.move rfl) rfl) (by decide) ?_
    refine TB.op (SOK.pure (PV.indexArr (j := k.1) rfl rfl arr_69 rfl (by omega)) rfl) (by decide) ?_
    refine TB.op (SOK.pure (PV.loadI (xs := ys) rfl Tb.one_3 (by repeat (first | exact List.Mem.head _ | refine List.Mem.tail _ ?_ | refine List.mem_append_right _ ?_)) (by omega)) rfl) (by decide) ?_
    refine TB.op (SOK.pure (PV.max rfl rfl Tb.int_3) rfl) (by decide) ?_
    refine TB.op (SOK.pure (PV.indexArr (j := k.1) rfl rfl arr_69 rfl (by omega)) rfl) (by decide) ?_
    refine TB.no ?_
    refine TB.fin ?_
    refine TX.step [9] (by kernel_rfl) (by decide) ⟨⟨_, rfl, ?_⟩, trivial⟩
    refine TL.storeI (xs := mixN max xs ys k.1) (j := k.1) (v := max (xs.getD k.1 0) (ys.getD k.1 0)) (G' := [(b2, Obj.cells Z6 69 (0, 0)), (b1, Obj.cells (intsA ys) 69 (0, 0)), (b0, Obj.cells (intsA (mixN max xs ys (k.1 + 1))) 69 (0, 0))]) rfl rfl Tb.cells_3 (by rw [mix_set hx hy (by omega)]; exact Upd.tail _ (Upd.tail _ (Upd.head _))) (by omega) rfl rfl ?_
    refine TL.nil ?_
    refine TX.next (.inr (by kernel_rfl)) ?_
    refine TX.done (by kernel_rfl) ?_
    refine TQ.blkN ?_
    refine TQ.thenC ?_
    refine TC.region ?_
    refine TL.pure (PV.add rfl rfl (by omega)) rfl (by decide) ?_
    refine TL.pure (PV.move rfl) rfl (by decide) ?_
    refine TL.nil ?_
    refine TQ.thenN ?_
    refine TQ.backK (k.1 + 1, ()) (by repeat (first | exact True.intro | refine And.intro rfl ?_)) (by repeat (first | exact True.intro | refine And.intro rfl ?_)) (List.Sublist.refl _) (by simp only; omega) (by simp only; omega)
  · skip
    refine TC.exit ?_
    refine TQ.thenE ?_
    refine TQ.thenE ?_
    refine TQ.blkS ?_
    refine TQ.thenC ?_
    refine TC.seq ?_
    have hend := mix_end (f := max) hx hy (show 6 ≤ k.1 by omega)
    rw [hend]
    refine TC.region ?_
    refine TL.pure (PV.loadBox (cs := (List.zipWith max xs ys).map (Value.int .i64)) rfl Tb.agg_69 (by repeat (first | exact List.Mem.head _ | refine List.Mem.tail _ ?_ | refine List.mem_append_right _ ?_)) (map_len (by simp [hx, hy]))) rfl (by decide) ?_
    refine TL.storeAgg (vs := (List.zipWith max xs ys).map (Value.int .i64)) rfl rfl Tb.cells_69 (by repeat (first | exact Upd.head _ | apply Upd.tail | apply Upd.appR)) (map_len (by simp [hx, hy])) rfl (ints_one _) rfl rfl ?_
    refine TL.nil ?_
    refine TQ.thenC ?_
    refine TC.ret ?_
    refine TQ.retR rfl (Res.agg rfl Tb.agg_69 (by repeat (first | exact List.Mem.head _ | refine List.Mem.tail _ ?_ | refine List.mem_append_right _ ?_)) (map_len (by simp [hx, hy])) Res.nil) ?_
    simp only [tup]
    exact ⟨(), rfl, trivial, List.nil_sublist _⟩

end Go.Proofs.Ytfgjojoipbbacaa
