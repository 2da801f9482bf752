/- The keys of a map, one after another, and collected: contracts. -/
import Derived.Test.YtfgjojoipbbacaaDP
import Derived.Test.YtfgjojoipbbacaaRf
set_option linter.unusedVariables false
set_option linter.unusedSimpArgs false
namespace Go.Proofs.Ytfgjojoipbbacaa
open Go.Sx Go.RowKit

/-- The keys that have come. -/
def kysV (es : List Ent) (v : List Nat) : List Hv := v.map fun j => toHv (es.getD j default).1
theorem kysV_snoc (es : List Ent) (v : List Nat) (j : Nat) : kysV es (v ++ [j]) = kysV es v ++ [toHv (es.getD j default).1] := by simp [kysV]
theorem kysV_list {es : List Ent} (h6 : ∀ q ∈ es, q.1.length = 6) {v : List Nat} (hv : ∀ j ∈ v, j < es.length) : (kysV es v).map Vector.toList = v.map fun j => (es.getD j default).1 := by
  unfold kysV
  rw [List.map_map]
  refine List.map_congr_left fun j hj => ?_
  have hj' := hv j hj
  exact toHv_six (h6 _ (by simp [List.getD, hj']))
theorem kysV_all {es : List Ent} (h6 : ∀ q ∈ es, q.1.length = 6) {v : List Nat} (hv : Ord es.length v) (ha : ∀ j, j < es.length → j ∈ v) : ((kysV es v).map Vector.toList).Perm (keysE es) := by
  rw [kysV_list h6 hv.lt]
  have hp : v.Perm (List.range es.length) := (List.perm_ext_iff_of_nodup hv.nd List.nodup_range).2 fun j => ⟨fun h => List.mem_range.2 (hv.lt j h), fun h => ha j (List.mem_range.1 h)⟩
  refine (hp.map _).trans ?_
  have e : (List.range es.length).map (fun j => (es.getD j default).1) = keysE es := by
    apply List.ext_getElem (by simp [keysE])
    intro i h1 h2
    have h3 : i < es.length := by simpa [keysE] using h2
    simp [keysE, List.getD, h3]
  rw [e]


set_option maxRecDepth 100000 in
theorem keys_ok (w0 : World) (bM : Nat) :
    Calls Try.prog 102 #[.map (some bM)] w0 (Post (X := Nat) (fun b => .func (.func 110) #[] #[.pointer (some ⟨b, 0, none⟩)]) (fun _ => True) (fun b => [(b, Obj.cells #[.map (some bM)] 79 (0, 0))]) w0) := by
  refine calls Try.func102 rfl (n := 4) rfl (by simp) ?_
  refine TC.seq ?_
  refine TC.region ?_
  refine TL.box rfl rfl (by decide) (fun b0 hb0 => ?_)
  refine TL.pure (PV.assign rfl) rfl (by decide) ?_
  refine TL.nil ?_
  refine TQ.thenC ?_
  refine TC.seq ?_
  refine TC.region ?_
  refine TL.pure (PV.makeFunc rfl) rfl (by decide) ?_
  refine TL.pure (PV.assign rfl) rfl (by decide) ?_
  refine TL.nil ?_
  refine TQ.thenC ?_
  refine TC.ret ?_
  refine TQ.retE1 rfl rfl ?_
  exact ⟨b0, rfl, trivial, List.Sublist.refl _⟩

set_option maxRecDepth 100000 in
set_option maxHeartbeats 1000000 in
theorem keys_it (w0 : World) (es : List Ent) (h6 : ∀ q ∈ es, q.1.length = 6) (bM bB : Nat) :
    Iter Try.prog 110 [.pointer (some ⟨bB, 0, none⟩)] (fun x : Hv => [.agg (intsA x.toList)]) w0 [(bB, Obj.cells #[.map (some bM)] 79 (0, 0)), (bM, mobj es)] (fun l => (l.map Vector.toList).Perm (keysE es)) (fun l => l.length ≤ es.length) := by
  intro X Y w lY F H Fx Hx s0 hk hY h0 hN
  refine callsIG Try.func110 rfl (n := 14) rfl (by simp) hN ?_
  refine TG.seq ?_
  refine TG.region (by repeat (first | with_reducible exact RB.lo | with_reducible exact QN.lo | with_reducible exact bodyM_lo | with_reducible exact bodyP_lo | with_reducible apply lo_then | with_reducible apply lo_blk)) (by kernel_rfl) ?_
  refine TL.pure (PV.load rfl Tb.one_79 (hk _ _ (List.Mem.head _)) rfl) rfl (by decide) ?_
  refine TL.rangeM (es := es) rfl map_79 (hk _ _ (.tail _ (.head _))) rfl (by decide) (fun r hr9 => ?_)
  refine TL.nil ?_
  refine TQ.thenG ?_
  refine TG.block ?_
  refine TG.loopK [0, 5] (X := List Nat × X) (fun y => Ord es.length y.1 ∧ F (kysV es y.1) y.2) (fun y => []) (fun y => (r, iobj bM es y.1) :: H y.2) (fun y => es.length - y.1.length) ([], s0) ⟨⟨List.nodup_nil, fun j hj => by cases hj⟩, h0⟩ (by repeat (first | exact True.intro | refine And.intro rfl ?_)) (List.Sublist.refl _) ?_
  intro y hy
  refine TG.seq ?_
  refine TG.region (by repeat (first | with_reducible exact RB.lo | with_reducible exact QN.lo | with_reducible exact bodyM_lo | with_reducible exact bodyP_lo | with_reducible apply lo_then | with_reducible apply lo_blk)) (by kernel_rfl) ?_
  refine TL.nextM (es := es) (seen := y.1) (fun o => (r, iobj bM es (y.1 ++ o.toList)) :: H y.2) rfl (List.Mem.tail _ (hk _ _ (.tail _ (.head _)))) (fun o => Upd.head _) rfl (by decide) (fun o ho => ?_)
  refine TL.pure (PV.nextB rfl) rfl (by decide) ?_
  refine TL.nil ?_
  refine TQ.thenG ?_
  refine TG.seq ?_
  first | refine TG.condD rfl (fun hsome => ?_) (fun hsome => ?_) | refine TG.cond rfl (fun hsome => ?_) (fun hsome => ?_)
  · skip
    obtain ⟨j, rfl⟩ := Option.isSome_iff_exists.1 hsome
    obtain ⟨hj, hjv⟩ := ho
    have hk6 : (es.getD j default).1.length = 6 := h6 _ (by simp [List.getD, hj])
    have hnx := hy.1.snoc hj hjv
    have hnl := hnx.len
    have hsn := kysV_snoc es y.1 j
    refine TG.skip ?_
    refine TQ.thenG ?_
    refine TG.block ?_
    refine TG.seq ?_
    refine TG.region (by repeat (first | with_reducible exact RB.lo | with_reducible exact QN.lo | with_reducible exact bodyM_lo | with_reducible exact bodyP_lo | with_reducible apply lo_then | with_reducible apply lo_blk)) (by kernel_rfl) ?_
    refine TL.pure (PV.entryM (es := es) (seen := y.1) (j := j) rfl (List.Mem.tail _ (hk _ _ (.tail _ (.head _)))) (List.Mem.head _) hj) rfl (by decide) ?_
    refine TL.pure (PV.extract rfl rfl) rfl (by decide) ?_
    refine TL.alloc Tb.zero_69 rfl (by decide) (fun b3 hb3 => ?_)
    refine TL.storeAgg (vs := (es.getD j default).1.map (Value.int .i64)) rfl rfl Tb.cells_69 (by repeat (first | exact Upd.head _ | apply Upd.tail | apply Upd.appR)) (map_len hk6) rfl (ints_one _) rfl rfl ?_
    refine TL.nil ?_
    refine TQ.thenG ?_
    refine TG.seq ?_
    refine TG.regionL ?_
    refine TGL.pre 2 (by repeat (first | with_reducible exact RB.lo | with_reducible exact QN.lo | with_reducible exact bodyM_lo | with_reducible exact bodyP_lo | with_reducible apply lo_then | with_reducible apply lo_blk)) (by kernel_rfl) ?_
    simp only [List.take_succ_cons, List.take_zero, List.drop_succ_cons, List.drop_zero]
    refine TL.pure (PV.move rfl) rfl (by decide) ?_
    refine TL.pure (PV.loadBox (cs := (es.getD j default).1.map (Value.int .i64)) rfl Tb.agg_69 (by repeat (first | exact List.Mem.head _ | refine List.Mem.tail _ ?_ | refine List.mem_append_right _ ?_)) (map_len hk6)) rfl (by decide) ?_
    refine TL.nil ?_
    refine TQ.thenL ?_
    refine TGL.yield (F (kysV es (y.1 ++ [j]))) (fun s1 => H s1 ++ [(b3, Obj.cells (intsA (es.getD j default).1) 69 (0, 0)), (r, iobj bM es (y.1 ++ [j]))]) (fun z => Fx (kysV es (y.1 ++ [j])) z) (fun z => Hx z ++ [(b3, Obj.cells (intsA (es.getD j default).1) 69 (0, 0)), (r, iobj bM es (y.1 ++ [j]))]) rfl rfl (fun w' hw' => ?_) rfl (by decide) (fun s1 hs1 => ?_) (fun z hz => ?_)
    · skip
      have h7 := hY (kysV es y.1) (toHv (es.getD j default).1) y.2 w' [(b3, Obj.cells (intsA (es.getD j default).1) 69 (0, 0)), (r, iobj bM es (y.1 ++ [j]))] (by rw [← hsn]; simp only [kysV, List.length_map]; exact hnl) hy.2 (hw'.perm List.perm_append_comm)
      dsimp only at h7
      rw [← hsn, toHv_six hk6] at h7
      exact h7
    · skip
      refine TGL.perm (G' := [(b3, Obj.cells (intsA (es.getD j default).1) 69 (0, 0)), (r, iobj bM es (y.1 ++ [j]))] ++ H s1) List.perm_append_comm ?_
      refine TGL.opsAll (by repeat (first | with_reducible exact RB.lo | with_reducible exact QN.lo | with_reducible exact bodyM_lo | with_reducible exact bodyP_lo | with_reducible apply lo_then | with_reducible apply lo_blk)) (by kernel_rfl) ?_
      refine TL.pure (PV.not rfl) rfl (by decide) ?_
      refine TL.nil ?_
      refine TQ.thenG ?_
      refine TG.condF rfl ?_
      refine TG.skip ?_
      refine TQ.gblkN ?_
      refine TQ.backG (y.1 ++ [j], s1) (by repeat (first | exact True.intro | refine And.intro rfl ?_)) (by repeat (first | exact True.intro | refine And.intro rfl ?_)) (List.Sublist.cons _ (List.Sublist.refl _)) ⟨hnx, hs1⟩ (by simp only [List.length_append, List.length_singleton] at hnl ⊢; omega)
    · skip
      refine TGL.opsAll (by repeat (first | with_reducible exact RB.lo | with_reducible exact QN.lo | with_reducible exact bodyM_lo | with_reducible exact bodyP_lo | with_reducible apply lo_then | with_reducible apply lo_blk)) (by kernel_rfl) ?_
      refine TL.pure (PV.not rfl) rfl (by decide) ?_
      refine TL.nil ?_
      refine TQ.thenG ?_
      refine TG.condT rfl ?_
      refine TG.ret ?_
      refine TQ.gblkR ?_
      refine TQ.gthenR ?_
      refine TQ.gblkR ?_
      refine TQ.retI rfl (fun w9 v9 hw9 => ⟨⟨_, rfl⟩, .inr ⟨_, z, by simp only [kysV, List.length_map]; exact hnl, hz, hw9.sub (List.sublist_append_left _ _)⟩⟩)
  · skip
    obtain rfl : o = none := by simpa using hsome
    refine TG.exit ?_
    refine TQ.gthenE ?_
    refine TQ.gthenE ?_
    refine TQ.gblkS ?_
    refine TQ.retIN rfl (fun w9 v9 hw9 => ⟨⟨_, rfl⟩, .inl ⟨_, y.2, kysV_all h6 hy.1 ho, hy.2, hw9.sub (List.Sublist.cons _ (by first | exact List.Sublist.refl _ | simp))⟩⟩)

set_option maxRecDepth 100000 in
set_option maxHeartbeats 1000000 in
theorem appendSeq_ok {w0 w : World} {bM bB : Nat} {es : List Ent} {R : Heap} (hn : New w0 w ((bB, Obj.cells #[.map (some bM)] 79 (0, 0)) :: (bM, mobj es) :: R)) (h6 : ∀ q ∈ es, q.1.length = 6) (hl : es.length ≤ 1000000) :
    Calls Try.prog 114 #[.slice none 0 0, .func (.func 110) #[] #[.pointer (some ⟨bB, 0, none⟩)]] w (Post (X := HD × List Hv) (fun x => gval x.1 x.2.length) (fun x => (x.2.map Vector.toList).Perm (keysE es) ∧ goR hR x.1 x.2) (fun x => gbR hR 69 x.1 x.2 ++ ((bB, Obj.cells #[.map (some bM)] 79 (0, 0)) :: (bM, mobj es) :: R)) w0) := by
  refine callsRFM hn Try.func114 rfl (n := 13) rfl (by simp) ?_
  refine TC.seq ?_
  refine TC.region ?_
  refine TL.box rfl rfl (by decide) (fun b0 hb0 => ?_)
  refine TL.pure (PV.assign rfl) rfl (by decide) ?_
  refine TL.nil ?_
  refine TQ.thenC ?_
  refine TC.seq ?_
  refine TC.seq ?_
  refine TC.region ?_
  refine TL.pure (PV.move rfl) rfl (by decide) ?_
  refine TL.nil ?_
  refine TQ.thenC ?_
  refine TC.block ?_
  refine TC.rangeFunc (encs := fun x : Hv => [.agg (intsA x.toList)]) (kept := [(bB, Obj.cells #[.map (some bM)] 79 (0, 0)), (bM, mobj es)]) (α := Hv) (X := HD × List Hv) (Y := Unit) (Z := Nat × HD × List Hv) (ps := [7]) (fun pre s => s.2 = pre ∧ goR hR s.1 s.2) (fun s => gbR hR 69 s.1 s.2 ++ ((b0, Obj.cells #[gval s.1 s.2.length] 82 (0, 0)) :: (bB, Obj.cells #[.map (some bM)] 79 (0, 0)) :: (bM, mobj es) :: R)) (fun pre y => False) (fun y => []) (none, []) (fun x s z => z.2 = s) (fun x z => [(5, .pointer (some ⟨z.1, 0, none⟩)), (2, .pointer (some ⟨b0, 0, none⟩))]) (fun x z => (z.1, Obj.cells (intsA x.toList) 69 (0, 0)) :: (gbR hR 69 z.2.1 z.2.2 ++ ((b0, Obj.cells #[gval z.2.1 z.2.2.length] 82 (0, 0)) :: (bB, Obj.cells #[.map (some bM)] 79 (0, 0)) :: (bM, mobj es) :: R))) rfl Tb.gofn_110 (keys_it w0 es h6 bM bB) (fun _ => rfl) (by decide) ⟨rfl, ⟨rfl, rfl⟩⟩ (List.Sublist.refl _) (fun s q hq => by simp only [List.mem_cons, List.not_mem_nil, or_false] at hq; rcases hq with rfl | rfl <;> simp) ?_ ?_ ?_ ?_
  · skip
    intro lR TR pre x s hp_ hF_
    refine TG.region (by repeat (first | with_reducible exact RB.lo | with_reducible exact QN.lo | with_reducible exact bodyM_lo | with_reducible exact bodyP_lo | with_reducible apply lo_then | with_reducible apply lo_blk)) (by kernel_rfl) ?_
    refine TL.alloc Tb.zero_69 rfl (by decide) (fun b1 hb1 => ?_)
    refine TL.storeAgg (vs := x.toList.map (Value.int .i64)) rfl rfl Tb.cells_69 (by repeat (first | exact Upd.head _ | apply Upd.tail | apply Upd.appR)) (map_len (by simp)) rfl (ints_one _) rfl rfl ?_
    refine TL.nil ?_
    refine TQ.gmid (b1, s) rfl (by repeat (first | exact True.intro | refine And.intro rfl ?_)) (List.Sublist.refl _)
  · skip
    intro lR TR pre x s z hp_ hF_ hz_
    obtain ⟨zb, zs⟩ := z
    obtain rfl : zs = s := hz_
    obtain ⟨hpre, hgo⟩ := hF_
    have hpl : zs.2.length + 1 ≤ es.length := by have h7 : (pre ++ [x]).length ≤ es.length := hp_; rw [List.length_append, ← hpre] at h7; simpa using h7
    dsimp only
    refine TG.perm (G' := (zb, Obj.cells (intsA x.toList) 69 (0, 0)) :: (gbR hR 69 zs.1 zs.2 ++ ((b0, Obj.cells #[gval zs.1 zs.2.length] 82 (0, 0)) :: (bB, Obj.cells #[.map (some bM)] 79 (0, 0)) :: (bM, mobj es) :: (R ++ TR)))) (List.Perm.of_eq (by simp only [List.append_assoc, List.cons_append])) ?_
    refine TG.block ?_
    refine TG.region (by repeat (first | with_reducible exact RB.lo | with_reducible exact QN.lo | with_reducible exact bodyM_lo | with_reducible exact bodyP_lo | with_reducible apply lo_then | with_reducible apply lo_blk)) (by kernel_rfl) ?_
    refine TL.pure (PV.load rfl Tb.one_82 (by repeat (first | exact List.Mem.head _ | refine List.Mem.tail _ ?_ | refine List.mem_append_right _ ?_)) rfl) rfl (by decide) ?_
    refine TL.pure (PV.loadBox (cs := x.toList.map (Value.int .i64)) rfl Tb.agg_69 (by repeat (first | exact List.Mem.head _ | refine List.Mem.tail _ ?_ | refine List.mem_append_right _ ?_)) (map_len (by simp))) rfl (by decide) ?_
    refine TL.buildSlice (cs := intsA x.toList) rfl Tb.sl_82 Tb.zi_69 (by decide) (fill_h1 _ (by simp)) (by decide) rfl (by decide) (fun bS hbS => ?_)
    refine TL.appendRec (R := hR) (h0 := zs.1) (ys := zs.2) (r := x) Tb.sl_82 Tb.zi_69 rfl rfl rfl (by repeat (first | exact List.Mem.head _ | refine List.Mem.tail _ ?_ | refine List.mem_append_right _ ?_)) hgo (by repeat (first | exact TakeH.here _ _ _ _ | apply TakeH.tail | apply TakeH.app)) (by omega) (by omega) rfl (by decide) (fun h8 hh8 => ?_)
    refine TL.store rfl rfl Tb.cells_82 (gval_one _ _) (by repeat (first | exact Upd.head _ | apply Upd.tail | apply Upd.appR)) (by show 0 < 1; decide) rfl rfl ?_
    refine TL.nil ?_
    refine TQ.gblkN ?_
    refine TQ.goOn (h8, zs.2 ++ [x]) ⟨by rw [← hpre], hh8⟩ (by simp only [List.append_assoc, List.cons_append]; exact List.Sublist.append_left (List.Sublist.cons _ (List.Sublist.cons _ (List.Sublist.refl _))) _)
  · skip
    intro dB lB oB xs_ s hD_ hF_
    obtain ⟨hpre, hgo⟩ := hF_
    obtain rfl : s.2 = xs_ := hpre
    refine TQ.perm (G' := gbR hR 69 s.1 s.2 ++ ((b0, Obj.cells #[gval s.1 s.2.length] 82 (0, 0)) :: (bB, Obj.cells #[.map (some bM)] 79 (0, 0)) :: (bM, mobj es) :: (R ++ [(lB, oB), (dB, .deferred (some []))]))) (List.Perm.of_eq (by simp only [List.append_assoc, List.cons_append])) ?_
    refine TQ.gblkN ?_
    refine TQ.thenD ?_
    refine TG.seq ?_
    refine TG.region (by repeat (first | with_reducible exact RB.lo | with_reducible exact QN.lo | with_reducible exact bodyM_lo | with_reducible exact bodyP_lo | with_reducible apply lo_then | with_reducible apply lo_blk)) (by kernel_rfl) ?_
    refine TL.pure (PV.load rfl Tb.one_82 (by repeat (first | exact List.Mem.head _ | refine List.Mem.tail _ ?_ | refine List.mem_append_right _ ?_)) rfl) rfl (by decide) ?_
    refine TL.pure (PV.assign rfl) rfl (by decide) ?_
    refine TL.nil ?_
    refine TQ.thenG ?_
    refine TG.ret ?_
    refine TQ.retM (by repeat (first | exact Take.head _ | apply Take.tail | apply Take.appR)) ?_
    refine TQ.retE1 rfl rfl ?_
    exact ⟨s, rfl, ⟨hD_, hgo⟩, List.Sublist.append_left (List.Sublist.cons _ (List.Sublist.cons_cons _ (List.Sublist.cons_cons _ (List.sublist_append_left _ _)))) _⟩
  · skip
    intro dB lB oB xs_ y hP_ hF_
    exact hF_.elim

end Go.Proofs.Ytfgjojoipbbacaa
