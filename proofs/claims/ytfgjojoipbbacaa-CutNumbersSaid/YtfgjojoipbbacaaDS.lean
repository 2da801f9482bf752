/- The hollows are sorted: contract, out of the shelf's. -/
import Derived.Test.YtfgjojoipbbacaaDR
import Derived.Test.YtfgjojoipbbacaaDQ
import Derived.Test.YtfgjojoipbbacaaLay
set_option linter.unusedVariables false
set_option linter.unusedSimpArgs false
namespace Go.Proofs.Ytfgjojoipbbacaa
open Go.Sx Go.RowKit Go.Lib Go.Sort Go.Shelf

theorem New.eq_grow {w0 w : World} {G : Heap} (h : New w0 w G) : ∃ q os, w = Go.Sort.grow (w0.drewN q) os := by
  refine ⟨w.drawn - w0.drawn, w.heap.extract w0.heap.size w.heap.size, ?_⟩
  have h1 := h.below
  have hd := h.drawn
  have hh : w.heap = w0.heap ++ w.heap.extract w0.heap.size w.heap.size := by
    apply Array.ext_getElem?
    intro k
    by_cases hk : k < w0.heap.size
    · rw [Array.getElem?_append_left hk, h1.block k hk]
    · rw [Array.getElem?_append_right (by omega), Array.getElem?_extract]
      by_cases hk2 : k < w.heap.size
      · rw [if_pos (by omega)]
        congr 1; omega
      · rw [if_neg (by omega), Array.getElem?_eq_none (by omega)]
  have e1 := h1.tape
  have e2 := h1.os
  have e3 := h1.output
  cases w with
  | mk hp tp dr os out =>
    cases w0 with
    | mk hp0 tp0 dr0 os0 out0 =>
      simp only at hh e1 e2 e3 hd
      subst e1; subst e2; subst e3
      simp only [Go.Sort.grow, World.drewN, World.mk.injEq, true_and, and_true]
      exact ⟨hh, by omega⟩

theorem swoH : SWO (ltOf cmpH) where
  irrefl x := by unfold ltOf; rw [decide_eq_false_iff_not]; unfold cmpH; rw [cmpL_self]; decide
  trans x y z h1 h2 := by
    unfold ltOf cmpH at *
    rw [decide_eq_true_eq] at *
    have h3 := cmpL_trans (Int.le_of_lt h1) (Int.le_of_lt h2)
    by_cases e : cmpL x.toList z.toList = 0
    · have e2 := cmpL_0 e
      rw [e2] at h1
      have := cmpL_anti y.toList z.toList
      omega
    · omega
  ntrans x y z h1 h2 := by
    unfold ltOf cmpH at *
    rw [decide_eq_false_iff_not] at *
    have a1 := cmpL_anti x.toList y.toList
    have a2 := cmpL_anti y.toList z.toList
    have a3 := cmpL_anti x.toList z.toList
    have := cmpL_trans (xs := z.toList) (ys := y.toList) (zs := x.toList) (by omega) (by omega)
    omega
theorem h_len (l : List Hv) : (rcs hR l).length = l.length * 6 := rcs_len l
theorem h_get {l : List Hv} {k i : Nat} (h1 : k < l.length) (h2 : i < 6) : (rcs hR l)[k * 6 + i]? = (hR.cells (l.getD k default))[i]? := rcs_get h1 h2
theorem flat_get (l : List Hv) (t : Nat) (ht : t < l.length * 6) : (flatK hR.cells 6 l.toArray)[t]! = (rcs hR l)[t]! := by
  rw [get_flatK _ _ _ _ (by simpa using ht)]
  have h1 : t / 6 < l.length := by omega
  have h2 : t % 6 < 6 := Nat.mod_lt _ (by decide)
  have e := h_get (l := l) (k := t / 6) (i := t % 6) h1 h2
  rw [show t / 6 * 6 + t % 6 = t by omega] at e
  rw [getElem!_def (rcs hR l), e]
  have e2 : l.toArray[t / 6]! = l.getD (t / 6) default := by simp [List.getD, h1]
  rw [e2, getElem!_def]

theorem calls_cmp (x y : Hv) (W : World) : Calls Try.prog 103 #[.agg (hR.cells x).toArray, .agg (hR.cells y).toArray] W fun e w' => e = .returned (.int .i64 (cmpH x y)) ∧ ∃ q os', w' = Go.Sort.grow (W.drewN q) os' :=
  (compare_ok W x y).mono fun _ _ ⟨_, he, _, hN⟩ => ⟨he, New.eq_grow hN⟩
theorem cmpLays (blk off size : Nat) (w : World) : CmpLays Try.prog 103 #[] hR.cells 6 cmpH blk off size w :=
  fun _ _ _ _ x y => calls_cmp x y _

/-- The block's cells, other cells put for the first ones. -/
theorem put_front {l l' : List Hv} {sp : List Value} (hl : l'.length = l.length) : putCells id 0 (flatK hR.cells 6 l'.toArray) (rcs hR l ++ sp).toArray = (rcs hR l' ++ sp).toArray := by
  apply Array.ext_getElem?
  intro k
  have hL := h_len l
  have hL' := h_len l'
  simp only [putCells, Array.getElem?_mapIdx, List.getElem?_toArray, size_flatK, List.size_toArray, Nat.zero_le, true_and, Nat.zero_add, Nat.sub_zero, id]
  by_cases hk : k < l.length * 6
  · rw [List.getElem?_append_left (by omega), List.getElem?_append_left (by omega), List.getElem?_eq_getElem (by omega), Option.map_some, if_pos (by omega), flat_get _ _ (by omega), getElem!_pos (rcs hR l') k (by omega), List.getElem?_eq_getElem (by omega)]
  · rw [List.getElem?_append_right (by omega), List.getElem?_append_right (by omega), show k - (rcs hR l).length = k - (rcs hR l').length by omega]
    cases sp[k - (rcs hR l').length]? with
    | none => rfl
    | some v => rw [Option.map_some, if_neg (by omega)]

theorem sort_ok {w0 w : World} {b cap K : Nat} {l : List Hv} {sp : List Value} {R : Heap} (hn : New w0 w ((b, .cells (rcs hR l ++ sp).toArray 69 (0, 0)) :: R)) (hK : l.length = K) (hl : K ≤ 100000) :
    Calls Try.prog 109 #[.slice (some ⟨b, 0, none⟩) K cap, .func (.func 103) #[] #[]] w fun e w' => ∃ m : List Hv, e = .returned (.tuple #[]) ∧ (m.Perm l ∧ m.Pairwise LeH) ∧ New w0 w' ((b, .cells (rcs hR m ++ sp).toArray 69 (0, 0)) :: R) := by
  subst hK
  have hb := hn.here _ (List.Mem.head _)
  simp only at hb
  have hlt := hn.lt (List.Mem.head _)
  have eg : ∀ args w, (callFunc 103 args).run Try.prog w = .ok (.enter 103 args) w := fun args w => run_goFn Tb.gofn_103
  have hH : HoldsK hR.cells 6 w b 0 l.toArray := by
    intro j hj
    have hj : j < l.length * 6 := by simpa using hj
    refine ⟨?_, by simp [World.frozen?, hb]⟩
    rw [flat_get _ _ hj]
    have hL := h_len l
    simp only [World.cell?, hb, Nat.zero_add, id]
    rw [List.getElem?_toArray, List.getElem?_append_left (by omega), getElem!_pos (rcs hR l) j (by omega), List.getElem?_eq_getElem (by omega)]
    rfl
  have h := AnyQ.slices_SortFunc Try.sortH 6 (by intro w; kernel_rfl) (by intro w; kernel_rfl) hR.cells (fun x => hR.len x) (fun x v hv => hR.one x v hv) cmpH swoH 103 #[] b 0 cap l.toArray w eg (cmpLays b 0 _ w) hH hlt (by simp; omega)
  change Calls Try.prog 109 _ _ _ at h
  refine h.mono ?_
  rintro e w' ⟨rfl, d', m, os, hp, hs, rfl⟩
  have hsz : d'.size = l.length := by simpa using hp.1
  have ed : d' = d'.toList.toArray := by simp
  have hperm : d'.toList.Perm l := by
    have := hp.2.2
    simp only [List.size_toArray] at this
    rw [show d'.extract 0 l.length = d' by rw [← hsz]; simp, show l.toArray.extract 0 l.length = l.toArray by simp] at this
    simpa using this
  have hsort : d'.toList.Pairwise LeH := by
    rw [List.pairwise_iff_getElem]
    intro i j hi hj hij
    simp only [Array.length_toList] at hi hj
    have h9 := hs i j (Nat.zero_le _) hij (by simpa [hsz] using hj)
    rw [getElem!_pos d' j hj, getElem!_pos d' i hi] at h9
    unfold ltOf at h9
    rw [decide_eq_false_iff_not] at h9
    simpa using h9
  obtain ⟨L, el⟩ : ∃ L, d'.toList = L := ⟨_, rfl⟩
  rw [el] at hperm hsort
  have hll : L.length = l.length := hperm.length_eq
  refine ⟨L, rfl, ⟨hperm, hsort⟩, ?_⟩
  rw [ed, el]
  unfold sortWorldK
  have h1 : New w0 (putRowK hR.cells 6 (Go.Sort.ahead w m) b 0 L.toArray) ((b, .cells (rcs hR L ++ sp).toArray 69 (0, 0)) :: R) := by
    have hm : New w0 (Go.Sort.ahead w m) ((b, .cells (rcs hR l ++ sp).toArray 69 (0, 0)) :: R) := ⟨⟨hn.below.os, hn.below.tape, hn.below.output, hn.below.size, hn.below.block⟩, hn.nodup, hn.ge, hn.here, Nat.le_trans hn.drawn (Nat.le_add_right _ _)⟩
    refine hm.turn (.head _) ?_ ?_ rfl rfl rfl (by simp [putRowK, putRow, mapBlock]) rfl
    · show (w.heap.modify b _)[b]? = _
      rw [Array.getElem?_modify, if_pos rfl, hb, Option.map_some]
      simp only [onCells, put_front hll]
    · intro k hk
      show (w.heap.modify b _)[k]? = w.heap[k]?
      rw [Array.getElem?_modify, if_neg (fun e => hk e.symm)]
  have h2 : New (putRowK hR.cells 6 (Go.Sort.ahead w m) b 0 L.toArray) (Go.Sort.grow (putRowK hR.cells 6 (Go.Sort.ahead w m) b 0 L.toArray) os) [] := by
    refine ⟨⟨rfl, rfl, rfl, by simp [Go.Sort.grow], fun k hk => ?_⟩, by simp, by simp, by simp, Nat.le_refl _⟩
    show (_ ++ os)[k]? = _
    rw [Array.getElem?_append_left hk]
  exact h1.trans h2
end Go.Proofs.Ytfgjojoipbbacaa
