/- The bounds are sorted: contract, out of the shelf's. -/
import Derived.Test.YtenalmddoljhoaaVW
import Derived.Test.YtenalmddoljhoaaLay
set_option linter.unusedVariables false
set_option linter.unusedSimpArgs false
namespace Go.Proofs.Ytenalmddoljhoaa
open Go.Sx Go.RowKit Go.Lib Go.Sort Go.Shelf

theorem New.eq_grow {w0 w : World} {G : Heap} (h : New w0 w G) : ∃ q os, w = Go.Sort.grow (w0.drewN q) os := by
  refine ⟨w.drawn - w0.drawn, w.heap.extract w0.heap.size w.heap.size, ?_⟩
  have h1 := h.below
  have hd := h.drawn
  have hh : w.heap = w0.heap ++ w.heap.extract w0.heap.size w.heap.size := by
    apply Array.ext_getElem?
    intro k
    by_cases hk : k < w0.heap.size
    · rw [Array.getElem?_append_left hk, h1.block k hk]
    · rw [Array.getElem?_append_right (by omega), Array.getElem?_extract]
      by_cases hk2 : k < w.heap.size
      · rw [if_pos (by omega)]
        congr 1; omega
      · rw [if_neg (by omega), Array.getElem?_eq_none (by omega)]
  have e1 := h1.tape
  have e2 := h1.os
  have e3 := h1.output
  cases w with
  | mk hp tp dr os out =>
    cases w0 with
    | mk hp0 tp0 dr0 os0 out0 =>
      simp only at hh e1 e2 e3 hd
      subst e1; subst e2; subst e3
      simp only [Go.Sort.grow, World.drewN, World.mk.injEq, true_and, and_true]
      exact ⟨hh, by omega⟩

def lexB (r s : Bd) : Prop := r.a < s.a ∨ (r.a = s.a ∧ (r.b < s.b ∨ (r.b = s.b ∧ r.m < s.m)))
theorem cmpB_lt (r s : Bd) : cmpB r s < 0 ↔ lexB r s := by
  unfold cmpB orT cmpI lexB
  by_cases h1 : r.a < s.a
  · simp [h1]
  · by_cases h2 : s.a < r.a
    · simp [h1, h2]; omega
    · have e1 : r.a = s.a := by omega
      by_cases h3 : r.b < s.b
      · simp [e1, h3]
      · by_cases h4 : s.b < r.b
        · simp [e1, h3, h4]; omega
        · have e2 : r.b = s.b := by omega
          by_cases h5 : r.m < s.m
          · simp [e1, e2, h5]
          · by_cases h6 : s.m < r.m
            · simp [e1, e2, h5, h6]
            · simp [e1, e2, h5, h6]
instance (r s : Bd) : Decidable (lexB r s) := by unfold lexB; infer_instance
theorem swoB : SWO (ltOf cmpB) where
  irrefl x := by unfold ltOf; rw [decide_eq_false_iff_not, cmpB_lt]; unfold lexB; omega
  trans x y z h1 h2 := by
    unfold ltOf at *
    rw [decide_eq_true_eq, cmpB_lt] at *
    unfold lexB at *; omega
  ntrans x y z h1 h2 := by
    unfold ltOf at *
    rw [decide_eq_false_iff_not, cmpB_lt] at *
    unfold lexB at *; omega
def insB (r : Bd) : List Bd → List Bd
  | [] => [r]
  | s :: l => if lexB s r then s :: insB r l else r :: s :: l
def srtB : List Bd → List Bd
  | [] => []
  | r :: l => insB r (srtB l)
theorem insB_perm (r : Bd) : ∀ l, (insB r l).Perm (r :: l)
  | [] => .refl _
  | s :: l => by
    unfold insB
    split
    · exact ((insB_perm r l).cons s).trans (.swap r s l)
    · exact .refl _
theorem srtB_perm : ∀ l, (srtB l).Perm l
  | [] => .refl _
  | r :: l => (insB_perm r _).trans ((srtB_perm l).cons r)
abbrev LeB (r s : Bd) : Prop := ¬ lexB s r
theorem insB_sorted (r : Bd) : ∀ l, l.Pairwise LeB → (insB r l).Pairwise LeB
  | [], _ => by simp [insB]
  | s :: l, h => by
    have h1 := List.pairwise_cons.1 h
    unfold insB
    split
    · rename_i hlt
      refine List.pairwise_cons.2 ⟨fun t ht => ?_, insB_sorted r l h1.2⟩
      rcases List.mem_cons.1 ((insB_perm r l).mem_iff.1 ht) with rfl | ht
      · unfold LeB lexB at *; omega
      · exact h1.1 t ht
    · rename_i hlt
      refine List.pairwise_cons.2 ⟨fun t ht => ?_, h⟩
      rcases List.mem_cons.1 ht with rfl | ht
      · exact hlt
      · have := h1.1 t ht
        unfold LeB lexB at *; omega
theorem srtB_sorted : ∀ l, (srtB l).Pairwise LeB
  | [] => List.Pairwise.nil
  | r :: l => insB_sorted r _ (srtB_sorted l)
theorem leB_anti {r s : Bd} (h1 : LeB r s) (h2 : LeB s r) : r = s := by
  cases r with
  | mk a b m =>
    cases s with
    | mk a' b' m' =>
      unfold LeB lexB at *
      simp only [Bd.mk.injEq]
      simp only at h1 h2
      omega
theorem srt_unique {l m : List Bd} (hp : m.Perm l) (hs : m.Pairwise LeB) : m = srtB l :=
  List.Perm.eq_of_pairwise (le := LeB) (fun _ _ _ _ h1 h2 => leB_anti h1 h2) hs (srtB_sorted l) (hp.trans (srtB_perm l).symm)

theorem flat_get (l : List Bd) (t : Nat) (ht : t < l.length * 3) : (flatK Bd.cells 3 l.toArray)[t]! = (bdc l)[t]! := by
  rw [get_flatK _ _ _ _ (by simpa using ht)]
  have h1 : t / 3 < l.length := by omega
  have h2 : t % 3 < 3 := Nat.mod_lt _ (by decide)
  have e := bdc_get (l := l) (k := t / 3) (i := t % 3) h1 h2
  rw [show t / 3 * 3 + t % 3 = t by omega] at e
  rw [getElem!_def (bdc l), e]
  have e2 : l.toArray[t / 3]! = l.getD (t / 3) default := by simp [List.getD, h1]
  rw [e2, getElem!_def]

theorem calls_cmp (x y : Bd) (W : World) : Calls Try.prog 96 #[.agg (Bd.cells x).toArray, .agg (Bd.cells y).toArray] W fun e w' => e = .returned (.int .i64 (cmpB x y)) ∧ ∃ q os', w' = Go.Sort.grow (W.drewN q) os' :=
  (compare_ok W x y).mono fun _ _ ⟨_, he, _, hN⟩ => ⟨he, New.eq_grow hN⟩
theorem cmpLays (blk off size : Nat) (w : World) : CmpLays Try.prog 96 #[] Bd.cells 3 cmpB blk off size w :=
  fun _ _ _ _ x y => calls_cmp x y _

/-- The block's cells, other cells put for the first ones. -/
theorem put_front {l l' : List Bd} {sp : List Value} (hl : l'.length = l.length) : putCells id 0 (flatK Bd.cells 3 l'.toArray) (bdc l ++ sp).toArray = (bdc l' ++ sp).toArray := by
  apply Array.ext_getElem?
  intro k
  have hL := bdc_len l
  have hL' := bdc_len l'
  simp only [putCells, Array.getElem?_mapIdx, List.getElem?_toArray, size_flatK, List.size_toArray, Nat.zero_le, true_and, Nat.zero_add, Nat.sub_zero, id]
  by_cases hk : k < l.length * 3
  · rw [List.getElem?_append_left (by omega), List.getElem?_append_left (by omega), List.getElem?_eq_getElem (by omega), Option.map_some, if_pos (by omega), flat_get _ _ (by omega), getElem!_pos (bdc l') k (by omega), List.getElem?_eq_getElem (by omega)]
  · rw [List.getElem?_append_right (by omega), List.getElem?_append_right (by omega), show k - (bdc l).length = k - (bdc l').length by omega]
    cases sp[k - (bdc l').length]? with
    | none => rfl
    | some v => rw [Option.map_some, if_neg (by omega)]

theorem sort_ok {w0 w : World} {b cap K : Nat} {l : List Bd} {sp : List Value} {R : Heap} (hn : New w0 w ((b, .cells (bdc l ++ sp).toArray 88 (0, 0)) :: R)) (hK : l.length = K) (hl : K ≤ 100000) :
    Calls Try.prog 95 #[.slice (some ⟨b, 0, none⟩) K cap, .func (.func 96) #[] #[]] w fun e w' => ∃ _ : Unit, e = .returned (.tuple #[]) ∧ True ∧ New w0 w' ((b, .cells (bdc (srtB l) ++ sp).toArray 88 (0, 0)) :: R) := by
  subst hK
  have hb := hn.here _ (List.Mem.head _)
  simp only at hb
  have hlt := hn.lt (List.Mem.head _)
  have eg : ∀ args w, (callFunc 96 args).run Try.prog w = .ok (.enter 96 args) w := fun args w => run_goFn Tb.gofn_96
  have hH : HoldsK Bd.cells 3 w b 0 l.toArray := by
    intro j hj
    have hj : j < l.length * 3 := by simpa using hj
    refine ⟨?_, by simp [World.frozen?, hb]⟩
    rw [flat_get _ _ hj]
    have hL := bdc_len l
    simp only [World.cell?, hb, Nat.zero_add, id]
    rw [List.getElem?_toArray, List.getElem?_append_left (by omega), getElem!_pos (bdc l) j (by omega), List.getElem?_eq_getElem (by omega)]
    rfl
  have h := AnyQ.slices_SortFunc Try.sortB 3 (by intro w; kernel_rfl) (by intro w; kernel_rfl) Bd.cells (fun _ => rfl) (fun x v hv => by simp [Bd.cells] at hv; rcases hv with rfl | rfl | rfl <;> rfl) cmpB swoB 96 #[] b 0 cap l.toArray w eg (cmpLays b 0 _ w) hH hlt (by simp; omega)
  change Calls Try.prog 95 _ _ _ at h
  refine h.mono ?_
  rintro e w' ⟨rfl, d', m, os, hp, hs, rfl⟩
  refine ⟨(), rfl, trivial, ?_⟩
  have hsz : d'.size = l.length := by simpa using hp.1
  have ed : d' = d'.toList.toArray := by simp
  have hperm : d'.toList.Perm l := by
    have := hp.2.2
    simp only [List.size_toArray] at this
    rw [show d'.extract 0 l.length = d' by rw [← hsz]; simp, show l.toArray.extract 0 l.length = l.toArray by simp] at this
    simpa using this
  have hsort : d'.toList.Pairwise LeB := by
    rw [List.pairwise_iff_getElem]
    intro i j hi hj hij
    simp only [Array.length_toList] at hi hj
    have h9 := hs i j (Nat.zero_le _) hij (by simpa [hsz] using hj)
    rw [getElem!_pos d' j hj, getElem!_pos d' i hi] at h9
    unfold ltOf at h9
    rw [decide_eq_false_iff_not, cmpB_lt] at h9
    simpa using h9
  have el : d'.toList = srtB l := srt_unique hperm hsort
  have hll : (srtB l).length = l.length := (srtB_perm l).length_eq
  rw [ed, el]
  unfold sortWorldK
  have h1 : New w0 (putRowK Bd.cells 3 (Go.Sort.ahead w m) b 0 (srtB l).toArray) ((b, .cells (bdc (srtB l) ++ sp).toArray 88 (0, 0)) :: R) := by
    have hm : New w0 (Go.Sort.ahead w m) ((b, .cells (bdc l ++ sp).toArray 88 (0, 0)) :: R) := ⟨⟨hn.below.os, hn.below.tape, hn.below.output, hn.below.size, hn.below.block⟩, hn.nodup, hn.ge, hn.here, Nat.le_trans hn.drawn (Nat.le_add_right _ _)⟩
    refine hm.turn (.head _) ?_ ?_ rfl rfl rfl (by simp [putRowK, putRow, mapBlock]) rfl
    · show (w.heap.modify b _)[b]? = _
      rw [Array.getElem?_modify, if_pos rfl, hb, Option.map_some]
      simp only [onCells, put_front hll]
    · intro k hk
      show (w.heap.modify b _)[k]? = w.heap[k]?
      rw [Array.getElem?_modify, if_neg (fun e => hk e.symm)]
  have h2 : New (putRowK Bd.cells 3 (Go.Sort.ahead w m) b 0 (srtB l).toArray) (Go.Sort.grow (putRowK Bd.cells 3 (Go.Sort.ahead w m) b 0 (srtB l).toArray) os) [] := by
    refine ⟨⟨rfl, rfl, rfl, by simp [Go.Sort.grow], fun k hk => ?_⟩, by simp, by simp, by simp, Nat.le_refl _⟩
    show (_ ++ os)[k]? = _
    rw [Array.getElem?_append_left hk]
  exact h1.trans h2
end Go.Proofs.Ytenalmddoljhoaa
