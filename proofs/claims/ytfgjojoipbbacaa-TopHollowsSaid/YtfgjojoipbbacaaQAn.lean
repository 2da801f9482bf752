/- Ranging over maps whose keys are arrays of ints: rules. -/
import Derived.Test.YtfgjojoipbbacaaQAm
import Derived.Maps.RangeRun
import Derived.Maps.Range
set_option linter.unusedVariables false
set_option linter.unusedSimpArgs false
namespace Go.Sx
open Go.RowKit Go.MapKept Go.Proofs.Ytfgjojoipbbacaa

theorem entsL_get : ∀ (es : List Ent) (i j : Nat), (entsL i es)[j]? = es[j]?.map fun e => ⟨.agg (intsA e.1), .int .i64 e.2, i + j⟩
  | [], _, _ => by simp [entsL]
  | e :: r, i, 0 => by simp [entsL]
  | e :: r, i, j + 1 => by
    simp only [entsL, List.getElem?_cons_succ, entsL_get r (i + 1) j]
    rw [show i + 1 + j = i + (j + 1) by omega]
theorem entsL_mem {es : List Ent} {x : MapEntry} (h : x ∈ entsL 0 es) : ∃ j, ∃ hj : j < es.length, x = ⟨.agg (intsA es[j].1), .int .i64 es[j].2, j⟩ := by
  obtain ⟨j, hj, he⟩ := List.getElem_of_mem h
  rw [entsL_len] at hj
  have h2 := entsL_get es 0 j
  rw [List.getElem?_eq_getElem (by rw [entsL_len]; exact hj), List.getElem?_eq_getElem hj, he] at h2
  simp only [Option.map_some, Option.some.injEq, Nat.zero_add] at h2
  exact ⟨j, hj, h2⟩
theorem entsL_born : ∀ (es : List Ent) (i : Nat), (entsL i es).map (·.born) = List.range' i es.length
  | [], _ => rfl
  | e :: r, i => by simp [entsL, entsL_born r (i + 1), List.range'_succ]
/-- The iterator's block. -/
def iobj (b : Nat) (es : List Ent) (seen : List Nat) : Obj := .mapIter (some b) es.length seen.toArray es.length
def nextV (es : List Ent) : Option Nat → Value
  | none => .tuple #[.bool false]
  | some j => .tuple #[.bool true, .agg (intsA (es.getD j default).1), .int .i64 (es.getD j default).2]
def nextOk (es : List Ent) (seen : List Nat) : Option Nat → Prop
  | none => ∀ j, j < es.length → j ∈ seen
  | some j => j < es.length ∧ j ∉ seen
theorem Upd.same {b : Nat} {o : Obj} {G G' : Heap} (h : Upd b o o G G') : G' = G := by
  induction h with
  | head => rfl
  | tail _ _ ih => rw [ih]
section
variable {P : Program} {n : Nat} {w0 : World} {E : Env} {G : Heap} {d : Option Nat} {ty : TypeId} {pos : String} {aft : Array Edge} {g : Option (Nat × Bool)} {ops : Array Oper} {Q : Exit → Act → World → Prop} {l : List Oper}
theorem TL.nextM {d r b : Nat} {x : Operand} {es : List Ent} {seen : List Nat} (G' : Option Nat → Heap) (hx : evo E x = some (.pointer (some ⟨r, 0, none⟩))) (hm : (b, mobj es) ∈ G)
    (hu : ∀ o : Option Nat, Upd r (iobj b es seen) (iobj b es (seen ++ o.toList)) G (G' o)) (hg : wants ops E g = some true) (hd : d < n)
    (h : ∀ o, nextOk es seen o → TL P n w0 ops Q l ((d, nextV es o) :: E) (G' o)) :
    TL P n w0 ops Q (⟨some d, .next x false, ty, pos, aft, g⟩ :: l) E G :=
  TL.step hg fun a w hs => by
    have hb : w.heap[b]? = some (.map (entsL 0 es).toArray es.length) := hs.new.here _ hm
    have hr : w.heap[r]? = some (.mapIter (some b) es.length seen.toArray es.length) := hs.new.here _ (hu none).mem
    have hold : ∀ x ∈ (entsL 0 es).toArray.toList, x.born < es.length := fun x hx => by
      obtain ⟨j, hj, rfl⟩ := entsL_mem (by simpa using hx)
      exact hj
    rcases run_next_at (P := P) w ty r b es.length es.length seen.toArray (entsL 0 es).toArray es.length hr hb hold (Nat.le_refl _) with ⟨h0, hrun⟩ | ⟨e, he, w1, hal, hrun⟩
    · have hex : (execOp a.eval ⟨some d, .next x false, ty, pos, aft, g⟩).run P w = .ok (.value (nextV es none)) w := by
        simp only [execOp, hs.ev hx]
        simp only [Sem.run_bind, hrun]
        simp [nextV]
      unfold Oper.wp
      rw [hex]
      have hG : G' none = G := by
        have := hu none
        simp only [Option.toList_none, List.append_nil] at this
        exact this.same
      have h2 := h none (fun j hj => by
        have hle : leftOf (entsL 0 es).toArray seen.toArray = #[] := Array.eq_empty_of_size_eq_zero h0
        have hmem : (⟨.agg (intsA es[j].1), .int .i64 es[j].2, j⟩ : MapEntry) ∈ entsL 0 es := by
          refine List.mem_of_getElem? (i := j) ?_
          rw [entsL_get, List.getElem?_eq_getElem hj]
          simp
        refine Classical.byContradiction fun hn => ?_
        have : (⟨.agg (intsA es[j].1), .int .i64 es[j].2, j⟩ : MapEntry) ∈ leftOf (entsL 0 es).toArray seen.toArray := by
          unfold leftOf
          rw [Array.mem_filter]
          exact ⟨by simpa using hmem, by simpa using hn⟩
        rw [hle] at this
        simp at this)
      rw [hG] at h2
      exact h2 _ _ (hs.put hd _)
    · obtain ⟨he1, he2⟩ := mem_left he
      obtain ⟨j, hj, rfl⟩ := entsL_mem (by simpa using he1)
      have hns : j ∉ seen := by simpa using he2
      have hgd : es.getD j default = es[j] := by simp [List.getD, hj]
      have hex : (execOp a.eval ⟨some d, .next x false, ty, pos, aft, g⟩).run P w = .ok (.value (nextV es (some j))) (ChangeMaps.setBlock w1 r (.mapIter (some b) es.length (seen.toArray.push j) es.length)) := by
        simp only [execOp, hs.ev hx]
        simp only [Sem.run_bind, hrun]
        simp only [nextV, hgd]
        rfl
      unfold Oper.wp
      rw [hex]
      have hN1 : New w0 w1 G := by rcases hal with rfl | rfl <;> first | exact hs.new | exact hs.new.drew
      have hr1 : w1.heap[r]? = some (.mapIter (some b) es.length seen.toArray es.length) := hN1.here _ (hu none).mem
      obtain ⟨k1, k2⟩ := heap_set (o' := iobj b es (seen ++ [j])) hr1
      have ho : Obj.mapIter (some b) es.length (seen.toArray.push j) es.length = iobj b es (seen ++ [j]) := by unfold iobj; simp
      rw [ho]
      have hN2 : New w0 (ChangeMaps.setBlock w1 r (iobj b es (seen ++ [j]))) (G' (some j)) := hN1.turn (hu (some j)) k1 k2 rfl rfl rfl (by simp [ChangeMaps.setBlock]) rfl
      exact h (some j) ⟨hj, hns⟩ _ _ ((hs.world hN2).put hd _)
theorem PV.nextB {x : Operand} {es : List Ent} {o : Option Nat} (hx : evo E x = some (nextV es o)) : PV P n w0 E G ⟨d, .extract x 0, ty, pos, aft, g⟩ (.bool o.isSome) :=
  fun a w hs => by
    simp only [execOp, hs.ev hx]
    cases o <;> simp [nextV, Instr.extract]
theorem PV.entryM {x : Operand} {r b j : Nat} {es : List Ent} {seen : List Nat} (hx : evo E x = some (.pointer (some ⟨r, 0, none⟩))) (hm : (b, mobj es) ∈ G) (hi : (r, iobj b es (seen ++ [j])) ∈ G) (hj : j < es.length) :
    PV P n w0 E G ⟨d, .entry x, ty, pos, aft, g⟩ (.tuple #[.agg (intsA (es.getD j default).1), .int .i64 (es.getD j default).2]) :=
  fun a w hs => by
    have hb : w.heap[b]? = some (.map (entsL 0 es).toArray es.length) := hs.new.here _ hm
    have hr : w.heap[r]? = some (iobj b es (seen ++ [j])) := hs.new.here _ hi
    have ho : iobj b es (seen ++ [j]) = Obj.mapIter (some b) es.length (seen.toArray.push j) es.length := by unfold iobj; simp
    rw [ho] at hr
    have hmem : (⟨.agg (intsA es[j].1), .int .i64 es[j].2, j⟩ : MapEntry) ∈ entsL 0 es := by
      refine List.mem_of_getElem? (i := j) ?_
      rw [entsL_get, List.getElem?_eq_getElem hj]
      simp
    have hgd : es.getD j default = es[j] := by simp [List.getD, hj]
    have hrun := run_entry_at (P := P) w r b es.length seen.toArray (entsL 0 es).toArray es.length ⟨.agg (intsA es[j].1), .int .i64 es[j].2, j⟩ hr hb (by simpa using hmem) (by
      rw [List.toList_toArray, entsL_born]
      exact List.nodup_range')
    simp only [execOp, hs.ev hx]
    simp only [Sem.run_bind, hrun]
    rw [hgd]
    simp
end
end Go.Sx
