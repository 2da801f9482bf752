/- Arrays of ints, and maps whose keys are such arrays: rules. -/
import Derived.Test.YtfgjojoipbbacaaQCC
import Derived.WideKeyRuns
import Derived.MapKept
set_option linter.unusedVariables false
set_option linter.unusedSimpArgs false
namespace Go.Sx
open Go.RowKit Go.MapKept Go.Proofs.Ytfgjojoipbbacaa

def arrOf (P : Program) (t : Nat) : Option (Nat × Nat × Nat) :=
  match P.underlying t with
  | some (.array n e) => (P.info? e).map fun i => (n, e, i.size)
  | _ => none
section
variable {P : Program} {n : Nat} {w0 : World} {E : Env} {G : Heap} {d : Option Nat} {ty : TypeId} {pos : String} {aft : Array Edge} {g : Option (Nat × Bool)}
/-- &a[i]. -/
theorem PV.indexArr {x y : Operand} {b m e j : Nat} {i : Int} {t : Nat} (hx : evo E x = some (.pointer (some ⟨b, 0, none⟩))) (hy : evo E y = some (.int .i64 i))
    (ht : arrOf P t = some (m, e, 1)) (hi : i = (j : Int)) (hj : j < m) : PV P n w0 E G ⟨d, .indexAddr t x y, ty, pos, aft, g⟩ (.pointer (some ⟨b, j, none⟩)) :=
  fun a w hs => by
    unfold arrOf at ht
    cases hu : P.underlying t with
    | none => simp [hu] at ht
    | some u =>
      cases u <;> simp only [hu] at ht <;> try (simp at ht; done)
      rename_i m' e'
      cases hi2 : P.info? e' with
      | none => simp [hi2] at ht
      | some inf =>
        simp [hi2] at ht
        obtain ⟨rfl, rfl, h3⟩ := ht
        subst hi
        simp only [execOp, hs.ev hx, hs.ev hy]
        simp [Instr.indexAt, run_underlying hu, asIntOf, Instr.sureAddr, sizeOf, typeInfo, hi2, h3, hj, add_off]
/-- a[:h]. -/
theorem PV.sliceArr {x y : Operand} {b m e h : Nat} {i : Int} {t : Nat} (hx : evo E x = some (.pointer (some ⟨b, 0, none⟩))) (hy : evo E y = some (.int .i64 i))
    (ht : arrOf P t = some (m, e, 1)) (hi : i = (h : Int)) (hh : h ≤ m) (hm : 0 < m) : PV P n w0 E G ⟨d, .slice t x none (some y) none, ty, pos, aft, g⟩ (.slice (some ⟨b, 0, none⟩) h m) :=
  fun a w hs => by
    unfold arrOf at ht
    cases hu : P.underlying t with
    | none => simp [hu] at ht
    | some u =>
      cases u <;> simp only [hu] at ht <;> try (simp at ht; done)
      rename_i m' e'
      cases hi2 : P.info? e' with
      | none => simp [hi2] at ht
      | some inf =>
        simp [hi2] at ht
        obtain ⟨rfl, rfl, h3⟩ := ht
        subst hi
        have hm0 : ¬ m' = 0 := by omega
        simp only [execOp, Option.map_some, Option.map_none, hs.ev hx, hs.ev hy]
        simp [Instr.sliceAt, run_underlying hu, Instr.sureAddr, Instr.sliceBounds, run_sliceBound, sizeOf, typeInfo, hi2, h3, hh, add_off, hm0]
/-- a[:]. -/
theorem PV.sliceAll {x : Operand} {b m e : Nat} {t : Nat} (hx : evo E x = some (.pointer (some ⟨b, 0, none⟩)))
    (ht : arrOf P t = some (m, e, 1)) (hm : 0 < m) : PV P n w0 E G ⟨d, .slice t x none none none, ty, pos, aft, g⟩ (.slice (some ⟨b, 0, none⟩) m m) :=
  fun a w hs => by
    unfold arrOf at ht
    cases hu : P.underlying t with
    | none => simp [hu] at ht
    | some u =>
      cases u <;> simp only [hu] at ht <;> try (simp at ht; done)
      rename_i m' e'
      cases hi2 : P.info? e' with
      | none => simp [hi2] at ht
      | some inf =>
        simp [hi2] at ht
        obtain ⟨rfl, rfl, h3⟩ := ht
        have hm0 : ¬ m' = 0 := by omega
        simp only [execOp, Option.map_none, hs.ev hx]
        simp [Instr.sliceAt, run_underlying hu, Instr.sureAddr, Instr.sliceBounds, run_sliceBound, sizeOf, typeInfo, hi2, h3, add_off, hm0]
end
/-- An entry: a key of ints, and an int. -/
abbrev Ent := List Int × Int
def entsL (i : Nat) : List Ent → List MapEntry
  | [] => []
  | e :: r => ⟨.agg (intsA e.1), .int .i64 e.2, i⟩ :: entsL (i + 1) r
def mobj (es : List Ent) : Obj := .map (entsL 0 es).toArray es.length
def lookE (k : List Int) : List Ent → Nat → Option (Nat × Int)
  | [], _ => none
  | e :: r, i => if k = e.1 then some (i, e.2) else lookE k r (i + 1)
theorem entsL_app (es : List Ent) (e : Ent) : ∀ i, entsL i (es ++ [e]) = entsL i es ++ [⟨.agg (intsA e.1), .int .i64 e.2, i + es.length⟩] := by
  induction es with
  | nil => intro i; simp [entsL]
  | cons x r ih =>
    intro i
    simp only [List.cons_append, entsL, ih, List.length_cons]
    rw [show i + 1 + r.length = i + (r.length + 1) by omega]
theorem entsL_len : ∀ (es : List Ent) (i : Nat), (entsL i es).length = es.length
  | [], _ => rfl
  | _ :: r, i => by simp [entsL, entsL_len r]
/-- What the key's type does: an array of m ints. -/
structure KeyT (P : Program) (k m : Nat) : Prop where
  desc : ∃ e kd i, P.underlying k = some (.array m e) ∧ P.underlying e = some (.int .i64) ∧ P.info? e = some i ∧ P.cellsOf e = 1 ∧ i.size = 1 ∧ kd = e
section
variable {P : Program} {k m : Nat}
theorem isAgg_int {e : Nat} (hu : P.underlying e = some (.int .i64)) (w : World) : (isAgg e).run P w = .ok false w := by simp [isAgg, run_underlying hu]
theorem run_part_int {e : Nat} (hu : P.underlying e = some (.int .i64)) {xs : List Int} {j : Nat} (hj : j < xs.length) (w : World) : (part e (intsA xs) (j * 1)).run P w = .ok (.int .i64 (xs.getD j 0)) w := by
  simp [part, isAgg_int hu, intsA_get hj]
theorem run_items {e : Nat} (hu : P.underlying e = some (.int .i64)) (d : Nat) {xs ys : List Int} (w : World) : ∀ (is : List Nat), (∀ j ∈ is, j < xs.length ∧ j < ys.length) →
    (Op.eqItems (d + 1) e 1 (intsA xs) (intsA ys) is).run P w = .ok (is.all fun j => decide (xs.getD j 0 = ys.getD j 0)) w
  | [], _ => rfl
  | j :: is, h => by
    have hj := h j (.head _)
    simp only [Op.eqItems, Sem.run_bind, run_part_int hu hj.1, run_part_int hu hj.2, Result.andThen_ok, run_equalIn_int w _ _ _ _ _ _ hu]
    have ih := run_items hu d w is (fun q hq => h q (.tail _ hq))
    by_cases e1 : xs.getD j 0 = ys.getD j 0
    · simp only [List.all_cons, e1, beq_self_eq_true, Bool.not_true, Bool.false_eq_true, if_false, decide_true, Bool.true_and]
      exact ih
    · have e2 := e1
      simp only [List.getD_eq_getElem?_getD] at e2
      simp [List.all_cons, e2]
theorem run_eqK (hk : KeyT P k m) {xs ys : List Int} (hx : xs.length = m) (hy : ys.length = m) (w : World) : (Op.equal k (.agg (intsA xs)) (.agg (intsA ys))).run P w = .ok (decide (xs = ys)) w := by
  obtain ⟨e, _, i, h1, h2, h3, h4, h5, _⟩ := hk.desc
  show (Op.equalIn 10000 k _ _).run P w = _
  rw [show (10000 : Nat) = 9998 + 1 + 1 from rfl, run_equalIn_array w _ _ _ h1 h3, h4, run_items h2 9998 w _ (fun j hj => by have := List.mem_range.1 hj; omega)]
  congr 1
  rw [Bool.eq_iff_iff, List.all_eq_true, decide_eq_true_iff]
  constructor
  · intro h
    refine List.ext_getElem (by omega) fun j hj1 hj2 => ?_
    have := of_decide_eq_true (h j (List.mem_range.2 (by omega)))
    simpa [List.getD, hj1, hj2] using this
  · rintro rfl j _
    exact decide_eq_true rfl
theorem run_checkK (hk : KeyT P k m) {xs : List Int} (hx : xs.length = m) (em : Bool) (w : World) : (Instr.checkKey em 10000 k (.agg (intsA xs))).run P w = .ok () w := by
  obtain ⟨e, _, i, h1, h2, h3, h4, h5, _⟩ := hk.desc
  rw [show (10000 : Nat) = 9998 + 1 + 1 from rfl]
  unfold Instr.checkKey
  simp only [Sem.run_bind, run_underlying h1, Result.andThen_ok]
  simp only [Std.Legacy.Range.forIn_eq_forIn_range', Std.Legacy.Range.size, Nat.sub_zero, Nat.add_one_sub_one, Nat.div_one]
  have hm : ∀ j ∈ List.range' 0 m, j < xs.length := fun j hj => by have := List.mem_range'.1 hj; omega
  revert hm
  generalize List.range' 0 m = is
  intro hm
  induction is with
  | nil => simp
  | cons j is ih =>
    simp only [List.forIn_cons, Sem.run_bind]
    rw [run_sizeOf w h3, h4]
    have hck : (Instr.checkKey em 9999 e (.int .i64 (xs.getD j 0))).run P w = .ok () w := run_checkKey h2 (show IsKey (.int .i64) (.int .i64 (xs.getD j 0)) from rfl) em 9998
    simp only [Result.andThen_ok, run_part_int h2 (hm j (.head _)), hck, Sem.run_pure]
    exact ih (fun q hq => hm q (.tail _ hq))
theorem run_findK (hk : KeyT P k m) {xs : List Int} (hx : xs.length = m) (w : World) : ∀ (es : List Ent) (i0 j : Nat), (∀ e ∈ es, e.1.length = m) →
    (Instr.findAsking k (.agg (intsA xs)) (entsL i0 es) j).run P w = .ok ((lookE xs es j).map fun p => (p.1, .int .i64 p.2)) w
  | [], _, _, _ => rfl
  | e :: r, i0, j, h => by
    have ih := run_findK hk hx w r (i0 + 1) (j + 1) (fun q hq => h q (.tail _ hq))
    simp only [entsL, Instr.findAsking, Sem.run_bind, run_eqK hk hx (h e (.head _)), Result.andThen_ok, lookE]
    by_cases e1 : xs = e.1
    · rw [if_pos e1, if_pos (by simpa using e1)]
      simp
    · rw [if_neg e1, if_neg (by simpa using e1)]
      exact ih
theorem wide_key (hk : KeyT P k m) : (match P.underlying k with | some (.array _ _) | some (.struct _) => true | _ => false) = true := by
  obtain ⟨e, _, i, h1, _⟩ := hk.desc
  rw [h1]
theorem run_lookupE (hk : KeyT P k m) {t e : Nat} (ht : P.underlying t = some (.map k e)) (hz : ∀ w, (zeroValue e).run P w = .ok (.int .i64 0) w) {xs : List Int} (hx : xs.length = m) {es : List Ent} (he : ∀ q ∈ es, q.1.length = m)
    {w : World} {b : Nat} (hb : w.heap[b]? = some (mobj es)) (ok : Bool) :
    (Instr.lookup t (.map (some b)) (.agg (intsA xs)) ok).run P w = .ok (if ok then .tuple #[.int .i64 (((lookE xs es 0).map (·.2)).getD 0), .bool (lookE xs es 0).isSome] else .int .i64 (((lookE xs es 0).map (·.2)).getD 0)) w := by
  have hb' : w.heap[b]? = some (.map (entsL 0 es).toArray es.length) := hb
  have hg : (getObj b).run P w = .ok (.map (entsL 0 es).toArray es.length) w := by simp [getObj, Sem.run, hb']
  have hf := run_findK hk hx w es 0 0 he
  rw [← run_findKey_eq w (wide_key hk)] at hf
  simp only [Instr.lookup, Sem.run_bind, run_underlying ht, Result.andThen_ok, hg, run_checkK hk hx, Sem.run_pure]
  simp only [hf, Result.andThen_ok]
  cases h : lookE xs es 0 with
  | none => cases ok <;> simp [hz]
  | some p => cases ok <;> simp
theorem run_updateE (hk : KeyT P k m) {t e : Nat} (ht : P.underlying t = some (.map k e)) {xs : List Int} (hx : xs.length = m) {es : List Ent} (he : ∀ q ∈ es, q.1.length = m) {v : Int}
    {w : World} {b : Nat} (hb : w.heap[b]? = some (mobj es)) (hn : lookE xs es 0 = none) :
    (Instr.mapUpdate t (.map (some b)) (.agg (intsA xs)) (.int .i64 v)).run P w = .ok () { w with heap := w.heap.setIfInBounds b (mobj (es ++ [(xs, v)])) } := by
  have hb' : w.heap[b]? = some (.map (entsL 0 es).toArray es.length) := hb
  have hg : (getObj b).run P w = .ok (.map (entsL 0 es).toArray es.length) w := by simp [getObj, Sem.run, hb']
  have hf := run_findK hk hx w es 0 0 he
  rw [← run_findKey_eq w (wide_key hk), hn] at hf
  simp only [Instr.mapUpdate, Sem.run_bind, run_underlying ht, Result.andThen_ok, hg, run_checkK hk hx, Sem.run_pure]
  simp only [hf, Result.andThen_ok, Option.map_none]
  have ho : Obj.map ((entsL 0 es).toArray.push { key := .agg (intsA xs), val := .int .i64 v, born := es.length }) (es.length + 1) = mobj (es ++ [(xs, v)]) := by
    unfold mobj
    rw [entsL_app, List.length_append]
    simp
  rw [← ho]
  exact run_setObj_map _ hb'
end
end Go.Sx
