/- Maps whose keys are arrays of ints, in frames: rules. -/
import Derived.Test.YtfgjojoipbbacaaQAr
set_option linter.unusedVariables false
set_option linter.unusedSimpArgs false
namespace Go.Sx
open Go.RowKit Go.MapKept Go.Proofs.Ytfgjojoipbbacaa

section
variable {P : Program} {n : Nat} {w0 : World} {E : Env} {G : Heap} {d : Option Nat} {ty : TypeId} {pos : String} {aft : Array Edge} {g : Option (Nat × Bool)} {ops : Array Oper} {Q : Exit → Act → World → Prop} {l : List Oper}
/-- make(map[K]int). -/
theorem TL.makeMap {d t : Nat} (hg : wants ops E g = some true) (hd : d < n)
    (h : ∀ b, w0.heap.size ≤ b → TL P n w0 ops Q l ((d, .map (some b)) :: E) ((b, mobj []) :: G)) :
    TL P n w0 ops Q (⟨some d, .makeMap t none, ty, pos, aft, g⟩ :: l) E G :=
  TL.step hg fun a w hs => by
    have hr : (execOp a.eval ⟨some d, .makeMap t none, ty, pos, aft, g⟩).run P w = .ok (.value (.map (some w.heap.size))) (w.alloc (mobj [])) := by
      simp only [execOp, Option.map_none]
      simp [Instr.makeMap, mobj, entsL]
    unfold Oper.wp
    rw [hr]
    exact h _ hs.new.below.size _ _ ((hs.world (hs.new.alloc _)).put hd _)
theorem run_set_new {k m t e : Nat} (hk : KeyT P k m) (ht : P.underlying t = some (.map k e)) {xs : List Int} (hx : xs.length = m) {es : List Ent} (he : ∀ q ∈ es, q.1.length = m) {v : Int} {b : Nat} {G' : Heap} (hn : lookE xs es 0 = none)
    (hu : Upd b (mobj es) (mobj (es ++ [(xs, v)])) G G') {w : World} (hN : New w0 w G) : ∃ w', (Instr.mapUpdate t (.map (some b)) (.agg (intsA xs)) (.int .i64 v)).run P w = .ok () w' ∧ New w0 w' G' := by
  have hb : w.heap[b]? = some (mobj es) := hN.here _ hu.mem
  refine ⟨_, run_updateE hk ht hx he hb hn, ?_⟩
  obtain ⟨h1, h2⟩ := heap_set (o' := mobj (es ++ [(xs, v)])) hb
  exact hN.turn hu h1 h2 rfl rfl rfl (by simp) rfl
/-- m[k] = v for a key that m does not have. -/
theorem TL.updateE {dd : Option Nat} {x y z : Operand} {k m t e b : Nat} {xs : List Int} {es : List Ent} {v : Int} {G' : Heap} (hk : KeyT P k m) (ht : P.underlying t = some (.map k e)) (h1 : evo E x = some (.map (some b))) (h2 : evo E y = some (.agg (intsA xs))) (h3 : evo E z = some (.int .i64 v))
    (hx : xs.length = m) (he : ∀ q ∈ es, q.1.length = m) (hn : lookE xs es 0 = none) (hu : Upd b (mobj es) (mobj (es ++ [(xs, v)])) G G')
    (hg : wants ops E g = some true) (hdd : dd = none) (h : TL P n w0 ops Q l E G') : TL P n w0 ops Q (⟨dd, .mapUpdate t x y z, ty, pos, aft, g⟩ :: l) E G :=
  TL.step hg fun a w hs => by
    subst hdd
    obtain ⟨w', hr, hN⟩ := run_set_new hk ht hx he hn hu hs.new
    have hr : (execOp a.eval ⟨none, .mapUpdate t x y z, ty, pos, aft, g⟩).run P w = .ok .skip w' := by
      simp only [execOp, hs.ev h1, hs.ev h2, hs.ev h3]
      simp [hr]
    unfold Oper.wp
    rw [hr]
    exact h _ _ (hs.world hN)
theorem TL.insertE {dd : Option Nat} {x y z : Operand} {k m t e b : Nat} {xs : List Int} {es : List Ent} {v : Int} {G' : Heap} (hk : KeyT P k m) (ht : P.underlying t = some (.map k e)) (h1 : evo E x = some (.map (some b))) (h2 : evo E y = some (.agg (intsA xs))) (h3 : evo E z = some (.int .i64 v))
    (hx : xs.length = m) (he : ∀ q ∈ es, q.1.length = m) (hn : lookE xs es 0 = none) (hu : Upd b (mobj es) (mobj (es ++ [(xs, v)])) G G')
    (hg : wants ops E g = some true) (hdd : dd = none) (h : TL P n w0 ops Q l E G') : TL P n w0 ops Q (⟨dd, .insert t x y z, ty, pos, aft, g⟩ :: l) E G :=
  TL.step hg fun a w hs => by
    subst hdd
    obtain ⟨w', hr, hN⟩ := run_set_new hk ht hx he hn hu hs.new
    have hr : (execOp a.eval ⟨none, .insert t x y z, ty, pos, aft, g⟩).run P w = .ok .skip w' := by
      simp only [execOp, hs.ev h1, hs.ev h2, hs.ev h3]
      simp [hr]
    unfold Oper.wp
    rw [hr]
    exact h _ _ (hs.world hN)
theorem zero_run {e : Nat} {z : Value} (h : zeroOf P e = some z) (w : World) : (zeroValue e).run P w = .ok z w := by
  unfold zeroOf at h
  cases hi : P.info? e with
  | none => simp [hi] at h
  | some i =>
    simp [hi] at h
    simp [zeroValue, typeInfo, hi, h]
/-- m[k]. -/
theorem PV.lookupE {x y : Operand} {k m t e b : Nat} {xs : List Int} {es : List Ent} (hk : KeyT P k m) (ht : P.underlying t = some (.map k e)) (hz : zeroOf P e = some (.int .i64 0)) (h1 : evo E x = some (.map (some b))) (h2 : evo E y = some (.agg (intsA xs)))
    (hx : xs.length = m) (he : ∀ q ∈ es, q.1.length = m) (hm : (b, mobj es) ∈ G) : PV P n w0 E G ⟨d, .lookup t x y false, ty, pos, aft, g⟩ (.int .i64 (((lookE xs es 0).map (·.2)).getD 0)) :=
  fun a w hs => by
    have hr := run_lookupE hk ht (zero_run hz) hx he (hs.new.here _ hm) false
    simp only [execOp, hs.ev h1, hs.ev h2]
    simp only [Sem.run_bind, hr]
    simp
/-- v, ok := m[k]. -/
theorem PV.lookupOk {x y : Operand} {k m t e b : Nat} {xs : List Int} {es : List Ent} (hk : KeyT P k m) (ht : P.underlying t = some (.map k e)) (hz : zeroOf P e = some (.int .i64 0)) (h1 : evo E x = some (.map (some b))) (h2 : evo E y = some (.agg (intsA xs)))
    (hx : xs.length = m) (he : ∀ q ∈ es, q.1.length = m) (hm : (b, mobj es) ∈ G) : PV P n w0 E G ⟨d, .lookup t x y true, ty, pos, aft, g⟩ (.tuple #[.int .i64 (((lookE xs es 0).map (·.2)).getD 0), .bool (lookE xs es 0).isSome]) :=
  fun a w hs => by
    have hr := run_lookupE hk ht (zero_run hz) hx he (hs.new.here _ hm) true
    simp only [execOp, hs.ev h1, hs.ev h2]
    simp only [Sem.run_bind, hr]
    simp
/-- len(m). -/
theorem PV.lenM {x : Operand} {b k e : Nat} {es : List Ent} {t : TypeId} (hx : evo E x = some (.map (some b))) (ht : P.underlying t = some (.map k e)) (hm : (b, mobj es) ∈ G) :
    PV P n w0 E G ⟨d, .call { callee := .builtin .len, args := #[x], argTypes := #[t] }, ty, pos, aft, g⟩ (.int .i64 es.length) :=
  fun a w hs => by
    have hb : w.heap[b]? = some (.map (entsL 0 es).toArray es.length) := hs.new.here _ hm
    have hgo : (getObj b).run P w = .ok (.map (entsL 0 es).toArray es.length) w := by simp [getObj, Sem.run, hb]
    simp only [execOp, resolve, List.map_toArray, List.map_cons, List.map_nil, hs.ev hx]
    simp [invoke, builtin, Builtin.len_, run_underlying ht, goInt, hgo, entsL_len]
/-- `range m`. -/
theorem TL.rangeM {d t k e b : Nat} {x : Operand} {es : List Ent} (hx : evo E x = some (.map (some b))) (ht : P.underlying t = some (.map k e)) (hm : (b, mobj es) ∈ G) (hg : wants ops E g = some true) (hd : d < n)
    (h : ∀ r, w0.heap.size ≤ r → TL P n w0 ops Q l ((d, .pointer (some ⟨r, 0, none⟩)) :: E) ((r, .mapIter (some b) es.length #[] es.length) :: G)) :
    TL P n w0 ops Q (⟨some d, .range t x, ty, pos, aft, g⟩ :: l) E G :=
  TL.step hg fun a w hs => by
    have hb : w.heap[b]? = some (.map (entsL 0 es).toArray es.length) := hs.new.here _ hm
    have hgo : (getObj b).run P w = .ok (.map (entsL 0 es).toArray es.length) w := by simp [getObj, Sem.run, hb]
    have hr : (execOp a.eval ⟨some d, .range t x, ty, pos, aft, g⟩).run P w = .ok (.value (.pointer (some ⟨w.heap.size, 0, none⟩))) (w.alloc (.mapIter (some b) es.length #[] es.length)) := by
      simp only [execOp, hs.ev hx]
      simp [Instr.range, run_underlying ht, hgo]
    unfold Oper.wp
    rw [hr]
    exact h _ hs.new.below.size _ _ ((hs.world (hs.new.alloc _)).put hd _)
end
end Go.Sx
