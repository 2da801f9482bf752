/- Maps whose keys are structs of two ints: rules. -/
import Derived.Test.YtfgjojoipbbacaaQAn
import Derived.Laws.StructEq
import Derived.WideKeyEntry
set_option linter.unusedVariables false
set_option linter.unusedSimpArgs false
namespace Go.Sx
open Go.RowKit Go.MapKept Go.Proofs.Ytfgjojoipbbacaa

/-- What the key's type does: a struct of two ints. -/
structure KeyS (P : Program) (k e : Nat) : Prop where
  st : P.underlying k = some (.struct (P.fieldsOf k))
  fs : ((P.fieldsOf k).toList.map fun f => (f.name != "_", f.type, f.offset)) = [(true, e, 0), (true, e, 1)]
  held : P.stoodInHeld k = false
  int : P.underlying e = some (.int .i64)
section
variable {P : Program} {k e0 : Nat}
theorem two_of {xs : List Int} (h : xs.length = 2) : ∃ a b, xs = [a, b] := by
  match xs, h with
  | [a, b], _ => exact ⟨a, b, rfl⟩
theorem KeyS.two (hk : KeyS P k e0) : ∃ f g, (P.fieldsOf k).toList = [f, g] ∧ f.name ≠ "_" ∧ g.name ≠ "_" ∧ f.type = e0 ∧ g.type = e0 ∧ f.offset = 0 ∧ g.offset = 1 := by
  have h := hk.fs
  generalize (P.fieldsOf k).toList = fs at h
  rcases fs with _ | ⟨f, _ | ⟨g, _ | ⟨f3, fs⟩⟩⟩ <;> simp at h
  exact ⟨f, g, rfl, h.1.1, h.2.1, h.1.2.1, h.2.2.1, h.1.2.2, h.2.2.2⟩
theorem eqF2 (w : World) (d : Nat) (a0 a1 c0 c1 : Int) (t : TypeId) {k : IntKind} (ht : P.underlying t = some (.int k)) (ha : (isAgg t).run P w = .ok false w) {fs : List Field} (h : (fs.map fun f => (f.name != "_", f.type, f.offset)) = [(true, t, 0), (true, t, 1)]) :
   (Op.eqFields (d + 1) #[.int .i64 a0, .int .i64 a1] #[.int .i64 c0, .int .i64 c1] fs).run P w = .ok (decide (a0 = c0 ∧ a1 = c1)) w := by
  rcases fs with _ | ⟨f, _ | ⟨g, _ | ⟨f3, fs⟩⟩⟩ <;> simp at h
  obtain ⟨⟨h1, h2, h3⟩, h4, h5, h6⟩ := h
  by_cases e0 : a0 = c0
  · by_cases e1 : a1 = c1 <;> simp [Op.eqFields, h1, h2, h3, h4, h5, h6, part, ha, run_equalIn_int w _ _ _ _ _ _ ht, e0, e1]
  · simp [Op.eqFields, h1, h2, h3, part, ha, run_equalIn_int w _ _ _ _ _ _ ht, e0]
theorem run_eqS (hk : KeyS P k e0) {xs ys : List Int} (hx : xs.length = 2) (hy : ys.length = 2) (w : World) : (Op.equal k (.agg (intsA xs)) (.agg (intsA ys))).run P w = .ok (decide (xs = ys)) w := by
  obtain ⟨a, b, rfl⟩ := two_of hx
  obtain ⟨c, d, rfl⟩ := two_of hy
  show (Op.equalIn 10000 k _ _).run P w = _
  rw [show (10000 : Nat) = 9998 + 1 + 1 from rfl, run_equalIn_struct w _ _ _ _ hk.st hk.held]
  have h := eqF2 w 9998 a b c d e0 hk.int (isAgg_int hk.int w) hk.fs
  have e : decide ([a, b] = [c, d]) = decide (a = c ∧ b = d) := by simp
  rw [e]
  exact h
theorem run_checkS (hk : KeyS P k e0) {xs : List Int} (hx : xs.length = 2) (em : Bool) (w : World) : (Instr.checkKey em 10000 k (.agg (intsA xs))).run P w = .ok () w := by
  obtain ⟨a, b, rfl⟩ := two_of hx
  obtain ⟨f, g, h0, h1, h2, h3, h4, h5, h6⟩ := hk.two
  have p1 : (part f.type (intsA [a, b]) f.offset).run P w = .ok (.int .i64 a) w := by rw [h3, h5]; simp [part, isAgg_int hk.int, intsA]
  have p3 : (part g.type (intsA [a, b]) g.offset).run P w = .ok (.int .i64 b) w := by rw [h4, h6]; simp [part, isAgg_int hk.int, intsA]
  have c1 : (Instr.checkKey em 9999 f.type (.int .i64 a)).run P w = .ok () w := run_checkKey (by rw [h3]; exact hk.int) (show IsKey (.int .i64) (.int .i64 a) from rfl) em 9998
  have c2 : (Instr.checkKey em 9999 g.type (.int .i64 b)).run P w = .ok () w := run_checkKey (by rw [h4]; exact hk.int) (show IsKey (.int .i64) (.int .i64 b) from rfl) em 9998
  rw [show (10000 : Nat) = 9999 + 1 from rfl]
  unfold Instr.checkKey
  simp only [Sem.run_bind, run_underlying hk.st, Result.andThen_ok]
  rw [← Array.forIn_toList, h0]
  simp [h1, h2, p1, p3, c1, c2]
theorem run_findS (hk : KeyS P k e0) {xs : List Int} (hx : xs.length = 2) (w : World) : ∀ (es : List Ent) (i0 j : Nat), (∀ e ∈ es, e.1.length = 2) →
    (Instr.findAsking k (.agg (intsA xs)) (entsL i0 es) j).run P w = .ok ((lookE xs es j).map fun p => (p.1, .int .i64 p.2)) w
  | [], _, _, _ => rfl
  | e :: r, i0, j, h => by
    have ih := run_findS hk hx w r (i0 + 1) (j + 1) (fun q hq => h q (.tail _ hq))
    simp only [entsL, Instr.findAsking, Sem.run_bind, run_eqS hk hx (h e (.head _)), Result.andThen_ok, lookE]
    by_cases e1 : xs = e.1
    · rw [if_pos e1, if_pos (by simpa using e1)]
      simp
    · rw [if_neg e1, if_neg (by simpa using e1)]
      exact ih
theorem wide_keyS (hk : KeyS P k e0) : (match P.underlying k with | some (.array _ _) | some (.struct _) => true | _ => false) = true := by
  rw [hk.st]
theorem run_lookupS (hk : KeyS P k e0) {t e : Nat} (ht : P.underlying t = some (.map k e)) (hz : ∀ w, (zeroValue e).run P w = .ok (.int .i64 0) w) {xs : List Int} (hx : xs.length = 2) {es : List Ent} (he : ∀ q ∈ es, q.1.length = 2)
    {w : World} {b : Nat} (hb : w.heap[b]? = some (mobj es)) :
    (Instr.lookup t (.map (some b)) (.agg (intsA xs)) false).run P w = .ok (.int .i64 (((lookE xs es 0).map (·.2)).getD 0)) w := by
  have hb' : w.heap[b]? = some (.map (entsL 0 es).toArray es.length) := hb
  have hg : (getObj b).run P w = .ok (.map (entsL 0 es).toArray es.length) w := by simp [getObj, Sem.run, hb']
  have hf := run_findS hk hx w es 0 0 he
  rw [← run_findKey_eq w (wide_keyS hk)] at hf
  simp only [Instr.lookup, Sem.run_bind, run_underlying ht, Result.andThen_ok, hg, run_checkS hk hx, Sem.run_pure]
  simp only [hf, Result.andThen_ok]
  cases h : lookE xs es 0 with
  | none => simp [hz]
  | some p => simp
theorem run_updateS (hk : KeyS P k e0) {t e : Nat} (ht : P.underlying t = some (.map k e)) {xs : List Int} (hx : xs.length = 2) {es : List Ent} (he : ∀ q ∈ es, q.1.length = 2) {v : Int}
    {w : World} {b : Nat} (hb : w.heap[b]? = some (mobj es)) (hn : lookE xs es 0 = none) :
    (Instr.mapUpdate t (.map (some b)) (.agg (intsA xs)) (.int .i64 v)).run P w = .ok () { w with heap := w.heap.setIfInBounds b (mobj (es ++ [(xs, v)])) } := by
  have hb' : w.heap[b]? = some (.map (entsL 0 es).toArray es.length) := hb
  have hg : (getObj b).run P w = .ok (.map (entsL 0 es).toArray es.length) w := by simp [getObj, Sem.run, hb']
  have hf := run_findS hk hx w es 0 0 he
  rw [← run_findKey_eq w (wide_keyS hk), hn] at hf
  simp only [Instr.mapUpdate, Sem.run_bind, run_underlying ht, Result.andThen_ok, hg, run_checkS hk hx, Sem.run_pure]
  simp only [hf, Result.andThen_ok, Option.map_none]
  have ho : Obj.map ((entsL 0 es).toArray.push { key := .agg (intsA xs), val := .int .i64 v, born := es.length }) (es.length + 1) = mobj (es ++ [(xs, v)]) := by
    unfold mobj
    rw [entsL_app, List.length_append]
    simp
  rw [← ho]
  exact run_setObj_map _ hb'
theorem lookE_some {xs : List Int} {v : Int} : ∀ {es : List Ent} {s i : Nat}, lookE xs es s = some (i, v) → s ≤ i ∧ i - s < es.length ∧ es[i - s]? = some (xs, v)
  | [], _, _, h => by simp [lookE] at h
  | e :: r, s, i, h => by
    unfold lookE at h
    by_cases e1 : xs = e.1
    · rw [if_pos e1] at h
      simp only [Option.some.injEq, Prod.mk.injEq] at h
      obtain ⟨rfl, rfl⟩ := h
      refine ⟨Nat.le_refl _, by simp, ?_⟩
      rw [Nat.sub_self, e1]
      rfl
    · rw [if_neg e1] at h
      obtain ⟨h1, h2, h3⟩ := lookE_some h
      refine ⟨by omega, by simp only [List.length_cons]; omega, ?_⟩
      rw [show i - s = (i - (s + 1)) + 1 by omega, List.getElem?_cons_succ]
      exact h3
theorem entsL_setV {v : Int} : ∀ {es : List Ent} {s i : Nat} {x : Ent}, es[i]? = some x → (entsL s es).modify i (fun e => { e with val := .int .i64 v }) = entsL s (es.set i (x.1, v))
  | [], _, _, _, h => by simp at h
  | e :: r, s, 0, x, h => by
    simp only [List.getElem?_cons_zero, Option.some.injEq] at h
    subst h
    simp [entsL]
  | e :: r, s, i + 1, x, h => by
    simp only [List.getElem?_cons_succ] at h
    simp [entsL, entsL_setV h]
/-- The entry of a key that the map has. -/
theorem run_entryS (hk : KeyS P k e0) {t e : Nat} (ht : P.underlying t = some (.map k e)) {xs : List Int} (hx : xs.length = 2) {es : List Ent} (he : ∀ q ∈ es, q.1.length = 2) {v : Int} {i : Nat}
    {w : World} {b : Nat} (hb : w.heap[b]? = some (mobj es)) (hn : lookE xs es 0 = some (i, v)) :
    (Instr.mapEntry t (.map (some b)) (.agg (intsA xs))).run P w = .ok (.tuple #[.int .i64 v, .int .i64 i]) { w with heap := w.heap.setIfInBounds b (mobj es) } := by
  have hb' : w.heap[b]? = some (.map (entsL 0 es).toArray es.length) := hb
  have hg : (getObj b).run P w = .ok (.map (entsL 0 es).toArray es.length) w := by simp [getObj, Sem.run, hb']
  have hf := run_findS hk hx w es 0 0 he
  rw [← run_findKey_eq w (wide_keyS hk), hn] at hf
  obtain ⟨_, h1, h2⟩ := lookE_some hn
  rw [Nat.sub_zero] at h1 h2
  have hj : (entsL 0 es)[i]? = some ⟨.agg (intsA xs), .int .i64 v, i⟩ := by rw [entsL_get, h2]; simp
  have hsame : (entsL 0 es).modify i (fun e => { e with key := .agg (intsA xs) }) = entsL 0 es := by
    rw [ChangeMaps.modify_eq_set _ _ _ _ hj]
    exact WideElems.set_self _ _ _ hj
  have hst : (Instr.keyThatStays (.agg (intsA xs)) (.agg (intsA xs))).run P w = .ok (.agg (intsA xs)) w := by
    obtain ⟨a, c, rfl⟩ := two_of hx
    simp [Instr.keyThatStays, Instr.sameBits, intsA]
  simp only [Instr.mapEntry, Sem.run_bind, run_underlying ht, Result.andThen_ok, hg, run_checkS hk hx]
  simp only [hf, Result.andThen_ok, Option.map_some]
  simp [hj, hst, hsame]
  rw [run_setObj_map _ hb']
  simp [mobj, goInt]
/-- The value of an entry that the map has. -/
theorem run_storeS {t : Nat} {xs : List Int} {es : List Ent} {u v : Int} {i : Nat} {w : World} {b : Nat} (hb : w.heap[b]? = some (mobj es)) (hn : es[i]? = some (xs, u)) :
    (Instr.entryStore t (.map (some b)) (.int .i64 i) (.int .i64 v)).run P w = .ok () { w with heap := w.heap.setIfInBounds b (mobj (es.set i (xs, v))) } := by
  have hb' : w.heap[b]? = some (.map (entsL 0 es).toArray es.length) := hb
  have hg : (getObj b).run P w = .ok (.map (entsL 0 es).toArray es.length) w := by simp [getObj, Sem.run, hb']
  have hj : (entsL 0 es)[i]? = some ⟨.agg (intsA xs), .int .i64 u, i⟩ := by rw [entsL_get, hn]; simp
  have hidx : (entsL 0 es).findIdx? (fun e => ((e.born : Nat) : Int) == (i : Int)) = some i := WideElems.findIdx_born (l := entsL 0 es) (j := i) (by rw [entsL_born]; exact List.nodup_range') hj
  have hmod : (entsL 0 es).modify i (fun e => { e with val := .int .i64 v }) = entsL 0 (es.set i (xs, v)) := entsL_setV hn
  simp only [Instr.entryStore, Sem.run_bind, hg, Result.andThen_ok]
  simp [asInt, asIntOf, hidx, hmod]
  rw [run_setObj_map _ hb']
  simp [mobj]
end
section
variable {P : Program} {n : Nat} {w0 : World} {E : Env} {G : Heap} {d : Option Nat} {ty : TypeId} {pos : String} {aft : Array Edge} {g : Option (Nat × Bool)} {ops : Array Oper} {Q : Exit → Act → World → Prop} {l : List Oper} {k e0 : Nat}
/-- m[k] = v for a key that m does not have. -/
theorem TL.updateS {dd : Option Nat} {x y z : Operand} {t e b : Nat} {xs : List Int} {es : List Ent} {v : Int} {G' : Heap} (hk : KeyS P k e0) (ht : P.underlying t = some (.map k e)) (h1 : evo E x = some (.map (some b))) (h2 : evo E y = some (.agg (intsA xs))) (h3 : evo E z = some (.int .i64 v))
    (hx : xs.length = 2) (he : ∀ q ∈ es, q.1.length = 2) (hn : lookE xs es 0 = none) (hu : Upd b (mobj es) (mobj (es ++ [(xs, v)])) G G')
    (hg : wants ops E g = some true) (hdd : dd = none) (h : TL P n w0 ops Q l E G') : TL P n w0 ops Q (⟨dd, .mapUpdate t x y z, ty, pos, aft, g⟩ :: l) E G :=
  TL.step hg fun a w hs => by
    subst hdd
    have hb : w.heap[b]? = some (mobj es) := hs.new.here _ hu.mem
    obtain ⟨q1, q2⟩ := heap_set (o' := mobj (es ++ [(xs, v)])) hb
    have hN : New w0 { w with heap := w.heap.setIfInBounds b (mobj (es ++ [(xs, v)])) } G' := hs.new.turn hu q1 q2 rfl rfl rfl (by simp) rfl
    have hr : (execOp a.eval ⟨none, .mapUpdate t x y z, ty, pos, aft, g⟩).run P w = .ok .skip { w with heap := w.heap.setIfInBounds b (mobj (es ++ [(xs, v)])) } := by
      simp only [execOp, hs.ev h1, hs.ev h2, hs.ev h3]
      simp [run_updateS hk ht hx he hb hn]
    unfold Oper.wp
    rw [hr]
    exact h _ _ (hs.world hN)
/-- m[k]. -/
theorem PV.lookupS {x y : Operand} {t e b : Nat} {xs : List Int} {es : List Ent} (hk : KeyS P k e0) (ht : P.underlying t = some (.map k e)) (hz : zeroOf P e = some (.int .i64 0)) (h1 : evo E x = some (.map (some b))) (h2 : evo E y = some (.agg (intsA xs)))
    (hx : xs.length = 2) (he : ∀ q ∈ es, q.1.length = 2) (hm : (b, mobj es) ∈ G) : PV P n w0 E G ⟨d, .lookup t x y false, ty, pos, aft, g⟩ (.int .i64 (((lookE xs es 0).map (·.2)).getD 0)) :=
  fun a w hs => by
    have hr := run_lookupS hk ht (zero_run hz) hx he (hs.new.here _ hm)
    simp only [execOp, hs.ev h1, hs.ev h2]
    simp only [Sem.run_bind, hr]
    simp
/-- The entry of a key that the map has: nothing changes. -/
theorem TL.entryS {d : Nat} {x y : Operand} {t e b i : Nat} {xs : List Int} {es : List Ent} {v : Int} {G' : Heap} (hk : KeyS P k e0) (ht : P.underlying t = some (.map k e)) (h1 : evo E x = some (.map (some b))) (h2 : evo E y = some (.agg (intsA xs)))
    (hx : xs.length = 2) (he : ∀ q ∈ es, q.1.length = 2) (hn : lookE xs es 0 = some (i, v)) (hu : Upd b (mobj es) (mobj es) G G')
    (hg : wants ops E g = some true) (hd : d < n) (h : TL P n w0 ops Q l ((d, .tuple #[.int .i64 v, .int .i64 i]) :: E) G) : TL P n w0 ops Q (⟨some d, .mapEntry t x y, ty, pos, aft, g⟩ :: l) E G :=
  TL.step hg fun a w hs => by
    have hb : w.heap[b]? = some (mobj es) := hs.new.here _ hu.mem
    obtain ⟨q1, q2⟩ := heap_set (o' := mobj es) hb
    have hN : New w0 { w with heap := w.heap.setIfInBounds b (mobj es) } G' := hs.new.turn hu q1 q2 rfl rfl rfl (by simp) rfl
    rw [hu.same] at hN
    have hr : (execOp a.eval ⟨some d, .mapEntry t x y, ty, pos, aft, g⟩).run P w = .ok (.value (.tuple #[.int .i64 v, .int .i64 i])) { w with heap := w.heap.setIfInBounds b (mobj es) } := by
      simp only [execOp, hs.ev h1, hs.ev h2]
      simp [run_entryS hk ht hx he hb hn]
    unfold Oper.wp
    rw [hr]
    exact h _ _ ((hs.world hN).put hd _)
/-- The value of an entry. -/
theorem TL.entryStoreS {dd : Option Nat} {x y z : Operand} {t b i : Nat} {xs : List Int} {es : List Ent} {u v : Int} {G' : Heap} (h1 : evo E x = some (.map (some b))) (h2 : evo E y = some (.int .i64 i)) (h3 : evo E z = some (.int .i64 v))
    (hn : es[i]? = some (xs, u)) (hu : Upd b (mobj es) (mobj (es.set i (xs, v))) G G')
    (hg : wants ops E g = some true) (hdd : dd = none) (h : TL P n w0 ops Q l E G') : TL P n w0 ops Q (⟨dd, .entryStore t x y z, ty, pos, aft, g⟩ :: l) E G :=
  TL.step hg fun a w hs => by
    subst hdd
    have hb : w.heap[b]? = some (mobj es) := hs.new.here _ hu.mem
    obtain ⟨q1, q2⟩ := heap_set (o' := mobj (es.set i (xs, v))) hb
    have hN : New w0 { w with heap := w.heap.setIfInBounds b (mobj (es.set i (xs, v))) } G' := hs.new.turn hu q1 q2 rfl rfl rfl (by simp) rfl
    have hr : (execOp a.eval ⟨none, .entryStore t x y z, ty, pos, aft, g⟩).run P w = .ok .skip { w with heap := w.heap.setIfInBounds b (mobj (es.set i (xs, v))) } := by
      simp only [execOp, hs.ev h1, hs.ev h2, hs.ev h3]
      simp [run_storeS hb hn]
    unfold Oper.wp
    rw [hr]
    exact h _ _ (hs.world hN)
end
end Go.Sx
