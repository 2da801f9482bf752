/- Sets of structs of two ints, as maps to true: rules. -/
import Derived.Test.YtfgjojoipbbacaaQSk
set_option linter.unusedVariables false
set_option linter.unusedSimpArgs false
namespace Go.Sx
open Go.RowKit Go.MapKept Go.Proofs.Ytfgjojoipbbacaa

def bntsL (i : Nat) : List (List Int) → List MapEntry
  | [] => []
  | e :: r => ⟨.agg (intsA e), .bool true, i⟩ :: bntsL (i + 1) r
def bobj (ks : List (List Int)) : Obj := .map (bntsL 0 ks).toArray ks.length
def lookB (k : List Int) : List (List Int) → Nat → Option Nat
  | [], _ => none
  | e :: r, i => if k = e then some i else lookB k r (i + 1)
theorem lookB_none {k : List Int} : ∀ (ks : List (List Int)) (i : Nat), k ∉ ks → lookB k ks i = none
  | [], _, _ => rfl
  | e :: r, i, h => by
    rw [lookB, if_neg (by intro h2; exact h (by rw [h2]; exact List.mem_cons_self)), lookB_none r (i + 1) (fun h2 => h (List.mem_cons_of_mem _ h2))]
theorem lookB_some {k : List Int} : ∀ (ks : List (List Int)) (i : Nat), (lookB k ks i).isSome = decide (k ∈ ks)
  | [], _ => by simp [lookB]
  | e :: r, i => by
    rw [lookB]
    by_cases h : k = e
    · rw [if_pos h]; simp [h]
    · rw [if_neg h, lookB_some r (i + 1)]; simp [h]
theorem bntsL_app (es : List (List Int)) (e : List Int) : ∀ i, bntsL i (es ++ [e]) = bntsL i es ++ [⟨.agg (intsA e), .bool true, i + es.length⟩] := by
  induction es with
  | nil => intro i; simp [bntsL]
  | cons x r ih =>
    intro i
    simp only [List.cons_append, bntsL, ih, List.length_cons]
    rw [show i + 1 + r.length = i + (r.length + 1) by omega]
section
variable {P : Program} {k e0 : Nat}
theorem run_findB (hk : KeyS P k e0) {xs : List Int} (hx : xs.length = 2) (w : World) : ∀ (es : List (List Int)) (i0 j : Nat), (∀ e ∈ es, e.length = 2) →
    (Instr.findAsking k (.agg (intsA xs)) (bntsL i0 es) j).run P w = .ok ((lookB xs es j).map fun p => (p, .bool true)) w
  | [], _, _, _ => rfl
  | e :: r, i0, j, h => by
    have ih := run_findB hk hx w r (i0 + 1) (j + 1) (fun q hq => h q (.tail _ hq))
    simp only [bntsL, Instr.findAsking, Sem.run_bind, run_eqS hk hx (h e (.head _)), Result.andThen_ok, lookB]
    by_cases e1 : xs = e
    · rw [if_pos e1, if_pos (by simpa using e1)]
      simp
    · rw [if_neg e1, if_neg (by simpa using e1)]
      exact ih
theorem run_lookupB (hk : KeyS P k e0) {t e : Nat} (ht : P.underlying t = some (.map k e)) (hz : ∀ w, (zeroValue e).run P w = .ok (.bool false) w) {xs : List Int} (hx : xs.length = 2) {es : List (List Int)} (he : ∀ q ∈ es, q.length = 2)
    {w : World} {b : Nat} (hb : w.heap[b]? = some (bobj es)) :
    (Instr.lookup t (.map (some b)) (.agg (intsA xs)) false).run P w = .ok (.bool (decide (xs ∈ es))) w := by
  have hb' : w.heap[b]? = some (.map (bntsL 0 es).toArray es.length) := hb
  have hg : (getObj b).run P w = .ok (.map (bntsL 0 es).toArray es.length) w := by simp [getObj, Sem.run, hb']
  have hf := run_findB hk hx w es 0 0 he
  rw [← run_findKey_eq w (wide_keyS hk)] at hf
  simp only [Instr.lookup, Sem.run_bind, run_underlying ht, Result.andThen_ok, hg, run_checkS hk hx, Sem.run_pure]
  simp only [hf, Result.andThen_ok]
  rw [← lookB_some es 0]
  cases h : lookB xs es 0 with
  | none => simp [hz]
  | some p => simp
theorem run_updateB (hk : KeyS P k e0) {t e : Nat} (ht : P.underlying t = some (.map k e)) {xs : List Int} (hx : xs.length = 2) {es : List (List Int)} (he : ∀ q ∈ es, q.length = 2)
    {w : World} {b : Nat} (hb : w.heap[b]? = some (bobj es)) (hn : xs ∉ es) :
    (Instr.mapUpdate t (.map (some b)) (.agg (intsA xs)) (.bool true)).run P w = .ok () { w with heap := w.heap.setIfInBounds b (bobj (es ++ [xs])) } := by
  have hb' : w.heap[b]? = some (.map (bntsL 0 es).toArray es.length) := hb
  have hg : (getObj b).run P w = .ok (.map (bntsL 0 es).toArray es.length) w := by simp [getObj, Sem.run, hb']
  have hf := run_findB hk hx w es 0 0 he
  rw [← run_findKey_eq w (wide_keyS hk), lookB_none es 0 hn] at hf
  simp only [Instr.mapUpdate, Sem.run_bind, run_underlying ht, Result.andThen_ok, hg, run_checkS hk hx, Sem.run_pure]
  simp only [hf, Result.andThen_ok, Option.map_none]
  have ho : Obj.map ((bntsL 0 es).toArray.push { key := .agg (intsA xs), val := .bool true, born := es.length }) (es.length + 1) = bobj (es ++ [xs]) := by
    unfold bobj
    rw [bntsL_app, List.length_append]
    simp
  rw [← ho]
  exact run_setObj_map _ hb'
end
section
variable {P : Program} {n : Nat} {w0 : World} {E : Env} {G : Heap} {d : Option Nat} {ty : TypeId} {pos : String} {aft : Array Edge} {g : Option (Nat × Bool)} {ops : Array Oper} {Q : Exit → Act → World → Prop} {l : List Oper}
/-- make(map[K]bool). -/
theorem TL.makeMapB {d t : Nat} (hg : wants ops E g = some true) (hd : d < n)
    (h : ∀ b, w0.heap.size ≤ b → TL P n w0 ops Q l ((d, .map (some b)) :: E) ((b, bobj []) :: G)) :
    TL P n w0 ops Q (⟨some d, .makeMap t none, ty, pos, aft, g⟩ :: l) E G :=
  TL.step hg fun a w hs => by
    have hr : (execOp a.eval ⟨some d, .makeMap t none, ty, pos, aft, g⟩).run P w = .ok (.value (.map (some w.heap.size))) (w.alloc (bobj [])) := by
      simp only [execOp, Option.map_none]
      simp [Instr.makeMap, bobj, bntsL]
    unfold Oper.wp
    rw [hr]
    exact h _ hs.new.below.size _ _ ((hs.world (hs.new.alloc _)).put hd _)
theorem run_set_newB {k e0 t e : Nat} (hk : KeyS P k e0) (ht : P.underlying t = some (.map k e)) {xs : List Int} (hx : xs.length = 2) {es : List (List Int)} (he : ∀ q ∈ es, q.length = 2) {b : Nat} {G' : Heap} (hn : xs ∉ es)
    (hu : Upd b (bobj es) (bobj (es ++ [xs])) G G') {w : World} (hN : New w0 w G) : ∃ w', (Instr.mapUpdate t (.map (some b)) (.agg (intsA xs)) (.bool true)).run P w = .ok () w' ∧ New w0 w' G' := by
  have hb : w.heap[b]? = some (bobj es) := hN.here _ hu.mem
  refine ⟨_, run_updateB hk ht hx he hb hn, ?_⟩
  obtain ⟨h1, h2⟩ := heap_set (o' := bobj (es ++ [xs])) hb
  exact hN.turn hu h1 h2 rfl rfl rfl (by simp) rfl
/-- m[k] = true for a key that m does not have. -/
theorem TL.updateB {dd : Option Nat} {x y z : Operand} {k e0 t e b : Nat} {xs : List Int} {es : List (List Int)} {G' : Heap} (hk : KeyS P k e0) (ht : P.underlying t = some (.map k e)) (h1 : evo E x = some (.map (some b))) (h2 : evo E y = some (.agg (intsA xs))) (h3 : evo E z = some (.bool true))
    (hx : xs.length = 2) (he : ∀ q ∈ es, q.length = 2) (hn : xs ∉ es) (hu : Upd b (bobj es) (bobj (es ++ [xs])) G G')
    (hg : wants ops E g = some true) (hdd : dd = none) (h : TL P n w0 ops Q l E G') : TL P n w0 ops Q (⟨dd, .mapUpdate t x y z, ty, pos, aft, g⟩ :: l) E G :=
  TL.step hg fun a w hs => by
    subst hdd
    obtain ⟨w', hr, hN⟩ := run_set_newB hk ht hx he hn hu hs.new
    have hr : (execOp a.eval ⟨none, .mapUpdate t x y z, ty, pos, aft, g⟩).run P w = .ok .skip w' := by
      simp only [execOp, hs.ev h1, hs.ev h2, hs.ev h3]
      simp [hr]
    unfold Oper.wp
    rw [hr]
    exact h _ _ (hs.world hN)
/-- m[k]. -/
theorem PV.lookupB {x y : Operand} {k e0 t e b : Nat} {xs : List Int} {es : List (List Int)} (hk : KeyS P k e0) (ht : P.underlying t = some (.map k e)) (hz : zeroOf P e = some (.bool false)) (h1 : evo E x = some (.map (some b))) (h2 : evo E y = some (.agg (intsA xs)))
    (hx : xs.length = 2) (he : ∀ q ∈ es, q.length = 2) (hm : (b, bobj es) ∈ G) : PV P n w0 E G ⟨d, .lookup t x y false, ty, pos, aft, g⟩ (.bool (decide (xs ∈ es))) :=
  fun a w hs => by
    have hr := run_lookupB hk ht (zero_run hz) hx he (hs.new.here _ hm)
    simp only [execOp, hs.ev h1, hs.ev h2]
    simp only [Sem.run_bind, hr]
    simp
end
end Go.Sx
