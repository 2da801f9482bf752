/- Rules: jumps back to a label, copies, slices of bools, numbers in slices that have grown. -/
import Derived.Test.YtghlkndanpegbaaRe
import Derived.ScopeJumps
import Derived.Laws.IdiomCopy
set_option linter.unusedVariables false
set_option linter.unusedSimpArgs false
namespace Go.Sx
open Go.RowKit Go.Proofs.Ytghlkndanpegbaa
section
variable {P : Program} {n : Nat} {w0 : World} {E : Env} {G : Heap} {Q : Exit → Act → World → Prop} {c c1 body : Code} {J : Act → World → Prop} {K : Act → World → Prop}
theorem TC.scope (h : TC P n w0 c (Exit.noGoto Q) E G) : TC P n w0 (.scope c) Q E G := fun a w hs => wp_scope_straight (h a w hs)
theorem TC.label {l : Nat} (h : TQ n w0 (Q .normal) E G) : TC P n w0 (.label l) Q E G := fun a w hs => wp_label (h a w hs)
theorem TC.goto {l : Nat} (h : TQ n w0 (Q (.goto l)) E G) : TC P n w0 (.goto l) Q E G := fun a w hs => wp_goto (h a w hs)
theorem TQ.scN (h : TQ n w0 (Q .normal) E G) : TQ n w0 (Exit.noGoto Q .normal) E G := h
theorem TQ.scR (h : TQ n w0 (Q .ret) E G) : TQ n w0 (Exit.noGoto Q .ret) E G := h
theorem TQ.scE {i : Nat} (h : TQ n w0 (Q (.exit i)) E G) : TQ n w0 (Exit.noGoto Q (.exit i)) E G := h
theorem TQ.jmN {l : Nat} (h : TQ n w0 (Q .normal) E G) : TQ n w0 (Exit.jump l J Q .normal) E G := h
theorem TQ.jmR {l : Nat} (h : TQ n w0 (Q .ret) E G) : TQ n w0 (Exit.jump l J Q .ret) E G := h
theorem TQ.jmE {l i : Nat} (h : TQ n w0 (Q (.exit i)) E G) : TQ n w0 (Exit.jump l J Q (.exit i)) E G := h
theorem TQ.jmG {l : Nat} (h : TQ n w0 J E G) : TQ n w0 (Exit.jump l J Q (.goto l)) E G := fun a w hs => ⟨rfl, h a w hs⟩
theorem TQ.thenG {l : Nat} (h : TQ n w0 (Q (.goto l)) E G) : TQ n w0 (Exit.then K Q (.goto l)) E G := h
theorem TQ.blkG {l i : Nat} (h : TQ n w0 (Q (.goto l)) E G) : TQ n w0 (Exit.inBlock i Q (.goto l)) E G := h
/-- A label that is jumped back to: as a loop. -/
theorem TC.scopeJ {l : Nat} (keep : List Nat) {X : Type} (F : X → Prop) (U : X → Env) (D : X → Heap) (m : X → Nat) (hf : findLabel (.seq c1 (.seq (.label l) body)) l = some (.seq .skip body))
    (h1 : TC P n w0 c1 (Exit.then (Mid n w0 F (fun x => U x ++ pick keep E) D) (Exit.jump l (fun _ _ => False) Q)) E G)
    (hb : ∀ x, F x → TC P n w0 body (Exit.jump l (Back n w0 F (fun x => U x ++ pick keep E) D m (m x)) Q) (U x ++ pick keep E) (D x)) : TC P n w0 (.scope (.seq c1 (.seq (.label l) body))) Q E G := by
  intro a w hs
  let I : Act → World → Prop := Mid n w0 F (fun x => U x ++ pick keep E) D
  let R : Act → World → Nat → Prop := fun a w k => ∃ x, F x ∧ m x ≤ k ∧ S n w0 (U x ++ pick keep E) (D x) a w
  have hmin : ∀ a w, I a w → ∃ k, R a w k ∧ ∀ j, R a w j → k ≤ j := by
    intro a w ⟨x, hF, hS⟩
    have : ∀ N, (∃ k, k ≤ N ∧ R a w k) → ∃ k, R a w k ∧ ∀ j, R a w j → k ≤ j := by
      intro N
      induction N with
      | zero => rintro ⟨k, hk, hR⟩; exact ⟨k, hR, fun j _ => by omega⟩
      | succ N ih =>
        rintro ⟨k, hk, hR⟩
        by_cases h : ∃ k, k ≤ N ∧ R a w k
        · exact ih h
        · refine ⟨k, hR, fun j hj => ?_⟩
          by_cases hjk : k ≤ j
          · exact hjk
          · exact absurd ⟨j, by omega, hj⟩ h
    exact this (m x) ⟨m x, Nat.le_refl _, x, hF, Nat.le_refl _, hS⟩
  let mu : Act → World → Nat := fun a w => open Classical in if h : I a w then Classical.choose (hmin a w h) else 0
  have hmu : ∀ a w (h : I a w), R a w (mu a w) ∧ ∀ j, R a w j → mu a w ≤ j := by
    intro a w h
    have := Classical.choose_spec (hmin a w h)
    simp only [mu, dif_pos h]
    exact this
  have hpass : ∀ a w, I a w → body.wp P (Exit.jump l (fun a' w' => I a' w' ∧ mu a' w' < mu a w) Q) a w := by
    intro a w hI
    obtain ⟨⟨x, hF, hx, hS⟩, _⟩ := hmu a w hI
    refine wp_mono (hb x hF a w hS) fun e a' w' h => ?_
    cases e <;> first | exact h | skip
    obtain ⟨hl, y, hFy, hy, hSy⟩ := h
    have hIy : I a' w' := ⟨y, hFy, hSy⟩
    refine ⟨hl, hIy, ?_⟩
    have := (hmu a' w' hIy).2 (m y) ⟨y, hFy, Nat.le_refl _, hSy⟩
    omega
  refine wp_scope_jumps l I mu hf ?_ ?_
  · refine wp_seq (wp_mono (h1 a w hs) fun e a' w' h => ?_)
    cases e with
    | normal =>
      refine wp_seq (wp_label ?_)
      exact wp_mono (hpass a' w' h) fun e a2 w2 h2 => by
        cases e <;> first | exact h2 | exact ⟨h2.1, h2.2.1⟩
    | goto i => exact h.2.elim
    | exit i => exact h
    | ret => exact h
    | panic ch => exact h
    | outgrown => exact h
  · intro a w hI
    exact wp_seq (wp_skip (hpass a w hI))
end
theorem Upd.mid {b : Nat} {o o'' : Obj} (o' : Obj) {G G' : Heap} (h : Upd b o o'' G G') : ∃ G1, Upd b o o' G G1 ∧ Upd b o' o'' G1 G' := by
  induction h with
  | head R => exact ⟨_, Upd.head R, Upd.head R⟩
  | tail p _ ih =>
    obtain ⟨G1, h1, h2⟩ := ih
    exact ⟨p :: G1, Upd.tail p h1, Upd.tail p h2⟩
theorem Upd.self {b : Nat} {o : Obj} {G G' : Heap} (h : Upd b o o G G') : G' = G := by
  induction h with
  | head => rfl
  | tail _ _ ih => rw [ih]
def putA (arr : Array Value) (o : Nat) : List Value → Array Value
  | [] => arr
  | c :: cs => putA (arr.setIfInBounds o c) (o + 1) cs
theorem putA_list : ∀ (cs : List Value) (o : Nat) (arr : List Value), o + cs.length ≤ arr.length → (putA arr.toArray o cs).toList = arr.take o ++ cs ++ arr.drop (o + cs.length)
  | [], o, arr, _ => by simp [putA]
  | c :: cs, o, arr, h => by
    simp only [List.length_cons] at h
    unfold putA
    rw [List.setIfInBounds_toArray, putA_list cs (o + 1) (arr.set o c) (by rw [List.length_set]; omega), List.take_add_one, List.getElem?_set_self (by omega), List.take_set_of_le (Nat.le_refl _), List.drop_set_of_lt (by omega)]
    simp only [Option.toList_some, List.append_assoc, List.singleton_append, List.cons_append, List.nil_append, List.length_cons]
    rw [show o + 1 + cs.length = o + (cs.length + 1) by omega]
theorem New.setCells {w0 : World} {b : Nat} {e : TypeId} : ∀ (cs : List Value) (o : Nat) (arr : Array Value) (w : World) (G G' : Heap), New w0 w G → Upd b (.cells arr e (0, 0)) (.cells (putA arr o cs) e (0, 0)) G G' → New w0 (w.setCells b o cs) G'
  | [], o, arr, w, G, G', hN, hu => by
    rw [hu.self]
    exact hN
  | c :: cs, o, arr, w, G, G', hN, hu => by
    obtain ⟨G1, h1, h2⟩ := hu.mid (.cells (arr.setIfInBounds o c) e (0, 0))
    exact New.setCells cs (o + 1) _ _ _ _ (hN.setCell h1) h2
section
variable {P : Program} {n : Nat} {w0 : World} {E : Env} {G : Heap} {ty : TypeId} {pos : String} {aft : Array Edge} {g : Option (Nat × Bool)} {ops : Array Oper} {Q : Exit → Act → World → Prop} {l : List Oper}
/-- copy(a, b) of ints that lie in old memory. -/
theorem TL.copyI {d : Nat} {x y : Operand} {b len cap cl t1 t2 e eb : Nat} {p : Option Addr} {xs : List Int} {arr : Array Value} {G' : Heap} (hx : evo E x = some (.slice (some ⟨b, 0, none⟩) len cap)) (hy : evo E y = some (.slice p xs.length cl))
    (ht : P.underlying t1 = some (.slice e)) (hsz : (P.info? e).map (·.size) = some 1) (hi : IntsAt w0 p xs) (hl : xs.length ≤ len) (ha : len ≤ arr.size)
    (hu : Upd b (.cells arr eb (0, 0)) (.cells (putA arr 0 (xs.map (Value.int .i64))) eb (0, 0)) G G') (hg : wants ops E g = some true) (hd : d < n)
    (h : TL P n w0 ops Q l ((d, .int .i64 xs.length) :: E) G') :
    TL P n w0 ops Q (⟨some d, .call { callee := .builtin .copy, args := #[x, y], argTypes := #[t1, t2] }, ty, pos, aft, g⟩ :: l) E G :=
  TL.step hg fun a w hs => by
    have hrun : ∃ w', (Builtin.copy_ #[t1, t2] ty #[.slice (some ⟨b, 0, none⟩) len cap, .slice p xs.length cl]).run P w = .ok (.int .i64 xs.length) w' ∧ New w0 w' G' := by
      cases xs with
      | nil =>
        refine ⟨w, ?_, ?_⟩
        · have := run_copy_none (P := P) w t1 t2 ty e (some ⟨b, 0, none⟩) p len cap 0 cl ht hsz (by simp)
          simpa [goInt] using this
        · have hu' : Upd b (.cells arr eb (0, 0)) (.cells arr eb (0, 0)) G G' := hu
          rw [hu'.self]
          exact hs.new
      | cons v vs =>
        obtain ⟨q, rfl, _⟩ := hi 0 (by simp)
        have hc : ∀ j, j < ((v :: vs).map (Value.int .i64)).length → ∃ u, w.cell? ⟨b, 0 + j, none⟩ = some u := fun j hj => ⟨_, hs.new.cell hu.mem (Array.getElem?_eq_getElem (by simp only [List.length_map, List.length_cons] at hj hl; omega))⟩
        refine ⟨_, ?_, New.setCells _ 0 arr w G G' hs.new hu⟩
        have := run_copy_cells (P := P) w t1 t2 ty e b 0 len cap q (v :: vs).length cl ((v :: vs).map (Value.int .i64)) ht hsz (by rw [List.length_map]; exact (Nat.min_eq_left hl).symm) (fun j u hj => by
            have hj2 : j < (v :: vs).length := by have := (List.getElem?_eq_some_iff.1 hj).1; simpa using this
            obtain ⟨q2, e2, h2⟩ := (hi.new hs.new) j hj2
            cases e2
            rw [Nat.mul_one] at h2
            rw [h2]
            rw [List.getElem?_map, List.getElem?_eq_getElem hj2] at hj
            simp only [Option.map_some, Option.some.injEq] at hj
            rw [← hj, show (v :: vs).getD j 0 = (v :: vs)[j] by rw [List.getD_eq_getElem?_getD, List.getElem?_eq_getElem hj2]; rfl])
          (fun j hj => by obtain ⟨u, hu2⟩ := hc j hj; rw [hu2]; rfl) (fun j _ => hs.new.frozen hu.mem) (fun u hu2 => by obtain ⟨i, _, rfl⟩ := List.mem_map.1 hu2; rfl)
        rw [this]
        simp [goInt]
    obtain ⟨w', hr, hN⟩ := hrun
    have hex : (execOp a.eval ⟨some d, .call { callee := .builtin .copy, args := #[x, y], argTypes := #[t1, t2] }, ty, pos, aft, g⟩).run P w = .ok (.value (.int .i64 xs.length)) w' := by
      simp only [execOp, resolve, List.map_toArray, List.map_cons, List.map_nil, hs.ev hx, hs.ev hy]
      simp [invoke, builtin, hr]
    unfold Oper.wp
    rw [hex]
    exact h _ _ ((hs.world hN).put hd _)
end

abbrev boolsA (bs : List Bool) : Array Value := (bs.map Value.bool).toArray
theorem boolsA_get {bs : List Bool} {j : Nat} (h : j < bs.length) : (boolsA bs)[j]? = some (.bool (bs.getD j false)) := by
  simp [boolsA, List.getD, h]
theorem boolsA_set (bs : List Bool) (j : Nat) (v : Bool) : (boolsA bs).setIfInBounds j (.bool v) = boolsA (bs.set j v) := by
  simp [boolsA, List.map_set]
theorem boolsA_size (bs : List Bool) : (boolsA bs).size = bs.length := by simp [boolsA]
theorem boolsA_replicate (k : Nat) (v : Bool) : (List.replicate k (Value.bool v)).toArray = boolsA (List.replicate k v) := by simp [boolsA]
section
variable {P : Program} {n : Nat} {w0 : World} {E : Env} {G : Heap} {ty : TypeId} {pos : String} {aft : Array Edge} {g : Option (Nat × Bool)} {ops : Array Oper} {Q : Exit → Act → World → Prop} {l : List Oper}
theorem PV.loadB {d : Option Nat} {x : Operand} {b j : Nat} {t : Nat} {bs : List Bool} {e : TypeId} {fr : Nat × Nat} (hx : evo E x = some (.pointer (some ⟨b, j, none⟩))) (ht : oneB P t = true)
    (hm : (b, Obj.cells (boolsA bs) e fr) ∈ G) (hj : j < bs.length) :
    PV P n w0 E G ⟨d, .load t x, ty, pos, aft, g⟩ (.bool (bs.getD j false)) := PV.loadG' hx ht hm (boolsA_get hj)
theorem TL.storeB {dd : Option Nat} {x y : Operand} {b j : Nat} {t : Nat} {bs : List Bool} {e : TypeId} {v : Bool} {G' : Heap} (hx : evo E x = some (.pointer (some ⟨b, j, none⟩))) (hy : evo E y = some (.bool v))
    (hsz : cellsN P t = some 1) (hu : Upd b (.cells (boolsA bs) e (0, 0)) (.cells (boolsA (bs.set j v)) e (0, 0)) G G') (hlt : j < bs.length)
    (hg : wants ops E g = some true) (hdd : dd = none) (h : TL P n w0 ops Q l E G') : TL P n w0 ops Q (⟨dd, .store t x y, ty, pos, aft, g⟩ :: l) E G :=
  TL.store (cs := boolsA bs) hx hy hsz rfl (by rw [boolsA_set]; exact hu) (by rw [boolsA_size]; exact hlt) hg hdd h
theorem TL.makeB {d : Nat} {x y : Operand} {t e : Nat} {by_ k : Nat} {i : Int} (hx : evo E x = some (.int .i64 i)) (hy : evo E y = some (.int .i64 i)) (ht : P.underlying t = some (.slice e))
    (hz : zeroI P e = some (.bool false, 1, by_)) (hi : i = (k : Int)) (hk : by_ * k ≤ 281474976710656) (hk2 : k ≤ 9223372036854775807) (hg : wants ops E g = some true) (hd : d < n)
    (h : ∀ b, w0.heap.size ≤ b → TL P n w0 ops Q l ((d, .slice (some ⟨b, 0, none⟩) k k) :: E) ((b, .cells (boolsA (List.replicate k false)) e (0, 0)) :: G)) :
    TL P n w0 ops Q (⟨some d, .makeSlice t x y, ty, pos, aft, g⟩ :: l) E G :=
  TL.make hx hy ht hz rfl hi hk hk2 hg hd (fun b hb => by rw [boolsA_replicate]; exact h b hb)
end

def undoneB (ops : Array Oper) (E : Env) : Option (Nat × Bool) → Bool
  | none => false
  | some (j, _) => match (ops[j]?).bind (·.dst) with
    | none => false
    | some s => match Sx.look s E with
      | some (.tuple _) => true
      | _ => false
section
variable {P : Program} {n : Nat} {w0 : World} {E : Env} {G : Heap} {a : Act} {w : World} {ops : Array Oper} {Q : Exit → Act → World → Prop} {l : List Oper}
theorem S_undone (h : S n w0 E G a w) {o : Oper} (hw : undoneB ops E o.guard = true) : Region.wanted o (yielded ops a.tmps) = false := by
  unfold Region.wanted
  cases hg : o.guard with
  | none => simp [undoneB, hg] at hw
  | some jw =>
    obtain ⟨j, want⟩ := jw
    simp only [undoneB, hg] at hw
    simp only [yielded]
    cases hs : (ops[j]?).bind (·.dst) with
    | none => simp [hs] at hw
    | some s =>
      simp only [hs] at hw
      cases hl : Sx.look s E with
      | none => simp [hl] at hw
      | some v =>
        have := h.env s v hl
        rw [hl] at hw
        cases v <;> first | (simp [this]; done) | simp at hw
theorem TL.skipU {d : Option Nat} {op : Op} {ty : TypeId} {pos : String} {aft : Array Edge} {g : Option (Nat × Bool)}
    (hg : undoneB ops E g = true) (hd : ∀ k, d = some k → k < n) (h : TL P n w0 ops Q l (match d with | some k => (k, undef) :: E | none => E) G) :
    TL P n w0 ops Q (⟨d, op, ty, pos, aft, g⟩ :: l) E G := by
  intro a w hs
  unfold wpList
  have := S_undone hs (o := ⟨d, op, ty, pos, aft, g⟩) hg
  rw [if_neg (by simp [this])]
  cases d with
  | none => exact h _ _ hs
  | some k => exact h _ _ (hs.put (hd k rfl) undef)
theorem OpOK.skipU {d : Nat} {op : Op} {ty : TypeId} {pos : String} {aft : Array Edge} {g : Option (Nat × Bool)} (hg : undoneB ops E g = true) :
    OpOK P n w0 ops Q G E ⟨some d, op, ty, pos, aft, g⟩ d undef := by
  intro F' hF a w hs
  have := S_undone (hs.env_le hF) (o := ⟨some d, op, ty, pos, aft, g⟩) hg
  rw [if_neg (by simp [this])]
theorem TS.skipU {tl : List Oper} {d : Nat} {op : Op} {ty : TypeId} {pos : String} {aft : Array Edge} {g : Option (Nat × Bool)}
    (hg : undoneB ops E g = true) (hd : d < n) (h : TS P n w0 ops Q tl l ((d, undef) :: E) G) :
    TS P n w0 ops Q tl (⟨some d, op, ty, pos, aft, g⟩ :: l) E G := by
  intro a w hs
  unfold wpStill
  have := S_undone hs (o := ⟨some d, op, ty, pos, aft, g⟩) hg
  rw [if_neg (by simp [this])]
  exact h _ _ (hs.put hd undef)
end

end Go.Sx
