/- Texts joined. -/
import Derived.Test.YtbnjmkidbfmomaaGreatDoorQRe
import Derived.ScopeJumps
import Derived.Laws.IdiomCopy
set_option linter.unusedSimpArgs false
set_option linter.unusedVariables false
/- Rules: jumps back to a label, copies, slices of bools, numbers in slices that have grown. -/
namespace Go.Sx
open Go.RowKit Go.Proofs.YtbnjmkidbfmomaaGreatDoor
section
variable {P : Program} {n : Nat} {w0 : World} {E : Env} {G : Heap} {Q : Exit → Act → World → Prop} {c c1 body : Code} {J : Act → World → Prop} {K : Act → World → Prop}
theorem TC.scope (h : TC P n w0 c (Exit.noGoto Q) E G) : TC P n w0 (.scope c) Q E G := fun a w hs => wp_scope_straight (h a w hs)
theorem TC.label {l : Nat} (h : TQ n w0 (Q .normal) E G) : TC P n w0 (.label l) Q E G := fun a w hs => wp_label (h a w hs)
theorem TC.goto {l : Nat} (h : TQ n w0 (Q (.goto l)) E G) : TC P n w0 (.goto l) Q E G := fun a w hs => wp_goto (h a w hs)
theorem TQ.scR (h : TQ n w0 (Q .ret) E G) : TQ n w0 (Exit.noGoto Q .ret) E G := h
theorem TQ.jmR {l : Nat} (h : TQ n w0 (Q .ret) E G) : TQ n w0 (Exit.jump l J Q .ret) E G := h
theorem TQ.jmG {l : Nat} (h : TQ n w0 J E G) : TQ n w0 (Exit.jump l J Q (.goto l)) E G := fun a w hs => ⟨rfl, h a w hs⟩
theorem TQ.thenGo {l : Nat} (h : TQ n w0 (Q (.goto l)) E G) : TQ n w0 (Exit.then K Q (.goto l)) E G := h
theorem TQ.blkG {l i : Nat} (h : TQ n w0 (Q (.goto l)) E G) : TQ n w0 (Exit.inBlock i Q (.goto l)) E G := h
/-- A label that is jumped back to: as a loop. -/
theorem TC.scopeJ {l : Nat} (keep : List Nat) {X : Type} (F : X → Prop) (U : X → Env) (D : X → Heap) (m : X → Nat) (hf : findLabel (.seq c1 (.seq (.label l) body)) l = some (.seq .skip body))
    (h1 : TC P n w0 c1 (Exit.then (Mid n w0 F (fun x => U x ++ pick keep E) D) (Exit.jump l (fun _ _ => False) Q)) E G)
    (hb : ∀ x, F x → TC P n w0 body (Exit.jump l (Back n w0 F (fun x => U x ++ pick keep E) D m (m x)) Q) (U x ++ pick keep E) (D x)) : TC P n w0 (.scope (.seq c1 (.seq (.label l) body))) Q E G := by
  intro a w hs
  let I : Act → World → Prop := Mid n w0 F (fun x => U x ++ pick keep E) D
  let R : Act → World → Nat → Prop := fun a w k => ∃ x, F x ∧ m x ≤ k ∧ S n w0 (U x ++ pick keep E) (D x) a w
  have hmin : ∀ a w, I a w → ∃ k, R a w k ∧ ∀ j, R a w j → k ≤ j := by
    intro a w ⟨x, hF, hS⟩
    have : ∀ N, (∃ k, k ≤ N ∧ R a w k) → ∃ k, R a w k ∧ ∀ j, R a w j → k ≤ j := by
      intro N
      induction N with
      | zero => rintro ⟨k, hk, hR⟩; exact ⟨k, hR, fun j _ => by omega⟩
      | succ N ih =>
        rintro ⟨k, hk, hR⟩
        by_cases h : ∃ k, k ≤ N ∧ R a w k
        · exact ih h
        · refine ⟨k, hR, fun j hj => ?_⟩
          by_cases hjk : k ≤ j
          · exact hjk
          · exact absurd ⟨j, by omega, hj⟩ h
    exact this (m x) ⟨m x, Nat.le_refl _, x, hF, Nat.le_refl _, hS⟩
  let mu : Act → World → Nat := fun a w => open Classical in if h : I a w then Classical.choose (hmin a w h) else 0
  have hmu : ∀ a w (h : I a w), R a w (mu a w) ∧ ∀ j, R a w j → mu a w ≤ j := by
    intro a w h
    have := Classical.choose_spec (hmin a w h)
    simp only [mu, dif_pos h]
    exact this
  have hpass : ∀ a w, I a w → body.wp P (Exit.jump l (fun a' w' => I a' w' ∧ mu a' w' < mu a w) Q) a w := by
    intro a w hI
    obtain ⟨⟨x, hF, hx, hS⟩, _⟩ := hmu a w hI
    refine wp_mono (hb x hF a w hS) fun e a' w' h => ?_
    cases e <;> first | exact h | skip
    obtain ⟨hl, y, hFy, hy, hSy⟩ := h
    have hIy : I a' w' := ⟨y, hFy, hSy⟩
    refine ⟨hl, hIy, ?_⟩
    have := (hmu a' w' hIy).2 (m y) ⟨y, hFy, Nat.le_refl _, hSy⟩
    omega
  refine wp_scope_jumps l I mu hf ?_ ?_
  · refine wp_seq (wp_mono (h1 a w hs) fun e a' w' h => ?_)
    cases e with
    | normal =>
      refine wp_seq (wp_label ?_)
      exact wp_mono (hpass a' w' h) fun e a2 w2 h2 => by
        cases e <;> first | exact h2 | exact ⟨h2.1, h2.2.1⟩
    | goto i => exact h.2.elim
    | exit i => exact h
    | ret => exact h
    | panic ch => exact h
    | outgrown => exact h
  · intro a w hI
    exact wp_seq (wp_skip (hpass a w hI))
end
theorem Upd.mid {b : Nat} {o o'' : Obj} (o' : Obj) {G G' : Heap} (h : Upd b o o'' G G') : ∃ G1, Upd b o o' G G1 ∧ Upd b o' o'' G1 G' := by
  induction h with
  | head R => exact ⟨_, Upd.head R, Upd.head R⟩
  | tail p _ ih =>
    obtain ⟨G1, h1, h2⟩ := ih
    exact ⟨p :: G1, Upd.tail p h1, Upd.tail p h2⟩
theorem Upd.self {b : Nat} {o : Obj} {G G' : Heap} (h : Upd b o o G G') : G' = G := by
  induction h with
  | head => rfl
  | tail _ _ ih => rw [ih]
def putA (arr : Array Value) (o : Nat) : List Value → Array Value
  | [] => arr
  | c :: cs => putA (arr.setIfInBounds o c) (o + 1) cs
theorem putA_list : ∀ (cs : List Value) (o : Nat) (arr : List Value), o + cs.length ≤ arr.length → (putA arr.toArray o cs).toList = arr.take o ++ cs ++ arr.drop (o + cs.length)
  | [], o, arr, _ => by simp [putA]
  | c :: cs, o, arr, h => by
    simp only [List.length_cons] at h
    unfold putA
    rw [List.setIfInBounds_toArray, putA_list cs (o + 1) (arr.set o c) (by rw [List.length_set]; omega), List.take_add_one, List.getElem?_set_self (by omega), List.take_set_of_le (Nat.le_refl _), List.drop_set_of_lt (by omega)]
    simp only [Option.toList_some, List.append_assoc, List.singleton_append, List.cons_append, List.nil_append, List.length_cons]
    rw [show o + 1 + cs.length = o + (cs.length + 1) by omega]
theorem New.setCells {w0 : World} {b : Nat} {e : TypeId} : ∀ (cs : List Value) (o : Nat) (arr : Array Value) (w : World) (G G' : Heap), New w0 w G → Upd b (.cells arr e (0, 0)) (.cells (putA arr o cs) e (0, 0)) G G' → New w0 (w.setCells b o cs) G'
  | [], o, arr, w, G, G', hN, hu => by
    rw [hu.self]
    exact hN
  | c :: cs, o, arr, w, G, G', hN, hu => by
    obtain ⟨G1, h1, h2⟩ := hu.mid (.cells (arr.setIfInBounds o c) e (0, 0))
    exact New.setCells cs (o + 1) _ _ _ _ (hN.setCell h1) h2
section
variable {P : Program} {n : Nat} {w0 : World} {E : Env} {G : Heap} {ty : TypeId} {pos : String} {aft : Array Edge} {g : Option (Nat × Bool)} {ops : Array Oper} {Q : Exit → Act → World → Prop} {l : List Oper}
/-- copy(a, b) of ints that lie in old memory. -/
theorem TL.copyI {d : Nat} {x y : Operand} {b len cap cl t1 t2 e eb : Nat} {p : Option Addr} {xs : List Int} {arr : Array Value} {G' : Heap} (hx : evo E x = some (.slice (some ⟨b, 0, none⟩) len cap)) (hy : evo E y = some (.slice p xs.length cl))
    (ht : P.underlying t1 = some (.slice e)) (hsz : (P.info? e).map (·.size) = some 1) (hi : IntsAt w0 p xs) (hl : xs.length ≤ len) (ha : len ≤ arr.size)
    (hu : Upd b (.cells arr eb (0, 0)) (.cells (putA arr 0 (xs.map (Value.int .i64))) eb (0, 0)) G G') (hg : wants ops E g = some true) (hd : d < n)
    (h : TL P n w0 ops Q l ((d, .int .i64 xs.length) :: E) G') :
    TL P n w0 ops Q (⟨some d, .call { callee := .builtin .copy, args := #[x, y], argTypes := #[t1, t2] }, ty, pos, aft, g⟩ :: l) E G :=
  TL.step hg fun a w hs => by
    have hrun : ∃ w', (Builtin.copy_ #[t1, t2] ty #[.slice (some ⟨b, 0, none⟩) len cap, .slice p xs.length cl]).run P w = .ok (.int .i64 xs.length) w' ∧ New w0 w' G' := by
      cases xs with
      | nil =>
        refine ⟨w, ?_, ?_⟩
        · have := run_copy_none (P := P) w t1 t2 ty e (some ⟨b, 0, none⟩) p len cap 0 cl ht hsz (by simp)
          simpa [goInt] using this
        · have hu' : Upd b (.cells arr eb (0, 0)) (.cells arr eb (0, 0)) G G' := hu
          rw [hu'.self]
          exact hs.new
      | cons v vs =>
        obtain ⟨q, rfl, _⟩ := hi 0 (by simp)
        have hc : ∀ j, j < ((v :: vs).map (Value.int .i64)).length → ∃ u, w.cell? ⟨b, 0 + j, none⟩ = some u := fun j hj => ⟨_, hs.new.cell hu.mem (Array.getElem?_eq_getElem (by simp only [List.length_map, List.length_cons] at hj hl; omega))⟩
        refine ⟨_, ?_, New.setCells _ 0 arr w G G' hs.new hu⟩
        have := run_copy_cells (P := P) w t1 t2 ty e b 0 len cap q (v :: vs).length cl ((v :: vs).map (Value.int .i64)) ht hsz (by rw [List.length_map]; exact (Nat.min_eq_left hl).symm) (fun j u hj => by
            have hj2 : j < (v :: vs).length := by have := (List.getElem?_eq_some_iff.1 hj).1; simpa using this
            obtain ⟨q2, e2, h2⟩ := (hi.new hs.new) j hj2
            cases e2
            rw [Nat.mul_one] at h2
            rw [h2]
            rw [List.getElem?_map, List.getElem?_eq_getElem hj2] at hj
            simp only [Option.map_some, Option.some.injEq] at hj
            rw [← hj, show (v :: vs).getD j 0 = (v :: vs)[j] by rw [List.getD_eq_getElem?_getD, List.getElem?_eq_getElem hj2]; rfl])
          (fun j hj => by obtain ⟨u, hu2⟩ := hc j hj; rw [hu2]; rfl) (fun j _ => hs.new.frozen hu.mem) (fun u hu2 => by obtain ⟨i, _, rfl⟩ := List.mem_map.1 hu2; rfl)
        rw [this]
        simp [goInt]
    obtain ⟨w', hr, hN⟩ := hrun
    have hex : (execOp a.eval ⟨some d, .call { callee := .builtin .copy, args := #[x, y], argTypes := #[t1, t2] }, ty, pos, aft, g⟩).run P w = .ok (.value (.int .i64 xs.length)) w' := by
      simp only [execOp, resolve, List.map_toArray, List.map_cons, List.map_nil, hs.ev hx, hs.ev hy]
      simp [invoke, builtin, hr]
    unfold Oper.wp
    rw [hex]
    exact h _ _ ((hs.world hN).put hd _)
end

abbrev boolsA (bs : List Bool) : Array Value := (bs.map Value.bool).toArray
theorem boolsA_get {bs : List Bool} {j : Nat} (h : j < bs.length) : (boolsA bs)[j]? = some (.bool (bs.getD j false)) := by
  simp [boolsA, List.getD, h]
theorem boolsA_set (bs : List Bool) (j : Nat) (v : Bool) : (boolsA bs).setIfInBounds j (.bool v) = boolsA (bs.set j v) := by
  simp [boolsA, List.map_set]
theorem boolsA_size (bs : List Bool) : (boolsA bs).size = bs.length := by simp [boolsA]
theorem boolsA_replicate (k : Nat) (v : Bool) : (List.replicate k (Value.bool v)).toArray = boolsA (List.replicate k v) := by simp [boolsA]
section
variable {P : Program} {n : Nat} {w0 : World} {E : Env} {G : Heap} {ty : TypeId} {pos : String} {aft : Array Edge} {g : Option (Nat × Bool)} {ops : Array Oper} {Q : Exit → Act → World → Prop} {l : List Oper}
theorem PV.loadB {d : Option Nat} {x : Operand} {b j : Nat} {t : Nat} {bs : List Bool} {e : TypeId} {fr : Nat × Nat} (hx : evo E x = some (.pointer (some ⟨b, j, none⟩))) (ht : oneB P t = true)
    (hm : (b, Obj.cells (boolsA bs) e fr) ∈ G) (hj : j < bs.length) :
    PV P n w0 E G ⟨d, .load t x, ty, pos, aft, g⟩ (.bool (bs.getD j false)) := PV.loadG' hx ht hm (boolsA_get hj)
theorem TL.storeB {dd : Option Nat} {x y : Operand} {b j : Nat} {t : Nat} {bs : List Bool} {e : TypeId} {v : Bool} {G' : Heap} (hx : evo E x = some (.pointer (some ⟨b, j, none⟩))) (hy : evo E y = some (.bool v))
    (hsz : cellsN P t = some 1) (hu : Upd b (.cells (boolsA bs) e (0, 0)) (.cells (boolsA (bs.set j v)) e (0, 0)) G G') (hlt : j < bs.length)
    (hg : wants ops E g = some true) (hdd : dd = none) (h : TL P n w0 ops Q l E G') : TL P n w0 ops Q (⟨dd, .store t x y, ty, pos, aft, g⟩ :: l) E G :=
  TL.store (cs := boolsA bs) hx hy hsz rfl (by rw [boolsA_set]; exact hu) (by rw [boolsA_size]; exact hlt) hg hdd h
theorem TL.makeB {d : Nat} {x y : Operand} {t e : Nat} {by_ k : Nat} {i : Int} (hx : evo E x = some (.int .i64 i)) (hy : evo E y = some (.int .i64 i)) (ht : P.underlying t = some (.slice e))
    (hz : zeroI P e = some (.bool false, 1, by_)) (hi : i = (k : Int)) (hk : by_ * k ≤ 281474976710656) (hk2 : k ≤ 9223372036854775807) (hg : wants ops E g = some true) (hd : d < n)
    (h : ∀ b, w0.heap.size ≤ b → TL P n w0 ops Q l ((d, .slice (some ⟨b, 0, none⟩) k k) :: E) ((b, .cells (boolsA (List.replicate k false)) e (0, 0)) :: G)) :
    TL P n w0 ops Q (⟨some d, .makeSlice t x y, ty, pos, aft, g⟩ :: l) E G :=
  TL.make hx hy ht hz rfl hi hk hk2 hg hd (fun b hb => by rw [boolsA_replicate]; exact h b hb)
end

def undoneB (ops : Array Oper) (E : Env) : Option (Nat × Bool) → Bool
  | none => false
  | some (j, _) => match (ops[j]?).bind (·.dst) with
    | none => false
    | some s => match Sx.look s E with
      | some (.tuple _) => true
      | _ => false
section
variable {P : Program} {n : Nat} {w0 : World} {E : Env} {G : Heap} {a : Act} {w : World} {ops : Array Oper} {Q : Exit → Act → World → Prop} {l : List Oper}
theorem S_undone (h : S n w0 E G a w) {o : Oper} (hw : undoneB ops E o.guard = true) : Region.wanted o (yielded ops a.tmps) = false := by
  unfold Region.wanted
  cases hg : o.guard with
  | none => simp [undoneB, hg] at hw
  | some jw =>
    obtain ⟨j, want⟩ := jw
    simp only [undoneB, hg] at hw
    simp only [yielded]
    cases hs : (ops[j]?).bind (·.dst) with
    | none => simp [hs] at hw
    | some s =>
      simp only [hs] at hw
      cases hl : Sx.look s E with
      | none => simp [hl] at hw
      | some v =>
        have := h.env s v hl
        rw [hl] at hw
        cases v <;> first | (simp [this]; done) | simp at hw
theorem TL.skipU {d : Option Nat} {op : Op} {ty : TypeId} {pos : String} {aft : Array Edge} {g : Option (Nat × Bool)}
    (hg : undoneB ops E g = true) (hd : ∀ k, d = some k → k < n) (h : TL P n w0 ops Q l (match d with | some k => (k, undef) :: E | none => E) G) :
    TL P n w0 ops Q (⟨d, op, ty, pos, aft, g⟩ :: l) E G := by
  intro a w hs
  unfold wpList
  have := S_undone hs (o := ⟨d, op, ty, pos, aft, g⟩) hg
  rw [if_neg (by simp [this])]
  cases d with
  | none => exact h _ _ hs
  | some k => exact h _ _ (hs.put (hd k rfl) undef)
theorem OpOK.skipU {d : Nat} {op : Op} {ty : TypeId} {pos : String} {aft : Array Edge} {g : Option (Nat × Bool)} (hg : undoneB ops E g = true) :
    OpOK P n w0 ops Q G E ⟨some d, op, ty, pos, aft, g⟩ d undef := by
  intro F' hF a w hs
  have := S_undone (hs.env_le hF) (o := ⟨some d, op, ty, pos, aft, g⟩) hg
  rw [if_neg (by simp [this])]
theorem TS.skipU {tl : List Oper} {d : Nat} {op : Op} {ty : TypeId} {pos : String} {aft : Array Edge} {g : Option (Nat × Bool)}
    (hg : undoneB ops E g = true) (hd : d < n) (h : TS P n w0 ops Q tl l ((d, undef) :: E) G) :
    TS P n w0 ops Q tl (⟨some d, op, ty, pos, aft, g⟩ :: l) E G := by
  intro a w hs
  unfold wpStill
  have := S_undone hs (o := ⟨some d, op, ty, pos, aft, g⟩) hg
  rw [if_neg (by simp [this])]
  exact h _ _ (hs.put hd undef)
end

end Go.Sx

/- Rules: stores into slices that have grown, appends of old lists, lists given by a function. -/
namespace Go.Proofs.YtbnjmkidbfmomaaGreatDoor
open Go.Sx Go.RowKit

theorem ints_ext {xs ys : List Int} (hl : xs.length = ys.length) (h : ∀ j, j < xs.length → xs.getD j 0 = ys.getD j 0) : xs = ys := by
  refine List.ext_getElem hl fun j h1 h2 => ?_
  have := h j h1
  simpa [List.getD, h1, h2] using this
abbrev bval (l : List Bool) : List Value := l.map Value.bool
abbrev gvO (x : HD × List Bool) : Value := gval x.1 x.2.length
abbrev gbO (x : HD × List Bool) : Heap := gblk x.1 4 (bval x.2)
abbrev goO (x : HD × List Bool) : Prop := gok x.1 x.2.length 1 (bval x.2)
section
variable {P : Program} {n : Nat} {w0 : World} {E : Env} {G : Heap} {ty : TypeId} {pos : String} {aft : Array Edge} {g : Option (Nat × Bool)} {ops : Array Oper} {Q : Exit → Act → World → Prop} {l : List Oper}
theorem TL.put1 {dd : Option Nat} {x y : Operand} {h : HD} {len : Nat} {ys ys' : List Value} {j t : Nat} {e : TypeId} {v : Value} {G' : Heap} (hx : evo E x = some (.pointer (some ⟨(h.map (·.1)).getD 0, j * 1, none⟩))) (hy : evo E y = some v)
    (hsz : cellsN P t = some 1) (hone : v.oneCell' = true) (hok : gok h len 1 ys) (hys : ys' = ys.set j v) (hT : PutH e h ys ys' G G') (hj : j < len) (hg : wants ops E g = some true) (hdd : dd = none)
    (hk : TL P n w0 ops Q l E G') : TL P n w0 ops Q (⟨dd, .store t x y, ty, pos, aft, g⟩ :: l) E G := by
  cases h with
  | none => exact absurd hok.2 (by simp only; omega)
  | some hh =>
    obtain ⟨b, cap, sp⟩ := hh
    subst hys
    have hl := hok.1
    have e9 : (ys ++ sp).toArray.setIfInBounds (j * 1) v = (ys.set j v ++ sp).toArray := by
      simp only [List.setIfInBounds_toArray, Nat.mul_one]
      rw [List.set_append_left _ _ (by omega)]
    exact TL.store (cs := (ys ++ sp).toArray) (b := b) (off := j * 1) (v := v) (e := e) hx hy hsz hone (by rw [e9]; exact hT.upd) (by simp; omega) hg hdd hk
/-- append([]T{}, xs...) where T is one cell. -/
theorem TL.append0 {d : Nat} {s x : Operand} {t e by_ m bA : Nat} {z xv : Value} {news : List Value} {R : Heap} (hsv : evo E s = some (.slice (some ⟨bA, 0, none⟩) 0 0)) (hx : evo E x = some xv)
    (ht : P.underlying t = some (.slice e)) (hz : zeroI P e = some (z, 1, by_)) (hzs : z.cells.size = 1) (hT : Take bA (.cells #[] e (0, 0)) G R)
    (hsrc : ∀ w', New w0 w' G → Src P 1 t xv m news w') (hb : m * by_ ≤ 140737488355328) (hm : m ≤ 9223372036854775807)
    (hg : wants ops E g = some true) (hd : d < n)
    (h : ∀ h', gok h' m 1 news → TL P n w0 ops Q l ((d, gval h' m) :: E) (gblk h' e news ++ R)) :
    TL P n w0 ops Q (⟨some d, .call { callee := .builtin .append, args := #[s, x], argTypes := #[t, t] }, ty, pos, aft, g⟩ :: l) E G := by
  refine TL.perm hT.perm ?_
  have hp : ∀ w', New w0 w' ((bA, .cells #[] e (0, 0)) :: R) → New w0 w' G := fun w' hN => hN.perm hT.perm.symm
  refine TL.append (hd0 := some (bA, 0, [])) (ys := []) (len := 0) (m := m) (news := news) hsv hx ht hz hzs (by decide) ⟨rfl, rfl, Nat.le_refl _⟩ (TakeH.here (some (bA, 0, [])) e [] R) (fun a w hs => hsrc w (hp w hs.new)) (fun w' hN => hsrc w' (hp w' hN)) (by rw [Nat.zero_add]; exact hb) (by omega) hg hd (fun h' ho _ => ?_)
  have := h h'
  rw [List.nil_append, Nat.zero_add] at ho
  rw [Nat.zero_add, List.nil_append]
  exact this ho
end
theorem ints_nil {w : World} {l : List Int} (h : IntsAt w none l) : l = [] := by
  cases l with
  | nil => rfl
  | cons x r => obtain ⟨q, hq, _⟩ := h 0 (by simp); cases hq
theorem ints_src {P : Program} {t e : TypeId} (ht : P.underlying t = some (.slice e)) {w : World} {p : Option Addr} {l : List Int} {c K : Nat} (hK : l.length = K) (h : IntsAt w p l) : Src P 1 t (.slice p K c) K (ival l) w := by
  subst hK
  cases p with
  | none =>
    have h0 := ints_nil h
    subst h0
    exact Src.ofNil w ht c
  | some q =>
    refine Src.ofSlice w ht q l.length c (ival l) (by simp) (fun j u hu => ?_) (fun v hv => by obtain ⟨i, _, rfl⟩ := List.mem_map.1 hv; rfl)
    have hj : j < l.length := by have := (List.getElem?_eq_some_iff.1 hu).1; simpa using this
    obtain ⟨q', hq', hc⟩ := h j hj
    cases hq'
    rw [Nat.mul_one] at hc
    rw [hc, ← hu, List.getElem?_map, List.getElem?_eq_getElem hj]
    simp [List.getD, hj]
section
variable {P : Program} {n : Nat} {w0 : World} {E : Env} {G : Heap} {ty : TypeId} {pos : String} {aft : Array Edge} {g : Option (Nat × Bool)} {ops : Array Oper} {Q : Exit → Act → World → Prop} {l : List Oper} {d : Option Nat}
theorem app_get {ys : List Int} {s : List Value} {j : Nat} (hj : j < ys.length) : (ys.map (Value.int .i64) ++ s).toArray[j]? = some (.int .i64 (ys.getD j 0)) := by
  simp [List.getElem?_append_left, hj, List.getD]
theorem PV.loadGI {x : Operand} {j t : Nat} {y : HD × List Int} {v : Int} (hx : evo E x = some (.pointer (some ⟨(y.1.map (·.1)).getD 0, j * 1, none⟩))) (ht : oneB P t = true)
    (hm : ∀ q ∈ gbI y, q ∈ G) (hok : goI y) (hj : j < y.2.length) (hv : y.2.getD j 0 = v) : PV P n w0 E G ⟨d, .load t x, ty, pos, aft, g⟩ (.int .i64 v) := by
  subst hv
  obtain ⟨h, l⟩ := y
  cases h with
  | none => exact absurd hok.2 (by simp only [List.length_map] at hj ⊢; omega)
  | some hh =>
    obtain ⟨b, cap, sp⟩ := hh
    simp only [Option.map_some, Option.getD_some, Nat.mul_one] at hx
    exact PV.loadG' hx ht (hm _ (.head _)) (app_get hj)
theorem TL.putI {dd : Option Nat} {x y : Operand} {h : HD} {xs xs' : List Int} {j t : Nat} {v : Int} {G' : Heap} (hx : evo E x = some (.pointer (some ⟨(h.map (·.1)).getD 0, j * 1, none⟩))) (hy : evo E y = some (.int .i64 v))
    (hsz : cellsN P t = some 1) (hok : goI (h, xs)) (hs : xs.set j v = xs') (hT : PutH 3 h (ival xs) (ival xs') G G') (hj : j < xs.length) (hg : wants ops E g = some true) (hdd : dd = none)
    (hk : TL P n w0 ops Q l E G') : TL P n w0 ops Q (⟨dd, .store t x y, ty, pos, aft, g⟩ :: l) E G :=
  TL.put1 (v := .int .i64 v) hx hy hsz rfl hok (by rw [← hs]; exact List.map_set) hT hj hg hdd hk
theorem TL.storeIv {dd : Option Nat} {x y : Operand} {b j : Nat} {t : Nat} {xs xs' : List Int} {e : TypeId} {v : Int} {G' : Heap} (hx : evo E x = some (.pointer (some ⟨b, j, none⟩))) (hy : evo E y = some (.int .i64 v))
    (hsz : cellsN P t = some 1) (hs : xs.set j v = xs') (hu : Upd b (.cells (intsA xs) e (0, 0)) (.cells (intsA xs') e (0, 0)) G G') (hlt : j < xs.length)
    (hg : wants ops E g = some true) (hdd : dd = none) (h : TL P n w0 ops Q l E G') : TL P n w0 ops Q (⟨dd, .store t x y, ty, pos, aft, g⟩ :: l) E G := by
  subst hs
  exact TL.storeI hx hy hsz hu hlt hg hdd h
theorem PV.loadIv {x : Operand} {b j : Nat} {t : Nat} {xs : List Int} {e : TypeId} {fr : Nat × Nat} {v : Int} (hx : evo E x = some (.pointer (some ⟨b, j, none⟩))) (ht : oneB P t = true)
    (hm : (b, Obj.cells (intsA xs) e fr) ∈ G) (hj : j < xs.length) (hv : xs.getD j 0 = v) : PV P n w0 E G ⟨d, .load t x, ty, pos, aft, g⟩ (.int .i64 v) := by
  subst hv
  exact PV.loadI hx ht hm hj
end
/-- A list, given by a function. -/
def mk (n : Nat) (f : Nat → Int) : List Int := (List.range n).map f
theorem mk_len (n : Nat) (f : Nat → Int) : (mk n f).length = n := by simp [mk]
theorem mk_at {n : Nat} (f : Nat → Int) {j : Nat} (hj : j < n) : (mk n f).getD j 0 = f j := by simp [mk, List.getD, hj]
theorem mk_eq {xs : List Int} {n : Nat} {f : Nat → Int} (hl : xs.length = n) (h : ∀ j, j < n → xs.getD j 0 = f j) : xs = mk n f :=
  ints_ext (by rw [mk_len, hl]) fun j hj => by rw [mk_at f (by omega), h j (by omega)]
theorem mk_congr {n : Nat} {f h : Nat → Int} (e : ∀ j, j < n → f j = h j) : mk n f = mk n h := mk_eq (mk_len n f) fun j hj => by rw [mk_at f hj, e j hj]
theorem set_at {xs : List Int} {i : Nat} (hi : i < xs.length) (v : Int) (k : Nat) : (xs.set i v).getD k 0 = if i = k then v else xs.getD k 0 := by
  rw [List.getD_eq_getElem?_getD, List.getElem?_set]
  by_cases h : i = k
  · subst h; simp [hi]
  · simp [h]
theorem mk_set {n : Nat} {f h : Nat → Int} {i : Nat} {v : Int} (hi : i < n) (hv : v = h i) (e : ∀ j, j < n → j ≠ i → f j = h j) : (mk n f).set i v = mk n h :=
  mk_eq (by rw [List.length_set, mk_len]) fun j hj => by
    rw [set_at (by rw [mk_len]; exact hi)]
    by_cases hij : i = j
    · subst hij; rw [if_pos rfl, hv]
    · rw [if_neg hij, mk_at f hj, e j hj (fun h => hij h.symm)]
theorem mul_bd {t a T c : Int} (ht : -T ≤ t ∧ t ≤ T) (ha : 0 ≤ a ∧ a ≤ c) : -(T * c) ≤ t * a ∧ t * a ≤ T * c := by
  have hT : 0 ≤ T := by omega
  have h1 : T * a ≤ T * c := Int.mul_le_mul_of_nonneg_left ha.2 hT
  have h2 : t * a ≤ T * a := Int.mul_le_mul_of_nonneg_right ht.2 ha.1
  have h3 : -T * a ≤ t * a := Int.mul_le_mul_of_nonneg_right ht.1 ha.1
  have h4 : -T * a = -(T * a) := by grind
  omega
theorem put_all {xs ys : List Int} (h : ys.length = xs.length) : putA (intsA ys) 0 (xs.map (Value.int .i64)) = intsA xs := by
  have h1 := putA_list (xs.map (Value.int .i64)) 0 (ys.map (Value.int .i64)) (by simp; omega)
  refine Array.toList_inj.1 ?_
  show (putA (ys.map (Value.int .i64)).toArray 0 (xs.map (Value.int .i64))).toList = _
  rw [h1]
  unfold intsA
  simp only [List.take_zero, List.nil_append, List.length_map, Nat.zero_add]
  rw [List.drop_of_length_le (by simp; omega), List.append_nil]
end Go.Proofs.YtbnjmkidbfmomaaGreatDoor

/- Arrays of ints, and maps whose keys are such arrays: rules. -/
namespace Go.Sx
open Go.RowKit Go.Proofs.YtbnjmkidbfmomaaGreatDoor

def arrOf (P : Program) (t : Nat) : Option (Nat × Nat × Nat) :=
  match P.underlying t with
  | some (.array n e) => (P.info? e).map fun i => (n, e, i.size)
  | _ => none
section
variable {P : Program} {n : Nat} {w0 : World} {E : Env} {G : Heap} {d : Option Nat} {ty : TypeId} {pos : String} {aft : Array Edge} {g : Option (Nat × Bool)}
/-- &a[i]. -/
theorem PV.indexArr {x y : Operand} {b m e j : Nat} {i : Int} {t : Nat} (hx : evo E x = some (.pointer (some ⟨b, 0, none⟩))) (hy : evo E y = some (.int .i64 i))
    (ht : arrOf P t = some (m, e, 1)) (hi : i = (j : Int)) (hj : j < m) : PV P n w0 E G ⟨d, .indexAddr t x y, ty, pos, aft, g⟩ (.pointer (some ⟨b, j, none⟩)) :=
  fun a w hs => by
    unfold arrOf at ht
    cases hu : P.underlying t with
    | none => simp [hu] at ht
    | some u =>
      cases u <;> simp only [hu] at ht <;> try (simp at ht; done)
      rename_i m' e'
      cases hi2 : P.info? e' with
      | none => simp [hi2] at ht
      | some inf =>
        simp [hi2] at ht
        obtain ⟨rfl, rfl, h3⟩ := ht
        subst hi
        simp only [execOp, hs.ev hx, hs.ev hy]
        simp [Instr.indexAt, run_underlying hu, asIntOf, Instr.sureAddr, sizeOf, typeInfo, hi2, h3, hj, add_off]
/-- a[:]. -/
theorem PV.sliceAll {x : Operand} {b m e : Nat} {t : Nat} (hx : evo E x = some (.pointer (some ⟨b, 0, none⟩)))
    (ht : arrOf P t = some (m, e, 1)) (hm : 0 < m) : PV P n w0 E G ⟨d, .slice t x none none none, ty, pos, aft, g⟩ (.slice (some ⟨b, 0, none⟩) m m) :=
  fun a w hs => by
    unfold arrOf at ht
    cases hu : P.underlying t with
    | none => simp [hu] at ht
    | some u =>
      cases u <;> simp only [hu] at ht <;> try (simp at ht; done)
      rename_i m' e'
      cases hi2 : P.info? e' with
      | none => simp [hi2] at ht
      | some inf =>
        simp [hi2] at ht
        obtain ⟨rfl, rfl, h3⟩ := ht
        have hm0 : ¬ m' = 0 := by omega
        simp only [execOp, Option.map_none, hs.ev hx]
        simp [Instr.sliceAt, run_underlying hu, Instr.sureAddr, Instr.sliceBounds, run_sliceBound, sizeOf, typeInfo, hi2, h3, add_off, hm0]
end
section
variable {P : Program} {k m : Nat}
end
end Go.Sx

