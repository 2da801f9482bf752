/- Bounds in memory: rules. -/
import Derived.Test.YtbnjmkidbfmomaaGreatDoorQTb
import Derived.Test.YtbnjmkidbfmomaaGreatDoorRows
import Derived.Test.YtbnjmkidbfmomaaGreatDoorQSw
import Derived.Lib.SliceRun
set_option linter.unusedVariables false
set_option linter.unusedSimpArgs false
namespace Go.Proofs.YtbnjmkidbfmomaaGreatDoor
open Go.Sx Go.RowKit

structure Bd where
  a : Int
  b : Int
  m : Int
  deriving Inhabited, DecidableEq
abbrev Bd.cells (r : Bd) : List Value := [.int .i64 r.a, .int .i64 r.b, .int .i64 r.m]
abbrev Bd.val (r : Bd) : Value := .agg #[.int .i64 r.a, .int .i64 r.b, .int .i64 r.m]
/-- A slice that begins at p reads as the bounds. -/
def BdsAt (w : World) (p : Option Addr) (rs : List Bd) : Prop :=
  ∀ j, j < rs.length → ∃ q, p = some q ∧ ∀ i v, (rs.getD j default).cells[i]? = some v → w.cell? ((q.add (j * 3)).add i) = some v
theorem BdsAt.new {w0 w : World} {G : Heap} {p : Option Addr} {rs : List Bd} (h : BdsAt w0 p rs) (hn : New w0 w G) : BdsAt w p rs := fun j hj =>
  let ⟨q, hq, hc⟩ := h j hj
  ⟨q, hq, fun i v hv => hn.old (hc i v hv)⟩
abbrev cv (n : Int) (p : Option Addr) (len cap : Nat) : Value := .agg #[.int .i64 n, .slice p len cap]
theorem addr_add_add (a : Addr) (i j : Nat) : (a.add i).add j = a.add (i + j) := Addr.add_add a i j
def IntsAt (w : World) (p : Option Addr) (xs : List Int) : Prop := ∀ j, j < xs.length → ∃ q, p = some q ∧ w.cell? (q.add (j * 1)) = some (.int .i64 (xs.getD j 0))
theorem IntsAt.new {w0 w : World} {G : Heap} {p : Option Addr} {xs : List Int} (h : IntsAt w0 p xs) (hn : New w0 w G) : IntsAt w p xs := fun j hj =>
  let ⟨q, hq, hc⟩ := h j hj
  ⟨q, hq, hn.old hc⟩
theorem IntsAt.blk {w0 w : World} {G : Heap} {b : Nat} {xs : List Int} {sp : List Value} {e : TypeId} (hn : New w0 w G) (hm : (b, Obj.cells (xs.map (Value.int .i64) ++ sp).toArray e (0, 0)) ∈ G) : IntsAt w (some ⟨b, 0, none⟩) xs := fun j hj =>
  ⟨_, rfl, by
    rw [add_off]
    refine hn.cell hm ?_
    have : ((xs.map (Value.int .i64)) ++ sp)[0 + j * 1]? = some (Value.int .i64 (xs.getD j 0)) := by
      rw [List.getElem?_append_left (by simpa using hj)]
      simp [List.getD, hj]
    simpa using this⟩
theorem IntsAt.arr {w0 w : World} {G : Heap} {b : Nat} {xs : List Int} {e : TypeId} (hn : New w0 w G) (hm : (b, Obj.cells (intsA xs) e (0, 0)) ∈ G) : IntsAt w (some ⟨b, 0, none⟩) xs :=
  IntsAt.blk (sp := []) hn (by simpa [intsA] using hm)abbrev HD := Option (Nat × Nat × List Value)
abbrev ival (l : List Int) : List Value := l.map (Value.int .i64)
abbrev gvI (x : HD × List Int) : Value := gval x.1 x.2.length
abbrev gbI (x : HD × List Int) : Heap := gblk x.1 3 (ival x.2)
abbrev goI (x : HD × List Int) : Prop := gok x.1 x.2.length 1 (ival x.2)
def gp (h : HD) : Option Addr := h.map fun x => ⟨x.1, 0, none⟩
def gc (h : HD) : Nat := (h.map fun x => x.2.1).getD 0
theorem gval_eq {h : HD} {len sz : Nat} {ys : List Value} (ho : gok h len sz ys) : gval h len = .slice (gp h) len (gc h) := by
  obtain _ | ⟨b, cap, sp⟩ := h
  · have : len = 0 := ho.2
    subst this; rfl
  · rfl
theorem IntsAt.g {w0 w : World} {G : Heap} {x : HD × List Int} (hn : New w0 w G) (hm : ∀ y ∈ gbI x, y ∈ G) (ho : goI x) : IntsAt w (gp x.1) x.2 := by
  obtain ⟨_ | ⟨b, cap, sp⟩, l⟩ := x
  · intro j hj
    have : l.length = 0 := ho.2
    simp only at hj
    omega
  · exact IntsAt.blk hn (hm _ (.head _))
section
variable {P : Program} {n : Nat} {w0 : World} {E : Env} {G : Heap}
/-- Where a slice begins that leaves out the first l elements. -/
def cutA (p : Option Addr) (cap l s : Nat) : Option Addr := if cap = l then p else p.map (·.add (l * s))
section
variable {d : Option Nat} {ty : TypeId} {pos : String} {aft : Array Edge} {g : Option (Nat × Bool)}
theorem PV.sliceH {x y : Operand} {p : Option Addr} {len cap e s h : Nat} {i : Int} {t : Nat} (hx : evo E x = some (.slice p len cap)) (hy : evo E y = some (.int .i64 i))
    (ht : elemOf' P t = some (e, s)) (hi : i = (h : Int)) (hh : h ≤ cap) : PV P n w0 E G ⟨d, .slice t x none (some y) none, ty, pos, aft, g⟩ (.slice (cutA p cap 0 s) h cap) :=
  fun a w hs => by
    unfold elemOf' at ht
    cases hu : P.underlying t with
    | none => simp [hu] at ht
    | some u =>
      cases u <;> simp only [hu] at ht <;> try (simp at ht; done)
      rename_i e'
      cases hinf : P.info? e' with
      | none => simp [hinf] at ht
      | some inf =>
        simp [hinf] at ht
        obtain ⟨rfl, rfl⟩ := ht
        simp only [execOp, hs.ev hx, Option.map_some, hs.ev hy, Option.map_none]
        subst hi
        simp [Instr.sliceAt, Instr.slice, run_underlying hu, Instr.sliceBounds, run_sliceBound, sizeOf, typeInfo, hinf, hh, cutA]
theorem PV.sliceL {x y : Operand} {p : Option Addr} {len cap e s l : Nat} {i : Int} {t : Nat} (hx : evo E x = some (.slice p len cap)) (hy : evo E y = some (.int .i64 i))
    (ht : elemOf' P t = some (e, s)) (hi : i = (l : Int)) (hl : l ≤ len) : PV P n w0 E G ⟨d, .slice t x (some y) none none, ty, pos, aft, g⟩ (.slice (cutA p cap l s) (len - l) (cap - l)) :=
  fun a w hs => by
    unfold elemOf' at ht
    cases hu : P.underlying t with
    | none => simp [hu] at ht
    | some u =>
      cases u <;> simp only [hu] at ht <;> try (simp at ht; done)
      rename_i e'
      cases hinf : P.info? e' with
      | none => simp [hinf] at ht
      | some inf =>
        simp [hinf] at ht
        obtain ⟨rfl, rfl⟩ := ht
        simp only [execOp, hs.ev hx, Option.map_some, hs.ev hy, Option.map_none]
        subst hi
        simp [Instr.sliceAt, Instr.slice, run_underlying hu, Instr.sliceBounds, run_sliceBound, sizeOf, typeInfo, hinf, hl, cutA]
end
/-- What is known of a frame, written anew. -/
theorem TC.lit {c : Code} {Q : Exit → Act → World → Prop} (E' : Env) (he : Le E' E) (h : TC P n w0 c Q E' G) : TC P n w0 c Q E G := fun a w hs => h a w (hs.env_le fun k v hk => Le.le he k v hk)
variable {a : Act} {w : World} {ops : Array Oper} {Q : Exit → Act → World → Prop} {l : List Oper}
variable {d : Nat} {ty : TypeId} {pos : String} {aft : Array Edge} {g : Option (Nat × Bool)}
/-- An empty slice literal. -/
theorem TL.buildSlice0 {t e sz by_ : Nat} {z : Value} (ht : P.underlying t = some (.slice e)) (hz : zeroI P e = some (z, sz, by_)) (hg : wants ops E g = some true) (hd : d < n)
    (h : ∀ b, w0.heap.size ≤ b → TL P n w0 ops Q l ((d, .slice (some ⟨b, 0, none⟩) 0 0) :: E) ((b, .cells #[] e (0, 0)) :: G)) :
    TL P n w0 ops Q (⟨some d, .buildSlice t 0 #[], ty, pos, aft, g⟩ :: l) E G :=
  TL.step hg fun a w hs => by
    unfold zeroI at hz
    cases hinf : P.info? e with
    | none => simp [hinf] at hz
    | some inf =>
      have hr : (execOp a.eval ⟨some d, .buildSlice t 0 #[], ty, pos, aft, g⟩).run P w = .ok (.value (.slice (some ⟨w.heap.size, 0, none⟩) 0 0)) (w.alloc (.cells #[] e)) := by
        have e0 : ∀ f : Nat → Value, Array.map f (Array.range 0) = #[] := fun f => Array.eq_empty_of_size_eq_zero (by rw [Array.size_map, Array.size_range])
        simp only [execOp]
        simp [Instr.buildSlice, run_underlying ht, sizeOf, typeInfo, hinf, newRow, Instr.fill, e0]
      unfold Oper.wp
      rw [hr]
      exact h _ hs.new.below.size _ _ ((hs.world (hs.new.alloc _)).put hd _)
end
section
variable {n : Nat} {w0 : World} {E : Env} {G : Heap} {d : Nat} {ty : TypeId} {pos : String} {aft : Array Edge} {g : Option (Nat × Bool)} {ops : Array Oper} {Q : Exit → Act → World → Prop} {l : List Oper}
theorem TL.appendI {s x : Operand} {x0 : HD × List Int} {b : Nat} {v : Int} {R : Heap} (hsv : evo E s = some (gvI x0)) (hx : evo E x = some (.slice (some ⟨b, 0, none⟩) 1 1)) (hm : (b, Obj.cells #[.int .i64 v] 3 (0, 0)) ∈ G)
    (hok : goI x0) (hT : TakeH x0.1 3 (ival x0.2) G R) (hb : x0.2.length ≤ 1000000) (hg : wants ops E g = some true) (hd : d < n)
    (h : ∀ h', goI (h', x0.2 ++ [v]) → TL Tryz.prog n w0 ops Q l ((d, gvI (h', x0.2 ++ [v])) :: E) (gbI (h', x0.2 ++ [v]) ++ R)) :
    TL Tryz.prog n w0 ops Q (⟨some d, .call { callee := .builtin .append, args := #[s, x], argTypes := #[25, 25] }, ty, pos, aft, g⟩ :: l) E G := by
  refine TL.append (news := [.int .i64 v]) (m := 1) hsv hx Tb.sl_25 Tb.zi_3 rfl (by decide) hok hT (fun a w hs => src_blk Tb.sl_25 hm rfl (fun j v h => by simpa using h) rfl hs.new) (fun w' hN => src_blk Tb.sl_25 hm rfl (fun j v h => by simpa using h) rfl hN) (by omega) (by omega) hg hd (fun h' hok' _ => ?_)
  have hh := h h'
  unfold goI gvI gbI ival at hh
  simp only [List.map_append, List.length_append, List.map_cons, List.map_nil, List.length_cons, List.length_nil, Nat.zero_add] at hh
  exact hh hok'
end
section
variable {P : Program} {n : Nat} {w0 : World} {E : Env} {G : Heap}
section
variable {d : Option Nat} {ty : TypeId} {pos : String} {aft : Array Edge} {g : Option (Nat × Bool)}
end
variable {ops : Array Oper} {Q : Exit → Act → World → Prop} {l : List Oper}
variable {ty : TypeId} {pos : String} {aft : Array Edge} {g : Option (Nat × Bool)}
end

section
variable {P : Program} {n : Nat} {w0 : World} {E : Env} {G : Heap} {d : Option Nat} {ty : TypeId} {pos : String} {aft : Array Edge} {g : Option (Nat × Bool)}
theorem PV.sliceHb {x y : Operand} {b len cap e s h : Nat} {i : Int} {t : Nat} (hx : evo E x = some (.slice (some ⟨b, 0, none⟩) len cap)) (hy : evo E y = some (.int .i64 i))
    (ht : elemOf' P t = some (e, s)) (hi : i = (h : Int)) (hh : h ≤ cap) : PV P n w0 E G ⟨d, .slice t x none (some y) none, ty, pos, aft, g⟩ (.slice (some ⟨b, 0, none⟩) h cap) := by
  have hp := PV.sliceH (P := P) (n := n) (w0 := w0) (G := G) (d := d) (ty := ty) (pos := pos) (aft := aft) (g := g) hx hy ht hi hh
  have e0 : cutA (some ⟨b, 0, none⟩) cap 0 s = some ⟨b, 0, none⟩ := by unfold cutA; split <;> simp [add_off]
  rw [e0] at hp
  exact hp
end
def bdc (l : List Bd) : List Value := l.flatMap Bd.cells
theorem bdc_len : ∀ l : List Bd, (bdc l).length = l.length * 3
  | [] => rfl
  | a :: l => by
    have := bdc_len l
    simp [bdc] at this ⊢; omega
theorem bdc_get : ∀ {l : List Bd} {k i : Nat}, k < l.length → i < 3 → (bdc l)[k * 3 + i]? = (l.getD k default).cells[i]?
  | [], _, _, h, _ => by simp at h
  | a :: l, 0, i, _, hi => by
    simp only [bdc, List.flatMap_cons, Nat.zero_mul, Nat.zero_add]
    rw [List.getElem?_append_left (by simp; omega)]
    rfl
  | a :: l, k + 1, i, h, hi => by
    have := bdc_get (l := l) (k := k) (i := i) (by simpa using h) hi
    simp only [bdc, List.flatMap_cons] at this ⊢
    rw [List.getElem?_append_right (by simp; omega)]
    rw [show (k + 1) * 3 + i - a.cells.length = k * 3 + i by simp; omega, this]
    rfl
abbrev gbB (e : TypeId) (h : HD) (l : List Bd) : Heap := gblk h e (bdc l)
abbrev goB (h : HD) (l : List Bd) : Prop := gok h l.length 3 (bdc l)
theorem gval_one (h : HD) (K : Nat) : (gval h K).oneCell' = true := by cases h <;> rfl
theorem BdsAt.s {w0 w : World} {G : Heap} {e : TypeId} {h : HD} {l : List Bd} (hn : New w0 w G) (hm : ∀ y ∈ gbB e h l, y ∈ G) (ho : goB h l) : BdsAt w (gp h) l := by
  obtain _ | ⟨b, cap, sp⟩ := h
  · intro j hj
    have : l.length = 0 := ho.2
    omega
  · intro j hj
    refine ⟨⟨b, 0, none⟩, rfl, fun i v hv => ?_⟩
    have hi : i < 3 := (List.getElem?_eq_some_iff.1 hv).1
    have hl := bdc_len l
    rw [addr_add_add, add_off, Nat.zero_add]
    refine hn.cell (hm _ (.head _)) ?_
    rw [List.getElem?_toArray, List.getElem?_append_left (by omega), bdc_get hj hi]
    exact hv
section
variable {P : Program} {n : Nat} {w0 : World} {E : Env} {G : Heap} {d : Nat} {ty : TypeId} {pos : String} {aft : Array Edge} {g : Option (Nat × Bool)} {ops : Array Oper} {Q : Exit → Act → World → Prop} {l : List Oper}
end
/-- A bound with one of its numbers turned. -/
def setF (r : Bd) (f : Nat) (v : Int) : Bd := match f with
  | 0 => { r with a := v }
  | 1 => { r with b := v }
  | _ => { r with m := v }
/-- A block, turned where it lies. -/
inductive PutH (e : TypeId) : HD → List Value → List Value → Heap → Heap → Prop
  | here (h : HD) (ys ys' : List Value) (G : Heap) : PutH e h ys ys' (gblk h e ys ++ G) (gblk h e ys' ++ G)
  | tail (p : Nat × Obj) {h : HD} {ys ys' : List Value} {G R : Heap} (t : PutH e h ys ys' G R) : PutH e h ys ys' (p :: G) (p :: R)
  | app (A : Heap) {h : HD} {ys ys' : List Value} {G R : Heap} (t : PutH e h ys ys' G R) : PutH e h ys ys' (A ++ G) (A ++ R)
theorem PutH.upd {e : TypeId} {b cap : Nat} {sp ys ys' : List Value} {G R : Heap} : PutH e (some (b, cap, sp)) ys ys' G R → Upd b (.cells (ys ++ sp).toArray e (0, 0)) (.cells (ys' ++ sp).toArray e (0, 0)) G R := by
  intro t
  generalize hh : (some (b, cap, sp) : HD) = h at t
  induction t with
  | here => subst hh; exact Upd.head _
  | tail p t ih => exact (ih hh).tail p
  | app A t ih => exact (ih hh).appR A
section
variable {P : Program} {n : Nat} {w0 : World} {E : Env} {G : Heap} {ty : TypeId} {pos : String} {aft : Array Edge} {g : Option (Nat × Bool)} {ops : Array Oper} {Q : Exit → Act → World → Prop} {l : List Oper}
end
end Go.Proofs.YtbnjmkidbfmomaaGreatDoor
