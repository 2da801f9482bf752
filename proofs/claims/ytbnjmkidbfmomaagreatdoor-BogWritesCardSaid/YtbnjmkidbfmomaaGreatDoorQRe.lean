/- Slices of records that the call owns, or that came in: rules for any record whose cells are one cell each. -/
import Derived.Test.YtbnjmkidbfmomaaGreatDoorQBs
set_option linter.unusedVariables false
set_option linter.unusedSimpArgs false
namespace Go.Sx
open Go.RowKit Go.Proofs.YtbnjmkidbfmomaaGreatDoor

/-- A kind of record: its cells, so many of them, each one cell. -/
structure Rec (α : Type) where
  cells : α → List Value
  sz : Nat
  len : ∀ r, (cells r).length = sz
  one : ∀ r, ∀ v ∈ cells r, v.oneCell' = true
  pos : 0 < sz
variable {α : Type}
abbrev rval (R : Rec α) (r : α) : Value := .agg (R.cells r).toArray
def rcs (R : Rec α) (l : List α) : List Value := l.flatMap R.cells
theorem rcs_len {R : Rec α} : ∀ l : List α, (rcs R l).length = l.length * R.sz
  | [] => by simp [rcs]
  | a :: l => by
    have := rcs_len (R := R) l
    have h := R.len a
    simp only [rcs, List.flatMap_cons, List.length_append, List.length_cons] at this ⊢
    rw [this, h, Nat.add_mul]; omega
theorem rcs_get [Inhabited α] {R : Rec α} : ∀ {l : List α} {k i : Nat}, k < l.length → i < R.sz → (rcs R l)[k * R.sz + i]? = (R.cells (l.getD k default))[i]?
  | [], _, _, h, _ => by simp at h
  | a :: l, 0, i, _, hi => by
    have h := R.len a
    simp only [rcs, List.flatMap_cons, Nat.zero_mul, Nat.zero_add]
    rw [List.getElem?_append_left (by omega)]
    rfl
  | a :: l, k + 1, i, h, hi => by
    have := rcs_get (l := l) (k := k) (i := i) (by simpa using h) hi
    have hl := R.len a
    simp only [rcs, List.flatMap_cons] at this ⊢
    rw [List.getElem?_append_right (by rw [hl, Nat.add_mul]; omega)]
    rw [show (k + 1) * R.sz + i - (R.cells a).length = k * R.sz + i by rw [hl, Nat.add_mul]; omega, this]
    rfl
theorem rcs_setF [Inhabited α] {R : Rec α} {f : Nat} (hf : f < R.sz) {v : Value} {r : α} : ∀ {l : List α} {j : Nat}, j < l.length → (R.cells (l.getD j default)).set f v = R.cells r → (rcs R l).set (j * R.sz + f) v = rcs R (l.set j r)
  | [], _, h, _ => by simp at h
  | a :: l, 0, _, he => by
    have hl := R.len a
    simp only [rcs, List.flatMap_cons, Nat.zero_mul, Nat.zero_add, List.set_cons_zero]
    rw [List.set_append_left _ _ (by omega)]
    simp only [List.getD_cons_zero] at he
    rw [he]
  | a :: l, j + 1, h, he => by
    have ih := rcs_setF hf (l := l) (j := j) (by simpa using h) (by simpa using he)
    have hl := R.len a
    simp only [rcs, List.flatMap_cons, List.set_cons_succ] at ih ⊢
    rw [List.set_append_right _ _ (by rw [hl, Nat.add_mul]; omega), show (j + 1) * R.sz + f - (R.cells a).length = j * R.sz + f by rw [hl, Nat.add_mul]; omega, ih]
abbrev gbR (R : Rec α) (e : TypeId) (h : HD) (l : List α) : Heap := gblk h e (rcs R l)
abbrev goR (R : Rec α) (h : HD) (l : List α) : Prop := gok h l.length R.sz (rcs R l)
theorem goR_len {R : Rec α} {h : HD} {l l' : List α} (ho : goR R h l) (e : l'.length = l.length) : goR R h l' := by
  obtain ⟨h1, h2⟩ := ho
  have e1 := rcs_len (R := R) l
  have e2 := rcs_len (R := R) l'
  refine ⟨e2, ?_⟩
  rw [e] at e2
  cases h with
  | none => simpa [e] using h2
  | some hh => obtain ⟨b, cap, sp⟩ := hh; simp only at h2 ⊢; rw [e2, e]; rw [e1] at h2; exact h2
/-- A slice that begins at p reads as the records. -/
def RecsAt [Inhabited α] (R : Rec α) (w : World) (p : Option Addr) (rs : List α) : Prop :=
  ∀ j, j < rs.length → ∃ q, p = some q ∧ ∀ i v, (R.cells (rs.getD j default))[i]? = some v → w.cell? ((q.add (j * R.sz)).add i) = some v
theorem RecsAt.new [Inhabited α] {R : Rec α} {w0 w : World} {G : Heap} {p : Option Addr} {rs : List α} (h : RecsAt R w0 p rs) (hn : New w0 w G) : RecsAt R w p rs := fun j hj =>
  let ⟨q, hq, hc⟩ := h j hj
  ⟨q, hq, fun i v hv => hn.old (hc i v hv)⟩
theorem RecsAt.s [Inhabited α] {R : Rec α} {w0 w : World} {G : Heap} {e : TypeId} {h : HD} {l : List α} (hn : New w0 w G) (hm : ∀ y ∈ gbR R e h l, y ∈ G) (ho : goR R h l) : RecsAt R w (gp h) l := by
  obtain _ | ⟨b, cap, sp⟩ := h
  · intro j hj
    have : l.length = 0 := ho.2
    omega
  · intro j hj
    refine ⟨⟨b, 0, none⟩, rfl, fun i v hv => ?_⟩
    have hi : i < R.sz := by have := (List.getElem?_eq_some_iff.1 hv).1; rwa [R.len] at this
    have hl := rcs_len (R := R) l
    have hlt : j * R.sz + i < l.length * R.sz := by
      have : (j + 1) * R.sz ≤ l.length * R.sz := Nat.mul_le_mul_right _ hj
      rw [Nat.add_mul] at this; omega
    rw [addr_add_add, add_off, Nat.zero_add]
    refine hn.cell (hm _ (.head _)) ?_
    rw [List.getElem?_toArray, List.getElem?_append_left (by omega), rcs_get hj hi]
    exact hv
section
variable {R : Rec α} {P : Program} {n : Nat} {w0 : World} {E : Env} {G : Heap} {ty : TypeId} {pos : String} {aft : Array Edge} {g : Option (Nat × Bool)} {ops : Array Oper} {Q : Exit → Act → World → Prop} {l : List Oper}
/-- s = append(s, r) of one record. -/
theorem TL.appendRec {d : Nat} {t e by_ : Nat} {z : Value} {s x : Operand} {h0 : HD} {ys : List α} {b : Nat} {r : α} {R' : Heap} (ht : P.underlying t = some (.slice e)) (hz : zeroI P e = some (z, R.sz, by_)) (hzs : z.cells.size = R.sz)
    (hsv : evo E s = some (gval h0 ys.length)) (hx : evo E x = some (.slice (some ⟨b, 0, none⟩) 1 1)) (hm : (b, Obj.cells (R.cells r).toArray e (0, 0)) ∈ G)
    (hok : goR R h0 ys) (hT : TakeH h0 e (rcs R ys) G R') (hb : (ys.length + 1) * by_ ≤ 140737488355328) (hb2 : ys.length ≤ 1000000000) (hg : wants ops E g = some true) (hd : d < n)
    (h : ∀ h', goR R h' (ys ++ [r]) → TL P n w0 ops Q l ((d, gval h' (ys ++ [r]).length) :: E) (gbR R e h' (ys ++ [r]) ++ R')) :
    TL P n w0 ops Q (⟨some d, .call { callee := .builtin .append, args := #[s, x], argTypes := #[t, t] }, ty, pos, aft, g⟩ :: l) E G := by
  have hnews : ∀ (j : Nat) (w : Value), (R.cells r)[j]? = some w → (R.cells r).toArray[j]? = some w := fun j w h => by simpa using h
  have hone : (R.cells r).all Value.oneCell' = true := List.all_eq_true.2 (R.one r)
  refine TL.append (news := R.cells r) (m := 1) hsv hx ht hz hzs R.pos hok hT (fun a w hs => src_blk ht hm (by rw [Nat.one_mul]; exact R.len r) hnews hone hs.new) (fun w' hN => src_blk ht hm (by rw [Nat.one_mul]; exact R.len r) hnews hone hN) hb (by omega) hg hd (fun h' hok' _ => ?_)
  have hh := h h'
  unfold goR gbR at hh
  have e1 : rcs R (ys ++ [r]) = rcs R ys ++ R.cells r := by simp [rcs]
  rw [e1, List.length_append] at hh
  exact hh hok'
theorem TL.putCell [Inhabited α] {dd : Option Nat} {x y : Operand} {h : HD} {l0 : List α} {j f t : Nat} {e : TypeId} {v : Value} {r : α} {G' : Heap} (hx : evo E x = some (.pointer (some ⟨(h.map (·.1)).getD 0, j * R.sz + f, none⟩))) (hy : evo E y = some v)
    (hsz : cellsN P t = some 1) (hv1 : v.oneCell' = true) (hok : goR R h l0) (hr : (R.cells (l0.getD j default)).set f v = R.cells r) (hT : PutH e h (rcs R l0) (rcs R (l0.set j r)) G G') (hj : j < l0.length) (hf : f < R.sz) (hg : wants ops E g = some true) (hdd : dd = none)
    (hk : TL P n w0 ops Q l E G') : TL P n w0 ops Q (⟨dd, .store t x y, ty, pos, aft, g⟩ :: l) E G := by
  cases h with
  | none => exact absurd hok.2 (by simp only; omega)
  | some hh =>
    obtain ⟨b, cap, sp⟩ := hh
    have hl := rcs_len (R := R) l0
    have hlt : j * R.sz + f < l0.length * R.sz := by
      have : (j + 1) * R.sz ≤ l0.length * R.sz := Nat.mul_le_mul_right _ hj
      rw [Nat.add_mul] at this; omega
    have e9 : (rcs R l0 ++ sp).toArray.setIfInBounds (j * R.sz + f) v = (rcs R (l0.set j r) ++ sp).toArray := by
      rw [← rcs_setF hf hj hr]
      simp only [List.setIfInBounds_toArray]
      rw [List.set_append_left _ _ (by omega)]
    exact TL.store (cs := (rcs R l0 ++ sp).toArray) (b := b) (off := j * R.sz + f) (v := v) (e := e) hx hy hsz hv1 (by rw [e9]; exact hT.upd) (by simp; omega) hg hdd hk
end
end Go.Sx
