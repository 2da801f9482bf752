/- Rules: readings in a slice of the call own, stored; delete, clear. -/
import Derived.Test.YtmmgcajegokkoaaRC
import Derived.Test.YtmmgcajegokkoaaRw
namespace Go.Proofs.Ytmmgcajegokkoaa
open Go.Sx Go.RowKit

theorem rdc_flat (l : List Rd) : rdc l = (l.map Rd.cells).flatten := by simp [rdc, List.flatMap]
theorem rdc_setE {l : List Rd} {j : Nat} (hj : j < l.length) (r : Rd) : (rdc l).take (j * 4) ++ r.cells ++ (rdc l).drop (j * 4 + 4) = rdc (l.set j r) := by
  have h := flatten_set (k := 4) (l := l.map Rd.cells) (j := j) (vs := r.cells) (fun x hx => by obtain ⟨q, _, rfl⟩ := List.mem_map.1 hx; rfl) (by simpa using hj) rfl
  rw [rdc_flat, rdc_flat, h, List.map_set]
/-- A reading with one of its numbers turned. -/
def setF (r : Rd) (f : Nat) (v : Int) : Rd := match f with
  | 0 => { r with fr := v }
  | 1 => { r with to := v }
  | 2 => { r with rise := v }
  | _ => { r with wt := v }
theorem setF_cells (r : Rd) {f : Nat} (hf : f < 4) (v : Int) : r.cells.set f (.int .i64 v) = (setF r f v).cells := by
  match f, hf with
  | 0, _ => rfl
  | 1, _ => rfl
  | 2, _ => rfl
  | 3, _ => rfl
theorem rdc_setF {f : Nat} (hf : f < 4) (v : Int) : ∀ {l : List Rd} {j : Nat}, j < l.length → (rdc l).set (j * 4 + f) (.int .i64 v) = rdc (l.set j (setF (l.getD j default) f v))
  | [], _, h => by simp at h
  | a :: l, 0, _ => by
    simp only [rdc, List.flatMap_cons, Nat.zero_mul, Nat.zero_add, List.set_cons_zero]
    rw [List.set_append_left _ _ (by simpa using hf), setF_cells a hf]
    rfl
  | a :: l, j + 1, h => by
    have ih := rdc_setF hf v (l := l) (j := j) (by simpa using h)
    simp only [rdc, List.flatMap_cons, List.set_cons_succ] at ih ⊢
    rw [List.set_append_right _ _ (by simp; omega), show (j + 1) * 4 + f - a.cells.length = j * 4 + f by simp; omega, ih]
    rfl
theorem goS_set {h : HD} {l : List Rd} (ho : goS h l) (j : Nat) (r : Rd) : goS h (l.set j r) := by
  obtain ⟨h1, h2⟩ := ho
  refine ⟨by rw [rdc_len], ?_⟩
  cases h with
  | none => simpa using h2
  | some hh => obtain ⟨b, cap, sp⟩ := hh; simpa [rdc_len] using h2
section
variable {n : Nat} {w0 : World} {E : Env} {G : Heap} {ty : TypeId} {pos : String} {aft : Array Edge} {g : Option (Nat × Bool)} {ops : Array Oper} {Q : Exit → Act → World → Prop} {l : List Oper}
/-- A number of a reading of a slice of the call's own, stored. -/
theorem TL.storeF {dd : Option Nat} {x y : Operand} {h : HD} {l0 : List Rd} {j f t : Nat} {v : Int} {R : Heap} (hx : evo E x = some (.pointer (some ⟨(h.map (·.1)).getD 0, j * 4 + f, none⟩))) (hy : evo E y = some (.int .i64 v))
    (hsz : cellsN Try.prog t = some 1) (hok : goS h l0) (hT : TakeH h 61 (rdc l0) G R) (hj : j < l0.length) (hf : f < 4) (hg : wants ops E g = some true) (hdd : dd = none)
    (hk : TL Try.prog n w0 ops Q l E (gbS h (l0.set j (setF (l0.getD j default) f v)) ++ R)) : TL Try.prog n w0 ops Q (⟨dd, .store t x y, ty, pos, aft, g⟩ :: l) E G := by
  refine TL.perm hT.perm ?_
  cases h with
  | none => exact absurd hok.2 (by simp only; omega)
  | some hh =>
    obtain ⟨b, cap, sp⟩ := hh
    have hl := rdc_len l0
    refine TL.store (cs := (rdc l0 ++ sp).toArray) (b := b) (off := j * 4 + f) (v := .int .i64 v) (e := 61) hx hy hsz rfl (Upd.head _) (by simp; omega) hg hdd ?_
    have e : (rdc l0 ++ sp).toArray.setIfInBounds (j * 4 + f) (.int .i64 v) = (rdc (l0.set j (setF (l0.getD j default) f v)) ++ sp).toArray := by
      rw [← rdc_setF hf v hj]
      simp only [List.setIfInBounds_toArray]
      rw [List.set_append_left _ _ (by omega)]
    rw [e]
    exact hk
/-- A reading of a slice of the call's own, stored. -/
theorem TL.storeE {dd : Option Nat} {x y : Operand} {h : HD} {l0 : List Rd} {j t : Nat} {r : Rd} {R : Heap} (hx : evo E x = some (.pointer (some ⟨(h.map (·.1)).getD 0, j * 4, none⟩))) (hy : evo E y = some r.val)
    (hsz : cellsN Try.prog t = some 4) (hok : goS h l0) (hT : TakeH h 61 (rdc l0) G R) (hj : j < l0.length) (hg : wants ops E g = some true) (hdd : dd = none)
    (hk : TL Try.prog n w0 ops Q l E (gbS h (l0.set j r) ++ R)) : TL Try.prog n w0 ops Q (⟨dd, .store t x y, ty, pos, aft, g⟩ :: l) E G := by
  refine TL.perm hT.perm ?_
  cases h with
  | none => exact absurd hok.2 (by simp only; omega)
  | some hh =>
    obtain ⟨b, cap, sp⟩ := hh
    have hl := rdc_len l0
    refine TL.step hg fun a w hs => ?_
    subst hdd
    have hb : w.heap[b]? = some (.cells (rdc l0 ++ sp).toArray 61 (0, 0)) := hs.new.here _ (.head _)
    have hst := run_storeCells_at (P := Try.prog) b (j * 4) 61 r.cells 0 (rdc l0 ++ sp).toArray w hb (by simp; omega) (by intro v hv; simp at hv; rcases hv with rfl | rfl | rfl | rfl <;> rfl)
    have e : ((rdc l0 ++ sp).take (j * 4) ++ r.cells ++ (rdc l0 ++ sp).drop (j * 4 + 4)) = rdc (l0.set j r) ++ sp := by
      rw [← rdc_setE hj r, List.take_append_of_le_length (by omega), List.drop_append_of_le_length (by omega)]
      simp only [List.append_assoc]
    unfold cellsN at hsz
    have hr : (execOp a.eval ⟨none, .store t x y, ty, pos, aft, g⟩).run Try.prog w = .ok .skip (w.setRow b (rdc (l0.set j r) ++ sp).toArray) := by
      cases hi : Try.prog.info? t with
      | none => simp [hi] at hsz
      | some i =>
        simp [hi] at hsz
        simp only [execOp, hs.ev hx, hs.ev hy]
        simp only [Nat.add_zero] at hst
        rw [show r.cells.length = 4 from rfl] at hst
        try rw [show (rdc l0 ++ sp).toArray.toList = rdc l0 ++ sp from rfl] at hst
        rw [e] at hst
        simp only [Option.map_some, Option.getD_some] 
        simp [Instr.storeAt, Instr.sureAddr, storeVar, sizeOf, typeInfo, hi, hsz, Value.cells, hst]
    unfold Oper.wp
    rw [hr]
    refine hk _ _ (hs.world ?_)
    refine hs.new.turn (Upd.head _) ?_ ?_ rfl rfl rfl ?_
    · simp only [World.setRow, Array.getElem?_modify, if_true, hb, Option.map_some]
    · intro k hk
      simp only [World.setRow, Array.getElem?_modify]
      rw [if_neg (by omega)]
    · simp [World.setRow]
end
section
variable {P : Program} {n : Nat} {w0 : World} {E : Env} {G : Heap}
section
variable {d : Option Nat} {ty : TypeId} {pos : String} {aft : Array Edge} {g : Option (Nat × Bool)}
theorem PV.slice3 {x y z u : Operand} {p : Option Addr} {len cap e s l h m : Nat} {i j k : Int} {t : Nat} (hx : evo E x = some (.slice p len cap)) (hy : evo E y = some (.int .i64 i)) (hz : evo E z = some (.int .i64 j)) (hu' : evo E u = some (.int .i64 k))
    (ht : elemOf' P t = some (e, s)) (hi : i = (l : Int)) (hj : j = (h : Int)) (hk : k = (m : Int)) (h1 : l ≤ h) (h2 : h ≤ m) (h3 : m ≤ cap) : PV P n w0 E G ⟨d, .slice t x (some y) (some z) (some u), ty, pos, aft, g⟩ (.slice (cutA p m l s) (h - l) (m - l)) :=
  fun a w hs => by
    unfold elemOf' at ht
    cases hu : P.underlying t with
    | none => simp [hu] at ht
    | some u =>
      cases u <;> simp only [hu] at ht <;> try (simp at ht; done)
      rename_i e'
      cases hinf : P.info? e' with
      | none => simp [hinf] at ht
      | some inf =>
        simp [hinf] at ht
        obtain ⟨rfl, rfl⟩ := ht
        simp only [execOp, hs.ev hx, Option.map_some, hs.ev hy, hs.ev hz, hs.ev hu']
        subst hi; subst hj; subst hk
        simp [Instr.sliceAt, Instr.slice, run_underlying hu, Instr.sliceBounds, run_sliceBound, sizeOf, typeInfo, hinf, h1, h2, h3, cutA]
theorem PV.sliceLH {x y z : Operand} {p : Option Addr} {len cap e s l h : Nat} {i j : Int} {t : Nat} (hx : evo E x = some (.slice p len cap)) (hy : evo E y = some (.int .i64 i)) (hz : evo E z = some (.int .i64 j))
    (ht : elemOf' P t = some (e, s)) (hi : i = (l : Int)) (hj : j = (h : Int)) (h1 : l ≤ h) (h2 : h ≤ cap) : PV P n w0 E G ⟨d, .slice t x (some y) (some z) none, ty, pos, aft, g⟩ (.slice (cutA p cap l s) (h - l) (cap - l)) :=
  fun a w hs => by
    unfold elemOf' at ht
    cases hu : P.underlying t with
    | none => simp [hu] at ht
    | some u =>
      cases u <;> simp only [hu] at ht <;> try (simp at ht; done)
      rename_i e'
      cases hinf : P.info? e' with
      | none => simp [hinf] at ht
      | some inf =>
        simp [hinf] at ht
        obtain ⟨rfl, rfl⟩ := ht
        simp only [execOp, hs.ev hx, Option.map_some, hs.ev hy, hs.ev hz, Option.map_none]
        subst hi; subst hj
        simp [Instr.sliceAt, Instr.slice, run_underlying hu, Instr.sliceBounds, run_sliceBound, sizeOf, typeInfo, hinf, h1, h2, cutA]
end
variable {ops : Array Oper} {Q : Exit → Act → World → Prop} {l : List Oper}
variable {ty : TypeId} {pos : String} {aft : Array Edge} {g : Option (Nat × Bool)}
/-- append where there is room: the block is turned behind the elements. -/
theorem TL.appendRoom {d : Nat} {s x : Operand} {t tx e sz by_ len cap m b : Nat} {z xv : Value} {cs news : List Value} {G' : Heap} (hsv : evo E s = some (.slice (some ⟨b, 0, none⟩) len cap)) (hx : evo E x = some xv)
    (ht : P.underlying t = some (.slice e)) (hz : zeroI P e = some (z, sz, by_)) (hu : Upd b (.cells cs.toArray e (0, 0)) (.cells (cs.take (len * sz) ++ news ++ cs.drop (len * sz + news.length)).toArray e (0, 0)) G G')
    (hle : len * sz + news.length ≤ cs.length) (hroom : len + m ≤ cap) (hsrc : ∀ w', New w0 w' G → Src P sz tx xv m news w') (hg : wants ops E g = some true) (hd : d < n)
    (h : TL P n w0 ops Q l ((d, .slice (some ⟨b, 0, none⟩) (len + m) cap) :: E) G') :
    TL P n w0 ops Q (⟨some d, .call { callee := .builtin .append, args := #[s, x], argTypes := #[t, tx] }, ty, pos, aft, g⟩ :: l) E G :=
  TL.step hg fun a w hs => by
    unfold zeroI at hz
    cases hinf : P.info? e with
    | none => simp [hinf] at hz
    | some inf =>
      simp [hinf] at hz
      obtain ⟨z', hz1, rfl, hz2, hz3⟩ := hz
      have hS := hsrc w hs.new
      have hexec : (execOp a.eval ⟨some d, .call { callee := .builtin .append, args := #[s, x], argTypes := #[t, tx] }, ty, pos, aft, g⟩).run P w =
          ((Builtin.append_ #[t, tx] ty #[.slice (some ⟨b, 0, none⟩) len cap, xv]).run P w).andThen fun v w' => .ok (.value v) w' := by
        simp only [execOp, resolve, List.map_toArray, List.map_cons, List.map_nil, hs.ev hsv, hs.ev hx]
        simp [invoke, builtin]
      unfold Oper.wp
      rw [hexec]
      have hblk : w.heap[b]? = some (.cells cs.toArray e (0, 0)) := hs.new.here _ hu.mem
      have hf : (Builtin.firstCells sz m xv).run P w = .ok news.toArray w := hS.cells
      have hst := run_storeCells_at (P := P) b (len * inf.size) e news 0 cs.toArray w hblk (by simp [hz2]; omega) hS.one
      simp only [Nat.add_zero] at hst
      have hr : (Builtin.append_ #[t, tx] ty #[.slice (some ⟨b, 0, none⟩) len cap, xv]).run P w =
          .ok (.slice (some ⟨b, 0, none⟩) (len + m) cap) (w.setRow b (cs.take (len * sz) ++ news ++ cs.drop (len * sz + news.length)).toArray) := by
        rw [hz2] at hst
        simp only [List.append_assoc] at hst
        rcases hS.kind with ⟨e', hk⟩ | hk <;> simp [Builtin.append_, run_underlying ht, run_underlying hk, sizeOf, typeInfo, hinf, hS.len, hroom, hf, Addr.add_lit, hz2, hst]
      rw [hr]
      refine h _ _ ((hs.world ?_).put hd _)
      refine hs.new.turn hu ?_ ?_ rfl rfl rfl ?_
      · simp only [World.setRow, Array.getElem?_modify, if_true, hblk, Option.map_some]
      · intro k hk
        simp only [World.setRow, Array.getElem?_modify]
        rw [if_neg (by omega)]
      · simp [World.setRow]
/-- clear of one element. -/
theorem TL.clear1 {dd : Option Nat} {x : Operand} {t e sz by_ len cap b off : Nat} {z : Value} {cs zs : List Value} {G' : Heap} (hx : evo E x = some (.slice (some ⟨b, off, none⟩) len cap)) (hlen : len = 1)
    (ht : P.underlying t = some (.slice e)) (hz : zeroI P e = some (z, sz, by_)) (hzs : (Builtin.zeroCells z.cells 1).toList = zs) (h1 : zs.all Value.oneCell' = true)
    (hu : Upd b (.cells cs.toArray e (0, 0)) (.cells (cs.take off ++ zs ++ cs.drop (off + zs.length)).toArray e (0, 0)) G G')
    (hle : off + zs.length ≤ cs.length) (hg : wants ops E g = some true) (hdd : dd = none)
    (h : TL P n w0 ops Q l E G') :
    TL P n w0 ops Q (⟨dd, .call { callee := .builtin .clear, args := #[x], argTypes := #[t] }, ty, pos, aft, g⟩ :: l) E G :=
  TL.step hg fun a w hs => by
    subst hlen; subst hdd
    unfold zeroI at hz
    cases hinf : P.info? e with
    | none => simp [hinf] at hz
    | some inf =>
      simp [hinf] at hz
      obtain ⟨z', hz1, rfl, hz2, hz3⟩ := hz
      have hexec : (execOp a.eval ⟨none, .call { callee := .builtin .clear, args := #[x], argTypes := #[t] }, ty, pos, aft, g⟩).run P w =
          ((Builtin.clear_ #[t] ty #[.slice (some ⟨b, off, none⟩) 1 cap]).run P w).andThen fun v w' => .ok (.value v) w' := by
        simp only [execOp, resolve, List.map_toArray, List.map_cons, List.map_nil, hs.ev hx]
        simp [invoke, builtin]
      unfold Oper.wp
      rw [hexec]
      have hblk : w.heap[b]? = some (.cells cs.toArray e (0, 0)) := hs.new.here _ hu.mem
      have hst := run_storeCells_at (P := P) b off e zs 0 cs.toArray w hblk (by simp; omega) (fun v hv => List.all_eq_true.1 h1 v hv)
      simp only [Nat.add_zero] at hst
      have hr : (Builtin.clear_ #[t] ty #[.slice (some ⟨b, off, none⟩) 1 cap]).run P w = .ok (.tuple #[]) (w.setRow b (cs.take off ++ zs ++ cs.drop (off + zs.length)).toArray) := by
        simp [Builtin.clear_, run_underlying ht, zeroValue, typeInfo, hinf, hz1, hzs, hst]
      rw [hr]
      refine h _ _ (hs.world ?_)
      refine hs.new.turn hu ?_ ?_ rfl rfl rfl ?_
      · simp only [World.setRow, Array.getElem?_modify, if_true, hblk, Option.map_some]
      · intro k hk
        simp only [World.setRow, Array.getElem?_modify]
        rw [if_neg (by omega)]
      · simp [World.setRow]
end

section
variable {P : Program} {n : Nat} {w0 : World} {E : Env} {G : Heap} {d : Option Nat} {ty : TypeId} {pos : String} {aft : Array Edge} {g : Option (Nat × Bool)}
theorem PV.sliceHb {x y : Operand} {b len cap e s h : Nat} {i : Int} {t : Nat} (hx : evo E x = some (.slice (some ⟨b, 0, none⟩) len cap)) (hy : evo E y = some (.int .i64 i))
    (ht : elemOf' P t = some (e, s)) (hi : i = (h : Int)) (hh : h ≤ cap) : PV P n w0 E G ⟨d, .slice t x none (some y) none, ty, pos, aft, g⟩ (.slice (some ⟨b, 0, none⟩) h cap) := by
  have hp := PV.sliceH (P := P) (n := n) (w0 := w0) (G := G) (d := d) (ty := ty) (pos := pos) (aft := aft) (g := g) hx hy ht hi hh
  have e0 : cutA (some ⟨b, 0, none⟩) cap 0 s = some ⟨b, 0, none⟩ := by unfold cutA; split <;> simp [add_off]
  rw [e0] at hp
  exact hp
theorem PV.sliceLHb {x y z : Operand} {b len cap e s l h : Nat} {i j : Int} {t : Nat} (hx : evo E x = some (.slice (some ⟨b, 0, none⟩) len cap)) (hy : evo E y = some (.int .i64 i)) (hz : evo E z = some (.int .i64 j))
    (ht : elemOf' P t = some (e, s)) (hi : i = (l : Int)) (hj : j = (h : Int)) (h1 : l < h) (h2 : h ≤ cap) : PV P n w0 E G ⟨d, .slice t x (some y) (some z) none, ty, pos, aft, g⟩ (.slice (some ⟨b, l * s, none⟩) (h - l) (cap - l)) := by
  have hp := PV.sliceLH (P := P) (n := n) (w0 := w0) (G := G) (d := d) (ty := ty) (pos := pos) (aft := aft) (g := g) hx hy hz ht hi hj (by omega) h2
  have e0 : cutA (some ⟨b, 0, none⟩) cap l s = some ⟨b, l * s, none⟩ := by unfold cutA; rw [if_neg (by omega)]; simp [add_off]
  rw [e0] at hp
  exact hp
end

end Go.Proofs.Ytmmgcajegokkoaa
