/- Strings and rows of bytes: what the operations do with them. -/
import Derived.Test.YtaeobkgogipceaaDoorRe
import Derived.Laws.IdiomStrings
import Derived.Laws.IdiomCopy
set_option linter.unusedVariables false
set_option linter.unusedSimpArgs false
namespace Go.Sx
open Go.RowKit

/-- A string with its bytes. -/
def str (L : List UInt8) : Value := .string ⟨L.toArray⟩
theorem str_of (s : ByteArray) : Value.string s = str s.data.toList := by
  cases s with | mk d => simp [str]
def bcs (L : List UInt8) : List Value := L.map fun b => .int .u8 (b.toNat : Int)
theorem bcs_len (L : List UInt8) : (bcs L).length = L.length := by simp [bcs]
theorem bcs_app (L M : List UInt8) : bcs (L ++ M) = bcs L ++ bcs M := by simp [bcs]
theorem bcs_get {L : List UInt8} {j : Nat} (h : j < L.length) : (bcs L)[j]? = some (Value.int .u8 (L[j].toNat : Int)) := by simp [bcs, h]

/-- A row of bytes of the call's own: its block, its capacity, what lies behind its elements, its mark. -/
structure HB where
  b : Nat
  cap : Nat
  sp : List Value
  fr : Nat × Nat
def bvl (h : HB) (len : Nat) : Value := .slice (some ⟨h.b, 0, none⟩) len h.cap
def bob (h : HB) (e : TypeId) (L : List UInt8) : Obj := .cells (bcs L ++ h.sp).toArray e h.fr
def bok (h : HB) (L : List UInt8) : Prop := h.cap = L.length + h.sp.length ∧ (h.fr = (0, 0) ∨ h.cap ≤ h.fr.1)

theorem str_app (L M : List UInt8) : (⟨L.toArray⟩ : ByteArray) ++ ⟨M.toArray⟩ = ⟨(L ++ M).toArray⟩ := by
  apply ByteArray.ext
  simp [ByteArray.data_append]

section rules
variable {P : Program} {n : Nat} {w0 : World} {E : Env} {G : Heap} {a : Act} {w : World} {ops : Array Oper} {Q : Exit → Act → World → Prop} {l : List Oper}
variable {ty : TypeId} {pos : String} {aft : Array Edge} {g : Option (Nat × Bool)}

section pv
variable {d : Option Nat}
theorem PV.addS {x y : Operand} {t t' : TypeId} {L M : List UInt8} (hx : evo E x = some (str L)) (hy : evo E y = some (str M)) (h : L.length + M.length ≤ 9223372036854775807) :
    PV P n w0 E G ⟨d, .binOp .add t x y t', ty, pos, aft, g⟩ (str (L ++ M)) :=
  fun a w hs => by
    simp only [execOp, hs.ev hx, hs.ev hy]
    have h1 : ¬ (((⟨L.toArray⟩ : ByteArray).size + (⟨M.toArray⟩ : ByteArray).size : Nat) : Int) > IntKind.i64.max := by
      show ¬ ((L.toArray.size + M.toArray.size : Nat) : Int) > 9223372036854775807
      simp only [List.size_toArray]; omega
    simp [go_sem, str, Op.stringOp, str_app, eqGuard]
    first | omega | (intro hh; exact absurd hh h1) | (rw [if_neg h1]; simp)
theorem PV.eqS {x y : Operand} {t t' : TypeId} {L M : List UInt8} (hx : evo E x = some (str L)) (hy : evo E y = some (str M)) :
    PV P n w0 E G ⟨d, .binOp .eql t x y t', ty, pos, aft, g⟩ (.bool (decide (L = M))) :=
  fun a w hs => by
    simp only [execOp, hs.ev hx, hs.ev hy]
    simp [go_sem, str, Op.stringOp, eqGuard]
    try (rw [Bool.eq_iff_iff]; simp)
theorem PV.neqS {x y : Operand} {t t' : TypeId} {L M : List UInt8} (hx : evo E x = some (str L)) (hy : evo E y = some (str M)) :
    PV P n w0 E G ⟨d, .binOp .neq t x y t', ty, pos, aft, g⟩ (.bool (decide (L ≠ M))) :=
  fun a w hs => by
    simp only [execOp, hs.ev hx, hs.ev hy]
    simp [go_sem, str, Op.stringOp, eqGuard, binOp, bne]
    try (rw [Bool.eq_iff_iff]; simp)
theorem PV.lenS {x : Operand} {L : List UInt8} {t : TypeId} (hx : evo E x = some (str L)) (ht : P.underlying t = some .string) :
    PV P n w0 E G ⟨d, .call { callee := .builtin .len, args := #[x], argTypes := #[t] }, ty, pos, aft, g⟩ (.int .i64 L.length) :=
  fun a w hs => by
    simp only [execOp, resolve, List.map_toArray, List.map_cons, List.map_nil, hs.ev hx]
    have h1 : (⟨L.toArray⟩ : ByteArray).size = L.length := by simp [ByteArray.size]
    simp [invoke, builtin, str, run_len_string, ht, goInt, h1]
theorem PV.indexS {x y : Operand} {L : List UInt8} {k : IntKind} {t : TypeId} {i : Int} {j : Nat} (hx : evo E x = some (str L)) (hy : evo E y = some (.int k i)) (ht : P.underlying t = some .string) (hi : i = (j : Int)) (hj : j < L.length) :
    PV P n w0 E G ⟨d, .index t x y, ty, pos, aft, g⟩ (.int .u8 ((L.getD j 0).toNat : Int)) :=
  fun a w hs => by
    subst hi
    simp only [execOp, hs.ev hx, hs.ev hy]
    have h1 : (0 : Int) ≤ (j : Int) ∧ (j : Int) < ((⟨L.toArray⟩ : ByteArray).size : Int) := by
      have : (⟨L.toArray⟩ : ByteArray).size = L.length := by simp [ByteArray.size]
      omega
    have h2 := run_index_string (P := P) w t ⟨L.toArray⟩ k (j : Int) ht
    rw [dif_pos h1] at h2
    have h3 : ∀ hh, ((⟨L.toArray⟩ : ByteArray)[(j : Int).toNat]'hh) = L.getD j 0 := fun hh => by
      rw [List.getD_eq_getElem?_getD, List.getElem?_eq_getElem hj]
      rfl
    rw [h3] at h2
    simp [str, h2]
theorem PV.ofBytes {x : Operand} {hb : HB} {L : List UInt8} {s t e len : Nat} (hx : evo E x = some (bvl hb len)) (hl : len = L.length) (hs : P.underlying s = some (.slice e)) (he : P.underlying e = some (.int .u8)) (ht : P.underlying t = some .string)
    (hm : (hb.b, bob hb e L) ∈ G) : PV P n w0 E G ⟨d, .convert s t x, ty, pos, aft, g⟩ (str L) :=
  fun a w hS => by
    subst hl
    simp only [execOp, hS.ev hx]
    have hc : ∀ j (hj : j < L.length), w.cell? ((⟨hb.b, 0, none⟩ : Addr).add j) = some (Value.int .u8 (L[j].toNat : Int)) := fun j hj => by
      rw [add_off, Nat.zero_add]
      refine hS.new.cell hm ?_
      rw [List.getElem?_toArray, List.getElem?_append_left (by rw [bcs_len]; exact hj), bcs_get hj]
    simp [bvl, str, run_convert_bytes_back w s t e ⟨hb.b, 0, none⟩ hb.cap L hs he ht hc]
end pv

theorem TL.toBytes {d : Nat} {x : Operand} {L : List UInt8} {s t e : Nat} (hx : evo E x = some (str L)) (hs : P.underlying s = some .string) (ht : P.underlying t = some (.slice e)) (he : P.underlying e = some (.int .u8))
    (hg : wants ops E g = some true) (hd : d < n) (h : ∀ hb, bok hb L → TL P n w0 ops Q l ((d, bvl hb L.length) :: E) ((hb.b, bob hb e L) :: G)) :
    TL P n w0 ops Q (⟨some d, .convert s t x, ty, pos, aft, g⟩ :: l) E G :=
  TL.step hg fun a w hS => by
    have hr := run_bytes_of_string (P := P) w s t e ⟨L.toArray⟩ hs ht he
    have h1 : (⟨L.toArray⟩ : ByteArray).size = L.length := by simp [ByteArray.size]
    rw [h1] at hr
    have hcap := grownCap_ge w L.length 0 e
    have hrow : bytesRow ⟨L.toArray⟩ (grownCap w L.length 0 e) = (bcs L ++ List.replicate (grownCap w L.length 0 e - L.length) (Value.int .u8 0)).toArray := by
      unfold bytesRow bcs
      rw [h1]
      simp
    have hsz : (bytesRow ⟨L.toArray⟩ (grownCap w L.length 0 e)).size = grownCap w L.length 0 e := by
      rw [hrow, List.size_toArray, List.length_append, bcs_len, List.length_replicate]; omega
    rw [hsz, hrow] at hr
    have hex : (execOp a.eval ⟨some d, .convert s t x, ty, pos, aft, g⟩).run P w = .ok (.value (.slice (some ⟨w.heap.size, 0, none⟩) L.length (grownCap w L.length 0 e)))
        (w.drew.alloc (.cells (bcs L ++ List.replicate (grownCap w L.length 0 e - L.length) (Value.int .u8 0)).toArray e (grownCap w L.length 0 e, grownCap w L.length 0 e + 1))) := by
      simp only [execOp, hS.ev hx]
      simp [str, hr]
    unfold Oper.wp
    rw [hex]
    refine h ⟨w.heap.size, grownCap w L.length 0 e, List.replicate (grownCap w L.length 0 e - L.length) (Value.int .u8 0), (grownCap w L.length 0 e, grownCap w L.length 0 e + 1)⟩ ⟨by simp; omega, .inr (Nat.le_refl _)⟩ _ _ ((hS.world ?_).put hd _)
    exact (hS.new.drew).alloc (.cells (bcs L ++ List.replicate (grownCap w L.length 0 e - L.length) (Value.int .u8 0)).toArray e (grownCap w L.length 0 e, grownCap w L.length 0 e + 1))

theorem upd_take {b : Nat} {o o' : Obj} {G R : Heap} (h : Take b o G R) : ∃ D, Upd b o o' G D ∧ List.Perm ((b, o') :: R) D := by
  induction h with
  | head => exact ⟨_, Upd.head _, List.Perm.refl _⟩
  | tail p h ih => 
    obtain ⟨D, h1, h2⟩ := ih
    exact ⟨_, Upd.tail p h1, (List.Perm.swap _ _ _).trans (h2.cons p)⟩

/-- text = append(text, c). -/
theorem TL.appendB {d : Nat} {s x : Operand} {t tx e e2 e3 b2 c2 : Nat} {fr2 : Nat × Nat} {hb : HB} {L : List UInt8} {v : Int} (c : UInt8) {len : Nat} {R : Heap} (hsv : evo E s = some (bvl hb len)) (hx : evo E x = some (.slice (some ⟨b2, 0, none⟩) 1 c2))
    (hl : len = L.length) (ht : P.underlying t = some (.slice e)) (htx : P.underlying tx = some (.slice e3)) (hz : zeroI P e = some (.int .u8 0, 1, 1)) (hok : bok hb L) (hT : Take hb.b (bob hb e L) G R)
    (hm : (b2, Obj.cells #[Value.int .u8 v] e2 fr2) ∈ G) (hv : v = (c.toNat : Int)) (hL : L.length + 1 ≤ 140737488355328)
    (hg : wants ops E g = some true) (hd : d < n) (h : ∀ hb', bok hb' (L ++ [c]) → TL P n w0 ops Q l ((d, bvl hb' (L.length + 1)) :: E) ((hb'.b, bob hb' e (L ++ [c])) :: R)) :
    TL P n w0 ops Q (⟨some d, .call { callee := .builtin .append, args := #[s, x], argTypes := #[t, tx] }, ty, pos, aft, g⟩ :: l) E G :=
  TL.step hg fun a w hS => by
    subst hl; subst hv
    unfold zeroI at hz
    cases hinf : P.info? e with
    | none => simp [hinf] at hz
    | some inf =>
      simp [hinf] at hz
      obtain ⟨z', hz1, rfl, hz2, hz3⟩ := hz
      have hsrc : ∀ w', New w0 w' G → Src P 1 tx (.slice (some ⟨b2, 0, none⟩) 1 c2) 1 [Value.int .u8 (c.toNat : Int)] w' := fun w' hN => by
        refine Src.ofSlice (size := 1) _ htx ⟨b2, 0, none⟩ 1 c2 [Value.int .u8 (c.toNat : Int)] rfl (fun j u hj => ?_) (fun u hu => by simp at hu; subst hu; rfl)
        cases j with
        | zero =>
          rw [add_off]
          refine hN.cell hm ?_
          simpa using hj
        | succ j => simp at hj
      have hexec : (execOp a.eval ⟨some d, .call { callee := .builtin .append, args := #[s, x], argTypes := #[t, tx] }, ty, pos, aft, g⟩).run P w =
          ((Builtin.append_ #[t, tx] ty #[.slice (some ⟨hb.b, 0, none⟩) L.length hb.cap, .slice (some ⟨b2, 0, none⟩) 1 c2]).run P w).andThen fun v w' => .ok (.value v) w' := by
        simp only [execOp, resolve, List.map_toArray, List.map_cons, List.map_nil, hS.ev hsv, hS.ev hx]
        simp [invoke, builtin, bvl]
      unfold Oper.wp
      rw [hexec]
      obtain ⟨D, hU, hP⟩ := upd_take (o' := .cells ((bcs L ++ hb.sp).toArray.setIfInBounds L.length (Value.int .u8 (c.toNat : Int))) e hb.fr) hT
      have hblk : w.heap[hb.b]? = some (.cells (bcs L ++ hb.sp).toArray e hb.fr) := hS.new.here _ hU.mem
      have hspl : (bcs L ++ hb.sp).length = hb.cap := by rw [List.length_append, bcs_len]; exact hok.1.symm
      by_cases hroom : L.length + 1 ≤ hb.cap
      · have hc0 : (w.cell? ⟨hb.b, L.length, none⟩).isSome = true := by
          simp [World.cell?, hblk]
          have := hok.1
          simp [bcs_len]; omega
        have hf0 : w.frozen? ⟨hb.b, L.length, none⟩ = false := by
          have h00 := hok.2
          revert hblk h00
          generalize hb.fr = fr
          intro hblk h00
          simp only [World.frozen?, hblk]
          rcases h00 with h0 | h0
          · rw [h0]; simp
          · simp; omega
        have hr := run_append_room_src (P := P) (w := w) t tx ty e inf ht hinf hb.b 0 L.length hb.cap (.slice (some ⟨b2, 0, none⟩) 1 c2) 1 [Value.int .u8 (c.toNat : Int)] (by rw [hz2]; exact hsrc w hS.new) hroom
          (fun j hj => by have : j = 0 := by simpa using hj
                          subst this; simpa [hz2] using hc0) (fun j hj => by have : j = 0 := by simpa using hj
                                                                             subst this; simpa [hz2] using hf0)
        rw [hr]
        have hw : w.setCells hb.b (0 + L.length * inf.size) [Value.int .u8 (c.toNat : Int)] = w.setRow hb.b ((bcs L ++ hb.sp).toArray.setIfInBounds L.length (Value.int .u8 (c.toNat : Int))) := by
          rw [hz2, Nat.mul_one, Nat.zero_add]
          show w.setCell ⟨hb.b, L.length, none⟩ _ = _
          exact setCell_eq_setRow w hb.b L.length _ e hb.fr _ hblk
        rw [hw]
        have hrow : ((bcs L ++ hb.sp).toArray.setIfInBounds L.length (Value.int .u8 (c.toNat : Int))) = (bcs (L ++ [c]) ++ hb.sp.drop 1).toArray := by
          cases hsp : hb.sp with
          | nil => 
            have := hok.1
            rw [hsp] at this
            simp at this
            omega
          | cons s0 sp0 => 
            have : L.length = (bcs L).length := (bcs_len L).symm
            rw [this]
            simp [bcs_app, bcs, List.set_append]
        rw [hrow] at hP hU ⊢
        refine h ⟨hb.b, hb.cap, hb.sp.drop 1, hb.fr⟩ ⟨by have := hok.1; simp; omega, hok.2⟩ _ _ ((hS.world ?_).put hd _)
        refine New.perm (hS.new.turn hU ?_ ?_ rfl rfl rfl ?_ rfl) hP
        · simp only [World.setRow, Array.getElem?_modify, if_true, hblk, Option.map_some]
        · intro k hk
          simp only [World.setRow, Array.getElem?_modify]
          rw [if_neg (by omega)]
        · simp [World.setRow]
      · have hold : (Builtin.firstCells inf.size L.length (.slice (some ⟨hb.b, 0, none⟩) L.length hb.cap)).run P w.drew = .ok (bcs L).toArray w.drew := by
          refine run_firstCells_some (P := P) w.drew inf.size L.length ⟨hb.b, 0, none⟩ L.length hb.cap (bcs L) (by rw [hz2, bcs_len, Nat.mul_one]) (fun j v hv => ?_)
          rw [add_off, Nat.zero_add]
          have hjl : j < (bcs L).length := (List.getElem?_eq_some_iff.1 hv).1
          have : w.cell? ⟨hb.b, j, none⟩ = some v := by
            simp only [World.cell?, hblk, Option.isSome_none, Bool.false_eq_true, if_false, List.getElem?_toArray]
            rw [List.getElem?_append_left hjl, hv]
          exact this
        have hr := run_append_grow_src (P := P) (ty := ty) w t tx e inf (Value.int .u8 0) ht hinf hz1 (some ⟨hb.b, 0, none⟩) L.length hb.cap (bcs L) hold (.slice (some ⟨b2, 0, none⟩) 1 c2) 1 [Value.int .u8 (c.toNat : Int)] (by rw [hz2]; exact hsrc w hS.new) (by omega) (by omega)
          (by rw [hz3]; exact growslice_fits (by omega) (by omega))
        rw [hr]
        have hcap := grownCap_ge w (L.length + 1) hb.cap e
        have hzc : (Builtin.zeroCells (Value.int .u8 0).cells (grownCap w (L.length + 1) hb.cap e - (L.length + 1))).size = grownCap w (L.length + 1) hb.cap e - (L.length + 1) := by
          rw [zeroCells_size]; simp [Value.cells]
        refine h ⟨w.heap.size, grownCap w (L.length + 1) hb.cap e, (Builtin.zeroCells (Value.int .u8 0).cells (grownCap w (L.length + 1) hb.cap e - (L.length + 1))).toList, (0, 0)⟩ ⟨?_, .inl rfl⟩ _ _ ((hS.world ?_).put hd _)
        · simp only [Array.length_toList, hzc, List.length_append, List.length_singleton]; omega
        · have hN := hS.new.perm hT.perm
          have hN2 := hN.sub (List.sublist_cons_self _ _)
          have hD : New w0 w.drew R := hN2.drew
          have := hD.alloc (.cells ((bcs L ++ [Value.int .u8 (c.toNat : Int)]).toArray ++ Builtin.zeroCells (Value.int .u8 0).cells (grownCap w (L.length + 1) hb.cap e - (L.length + 1))) e)
          have he : ((bcs (L ++ [c]) ++ (Builtin.zeroCells (Value.int .u8 0).cells (grownCap w (L.length + 1) hb.cap e - (L.length + 1))).toList).toArray) = (bcs L ++ [Value.int .u8 (c.toNat : Int)]).toArray ++ Builtin.zeroCells (Value.int .u8 0).cells (grownCap w (L.length + 1) hb.cap e - (L.length + 1)) := by
            apply Array.ext'; simp [bcs_app, bcs]
          unfold bob
          simp only
          rw [he]
          exact this
theorem TL.appendB' {d : Nat} {s x : Operand} {t tx e e2 e3 b2 c2 : Nat} {fr2 : Nat × Nat} {hb : HB} {L : List UInt8} {v : Int} (c : UInt8) (L' : List UInt8) (hL' : L' = L ++ [c]) {len : Nat} {R : Heap} (hsv : evo E s = some (bvl hb len)) (hx : evo E x = some (.slice (some ⟨b2, 0, none⟩) 1 c2))
    (hl : len = L.length) (ht : P.underlying t = some (.slice e)) (htx : P.underlying tx = some (.slice e3)) (hz : zeroI P e = some (Value.int .u8 0, 1, 1)) (hok : bok hb L) (hT : Take hb.b (bob hb e L) G R)
    (hm : (b2, Obj.cells #[Value.int .u8 v] e2 fr2) ∈ G) (hv : v = (c.toNat : Int)) (hL : L.length + 1 ≤ 140737488355328)
    (hg : wants ops E g = some true) (hd : d < n) (h : ∀ hb', bok hb' L' → TL P n w0 ops Q l ((d, bvl hb' L'.length) :: E) ((hb'.b, bob hb' e L') :: R)) :
    TL P n w0 ops Q (⟨some d, .call { callee := .builtin .append, args := #[s, x], argTypes := #[t, tx] }, ty, pos, aft, g⟩ :: l) E G := by
  subst hL'
  refine TL.appendB c hsv hx hl ht htx hz hok hT hm hv hL hg hd fun hb' hk => ?_
  have := h hb' hk
  rw [List.length_append, List.length_singleton] at this
  exact this
end rules
end Go.Sx
