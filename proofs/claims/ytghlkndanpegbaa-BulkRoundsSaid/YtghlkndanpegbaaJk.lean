/- Rules: stores into slices that have grown, appends of old lists, lists given by a function. -/
import Derived.Test.YtghlkndanpegbaaJm
set_option linter.unusedVariables false
set_option linter.unusedSimpArgs false
namespace Go.Proofs.Ytghlkndanpegbaa
open Go.Sx Go.RowKit

theorem ints_ext {xs ys : List Int} (hl : xs.length = ys.length) (h : ∀ j, j < xs.length → xs.getD j 0 = ys.getD j 0) : xs = ys := by
  refine List.ext_getElem hl fun j h1 h2 => ?_
  have := h j h1
  simpa [List.getD, h1, h2] using this
abbrev bval (l : List Bool) : List Value := l.map Value.bool
abbrev gvO (x : HD × List Bool) : Value := gval x.1 x.2.length
abbrev gbO (x : HD × List Bool) : Heap := gblk x.1 4 (bval x.2)
abbrev goO (x : HD × List Bool) : Prop := gok x.1 x.2.length 1 (bval x.2)
theorem ival_at {l sp : List Value} {xs : List Int} (hl : l = ival xs) {j : Nat} (h : j < xs.length) : (l ++ sp).toArray[j * 1]? = some (.int .i64 (xs.getD j 0)) := by
  subst hl
  simp [List.getElem?_append, List.getD, h]
theorem bval_at {l sp : List Value} {xs : List Bool} (hl : l = bval xs) {j : Nat} (h : j < xs.length) : (l ++ sp).toArray[j * 1]? = some (.bool (xs.getD j false)) := by
  subst hl
  simp [List.getElem?_append, List.getD, h]
section
variable {P : Program} {n : Nat} {w0 : World} {E : Env} {G : Heap} {ty : TypeId} {pos : String} {aft : Array Edge} {g : Option (Nat × Bool)} {ops : Array Oper} {Q : Exit → Act → World → Prop} {l : List Oper}
theorem TL.put1 {dd : Option Nat} {x y : Operand} {h : HD} {len : Nat} {ys ys' : List Value} {j t : Nat} {e : TypeId} {v : Value} {G' : Heap} (hx : evo E x = some (.pointer (some ⟨(h.map (·.1)).getD 0, j * 1, none⟩))) (hy : evo E y = some v)
    (hsz : cellsN P t = some 1) (hone : v.oneCell' = true) (hok : gok h len 1 ys) (hys : ys' = ys.set j v) (hT : PutH e h ys ys' G G') (hj : j < len) (hg : wants ops E g = some true) (hdd : dd = none)
    (hk : TL P n w0 ops Q l E G') : TL P n w0 ops Q (⟨dd, .store t x y, ty, pos, aft, g⟩ :: l) E G := by
  cases h with
  | none => exact absurd hok.2 (by simp only; omega)
  | some hh =>
    obtain ⟨b, cap, sp⟩ := hh
    subst hys
    have hl := hok.1
    have e9 : (ys ++ sp).toArray.setIfInBounds (j * 1) v = (ys.set j v ++ sp).toArray := by
      simp only [List.setIfInBounds_toArray, Nat.mul_one]
      rw [List.set_append_left _ _ (by omega)]
    exact TL.store (cs := (ys ++ sp).toArray) (b := b) (off := j * 1) (v := v) (e := e) hx hy hsz hone (by rw [e9]; exact hT.upd) (by simp; omega) hg hdd hk
/-- A store of one cell into a block that is written out. -/
theorem TL.storeV {dd : Option Nat} {x y : Operand} {b j : Nat} {t : Nat} {cs cs' : Array Value} {e : TypeId} {v : Value} {G' : Heap} (hx : evo E x = some (.pointer (some ⟨b, j, none⟩))) (hy : evo E y = some v)
    (hsz : cellsN P t = some 1) (hone : v.oneCell' = true) (hc : cs.setIfInBounds j v = cs') (hu : Upd b (.cells cs e (0, 0)) (.cells cs' e (0, 0)) G G') (hlt : j < cs.size)
    (hg : wants ops E g = some true) (hdd : dd = none) (h : TL P n w0 ops Q l E G') : TL P n w0 ops Q (⟨dd, .store t x y, ty, pos, aft, g⟩ :: l) E G := by
  subst hc
  exact TL.store hx hy hsz hone hu hlt hg hdd h
theorem TL.makeO {d : Nat} {x y : Operand} {t e : Nat} {by_ k : Nat} {i : Int} (hx : evo E x = some (.int .i64 i)) (hy : evo E y = some (.int .i64 i)) (ht : P.underlying t = some (.slice e))
    (hz : zeroI P e = some (.bool false, 1, by_)) (hi : i = (k : Int)) (hk : by_ * k ≤ 281474976710656) (hk2 : k ≤ 9223372036854775807) (hg : wants ops E g = some true) (hd : d < n)
    (h : ∀ b, w0.heap.size ≤ b → TL P n w0 ops Q l ((d, .slice (some ⟨b, 0, none⟩) k k) :: E) ((b, .cells (bval (List.replicate k false)).toArray e (0, 0)) :: G)) :
    TL P n w0 ops Q (⟨some d, .makeSlice t x y, ty, pos, aft, g⟩ :: l) E G :=
  TL.make hx hy ht hz rfl hi hk hk2 hg hd (fun b hb => by have := h b hb; rwa [show bval (List.replicate k false) = List.replicate k (Value.bool false) by simp] at this)
/-- append([]T{}, xs...) where T is one cell. -/
theorem TL.append0 {d : Nat} {s x : Operand} {t e by_ m bA : Nat} {z xv : Value} {news : List Value} {R : Heap} (hsv : evo E s = some (.slice (some ⟨bA, 0, none⟩) 0 0)) (hx : evo E x = some xv)
    (ht : P.underlying t = some (.slice e)) (hz : zeroI P e = some (z, 1, by_)) (hzs : z.cells.size = 1) (hT : Take bA (.cells #[] e (0, 0)) G R)
    (hsrc : ∀ w', New w0 w' G → Src P 1 t xv m news w') (hb : m * by_ ≤ 140737488355328) (hm : m ≤ 9223372036854775807)
    (hg : wants ops E g = some true) (hd : d < n)
    (h : ∀ h', gok h' m 1 news → TL P n w0 ops Q l ((d, gval h' m) :: E) (gblk h' e news ++ R)) :
    TL P n w0 ops Q (⟨some d, .call { callee := .builtin .append, args := #[s, x], argTypes := #[t, t] }, ty, pos, aft, g⟩ :: l) E G := by
  refine TL.perm hT.perm ?_
  have hp : ∀ w', New w0 w' ((bA, .cells #[] e (0, 0)) :: R) → New w0 w' G := fun w' hN => hN.perm hT.perm.symm
  refine TL.append (hd0 := some (bA, 0, [])) (ys := []) (len := 0) (m := m) (news := news) hsv hx ht hz hzs (by decide) ⟨rfl, rfl, Nat.le_refl _⟩ (TakeH.here (some (bA, 0, [])) e [] R) (fun a w hs => hsrc w (hp w hs.new)) (fun w' hN => hsrc w' (hp w' hN)) (by rw [Nat.zero_add]; exact hb) (by omega) hg hd (fun h' ho _ => ?_)
  have := h h'
  rw [List.nil_append, Nat.zero_add] at ho
  rw [Nat.zero_add, List.nil_append]
  exact this ho
theorem src_g {tx e' e len : Nat} {h : HD} {ys : List Value} (hk : P.underlying tx = some (.slice e')) (hok : gok h len 1 ys) (hm : ∀ y ∈ gblk h e ys, y ∈ G) (h1 : ys.all Value.oneCell' = true) {w' : World} (hN : New w0 w' G) : Src P 1 tx (gval h len) len ys w' := by
  have hl := hok.1
  cases h with
  | none =>
    have h0 : len = 0 := hok.2
    subst h0
    have : ys = [] := by cases ys with
      | nil => rfl
      | cons _ _ => simp at hl
    subst this
    exact Src.ofNil w' hk 0
  | some hh =>
    obtain ⟨b, cap, sp⟩ := hh
    exact src_blk hk (hm _ (.head _)) (by omega) (fun j v hv => by
      have hj : j < ys.length := (List.getElem?_eq_some_iff.1 hv).1
      simp only [List.getElem?_toArray]
      rw [List.getElem?_append_left hj]; exact hv) h1 hN
end
theorem ival_one (l : List Int) : (ival l).all Value.oneCell' = true := by simp [Value.oneCell']
theorem bval_one (l : List Bool) : (bval l).all Value.oneCell' = true := by simp [Value.oneCell']

theorem ints_nil {w : World} {l : List Int} (h : IntsAt w none l) : l = [] := by
  cases l with
  | nil => rfl
  | cons x r => obtain ⟨q, hq, _⟩ := h 0 (by simp); cases hq
theorem ints_src {P : Program} {t e : TypeId} (ht : P.underlying t = some (.slice e)) {w : World} {p : Option Addr} {l : List Int} {c K : Nat} (hK : l.length = K) (h : IntsAt w p l) : Src P 1 t (.slice p K c) K (ival l) w := by
  subst hK
  cases p with
  | none =>
    have h0 := ints_nil h
    subst h0
    exact Src.ofNil w ht c
  | some q =>
    refine Src.ofSlice w ht q l.length c (ival l) (by simp) (fun j u hu => ?_) (fun v hv => by obtain ⟨i, _, rfl⟩ := List.mem_map.1 hv; rfl)
    have hj : j < l.length := by have := (List.getElem?_eq_some_iff.1 hu).1; simpa using this
    obtain ⟨q', hq', hc⟩ := h j hj
    cases hq'
    rw [Nat.mul_one] at hc
    rw [hc, ← hu, List.getElem?_map, List.getElem?_eq_getElem hj]
    simp [List.getD, hj]
section
variable {P : Program} {n : Nat} {w0 : World} {E : Env} {G : Heap} {ty : TypeId} {pos : String} {aft : Array Edge} {g : Option (Nat × Bool)} {ops : Array Oper} {Q : Exit → Act → World → Prop} {l : List Oper} {d : Option Nat}
theorem app_get {ys : List Int} {s : List Value} {j : Nat} (hj : j < ys.length) : (ys.map (Value.int .i64) ++ s).toArray[j]? = some (.int .i64 (ys.getD j 0)) := by
  simp [List.getElem?_append_left, hj, List.getD]
theorem PV.loadGI {x : Operand} {j t : Nat} {y : HD × List Int} {v : Int} (hx : evo E x = some (.pointer (some ⟨(y.1.map (·.1)).getD 0, j * 1, none⟩))) (ht : oneB P t = true)
    (hm : ∀ q ∈ gbI y, q ∈ G) (hok : goI y) (hj : j < y.2.length) (hv : y.2.getD j 0 = v) : PV P n w0 E G ⟨d, .load t x, ty, pos, aft, g⟩ (.int .i64 v) := by
  subst hv
  obtain ⟨h, l⟩ := y
  cases h with
  | none => exact absurd hok.2 (by simp only [List.length_map] at hj ⊢; omega)
  | some hh =>
    obtain ⟨b, cap, sp⟩ := hh
    simp only [Option.map_some, Option.getD_some, Nat.mul_one] at hx
    exact PV.loadG' hx ht (hm _ (.head _)) (app_get hj)
theorem TL.putI {dd : Option Nat} {x y : Operand} {h : HD} {xs xs' : List Int} {j t : Nat} {v : Int} {G' : Heap} (hx : evo E x = some (.pointer (some ⟨(h.map (·.1)).getD 0, j * 1, none⟩))) (hy : evo E y = some (.int .i64 v))
    (hsz : cellsN P t = some 1) (hok : goI (h, xs)) (hs : xs.set j v = xs') (hT : PutH 3 h (ival xs) (ival xs') G G') (hj : j < xs.length) (hg : wants ops E g = some true) (hdd : dd = none)
    (hk : TL P n w0 ops Q l E G') : TL P n w0 ops Q (⟨dd, .store t x y, ty, pos, aft, g⟩ :: l) E G :=
  TL.put1 (v := .int .i64 v) hx hy hsz rfl hok (by rw [← hs]; exact List.map_set) hT hj hg hdd hk
theorem TL.storeIv {dd : Option Nat} {x y : Operand} {b j : Nat} {t : Nat} {xs xs' : List Int} {e : TypeId} {v : Int} {G' : Heap} (hx : evo E x = some (.pointer (some ⟨b, j, none⟩))) (hy : evo E y = some (.int .i64 v))
    (hsz : cellsN P t = some 1) (hs : xs.set j v = xs') (hu : Upd b (.cells (intsA xs) e (0, 0)) (.cells (intsA xs') e (0, 0)) G G') (hlt : j < xs.length)
    (hg : wants ops E g = some true) (hdd : dd = none) (h : TL P n w0 ops Q l E G') : TL P n w0 ops Q (⟨dd, .store t x y, ty, pos, aft, g⟩ :: l) E G := by
  subst hs
  exact TL.storeI hx hy hsz hu hlt hg hdd h
theorem PV.loadIv {x : Operand} {b j : Nat} {t : Nat} {xs : List Int} {e : TypeId} {fr : Nat × Nat} {v : Int} (hx : evo E x = some (.pointer (some ⟨b, j, none⟩))) (ht : oneB P t = true)
    (hm : (b, Obj.cells (intsA xs) e fr) ∈ G) (hj : j < xs.length) (hv : xs.getD j 0 = v) : PV P n w0 E G ⟨d, .load t x, ty, pos, aft, g⟩ (.int .i64 v) := by
  subst hv
  exact PV.loadI hx ht hm hj
end
/-- A list, given by a function. -/
def mk (n : Nat) (f : Nat → Int) : List Int := (List.range n).map f
theorem mk_len (n : Nat) (f : Nat → Int) : (mk n f).length = n := by simp [mk]
theorem mk_at {n : Nat} (f : Nat → Int) {j : Nat} (hj : j < n) : (mk n f).getD j 0 = f j := by simp [mk, List.getD, hj]
theorem mk_eq {xs : List Int} {n : Nat} {f : Nat → Int} (hl : xs.length = n) (h : ∀ j, j < n → xs.getD j 0 = f j) : xs = mk n f :=
  ints_ext (by rw [mk_len, hl]) fun j hj => by rw [mk_at f (by omega), h j (by omega)]
theorem mk_congr {n : Nat} {f h : Nat → Int} (e : ∀ j, j < n → f j = h j) : mk n f = mk n h := mk_eq (mk_len n f) fun j hj => by rw [mk_at f hj, e j hj]
theorem set_at {xs : List Int} {i : Nat} (hi : i < xs.length) (v : Int) (k : Nat) : (xs.set i v).getD k 0 = if i = k then v else xs.getD k 0 := by
  rw [List.getD_eq_getElem?_getD, List.getElem?_set]
  by_cases h : i = k
  · subst h; simp [hi]
  · simp [h]
theorem mk_set {n : Nat} {f h : Nat → Int} {i : Nat} {v : Int} (hi : i < n) (hv : v = h i) (e : ∀ j, j < n → j ≠ i → f j = h j) : (mk n f).set i v = mk n h :=
  mk_eq (by rw [List.length_set, mk_len]) fun j hj => by
    rw [set_at (by rw [mk_len]; exact hi)]
    by_cases hij : i = j
    · subst hij; rw [if_pos rfl, hv]
    · rw [if_neg hij, mk_at f hj, e j hj (fun h => hij h.symm)]
theorem mk_self (xs : List Int) : mk xs.length (fun j => xs.getD j 0) = xs := (mk_eq rfl fun _ _ => rfl).symm
theorem mul_bd {t a T c : Int} (ht : -T ≤ t ∧ t ≤ T) (ha : 0 ≤ a ∧ a ≤ c) : -(T * c) ≤ t * a ∧ t * a ≤ T * c := by
  have hT : 0 ≤ T := by omega
  have h1 : T * a ≤ T * c := Int.mul_le_mul_of_nonneg_left ha.2 hT
  have h2 : t * a ≤ T * a := Int.mul_le_mul_of_nonneg_right ht.2 ha.1
  have h3 : -T * a ≤ t * a := Int.mul_le_mul_of_nonneg_right ht.1 ha.1
  have h4 : -T * a = -(T * a) := by grind
  omega
theorem put_all {xs ys : List Int} (h : ys.length = xs.length) : putA (intsA ys) 0 (xs.map (Value.int .i64)) = intsA xs := by
  have h1 := putA_list (xs.map (Value.int .i64)) 0 (ys.map (Value.int .i64)) (by simp; omega)
  refine Array.toList_inj.1 ?_
  show (putA (ys.map (Value.int .i64)).toArray 0 (xs.map (Value.int .i64))).toList = _
  rw [h1]
  unfold intsA
  simp only [List.take_zero, List.nil_append, List.length_map, Nat.zero_add]
  rw [List.drop_of_length_le (by simp; omega), List.append_nil]
end Go.Proofs.Ytghlkndanpegbaa
