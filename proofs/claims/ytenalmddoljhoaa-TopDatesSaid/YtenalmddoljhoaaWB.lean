/- Rows of ints and of bools that the call owns, and slices of such rows. -/
import Derived.Test.YtenalmddoljhoaaWA
set_option linter.unusedVariables false
set_option linter.unusedSimpArgs false
namespace Go.Proofs.Ytenalmddoljhoaa
open Go.Sx Go.RowKit

abbrev bval (l : List Bool) : List Value := l.map Value.bool
abbrev gvO (x : HD × List Bool) : Value := gval x.1 x.2.length
abbrev gbO (x : HD × List Bool) : Heap := gblk x.1 4 (bval x.2)
abbrev goO (x : HD × List Bool) : Prop := gok x.1 x.2.length 1 (bval x.2)
theorem ival_at {l sp : List Value} {xs : List Int} (hl : l = ival xs) {j : Nat} (h : j < xs.length) : (l ++ sp).toArray[j * 1]? = some (.int .i64 (xs.getD j 0)) := by
  subst hl
  simp [List.getElem?_append, List.getD, h]
theorem bval_at {l sp : List Value} {xs : List Bool} (hl : l = bval xs) {j : Nat} (h : j < xs.length) : (l ++ sp).toArray[j * 1]? = some (.bool (xs.getD j false)) := by
  subst hl
  simp [List.getElem?_append, List.getD, h]
section
variable {P : Program} {n : Nat} {w0 : World} {E : Env} {G : Heap} {ty : TypeId} {pos : String} {aft : Array Edge} {g : Option (Nat × Bool)} {ops : Array Oper} {Q : Exit → Act → World → Prop} {l : List Oper}
theorem TL.put1 {dd : Option Nat} {x y : Operand} {h : HD} {len : Nat} {ys ys' : List Value} {j t : Nat} {e : TypeId} {v : Value} {G' : Heap} (hx : evo E x = some (.pointer (some ⟨(h.map (·.1)).getD 0, j * 1, none⟩))) (hy : evo E y = some v)
    (hsz : cellsN P t = some 1) (hone : v.oneCell' = true) (hok : gok h len 1 ys) (hys : ys' = ys.set j v) (hT : PutH e h ys ys' G G') (hj : j < len) (hg : wants ops E g = some true) (hdd : dd = none)
    (hk : TL P n w0 ops Q l E G') : TL P n w0 ops Q (⟨dd, .store t x y, ty, pos, aft, g⟩ :: l) E G := by
  cases h with
  | none => exact absurd hok.2 (by simp only; omega)
  | some hh =>
    obtain ⟨b, cap, sp⟩ := hh
    subst hys
    have hl := hok.1
    have e9 : (ys ++ sp).toArray.setIfInBounds (j * 1) v = (ys.set j v ++ sp).toArray := by
      simp only [List.setIfInBounds_toArray, Nat.mul_one]
      rw [List.set_append_left _ _ (by omega)]
    exact TL.store (cs := (ys ++ sp).toArray) (b := b) (off := j * 1) (v := v) (e := e) hx hy hsz hone (by rw [e9]; exact hT.upd) (by simp; omega) hg hdd hk
/-- A store of one cell into a block that is written out. -/
theorem TL.storeV {dd : Option Nat} {x y : Operand} {b j : Nat} {t : Nat} {cs cs' : Array Value} {e : TypeId} {v : Value} {G' : Heap} (hx : evo E x = some (.pointer (some ⟨b, j, none⟩))) (hy : evo E y = some v)
    (hsz : cellsN P t = some 1) (hone : v.oneCell' = true) (hc : cs.setIfInBounds j v = cs') (hu : Upd b (.cells cs e (0, 0)) (.cells cs' e (0, 0)) G G') (hlt : j < cs.size)
    (hg : wants ops E g = some true) (hdd : dd = none) (h : TL P n w0 ops Q l E G') : TL P n w0 ops Q (⟨dd, .store t x y, ty, pos, aft, g⟩ :: l) E G := by
  subst hc
  exact TL.store hx hy hsz hone hu hlt hg hdd h
theorem TL.makeO {d : Nat} {x y : Operand} {t e : Nat} {by_ k : Nat} {i : Int} (hx : evo E x = some (.int .i64 i)) (hy : evo E y = some (.int .i64 i)) (ht : P.underlying t = some (.slice e))
    (hz : zeroI P e = some (.bool false, 1, by_)) (hi : i = (k : Int)) (hk : by_ * k ≤ 281474976710656) (hk2 : k ≤ 9223372036854775807) (hg : wants ops E g = some true) (hd : d < n)
    (h : ∀ b, w0.heap.size ≤ b → TL P n w0 ops Q l ((d, .slice (some ⟨b, 0, none⟩) k k) :: E) ((b, .cells (bval (List.replicate k false)).toArray e (0, 0)) :: G)) :
    TL P n w0 ops Q (⟨some d, .makeSlice t x y, ty, pos, aft, g⟩ :: l) E G :=
  TL.make hx hy ht hz rfl hi hk hk2 hg hd (fun b hb => by have := h b hb; rwa [show bval (List.replicate k false) = List.replicate k (Value.bool false) by simp] at this)
/-- append([]T{}, xs...) where T is one cell. -/
theorem TL.append0 {d : Nat} {s x : Operand} {t e by_ m bA : Nat} {z xv : Value} {news : List Value} {R : Heap} (hsv : evo E s = some (.slice (some ⟨bA, 0, none⟩) 0 0)) (hx : evo E x = some xv)
    (ht : P.underlying t = some (.slice e)) (hz : zeroI P e = some (z, 1, by_)) (hzs : z.cells.size = 1) (hT : Take bA (.cells #[] e (0, 0)) G R)
    (hsrc : ∀ w', New w0 w' G → Src P 1 t xv m news w') (hb : m * by_ ≤ 140737488355328) (hm : m ≤ 9223372036854775807)
    (hg : wants ops E g = some true) (hd : d < n)
    (h : ∀ h', gok h' m 1 news → TL P n w0 ops Q l ((d, gval h' m) :: E) (gblk h' e news ++ R)) :
    TL P n w0 ops Q (⟨some d, .call { callee := .builtin .append, args := #[s, x], argTypes := #[t, t] }, ty, pos, aft, g⟩ :: l) E G := by
  refine TL.perm hT.perm ?_
  have hp : ∀ w', New w0 w' ((bA, .cells #[] e (0, 0)) :: R) → New w0 w' G := fun w' hN => hN.perm hT.perm.symm
  refine TL.append (hd0 := some (bA, 0, [])) (ys := []) (len := 0) (m := m) (news := news) hsv hx ht hz hzs (by decide) ⟨rfl, rfl, Nat.le_refl _⟩ (TakeH.here (some (bA, 0, [])) e [] R) (fun a w hs => hsrc w (hp w hs.new)) (fun w' hN => hsrc w' (hp w' hN)) (by rw [Nat.zero_add]; exact hb) (by omega) hg hd (fun h' ho _ => ?_)
  have := h h'
  rw [List.nil_append, Nat.zero_add] at ho
  rw [Nat.zero_add, List.nil_append]
  exact this ho
theorem src_g {tx e' e len : Nat} {h : HD} {ys : List Value} (hk : P.underlying tx = some (.slice e')) (hok : gok h len 1 ys) (hm : ∀ y ∈ gblk h e ys, y ∈ G) (h1 : ys.all Value.oneCell' = true) {w' : World} (hN : New w0 w' G) : Src P 1 tx (gval h len) len ys w' := by
  have hl := hok.1
  cases h with
  | none =>
    have h0 : len = 0 := hok.2
    subst h0
    have : ys = [] := by cases ys with
      | nil => rfl
      | cons _ _ => simp at hl
    subst this
    exact Src.ofNil w' hk 0
  | some hh =>
    obtain ⟨b, cap, sp⟩ := hh
    exact src_blk hk (hm _ (.head _)) (by omega) (fun j v hv => by
      have hj : j < ys.length := (List.getElem?_eq_some_iff.1 hv).1
      simp only [List.getElem?_toArray]
      rw [List.getElem?_append_left hj]; exact hv) h1 hN
end
theorem ival_one (l : List Int) : (ival l).all Value.oneCell' = true := by simp [Value.oneCell']
theorem bval_one (l : List Bool) : (bval l).all Value.oneCell' = true := by simp [Value.oneCell']
theorem gok_len {h : HD} {len : Nat} {ys ys' : List Value} (ho : gok h len 1 ys) (e : ys'.length = len) : gok h len 1 ys' := by
  have hl := ho.1
  refine ⟨by omega, ?_⟩
  have h2 := ho.2
  cases h with
  | none => exact h2
  | some hh => obtain ⟨b, cap, sp⟩ := hh; exact ⟨by have := h2.1; omega, h2.2⟩
theorem gokI {h : HD} {N : Nat} {ys : List Value} {xs : List Int} (ho : gok h N 1 ys) (e : xs.length = N) : gok h N 1 (ival xs) := gok_len ho (by simpa using e)
theorem gokO {h : HD} {N : Nat} {ys : List Value} {xs : List Bool} (ho : gok h N 1 ys) (e : xs.length = N) : gok h N 1 (bval xs) := gok_len ho (by simpa using e)
/-- Finished rows, the last one first: a row of sums and one of what is known. -/
abbrev Row := (HD × List Int) × (HD × List Bool)
def fB : List Row → Heap → Heap
  | [], T => T
  | r :: R, T => gbO r.2 ++ (gbI r.1 ++ fB R T)
abbrev nilS : Value := .slice none 0 0
def fS (N : Nat) (R : List Row) : List Value := R.reverse.map fun r => gval r.1.1 N
def fK (N : Nat) (R : List Row) : List Value := R.reverse.map fun r => gval r.2.1 N
theorem fS_len (N : Nat) (R : List Row) : (fS N R).length = R.length := by simp [fS]
theorem fK_len (N : Nat) (R : List Row) : (fK N R).length = R.length := by simp [fK]
theorem fS_cons (N : Nat) (r : Row) (R : List Row) : fS N (r :: R) = fS N R ++ [gval r.1.1 N] := by simp [fS]
theorem fK_cons (N : Nat) (r : Row) (R : List Row) : fK N (r :: R) = fK N R ++ [gval r.2.1 N] := by simp [fK]
theorem fB_S {T : Heap} : ∀ {R : List Row} {r : Row}, r ∈ R → ∀ y ∈ gbI r.1, y ∈ fB R T
  | s :: R, r, h, y, hy => by
    rcases List.mem_cons.1 h with rfl | h
    · exact List.mem_append_right _ (List.mem_append_left _ hy)
    · exact List.mem_append_right _ (List.mem_append_right _ (fB_S h y hy))
theorem fB_K {T : Heap} : ∀ {R : List Row} {r : Row}, r ∈ R → ∀ y ∈ gbO r.2, y ∈ fB R T
  | s :: R, r, h, y, hy => by
    rcases List.mem_cons.1 h with rfl | h
    · exact List.mem_append_left _ hy
    · exact List.mem_append_right _ (List.mem_append_right _ (fB_K h y hy))
theorem fB_T {T : Heap} {y : Nat × Obj} (hy : y ∈ T) : ∀ (R : List Row), y ∈ fB R T
  | [] => hy
  | _ :: R => List.mem_append_right _ (List.mem_append_right _ (fB_T hy R))
theorem fB_sub {T T' : Heap} (h : List.Sublist T T') : ∀ (R : List Row), List.Sublist (fB R T) (fB R T')
  | [] => h
  | r :: R => (List.Sublist.refl _).append ((List.Sublist.refl _).append (fB_sub h R))
theorem fB_drop (r : Row) (R : List Row) (T : Heap) : List.Sublist (fB R T) (fB (r :: R) T) := (List.sublist_append_right _ _).trans (List.sublist_append_right _ _)
theorem fB_upd {b : Nat} {o o' : Obj} {T T' : Heap} (h : Upd b o o' T T') : ∀ (R : List Row), Upd b o o' (fB R T) (fB R T')
  | [] => h
  | _ :: R => ((fB_upd h R).appR _).appR _
/-- The outer block behind k rows: what is filled, the row at hand, what is still nil. -/
def ouT (vs : List Value) (v : Value) (m : Nat) : Array Value := (vs ++ v :: List.replicate m nilS).toArray
def ouS (vs : List Value) (m : Nat) : Array Value := (vs ++ List.replicate m nilS).toArray
theorem ouS_first {vs : List Value} {v : Value} {m k : Nat} (hk : vs.length = k) (hm : 0 < m) : (ouS vs m).setIfInBounds k v = ouT vs v (m - 1) := by
  obtain ⟨m', rfl⟩ : ∃ m', m = m' + 1 := ⟨m - 1, by omega⟩
  unfold ouS ouT
  simp only [List.setIfInBounds_toArray, List.replicate_succ, Nat.add_sub_cancel]
  rw [List.set_append_right _ _ (by omega), hk, Nat.sub_self, List.set_cons_zero]
theorem ouT_set {vs : List Value} {v u : Value} {m k : Nat} (hk : vs.length = k) : (ouT vs v m).setIfInBounds k u = ouT vs u m := by
  unfold ouT
  simp only [List.setIfInBounds_toArray]
  rw [List.set_append_right _ _ (by omega), hk, Nat.sub_self, List.set_cons_zero]
theorem ouT_get {vs : List Value} {v : Value} {m k : Nat} (hk : vs.length = k) : (ouT vs v m)[k]? = some v := by
  unfold ouT
  simp only [List.getElem?_toArray]
  rw [List.getElem?_append_right (by omega), hk, Nat.sub_self]
  rfl
theorem ouT_size (vs : List Value) (v : Value) (m : Nat) : (ouT vs v m).size = vs.length + (m + 1) := by simp [ouT]
theorem ouS_size (vs : List Value) (m : Nat) : (ouS vs m).size = vs.length + m := by simp [ouS]
theorem ouT_snoc (vs : List Value) (v : Value) (m : Nat) : ouT vs v m = ouS (vs ++ [v]) m := by simp [ouT, ouS]
theorem ouS_all (vs : List Value) : ouS vs 0 = vs.toArray := by simp [ouS]
theorem ouS_nil (m : Nat) : ouS [] m = (List.replicate m nilS).toArray := by simp [ouS]
/-- Rows of walks of at most t bounds from the first k layers. -/
structure WR (N : Nat) (rs : List Bd) (t k : Nat) (R : List Row) : Prop where
  len : R.length = k
  okS : ∀ r ∈ R, gok r.1.1 N 1 (ival r.1.2)
  okK : ∀ r ∈ R, gok r.2.1 N 1 (bval r.2.2)
  at_ : ∀ a, a < k → (R.reverse.getD a default).1.2 = (walkN N rs a t).sm ∧ (R.reverse.getD a default).2.2 = (walkN N rs a t).kn
theorem WR.zero (N : Nat) (rs : List Bd) (t : Nat) : WR N rs t 0 [] := ⟨rfl, fun _ h => (by cases h), fun _ h => (by cases h), fun a h => absurd h (Nat.not_lt_zero _)⟩
theorem WR.step {N : Nat} {rs : List Bd} {t k : Nat} {R : List Row} (h : WR N rs t k R) {r : Row} (h1 : gok r.1.1 N 1 (ival r.1.2)) (h2 : gok r.2.1 N 1 (bval r.2.2)) (h3 : r.1.2 = (walkN N rs k t).sm) (h4 : r.2.2 = (walkN N rs k t).kn) : WR N rs t (k + 1) (r :: R) := by
  refine ⟨by rw [List.length_cons, h.len], ?_, ?_, ?_⟩
  · intro s hs
    rcases List.mem_cons.1 hs with rfl | hs
    · exact h1
    · exact h.okS s hs
  · intro s hs
    rcases List.mem_cons.1 hs with rfl | hs
    · exact h2
    · exact h.okK s hs
  · intro a ha
    have hl := h.len
    by_cases e : a = k
    · subst e
      have e1 : (r :: R).reverse.getD a default = r := by
        simp only [List.getD, List.reverse_cons]
        rw [List.getElem?_append_right (by simp; omega)]
        simp [hl]
      rw [e1]
      exact ⟨h3, h4⟩
    · have e1 : (r :: R).reverse.getD a default = R.reverse.getD a default := by
        simp only [List.getD, List.reverse_cons]
        rw [List.getElem?_append_left (by simp; omega)]
      rw [e1]
      exact h.at_ a (by omega)
theorem WR.mem {N : Nat} {rs : List Bd} {t k : Nat} {R : List Row} (h : WR N rs t k R) {a : Nat} (ha : a < k) : R.reverse.getD a default ∈ R := by
  have hl := h.len
  have e : R.reverse.getD a default = R.reverse[a]'(by simp; omega) := by simp [List.getD, show a < R.length by omega]
  rw [e]
  exact List.mem_reverse.1 (List.getElem_mem _)
theorem WR.getS {N : Nat} {rs : List Bd} {t k : Nat} {R : List Row} (h : WR N rs t k R) {a : Nat} (ha : a < k) : (fS N R).toArray[a]? = some (gval (R.reverse.getD a default).1.1 N) := by
  have hl := h.len
  simp [fS, List.getD, show a < R.length by omega]
theorem WR.getK {N : Nat} {rs : List Bd} {t k : Nat} {R : List Row} (h : WR N rs t k R) {a : Nat} (ha : a < k) : (fK N R).toArray[a]? = some (gval (R.reverse.getD a default).2.1 N) := by
  have hl := h.len
  simp [fK, List.getD, show a < R.length by omega]
/-- No sum is greater than so many bounds can be. -/
def WBd (B : Int) (s : WSt) : Prop := ∀ b, -B ≤ s.sm.getD b 0 ∧ s.sm.getD b 0 ≤ B
theorem WBd.step {n : Int} {rs : List Bd} (hv : Valid n rs) {B : Int} {old new : WSt} {k : Nat} (hk : k < rs.length) (h1 : WBd B old) (h2 : WBd (B + 10000) new) : WBd (B + 10000) (wstep rs old new k) := by
  unfold wstep
  split
  · intro b
    have h3 := hv.at hk
    have h4 := h1 (eA rs k)
    have h5 := h2 b
    simp only [getD_set]
    split
    · show -(B + 10000) ≤ old.sm.getD (eA rs k) 0 + (rs.getD k default).m ∧ old.sm.getD (eA rs k) 0 + (rs.getD k default).m ≤ B + 10000
      omega
    · exact h5
  · exact h2
theorem WBd.pass {n : Int} {rs : List Bd} (hv : Valid n rs) {B : Int} (hB : 0 ≤ B) {old : WSt} (h1 : WBd B old) : ∀ k, k ≤ rs.length → WBd (B + 10000) (wpass rs old k)
  | 0, _ => fun b => by have := h1 b; show -(B + 10000) ≤ old.sm.getD b 0 ∧ old.sm.getD b 0 ≤ B + 10000; omega
  | k + 1, hk => WBd.step hv (by omega) h1 (WBd.pass hv hB h1 k (by omega))
theorem WBd.walk {n : Int} {rs : List Bd} (hv : Valid n rs) (N a : Nat) : ∀ t : Nat, WBd (10000 * (t : Int)) (walkN N rs a t)
  | 0 => fun b => by
    show -(10000 * ((0 : Nat) : Int)) ≤ (List.replicate N (0 : Int)).getD b 0 ∧ (List.replicate N (0 : Int)).getD b 0 ≤ 10000 * ((0 : Nat) : Int)
    have : (List.replicate N (0 : Int)).getD b 0 = 0 := by by_cases h : b < N <;> simp [List.getD, h]
    omega
  | t + 1 => by
    have h := WBd.pass hv (B := 10000 * (t : Int)) (by omega) (WBd.walk hv N a t) rs.length (Nat.le_refl _)
    intro b
    have := h b
    show -(10000 * ((t + 1 : Nat) : Int)) ≤ (wpass rs (walkN N rs a t) rs.length).sm.getD b 0 ∧ (wpass rs (walkN N rs a t) rs.length).sm.getD b 0 ≤ 10000 * ((t + 1 : Nat) : Int)
    omega
theorem wstep_yes {rs : List Bd} {old new : WSt} {k : Nat} (h1 : old.kn.getD (eA rs k) false = true) (h2 : new.kn.getD (eB rs k) false = false ∨ old.sm.getD (eA rs k) 0 + eM rs k < new.sm.getD (eB rs k) 0) :
    wstep rs old new k = ⟨new.sm.set (eB rs k) (old.sm.getD (eA rs k) 0 + eM rs k), new.kn.set (eB rs k) true⟩ := if_pos ⟨h1, h2⟩
theorem wstep_no {rs : List Bd} {old new : WSt} {k : Nat} (h : ¬ (old.kn.getD (eA rs k) false = true ∧ (new.kn.getD (eB rs k) false = false ∨ old.sm.getD (eA rs k) 0 + eM rs k < new.sm.getD (eB rs k) 0))) : wstep rs old new k = new := if_neg h
end Go.Proofs.Ytenalmddoljhoaa
