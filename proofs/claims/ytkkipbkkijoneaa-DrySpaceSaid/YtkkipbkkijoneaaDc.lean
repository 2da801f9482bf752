/- Fillings and what steps change: contracts. -/
import Derived.Test.YtkkipbkkijoneaaDb
set_option linter.unusedVariables false
set_option linter.unusedSimpArgs false
namespace Go.Proofs.Ytkkipbkkijoneaa
open Go.Sx Go.RowKit

theorem go_len {h : HD} {n : Nat} {xs l : List Int} (ho : gok h n 1 (ival xs)) (hl : l.length = n) : gok h n 1 (ival l) := by
  obtain ⟨h1, h2⟩ := ho
  refine ⟨by simp [hl], ?_⟩
  cases h with
  | none => exact h2
  | some hh =>
    obtain ⟨b, c, sp⟩ := hh
    simp only [List.length_map] at h1 h2 ⊢
    exact ⟨by omega, h2.2⟩
theorem go_lenI {h : HD} {n : Nat} {xs l : List Int} (ho : gok h n 1 (ival xs)) (hl : l.length = n) : goI (h, l) := by
  have := go_len ho hl
  subst hl
  exact this
section
variable {P : Program} {n : Nat} {w0 : World} {E : Env} {G : Heap} {d : Option Nat} {ty : TypeId} {pos : String} {aft : Array Edge} {g : Option (Nat × Bool)}
theorem PV.build0 {t m e sz : Nat} {a : Array Value} (hz : zeroOf P t = some (.agg a)) (ha : arrOf P t = some (m, e, sz)) : PV P n w0 E G ⟨d, .build t #[], ty, pos, aft, g⟩ (.agg a) :=
  fun A w hs => by
    unfold arrOf at ha
    cases hu : P.underlying t with
    | none => simp [hu] at ha
    | some u =>
      cases u <;> simp only [hu] at ha <;> try (simp at ha; done)
      rename_i m' e'
      cases hi2 : P.info? e' with
      | none => simp [hi2] at ha
      | some inf =>
        have hzr := zero_run hz w
        simp only [execOp]
        simp [Instr.build, hzr, run_underlying hu, sizeOf, typeInfo, hi2, Instr.fill, Value.cells]
end
theorem nil25_guard (x y : Operand) (a : Option Addr) (k c : Nat) (w : World) : (eqGuard .eql 25 x y (.slice a k c) (.slice none 0 0)).run Try.prog w = .ok () w := by simp [eqGuard]
theorem nil25 (a : Option Addr) (k c : Nat) (w : World) : (binOp .eql 25 (.slice a k c) (.slice none 0 0)).run Try.prog w = .ok (.bool a.isNone) w := Go.Lib.run_eql_slice_nil w 25 3 a k c 0 0 Tb.sl_25
theorem IntsAt.pre {w0 w : World} {G : Heap} {b k : Nat} {xs : List Int} {e : TypeId} (hn : New w0 w G) (hm : (b, Obj.cells (intsA xs) e (0, 0)) ∈ G) : IntsAt w (some ⟨b, 0, none⟩) (xs.take k) := by
  intro j hj
  rw [List.length_take] at hj
  obtain ⟨q, e1, h1⟩ := IntsAt.arr hn hm j (by omega)
  refine ⟨q, e1, ?_⟩
  rw [h1]
  congr 2
  rw [List.getD_eq_getElem?_getD, List.getD_eq_getElem?_getD, List.getElem?_take, if_pos (by omega)]
theorem arr_70 : arrOf Try.prog 70 = some (6, 3, 1) := by kernel_rfl
theorem sz_3 : (Try.prog.info? 3).map (·.size) = some 1 := by kernel_rfl
theorem ints_one (xs : List Int) : (xs.map (Value.int .i64)).all Value.oneCell' = true := ival_one xs
theorem map_len {xs : List Int} {k : Nat} (h : xs.length = k) : (xs.map (Value.int .i64)).length = k := by rw [List.length_map, h]
def Z6 : Array Value := #[.int .i64 0, .int .i64 0, .int .i64 0, .int .i64 0, .int .i64 0, .int .i64 0]
/-- The list as an array: 0 behind its end. -/
def pad6 (xs : List Int) : List Int := xs ++ List.replicate (6 - xs.length) 0
theorem pad_len {xs : List Int} (h : xs.length ≤ 6) : (pad6 xs).length = 6 := by
  unfold pad6
  rw [List.length_append, List.length_replicate]
  omega
theorem pad_put {xs : List Int} (h : xs.length ≤ 6) : putA Z6 0 (xs.map (Value.int .i64)) = intsA (pad6 xs) := by
  have h1 := putA_list (xs.map (Value.int .i64)) 0 ((List.replicate 6 (0 : Int)).map (Value.int .i64)) (by simp; omega)
  rw [show Z6 = ((List.replicate 6 (0 : Int)).map (Value.int .i64)).toArray from rfl]
  refine Array.toList_inj.1 ?_
  rw [h1]
  unfold intsA pad6
  simp only [List.take_zero, List.nil_append, List.length_map, Nat.zero_add, List.map_append, ← List.map_drop, List.drop_replicate]
theorem pad_at (xs : List Int) (k : Nat) : (pad6 xs).getD k 0 = xs.getD k 0 := by
  unfold pad6
  rw [List.getD_eq_getElem?_getD, List.getD_eq_getElem?_getD]
  by_cases h : k < xs.length
  · rw [List.getElem?_append_left h]
  · rw [List.getElem?_append_right (by omega), List.getElem?_eq_none (l := xs) (by omega), List.getElem?_replicate]
    split <;> rfl
theorem pad_take (xs : List Int) : (pad6 xs).take xs.length = xs := by unfold pad6; rw [List.take_append_of_le_length (Nat.le_refl _), List.take_of_length_le (Nat.le_refl _)]
theorem pad_inj {xs ys : List Int} (hl : xs.length = ys.length) (h : pad6 xs = pad6 ys) : xs = ys := by
  have := congrArg (List.take xs.length) h
  rw [pad_take, hl, pad_take] at this
  exact this
theorem pad_eq {xs ys : List Int} (hx : xs.length ≤ 6) (hl : ys.length = 6) (h : ∀ k, k < 6 → ys.getD k 0 = xs.getD k 0) : ys = pad6 xs :=
  ints_ext (by rw [hl, pad_len hx]) fun j hj => by rw [pad_at, h j (by omega)]
def canB (m : List Int) (s : St) : Bool := (List.range s.t.length).all fun p => decide (s.t.getD p 0 ≤ m.getD p 0)
theorem can_at {m : List Int} {s : St} (h : canB m s = true) {p : Nat} (hp : p < s.t.length) : s.t.getD p 0 ≤ m.getD p 0 := by
  unfold canB at h
  rw [List.all_eq_true] at h
  exact of_decide_eq_true (h p (List.mem_range.2 hp))
theorem can_no {m : List Int} {s : St} {p : Nat} (hp : p < s.t.length) (h : ¬ s.t.getD p 0 ≤ m.getD p 0) : canB m s = false := by
  rw [Bool.eq_false_iff]
  intro h1
  exact h (can_at h1 hp)
theorem can_yes {m : List Int} {s : St} (h : ∀ p, p < s.t.length → s.t.getD p 0 ≤ m.getD p 0) : canB m s = true := by
  unfold canB
  rw [List.all_eq_true]
  exact fun p hp => decide_eq_true (h p (List.mem_range.1 hp))
def effL (s : St) : List Int := mk s.g.length fun p => s.g.getD p 0 - s.t.getD p 0
def efK (s : St) (k : Nat) : List Int := mk s.g.length fun p => s.g.getD p 0 - if p < k then s.t.getD p 0 else 0
theorem efK_len (s : St) (k : Nat) : (efK s k).length = s.g.length := mk_len _ _
theorem efK_zero (s : St) : efK s 0 = s.g := (mk_eq rfl fun j _ => by simp).symm
theorem efK_at {s : St} {k : Nat} (hk : k < s.g.length) : (efK s k).getD k 0 = s.g.getD k 0 := by unfold efK; rw [mk_at _ hk]; simp
theorem efK_put {s : St} {k : Nat} (hk : k < s.g.length) : (efK s k).set k (s.g.getD k 0 - s.t.getD k 0) = efK s (k + 1) :=
  mk_set hk (by simp) fun j _ hj => by
    show s.g.getD j 0 - (if j < k then _ else _) = s.g.getD j 0 - (if j < k + 1 then _ else _)
    by_cases h : j < k
    · rw [if_pos h, if_pos (by omega)]
    · rw [if_neg h, if_neg (by omega)]
theorem efK_end (s : St) {k : Nat} (hk : s.g.length ≤ k) : efK s k = effL s := mk_congr fun j hj => by rw [if_pos (by omega)]
theorem eff_len (s : St) : (effL s).length = s.g.length := mk_len _ _
theorem eff_at {s : St} {k : Nat} (hk : k < s.g.length) : (effL s).getD k 0 = s.g.getD k 0 - s.t.getD k 0 := mk_at _ hk
def doN (m : List Int) (s : St) : List Int := mk m.length fun p => m.getD p 0 - s.t.getD p 0 + s.g.getD p 0
theorem doN_len (m : List Int) (s : St) : (doN m s).length = m.length := mk_len _ _
theorem doN_at {m : List Int} {s : St} {p : Nat} (hp : p < m.length) : (doN m s).getD p 0 = m.getD p 0 - s.t.getD p 0 + s.g.getD p 0 := mk_at _ hp
def doI (m : List Int) (s : St) : Int := if canB m s = true then if ((doN m s).all fun x => wiB x 0 50) = true then 0 else 3 else 6
def doL (m : List Int) (s : St) : List Int := if doI m s = 0 then doN m s else []
theorem do_6 {m : List Int} {s : St} (h : ¬ canB m s = true) : doI m s = 6 := if_neg h
theorem do_3 {m : List Int} {s : St} (h : canB m s = true) {p : Nat} (hp : p < m.length) (h2 : ¬ (0 ≤ (doN m s).getD p 0 ∧ (doN m s).getD p 0 ≤ 50)) : doI m s = 3 := by
  unfold doI
  rw [if_pos h, if_neg (by rw [all_no (f := fun x => wiB x 0 50) (k := p) (d := (0 : Int)) (by rw [doN_len]; exact hp) (decide_eq_false h2)]; decide)]
theorem do_0 {m : List Int} {s : St} (h : canB m s = true) (h2 : ∀ p, p < m.length → 0 ≤ (doN m s).getD p 0 ∧ (doN m s).getD p 0 ≤ 50) : doI m s = 0 := by
  unfold doI
  rw [if_pos h, if_pos (all_yes (f := fun x => wiB x 0 50) (d := (0 : Int)) fun p hp => decide_eq_true (h2 p (by rw [doN_len] at hp; exact hp)))]
theorem do_of {m : List Int} {s : St} (h : doI m s = 0) : canB m s = true ∧ doL m s = doN m s ∧ ∀ p, 0 ≤ (doN m s).getD p 0 ∧ (doN m s).getD p 0 ≤ 50 := by
  refine ⟨?_, if_pos h, ?_⟩
  · unfold doI at h
    split at h
    · assumption
    · cases h
  · unfold doI at h
    split at h
    · split at h
      · rename_i h1 h2
        intro p
        by_cases hp : p < (doN m s).length
        · exact of_decide_eq_true (all_at' (f := fun x => wiB x 0 50) (d := (0 : Int)) h2 hp)
        · rw [List.getD_eq_getElem?_getD, List.getElem?_eq_none (by omega)]
          exact ⟨by decide, by decide⟩
      · cases h
    · cases h
/-- A step that fits a filling. -/
structure Fits (m : List Int) (s : St) : Prop where
  m6 : m.length ≤ 6
  tl : s.t.length = m.length
  gl : s.g.length = m.length
  mb : ∀ k, 0 ≤ m.getD k 0 ∧ m.getD k 0 ≤ 50
  tb : ∀ k, 0 ≤ s.t.getD k 0 ∧ s.t.getD k 0 ≤ 3
  gb : ∀ k, 0 ≤ s.g.getD k 0 ∧ s.g.getD k 0 ≤ 3
theorem VM.fits {n : Int} {ss : List St} {xs : List Int} (h : VM n ss xs) {k : Nat} (hk : k < ss.length) : Fits xs (ss.getD k default) :=
  ⟨h.l6, by have := (h.tl hk).1; have := h.ml; omega, by have := (h.tl hk).2; have := h.ml; omega, h.mb, fun j => (h.tb hk j).1, fun j => (h.tb hk j).2⟩
theorem Fits.low {m : List Int} {s : St} (h : Fits m s) (hc : canB m s = true) (p : Nat) : 0 ≤ (doN m s).getD p 0 ∧ (doN m s).getD p 0 ≤ 53 := by
  by_cases hp : p < m.length
  · rw [doN_at hp]
    have h1 := can_at hc (p := p) (by have := h.tl; omega)
    have h2 := h.mb p
    have h3 := h.tb p
    have h4 := h.gb p
    omega
  · rw [List.getD_eq_getElem?_getD, List.getElem?_eq_none (by rw [doN_len]; omega)]
    exact ⟨by decide, by decide⟩
theorem VM.next {n : Int} {ss : List St} {xs : List Int} (h : VM n ss xs) {k : Nat} (hk : k < ss.length) (h0 : doI xs (ss.getD k default) = 0) : VM n ss (doN xs (ss.getD k default)) :=
  ⟨h.toVY, by rw [doN_len]; exact h.ml, (do_of h0).2.2⟩
/-- An array behind the first places of a step. -/
def stK (m : List Int) (s : St) (k : Nat) : List Int := mk 6 fun p => m.getD p 0 + if p < k then s.g.getD p 0 - s.t.getD p 0 else 0
theorem stK_len (m : List Int) (s : St) (k : Nat) : (stK m s k).length = 6 := mk_len _ _
theorem stK_zero {m : List Int} (s : St) (h : m.length ≤ 6) : pad6 m = stK m s 0 := (pad_eq h (stK_len _ _ _) fun k hk => by unfold stK; rw [mk_at _ hk]; simp).symm
theorem stK_at {m : List Int} {s : St} {k : Nat} (hk : k < 6) : (stK m s k).getD k 0 = m.getD k 0 := by unfold stK; rw [mk_at _ hk]; simp
theorem stK_put {m : List Int} {s : St} {k : Nat} (hk : k < 6) : (stK m s k).set k (m.getD k 0 + (s.g.getD k 0 - s.t.getD k 0)) = stK m s (k + 1) :=
  mk_set hk (by simp) fun j _ hj => by
    show m.getD j 0 + (if j < k then _ else _) = m.getD j 0 + (if j < k + 1 then _ else _)
    by_cases h : j < k
    · rw [if_pos h, if_pos (by omega)]
    · rw [if_neg h, if_neg (by omega)]
theorem stK_end {m : List Int} {s : St} (h : Fits m s) : stK m s m.length = pad6 (doN m s) := pad_eq (by rw [doN_len]; exact h.m6) (stK_len _ _ _) fun k hk => by
  unfold stK
  rw [mk_at _ hk]
  by_cases h1 : k < m.length
  · rw [doN_at h1, if_pos h1]; omega
  · rw [if_neg h1, List.getD_eq_getElem?_getD, List.getElem?_eq_none (by omega), List.getD_eq_getElem?_getD, List.getElem?_eq_none (by rw [doN_len]; omega)]
    rfl
theorem max_3 {m : List Int} {s : St} (h : Fits m s) (hc : canB m s = true) {i : Int} (hi : ∃ j, j < 6 ∧ i = (pad6 (doN m s)).getD j 0) (h5 : 50 < i) : doI m s = 3 := by
  obtain ⟨j, hj, rfl⟩ := hi
  rw [pad_at] at h5
  by_cases h1 : j < m.length
  · exact do_3 hc h1 (by omega)
  · rw [List.getD_eq_getElem?_getD, List.getElem?_eq_none (by rw [doN_len]; omega)] at h5
    exact absurd h5 (by decide)
theorem max_0 {m : List Int} {s : St} (h : Fits m s) (hc : canB m s = true) {i : Int} (hi : ∀ j, j < 6 → (pad6 (doN m s)).getD j 0 ≤ i) (h5 : ¬ 50 < i) : doI m s = 0 :=
  do_0 hc fun p hp => by
    have h1 := hi p (by have := h.m6; omega)
    rw [pad_at] at h1
    have := h.low hc p
    omega
theorem doL_z {m : List Int} {s : St} (h : doI m s ≠ 0) : doL m s = [] := if_neg h
theorem padL_z {m : List Int} {s : St} (h : doI m s ≠ 0) : pad6 (doL m s) = List.replicate 6 0 := by rw [doL_z h]; rfl


set_option maxRecDepth 100000 in
set_option maxHeartbeats 1000000 in
theorem clone_ok (w0 : World) (pl : Option Addr) (cl : Nat) (xs : List Int) (hx : IntsAt w0 pl xs) (hl : xs.length ≤ 1000000) :
    Calls Try.prog 97 #[.slice pl xs.length cl] w0 (Post (X := HD) (fun h => gval h xs.length) (fun h => goI (h, xs)) (fun h => gbI (h, xs)) w0) := by
  refine calls Try.func97 rfl (n := 8) rfl (by simp) ?_
  refine TC.seq ?_
  refine TC.region ?_
  refine TL.pure (PV.assign rfl) rfl (by decide) ?_
  refine TL.nil ?_
  refine TQ.thenC ?_
  refine TC.seq ?_
  refine TC.seq ?_
  refine TC.region ?_
  refine TL.pure (PV.move rfl) rfl (by decide) ?_
  refine TL.pure (PV.cmp rfl rfl (nil25_guard _ _ _ _ _) (nil25 _ _ _)) rfl (by decide) ?_
  refine TL.nil ?_
  refine TQ.thenC ?_
  first | refine TC.condD rfl (fun hnil => ?_) (fun hnil => ?_) | refine TC.cond rfl (fun hnil => ?_) (fun hnil => ?_)
  · skip
    refine TC.seq ?_
    refine TC.region ?_
    refine TL.pure (PV.assign rfl) rfl (by decide) ?_
    refine TL.nil ?_
    refine TQ.thenC ?_
    refine TC.ret ?_
    refine TQ.thenR ?_
    refine TQ.retE1 rfl rfl ?_
    have hp0 : pl = none := by simpa using hnil
    subst hp0
    have hx0 := ints_nil hx
    subst hx0
    exact ⟨none, rfl, ⟨rfl, rfl⟩, List.nil_sublist _⟩
  · skip
    refine TC.skip ?_
    refine TQ.thenC ?_
    refine TC.seq ?_
    refine TC.region ?_
    refine TL.buildSlice0 Tb.sl_25 Tb.zi_3 rfl (by decide) (fun bE hbE => ?_)
    refine TL.pure (PV.move rfl) rfl (by decide) ?_
    refine TL.append0 (news := ival xs) rfl rfl Tb.sl_25 Tb.zi_3 rfl (Take.head _) (fun w' hN => ints_src Tb.sl_25 rfl (hx.new hN)) (by omega) (by omega) rfl (by decide) (fun h1 hh1 => ?_)
    refine TL.pure (PV.assign rfl) rfl (by decide) ?_
    refine TL.nil ?_
    refine TQ.thenC ?_
    refine TC.ret ?_
    refine TQ.retE1 rfl rfl ?_
    exact ⟨h1, rfl, by simpa [goI] using hh1, List.sublist_append_left _ _⟩

set_option maxRecDepth 100000 in
set_option maxHeartbeats 1000000 in
theorem fillingOf_ok (w0 : World) (pl : Option Addr) (cl : Nat) (xs : List Int) (hx : IntsAt w0 pl xs) (hl : xs.length ≤ 6) :
    Calls Try.prog 63 #[.slice pl xs.length cl] w0 (Post (X := Unit) (fun _ => .agg (intsA (pad6 xs))) (fun _ => True) (fun _ => []) w0) := by
  refine calls Try.func63 rfl (n := 8) rfl (by simp) ?_
  refine TC.seq ?_
  refine TC.region ?_
  refine TL.alloc Tb.zero_70 rfl (by decide) (fun b0 hb0 => ?_)
  refine TL.nil ?_
  refine TQ.thenC ?_
  refine TC.seq ?_
  refine TC.region ?_
  refine TL.alloc Tb.zero_70 rfl (by decide) (fun b1 hb1 => ?_)
  refine TL.nil ?_
  refine TQ.thenC ?_
  refine TC.seq ?_
  refine TC.region ?_
  refine TL.pure (PV.sliceAll rfl arr_70 (by decide)) rfl (by decide) ?_
  refine TL.pure (PV.move rfl) rfl (by decide) ?_
  refine TL.copyI (xs := xs) (arr := Z6) (e := 3) rfl rfl Tb.sl_25 sz_3 hx hl (by decide) (by rw [pad_put hl]; exact (by repeat (first | exact Upd.head _ | apply Upd.tail | apply Upd.appR))) rfl (by decide) ?_
  refine TL.nil ?_
  refine TQ.thenC ?_
  refine TC.seq ?_
  refine TC.region ?_
  refine TL.pure (PV.loadBox (cs := (pad6 xs).map (Value.int .i64)) rfl Tb.agg_70 (by repeat (first | exact List.Mem.head _ | refine List.Mem.tail _ ?_ | refine List.mem_append_right _ ?_)) (map_len (pad_len hl))) rfl (by decide) ?_
  refine TL.storeAgg (vs := (pad6 xs).map (Value.int .i64)) rfl rfl Tb.cells_70 (by repeat (first | exact Upd.head _ | apply Upd.tail | apply Upd.appR)) (map_len (pad_len hl)) rfl (ints_one _) rfl rfl ?_
  refine TL.nil ?_
  refine TQ.thenC ?_
  refine TC.ret ?_
  refine TQ.retR rfl (Res.agg rfl Tb.agg_70 (by repeat (first | exact List.Mem.head _ | refine List.Mem.tail _ ?_ | refine List.mem_append_right _ ?_)) (map_len (pad_len hl)) Res.nil) ?_
  simp only [tup]
  exact ⟨(), rfl, trivial, List.nil_sublist _⟩

set_option maxRecDepth 100000 in
set_option maxHeartbeats 1000000 in
theorem allows_ok (w0 : World) (m : List Int) (hm : m.length ≤ 6) (p1 p2 : Option Addr) (c1 c2 : Nat) (s : St) (h1 : IntsAt w0 p1 s.t) (h2 : IntsAt w0 p2 s.g) (hl : s.t.length = m.length) :
    Calls Try.prog 64 #[.agg (intsA (pad6 m)), sv p1 s.t.length c1 p2 s.g.length c2] w0 (Post (X := Unit) (fun _ => .bool (canB m s)) (fun _ => True) (fun _ => []) w0) := by
  refine calls Try.func64 rfl (n := 21) rfl (by simp) ?_
  refine TC.seq ?_
  refine TC.region ?_
  refine TL.box rfl rfl (by decide) (fun b0 hb0 => ?_)
  refine TL.box rfl rfl (by decide) (fun b1 hb1 => ?_)
  refine TL.pure (PV.assign rfl) rfl (by decide) ?_
  refine TL.nil ?_
  refine TQ.thenC ?_
  refine TC.seq ?_
  refine TC.seq ?_
  refine TC.region ?_
  refine TL.pure (PV.fieldAddr rfl Tb.fo_63_0) rfl (by decide) ?_
  refine TL.pure (PV.load rfl Tb.one_25 (by repeat (first | exact List.Mem.head _ | refine List.Mem.tail _ ?_ | refine List.mem_append_right _ ?_)) rfl) rfl (by decide) ?_
  refine TL.pure (PV.len rfl Tb.sl_25) rfl (by decide) ?_
  refine TL.pure (PV.move rfl) rfl (by decide) ?_
  refine TL.nil ?_
  refine TQ.thenC ?_
  refine TC.block ?_
  -- live and written in the loop, not told: [4]
  refine TC.loopG [2, 8, 9] (X := Nat) (fun k => k ≤ s.t.length ∧ ∀ j, j < k → s.t.getD j 0 ≤ m.getD j 0) (fun k => [(10, .int .i64 k)]) (fun k => s.t.length - k) 0 ⟨Nat.zero_le _, fun j hj => absurd hj (Nat.not_lt_zero _)⟩ (by repeat (first | exact True.intro | refine And.intro rfl ?_)) ?_
  intro k hk
  refine TC.seq ?_
  refine TC.region ?_
  refine TL.pure (PV.lss rfl rfl) rfl (by decide) ?_
  refine TL.nil ?_
  refine TQ.thenC ?_
  refine TC.seq ?_
  first | refine TC.condD rfl (fun hlt => ?_) (fun hlt => ?_) | refine TC.cond rfl (fun hlt => ?_) (fun hlt => ?_)
  · skip
    refine TC.skip ?_
    refine TQ.thenC ?_
    refine TC.seq ?_
    refine TC.block ?_
    refine TC.seq ?_
    obtain ⟨q2, hq2p, hq2⟩ := h1 k (by omega)
    refine TC.region ?_
    refine TL.pure (PV.move rfl) rfl (by decide) ?_
    refine TL.pure (PV.indexA rfl hq2p rfl Tb.elm_25 rfl (by omega)) rfl (by decide) ?_
    refine TL.pure (PV.loadOld rfl Tb.one_3 hq2) rfl (by decide) ?_
    refine TL.pure (PV.assign rfl) rfl (by decide) ?_
    refine TL.pure (PV.assign rfl) rfl (by decide) ?_
    refine TL.nil ?_
    refine TQ.thenC ?_
    refine TC.seq ?_
    refine TC.region ?_
    refine TL.pure (PV.move rfl) rfl (by decide) ?_
    refine TL.pure (PV.indexArr (j := k) rfl rfl arr_70 rfl (by omega)) rfl (by decide) ?_
    refine TL.pure (PV.loadIv (xs := pad6 m) (j := k) (v := m.getD k 0) rfl Tb.one_3 (by repeat (first | exact List.Mem.head _ | refine List.Mem.tail _ ?_ | refine List.mem_append_right _ ?_)) (by rw [pad_len hm]; omega) (pad_at m k)) rfl (by decide) ?_
    refine TL.pure (PV.move rfl) rfl (by decide) ?_
    refine TL.pure (PV.lss rfl rfl) rfl (by decide) ?_
    refine TL.nil ?_
    refine TQ.thenC ?_
    first | refine TC.condD rfl (fun hno => ?_) (fun hno => ?_) | refine TC.cond rfl (fun hno => ?_) (fun hno => ?_)
    · skip
      refine TC.seq ?_
      refine TC.region ?_
      refine TL.pure (PV.assign rfl) rfl (by decide) ?_
      refine TL.nil ?_
      refine TQ.thenC ?_
      refine TC.ret ?_
      refine TQ.blkR ?_
      refine TQ.thenR ?_
      refine TQ.thenR ?_
      refine TQ.blkR ?_
      refine TQ.thenR ?_
      refine TQ.retE1 rfl rfl ?_
      exact ⟨(), by rw [can_no (p := k) (by omega) (by omega)], trivial, List.nil_sublist _⟩
    · skip
      refine TC.skip ?_
      refine TQ.blkN ?_
      refine TQ.thenC ?_
      refine TC.region ?_
      refine TL.pure (PV.add rfl rfl (by omega)) rfl (by decide) ?_
      refine TL.pure (PV.move rfl) rfl (by decide) ?_
      refine TL.nil ?_
      refine TQ.thenN ?_
      refine TQ.backK (k + 1) (by repeat (first | exact True.intro | refine And.intro rfl ?_)) (by repeat (first | exact True.intro | refine And.intro rfl ?_)) (by repeat (first | exact List.Sublist.slnil | exact List.nil_sublist _ | exact List.Sublist.refl _ | refine List.Sublist.cons_cons _ ?_ | refine List.Sublist.cons _ ?_ | refine List.Sublist.trans ?_ (List.sublist_append_right _ _))) ⟨by omega, fun j hj => if e : j < k then hk.2 j e else (show k = j by omega) ▸ (by omega)⟩ (by omega)
  · skip
    refine TC.exit ?_
    refine TQ.thenE ?_
    refine TQ.thenE ?_
    refine TQ.blkS ?_
    refine TQ.thenC ?_
    refine TC.seq ?_
    refine TC.region ?_
    refine TL.pure (PV.assign rfl) rfl (by decide) ?_
    refine TL.nil ?_
    refine TQ.thenC ?_
    refine TC.ret ?_
    refine TQ.retE1 rfl rfl ?_
    exact ⟨(), by rw [can_yes (fun j hj => hk.2 j (by omega))], trivial, List.nil_sublist _⟩

set_option maxRecDepth 100000 in
set_option maxHeartbeats 1000000 in
theorem effect_ok (w0 : World) (p1 p2 : Option Addr) (c1 c2 : Nat) (s : St) (h1 : IntsAt w0 p1 s.t) (h2 : IntsAt w0 p2 s.g) (hl : s.t.length = s.g.length) (hl6 : s.g.length ≤ 1000000) (hb : ∀ k, (-1000000 ≤ s.t.getD k 0 ∧ s.t.getD k 0 ≤ 1000000) ∧ -1000000 ≤ s.g.getD k 0 ∧ s.g.getD k 0 ≤ 1000000) :
    Calls Try.prog 79 #[sv p1 s.t.length c1 p2 s.g.length c2] w0 (Post (X := HD) (fun h => gval h s.g.length) (fun h => goI (h, effL s)) (fun h => gbI (h, effL s)) w0) := by
  refine calls Try.func79 rfl (n := 26) rfl (by simp) ?_
  refine TC.seq ?_
  refine TC.region ?_
  refine TL.box rfl rfl (by decide) (fun b0 hb0 => ?_)
  refine TL.pure (PV.assign rfl) rfl (by decide) ?_
  refine TL.nil ?_
  refine TQ.thenC ?_
  refine TC.seq ?_
  refine TC.region ?_
  refine TL.pure (PV.fieldAddr rfl Tb.fo_63_1) rfl (by decide) ?_
  refine TL.pure (PV.load rfl Tb.one_25 (by repeat (first | exact List.Mem.head _ | refine List.Mem.tail _ ?_ | refine List.mem_append_right _ ?_)) rfl) rfl (by decide) ?_
  refine TL.call rfl Tb.gofn_97 (fun a w hs => clone_ok w _ _ _ (h2.new hs.new) hl6) rfl (by decide) (fun h9 hh9 => ?_)
  refine TL.pure (PV.assign rfl) rfl (by decide) ?_
  refine TL.nil ?_
  refine TQ.thenC ?_
  refine TC.seq ?_
  refine TC.seq ?_
  refine TC.region ?_
  refine TL.pure (PV.fieldAddr rfl Tb.fo_63_0) rfl (by decide) ?_
  refine TL.pure (PV.load rfl Tb.one_25 (by repeat (first | exact List.Mem.head _ | refine List.Mem.tail _ ?_ | refine List.mem_append_right _ ?_)) rfl) rfl (by decide) ?_
  refine TL.pure (PV.len rfl Tb.sl_25) rfl (by decide) ?_
  refine TL.pure (PV.move rfl) rfl (by decide) ?_
  refine TL.nil ?_
  refine TQ.thenC ?_
  refine TC.block ?_
  refine TC.loopK [2, 3, 10, 11] (X := Nat) (fun k => k ≤ s.t.length) (fun k => [(12, .int .i64 k)]) (fun k => gbI (h9, efK s k) ++ [(b0, Obj.cells #[.slice p1 s.t.length c1, .slice p2 s.g.length c2] 63 (0, 0))]) (fun k => s.t.length - k) 0 (Nat.zero_le _) (by repeat (first | exact True.intro | refine And.intro rfl ?_)) (by rw [efK_zero]; exact List.Sublist.refl _) ?_
  intro k hk
  refine TC.seq ?_
  refine TC.region ?_
  refine TL.pure (PV.lss rfl rfl) rfl (by decide) ?_
  refine TL.nil ?_
  refine TQ.thenC ?_
  refine TC.seq ?_
  first | refine TC.condD rfl (fun hlt => ?_) (fun hlt => ?_) | refine TC.cond rfl (fun hlt => ?_) (fun hlt => ?_)
  · skip
    refine TC.skip ?_
    refine TQ.thenC ?_
    refine TC.seq ?_
    refine TC.block ?_
    refine TC.seq ?_
    obtain ⟨q2, hq2p, hq2⟩ := h1 k (by omega)
    have hbk := hb k
    have hok : goI (h9, efK s k) := go_lenI hh9 (efK_len s k)
    refine TC.region ?_
    refine TL.pure (PV.move rfl) rfl (by decide) ?_
    refine TL.pure (PV.indexA rfl hq2p rfl Tb.elm_25 rfl (by omega)) rfl (by decide) ?_
    refine TL.pure (PV.loadOld rfl Tb.one_3 hq2) rfl (by decide) ?_
    refine TL.pure (PV.assign rfl) rfl (by decide) ?_
    refine TL.pure (PV.assign rfl) rfl (by decide) ?_
    refine TL.nil ?_
    refine TQ.thenC ?_
    refine TC.region ?_
    refine TL.pure (PV.move rfl) rfl (by decide) ?_
    refine TL.pure (PV.move rfl) rfl (by decide) ?_
    refine TL.pure (PV.indexG (j := k) rfl rfl hh9 Tb.elm_25 rfl (by omega)) rfl (by decide) ?_
    refine TL.pure (PV.loadGI (y := (h9, efK s k)) (j := k) (v := s.g.getD k 0) rfl Tb.one_3 (fun yy hyy => by repeat (first | exact List.mem_append_left _ hyy | exact List.mem_append_left _ (List.mem_append_right _ hyy) | exact List.mem_append_left _ (List.mem_append_left _ hyy) | refine List.mem_append_right _ ?_ | refine List.Mem.tail _ ?_)) hok (by show k < (efK s k).length; rw [efK_len]; omega) (efK_at (by omega))) rfl (by decide) ?_
    refine TL.pure (PV.move rfl) rfl (by decide) ?_
    refine TL.pure (PV.sub rfl rfl (by omega)) rfl (by decide) ?_
    refine TL.pure (PV.indexG (j := k) rfl rfl hh9 Tb.elm_25 rfl (by omega)) rfl (by decide) ?_
    refine TL.putI (h := h9) (xs := efK s k) (xs' := efK s (k + 1)) (j := k) rfl rfl Tb.cells_3 hok (efK_put (by omega)) (by repeat (first | exact PutH.here _ _ _ _ | apply PutH.tail | apply PutH.app)) (by rw [efK_len]; omega) rfl rfl ?_
    refine TL.nil ?_
    refine TQ.blkN ?_
    refine TQ.thenC ?_
    refine TC.region ?_
    refine TL.pure (PV.add rfl rfl (by omega)) rfl (by decide) ?_
    refine TL.pure (PV.move rfl) rfl (by decide) ?_
    refine TL.nil ?_
    refine TQ.thenN ?_
    refine TQ.backK (k + 1) (by repeat (first | exact True.intro | refine And.intro rfl ?_)) (by repeat (first | exact True.intro | refine And.intro rfl ?_)) (List.Sublist.refl _) (by omega) (by omega)
  · skip
    refine TC.exit ?_
    refine TQ.thenE ?_
    refine TQ.thenE ?_
    refine TQ.blkS ?_
    refine TQ.thenC ?_
    refine TC.seq ?_
    have hok : goI (h9, efK s k) := go_lenI hh9 (efK_len s k)
    refine TC.region ?_
    refine TL.pure (PV.move rfl) rfl (by decide) ?_
    refine TL.pure (PV.assign rfl) rfl (by decide) ?_
    refine TL.nil ?_
    refine TQ.thenC ?_
    refine TC.ret ?_
    refine TQ.retE1 rfl rfl ?_
    have hke := efK_end s (k := k) (by omega)
    exact ⟨h9, rfl, by rw [← hke]; exact hok, by rw [← hke]; exact List.sublist_append_left _ _⟩

set_option maxRecDepth 100000 in
set_option maxHeartbeats 1000000 in
theorem max_ok (w0 : World) (pl : Option Addr) (cl : Nat) (xs : List Int) (hx : IntsAt w0 pl xs) (hl : 1 ≤ xs.length ∧ xs.length ≤ 1000000) :
    Calls Try.prog 104 #[.slice pl xs.length cl] w0 (Post (X := Int) (fun i => .int .i64 i) (fun i => (∀ j, j < xs.length → xs.getD j 0 ≤ i) ∧ ∃ j, j < xs.length ∧ i = xs.getD j 0) (fun _ => []) w0) := by
  refine calls Try.func104 rfl (n := 25) rfl (by simp) ?_
  refine TC.seq ?_
  refine TC.region ?_
  refine TL.pure (PV.assign rfl) rfl (by decide) ?_
  refine TL.nil ?_
  refine TQ.thenC ?_
  refine TC.seq ?_
  refine TC.seq ?_
  refine TC.region ?_
  refine TL.pure (PV.move rfl) rfl (by decide) ?_
  refine TL.pure (PV.len rfl Tb.sl_25) rfl (by decide) ?_
  refine TL.pure (PV.lss rfl rfl) rfl (by decide) ?_
  refine TL.nil ?_
  refine TQ.thenC ?_
  first | refine TC.condD rfl (fun hlt0 => ?_) (fun hlt0 => ?_) | refine TC.cond rfl (fun hlt0 => ?_) (fun hlt0 => ?_)
  · skip
    exfalso; omega
  · skip
    refine TC.skip ?_
    refine TQ.thenC ?_
    refine TC.seq ?_
    obtain ⟨q1, hq1p, hq1⟩ := hx 0 (by omega)
    refine TC.region ?_
    refine TL.pure (PV.move rfl) rfl (by decide) ?_
    refine TL.pure (PV.indexA (j := 0) rfl hq1p rfl Tb.elm_25 rfl (by omega)) rfl (by decide) ?_
    refine TL.pure (PV.loadOld rfl Tb.one_3 hq1) rfl (by decide) ?_
    refine TL.pure (PV.assign rfl) rfl (by decide) ?_
    refine TL.nil ?_
    refine TQ.thenC ?_
    refine TC.seq ?_
    refine TC.seq ?_
    refine TC.region ?_
    refine TL.pure (PV.assign rfl) rfl (by decide) ?_
    refine TL.nil ?_
    refine TQ.thenC ?_
    refine TC.block ?_
    refine TC.loopG [0, 2] (X := Nat × Int) (fun x => 1 ≤ x.1 ∧ x.1 ≤ xs.length ∧ (∀ j, j < x.1 → xs.getD j 0 ≤ x.2) ∧ ∃ j, j < xs.length ∧ x.2 = xs.getD j 0) (fun x => [(4, .int .i64 x.1), (3, .int .i64 x.2)]) (fun x => xs.length - x.1) (1, xs.getD 0 0) ⟨Nat.le_refl _, by omega, fun j hj => by have : j = 0 := (by simp only at hj; omega); subst this; exact Int.le_refl _, 0, by omega, rfl⟩ (by repeat (first | exact True.intro | refine And.intro rfl ?_)) ?_
    intro x hx9
    refine TC.seq ?_
    refine TC.seq ?_
    refine TC.region ?_
    refine TL.pure (PV.move rfl) rfl (by decide) ?_
    refine TL.pure (PV.move rfl) rfl (by decide) ?_
    refine TL.pure (PV.len rfl Tb.sl_25) rfl (by decide) ?_
    refine TL.pure (PV.lss rfl rfl) rfl (by decide) ?_
    refine TL.nil ?_
    refine TQ.thenC ?_
    first | refine TC.condD rfl (fun hlt => ?_) (fun hlt => ?_) | refine TC.cond rfl (fun hlt => ?_) (fun hlt => ?_)
    · skip
      refine TC.skip ?_
      refine TQ.thenC ?_
      refine TC.seq ?_
      refine TC.block ?_
      obtain ⟨q2, hq2p, hq2⟩ := hx x.1 (by omega)
      refine TC.region ?_
      refine TL.pure (PV.move rfl) rfl (by decide) ?_
      refine TL.pure (PV.move rfl) rfl (by decide) ?_
      refine TL.pure (PV.move rfl) rfl (by decide) ?_
      refine TL.pure (PV.indexA rfl hq2p rfl Tb.elm_25 rfl (by omega)) rfl (by decide) ?_
      refine TL.pure (PV.loadOld rfl Tb.one_3 hq2) rfl (by decide) ?_
      refine TL.pure (PV.max rfl rfl Tb.int_3) rfl (by decide) ?_
      refine TL.pure (PV.assign rfl) rfl (by decide) ?_
      refine TL.nil ?_
      refine TQ.blkN ?_
      refine TQ.thenC ?_
      refine TC.region ?_
      refine TL.pure (PV.move rfl) rfl (by decide) ?_
      refine TL.pure (PV.add rfl rfl (by omega)) rfl (by decide) ?_
      refine TL.pure (PV.assign rfl) rfl (by decide) ?_
      refine TL.nil ?_
      refine TQ.thenN ?_
      refine TQ.backK (x.1 + 1, max x.2 (xs.getD x.1 0)) (by repeat (first | exact True.intro | refine And.intro rfl ?_)) (by repeat (first | exact True.intro | refine And.intro rfl ?_)) (by repeat (first | exact List.Sublist.slnil | exact List.nil_sublist _ | exact List.Sublist.refl _ | refine List.Sublist.cons_cons _ ?_ | refine List.Sublist.cons _ ?_ | refine List.Sublist.trans ?_ (List.sublist_append_right _ _))) ⟨by simp only; omega, by simp only; omega, fun j hj => by simp only at hj ⊢; by_cases e : j < x.1; (have := hx9.2.2.1 j e; omega); (obtain rfl : j = x.1 := (by omega); omega), by simp only; by_cases e : x.2 ≤ xs.getD x.1 0; exact ⟨x.1, by omega, by omega⟩; (obtain ⟨j, h1, h2⟩ := hx9.2.2.2; exact ⟨j, h1, by omega⟩)⟩ (by simp only; omega)
    · skip
      refine TC.exit ?_
      refine TQ.thenE ?_
      refine TQ.thenE ?_
      refine TQ.blkS ?_
      refine TQ.thenC ?_
      refine TC.seq ?_
      refine TC.region ?_
      refine TL.pure (PV.move rfl) rfl (by decide) ?_
      refine TL.pure (PV.assign rfl) rfl (by decide) ?_
      refine TL.nil ?_
      refine TQ.thenC ?_
      refine TC.ret ?_
      refine TQ.retE1 rfl rfl ?_
      exact ⟨x.2, rfl, ⟨fun j hj => hx9.2.2.1 j (by omega), hx9.2.2.2⟩, List.nil_sublist _⟩

set_option maxRecDepth 100000 in
set_option maxHeartbeats 1000000 in
theorem do_ok (w0 : World) (m : List Int) (p1 p2 : Option Addr) (c1 c2 : Nat) (s : St) (h1 : IntsAt w0 p1 s.t) (h2 : IntsAt w0 p2 s.g) (hF : Fits m s) :
    Calls Try.prog 67 #[.agg (intsA (pad6 m)), sv p1 s.t.length c1 p2 s.g.length c2] w0 (Post (X := Unit) (fun _ => .tuple #[.agg (intsA (pad6 (doL m s))), .int .i64 (doI m s)]) (fun _ => True) (fun _ => []) w0) := by
  have hm6 := hF.m6
  have htl := hF.tl
  have hgl := hF.gl
  refine calls Try.func67 rfl (n := 33) rfl (by simp) ?_
  refine TC.seq ?_
  refine TC.region ?_
  refine TL.box rfl rfl (by decide) (fun b0 hb0 => ?_)
  refine TL.box rfl rfl (by decide) (fun b1 hb1 => ?_)
  refine TL.alloc Tb.zero_70 rfl (by decide) (fun b2 hb2 => ?_)
  refine TL.pure (PV.assign rfl) rfl (by decide) ?_
  refine TL.nil ?_
  refine TQ.thenC ?_
  refine TC.seq ?_
  refine TC.seq ?_
  refine TC.region ?_
  refine TL.pure (PV.loadBox (cs := (pad6 m).map (Value.int .i64)) rfl Tb.agg_70 (by repeat (first | exact List.Mem.head _ | refine List.Mem.tail _ ?_ | refine List.mem_append_right _ ?_)) (map_len (pad_len hm6))) rfl (by decide) ?_
  refine TL.pure (PV.loadBox rfl Tb.agg_63 (by repeat (first | exact List.Mem.head _ | refine List.Mem.tail _ ?_ | refine List.mem_append_right _ ?_)) rfl) rfl (by decide) ?_
  refine TL.call rfl Tb.gofn_64 (fun a w hs => allows_ok w m hF.m6 _ _ _ _ s (h1.new hs.new) (h2.new hs.new) hF.tl) rfl (by decide) (fun _ _ => ?_)
  refine TL.pure ((by first | exact PV.notD rfl | exact PV.not rfl)) rfl (by decide) ?_
  refine TL.nil ?_
  refine TQ.thenC ?_
  first | refine TC.condD rfl (fun hc => ?_) (fun hc => ?_) | refine TC.cond rfl (fun hc => ?_) (fun hc => ?_)
  · skip
    have h6 := do_6 (by simpa using hc)
    have h6n : doI m s ≠ 0 := by rw [h6]; decide
    refine TC.seq ?_
    refine TC.region ?_
    refine TL.pure (PV.build0 Tb.zero_70 arr_70) rfl (by decide) ?_
    refine TL.storeAgg (vs := (List.replicate 6 (0 : Int)).map (Value.int .i64)) rfl rfl Tb.cells_70 (by repeat (first | exact Upd.head _ | apply Upd.tail | apply Upd.appR)) rfl rfl rfl rfl rfl ?_
    refine TL.pure (PV.assign rfl) rfl (by decide) ?_
    refine TL.nil ?_
    refine TQ.thenC ?_
    refine TC.ret ?_
    refine TQ.thenR ?_
    refine TQ.retR rfl (Res.agg rfl Tb.agg_70 (by repeat (first | exact List.Mem.head _ | refine List.Mem.tail _ ?_ | refine List.mem_append_right _ ?_)) (map_len (by first | exact pad_len (by rw [doN_len]; exact hF.m6) | (simp; done))) (Res.tmp rfl Res.nil)) ?_
    simp only [tup]
    exact ⟨(), by rw [padL_z h6n, h6]; rfl, trivial, List.nil_sublist _⟩
  · skip
    have hc : canB m s = true := by simpa using hc
    refine TC.skip ?_
    refine TQ.thenC ?_
    refine TC.seq ?_
    refine TC.seq ?_
    refine TC.region ?_
    refine TL.pure (PV.loadBox rfl Tb.agg_63 (by repeat (first | exact List.Mem.head _ | refine List.Mem.tail _ ?_ | refine List.mem_append_right _ ?_)) rfl) rfl (by decide) ?_
    refine TL.call rfl Tb.gofn_79 (fun a w hs => effect_ok w _ _ _ _ s (h1.new hs.new) (h2.new hs.new) (by omega) (by omega) (fun k => by have := hF.tb k; have := hF.gb k; omega)) rfl (by decide) (fun h9 hh9 => ?_)
    refine TL.pure (PV.lenG (len := s.g.length) (ys := ival (effL s)) rfl (by have h := hh9; simp only [goI, eff_len] at h; exact h) Tb.sl_25) rfl (by decide) ?_
    refine TL.pure (PV.move rfl) rfl (by decide) ?_
    refine TL.nil ?_
    refine TQ.thenC ?_
    refine TC.block ?_
    refine TC.lit [(2, _), (4, _), (5, _), (14, _), (15, _), (16, _)] (by repeat (first | exact True.intro | refine And.intro rfl ?_)) ?_
    refine TC.loopK [2, 4, 5, 14, 15] (X := Nat) (fun k => k ≤ s.g.length) (fun k => [(16, .int .i64 k)]) (fun k => gbI (h9, effL s) ++ [(b2, Obj.cells Z6 70 (0, 0)), (b1, Obj.cells #[.slice p1 s.t.length c1, .slice p2 s.g.length c2] 63 (0, 0)), (b0, Obj.cells (intsA (stK m s k)) 70 (0, 0))]) (fun k => s.g.length - k) 0 (Nat.zero_le _) (by repeat (first | exact True.intro | refine And.intro rfl ?_)) (by rw [← stK_zero s hm6]; exact List.Sublist.refl _) ?_
    intro k hk
    refine TC.lit [(2, _), (4, _), (5, _), (14, _), (15, _), (16, _)] (by repeat (first | exact True.intro | refine And.intro rfl ?_)) ?_
    refine TC.seq ?_
    refine TC.region ?_
    refine TL.pure (PV.lss rfl rfl) rfl (by decide) ?_
    refine TL.nil ?_
    refine TQ.thenC ?_
    refine TC.seq ?_
    first | refine TC.condD rfl (fun hlt => ?_) (fun hlt => ?_) | refine TC.cond rfl (fun hlt => ?_) (fun hlt => ?_)
    · skip
      refine TC.skip ?_
      refine TQ.thenC ?_
      refine TC.seq ?_
      refine TC.block ?_
      refine TC.seq ?_
      have hbk := hF.mb k
      have hbt := hF.tb k
      have hbg := hF.gb k
      have hel := eff_len s
      have hea := eff_at (s := s) (k := k)
      refine TC.region ?_
      refine TL.pure (PV.move rfl) rfl (by decide) ?_
      refine TL.pure (PV.indexG (j := k) rfl rfl (ys := ival (effL s)) (len := s.g.length) (by have h := hh9; simp only [goI, eff_len] at h; exact h) Tb.elm_25 rfl (by omega)) rfl (by decide) ?_
      refine TL.pure (PV.loadGI (y := (h9, effL s)) (j := k) (v := s.g.getD k 0 - s.t.getD k 0) rfl Tb.one_3 (fun yy hyy => by repeat (first | exact List.mem_append_left _ hyy | exact List.mem_append_left _ (List.mem_append_right _ hyy) | exact List.mem_append_left _ (List.mem_append_left _ hyy) | refine List.mem_append_right _ ?_ | refine List.Mem.tail _ ?_)) hh9 (by show k < (effL s).length; omega) (hea (by omega))) rfl (by decide) ?_
      refine TL.pure (PV.assign rfl) rfl (by decide) ?_
      refine TL.pure (PV.assign rfl) rfl (by decide) ?_
      refine TL.nil ?_
      refine TQ.thenC ?_
      refine TC.region ?_
      refine TL.pure (PV.move rfl) rfl (by decide) ?_
      refine TL.pure (PV.indexArr (j := k) rfl rfl arr_70 rfl (by omega)) rfl (by decide) ?_
      refine TL.pure (PV.loadIv (xs := stK m s k) (j := k) (v := m.getD k 0) rfl Tb.one_3 (by repeat (first | exact List.Mem.head _ | refine List.Mem.tail _ ?_ | refine List.mem_append_right _ ?_)) (by rw [stK_len]; omega) (stK_at (by omega))) rfl (by decide) ?_
      refine TL.pure (PV.move rfl) rfl (by decide) ?_
      refine TL.pure (PV.add rfl rfl (by omega)) rfl (by decide) ?_
      refine TL.pure (PV.indexArr (j := k) rfl rfl arr_70 rfl (by omega)) rfl (by decide) ?_
      refine TL.storeIv (xs := stK m s k) (xs' := stK m s (k + 1)) (j := k) rfl rfl Tb.cells_3 (stK_put (by omega)) (by repeat (first | exact Upd.head _ | apply Upd.tail | apply Upd.appR)) (by rw [stK_len]; omega) rfl rfl ?_
      refine TL.nil ?_
      refine TQ.blkN ?_
      refine TQ.thenC ?_
      refine TC.region ?_
      refine TL.pure (PV.add rfl rfl (by omega)) rfl (by decide) ?_
      refine TL.pure (PV.move rfl) rfl (by decide) ?_
      refine TL.nil ?_
      refine TQ.thenN ?_
      refine TQ.backK (k + 1) (by repeat (first | exact True.intro | refine And.intro rfl ?_)) (by repeat (first | exact True.intro | refine And.intro rfl ?_)) (List.Sublist.refl _) (by omega) (by omega)
    · skip
      refine TC.exit ?_
      refine TQ.thenE ?_
      refine TQ.thenE ?_
      refine TQ.blkS ?_
      refine TQ.thenC ?_
      refine TC.seq ?_
      refine TC.seq ?_
      have hkm : k = m.length := by omega
      have hpl : (pad6 (doN m s)).length = 6 := pad_len (by rw [doN_len]; exact hm6)
      refine TC.congrG (G' := gbI (h9, effL s) ++ [(b2, Obj.cells Z6 70 (0, 0)), (b1, Obj.cells #[.slice p1 s.t.length c1, .slice p2 s.g.length c2] 63 (0, 0)), (b0, Obj.cells (intsA (pad6 (doN m s))) 70 (0, 0))]) (by rw [hkm, stK_end hF]) ?_
      refine TC.region ?_
      refine TL.pure (PV.sliceAll rfl arr_70 (by decide)) rfl (by decide) ?_
      refine TL.call rfl Tb.gofn_104 (fun a w hs => by have h9 := max_ok w (some ⟨b0, 0, none⟩) 6 (pad6 (doN m s)) (IntsAt.arr (xs := pad6 (doN m s)) hs.new (by repeat (first | exact List.Mem.head _ | refine List.Mem.tail _ ?_ | refine List.mem_append_right _ ?_))) (by rw [hpl]; decide); rw [hpl] at h9; exact h9) rfl (by decide) (fun i9 hi9 => ?_)
      refine TL.pure (PV.gtr rfl rfl) rfl (by decide) ?_
      refine TL.nil ?_
      refine TQ.thenC ?_
      first | refine TC.condD rfl (fun h5 => ?_) (fun h5 => ?_) | refine TC.cond rfl (fun h5 => ?_) (fun h5 => ?_)
      · skip
        have h53 := max_3 hF hc hi9.2 h5
        have h5n : doI m s ≠ 0 := by rw [h53]; decide
        refine TC.seq ?_
        refine TC.region ?_
        refine TL.pure (PV.build0 Tb.zero_70 arr_70) rfl (by decide) ?_
        refine TL.storeAgg (vs := (List.replicate 6 (0 : Int)).map (Value.int .i64)) rfl rfl Tb.cells_70 (by repeat (first | exact Upd.head _ | apply Upd.tail | apply Upd.appR)) rfl rfl rfl rfl rfl ?_
        refine TL.pure (PV.assign rfl) rfl (by decide) ?_
        refine TL.nil ?_
        refine TQ.thenC ?_
        refine TC.ret ?_
        refine TQ.thenR ?_
        refine TQ.retR rfl (Res.agg rfl Tb.agg_70 (by repeat (first | exact List.Mem.head _ | refine List.Mem.tail _ ?_ | refine List.mem_append_right _ ?_)) (map_len (by first | exact pad_len (by rw [doN_len]; exact hF.m6) | (simp; done))) (Res.tmp rfl Res.nil)) ?_
        simp only [tup]
        exact ⟨(), by rw [padL_z h5n, h53]; rfl, trivial, List.nil_sublist _⟩
      · skip
        have h50 := max_0 hF hc hi9.1 h5
        have hdl := (do_of h50).2.1
        refine TC.skip ?_
        refine TQ.thenC ?_
        refine TC.seq ?_
        refine TC.region ?_
        refine TL.pure (PV.loadBox (cs := (pad6 (doN m s)).map (Value.int .i64)) rfl Tb.agg_70 (by repeat (first | exact List.Mem.head _ | refine List.Mem.tail _ ?_ | refine List.mem_append_right _ ?_)) (map_len hpl)) rfl (by decide) ?_
        refine TL.storeAgg (vs := (pad6 (doN m s)).map (Value.int .i64)) rfl rfl Tb.cells_70 (by repeat (first | exact Upd.head _ | apply Upd.tail | apply Upd.appR)) (map_len hpl) rfl (ints_one _) rfl rfl ?_
        refine TL.pure (PV.assign rfl) rfl (by decide) ?_
        refine TL.nil ?_
        refine TQ.thenC ?_
        refine TC.ret ?_
        refine TQ.retR rfl (Res.agg rfl Tb.agg_70 (by repeat (first | exact List.Mem.head _ | refine List.Mem.tail _ ?_ | refine List.mem_append_right _ ?_)) (map_len (by first | exact pad_len (by rw [doN_len]; exact hF.m6) | (simp; done))) (Res.tmp rfl Res.nil)) ?_
        simp only [tup]
        exact ⟨(), by rw [hdl, h50]; rfl, trivial, List.nil_sublist _⟩

set_option maxRecDepth 100000 in
set_option maxHeartbeats 1000000 in
theorem in_ok (w0 : World) (m : List Int) (hm : m.length ≤ 6) (n : Int) (hn : (m.length : Int) = n) (u : Value) :
    Calls Try.prog 68 #[.agg (intsA (pad6 m)), .agg #[.int .i64 n, u]] w0 (Post (X := HD) (fun h => gval h m.length) (fun h => goI (h, m)) (fun h => gbI (h, m)) w0) := by
  have h1 : (1 : Nat) ≤ 6 := by decide
  refine calls Try.func68 rfl (n := 9) rfl (by simp) ?_
  refine TC.seq ?_
  refine TC.region ?_
  refine TL.box rfl rfl (by decide) (fun b0 hb0 => ?_)
  refine TL.box rfl rfl (by decide) (fun b1 hb1 => ?_)
  refine TL.pure (PV.assign rfl) rfl (by decide) ?_
  refine TL.nil ?_
  refine TQ.thenC ?_
  refine TC.seq ?_
  refine TC.region ?_
  refine TL.pure (PV.fieldAddr rfl Tb.fo_24_0) rfl (by decide) ?_
  refine TL.pure (PV.load rfl Tb.one_3 (by repeat (first | exact List.Mem.head _ | refine List.Mem.tail _ ?_ | refine List.mem_append_right _ ?_)) rfl) rfl (by decide) ?_
  refine TL.pure (PV.sliceArr (h := m.length) rfl rfl arr_70 hn.symm hm (by decide)) rfl (by decide) ?_
  refine TL.call rfl Tb.gofn_97 (fun a w hs => clone_ok w _ _ m (by have h9 := IntsAt.pre (k := m.length) (xs := pad6 m) hs.new (by repeat (first | exact List.Mem.head _ | refine List.Mem.tail _ ?_ | refine List.mem_append_right _ ?_)); rw [pad_take] at h9; exact h9) (by omega)) rfl (by decide) (fun h9 hh9 => ?_)
  refine TL.pure (PV.assign rfl) rfl (by decide) ?_
  refine TL.nil ?_
  refine TQ.thenC ?_
  refine TC.ret ?_
  refine TQ.retE1 rfl rfl ?_
  exact ⟨h9, rfl, hh9, List.sublist_append_left _ _⟩

set_option maxRecDepth 100000 in
set_option maxHeartbeats 1000000 in
theorem covers_ok (w0 : World) (n : Int) (p : Option Addr) (cp : Nat) (ss : List St) (hr : StsAt w0 p ss) (pl : Option Addr) (cl : Nat) (xs : List Int) (hx : IntsAt w0 pl xs) (hV : VM n ss xs) (i : Nat) (hi : i < ss.length) :
    Calls Try.prog 66 #[yv n p ss.length cp, .slice pl xs.length cl, .int .i64 i] w0 (Post (X := Unit) (fun _ => .bool (canB xs (ss.getD i default))) (fun _ => True) (fun _ => []) w0) := by
  have hF := hV.fits hi
  have hml := hV.ml
  have htl := hF.tl
  have hm6 := hF.m6
  refine calls Try.func66 rfl (n := 28) rfl (by simp) ?_
  refine TC.seq ?_
  refine TC.region ?_
  refine TL.box rfl rfl (by decide) (fun b0 hb0 => ?_)
  refine TL.pure (PV.assign rfl) rfl (by decide) ?_
  refine TL.nil ?_
  refine TQ.thenC ?_
  refine TC.seq ?_
  refine TC.seq ?_
  refine TC.region ?_
  refine TL.pure (PV.assign rfl) rfl (by decide) ?_
  refine TL.nil ?_
  refine TQ.thenC ?_
  refine TC.block ?_
  -- live and written in the loop, not told: [6]
  refine TC.loopG [1, 2, 3] (X := Nat) (fun k => k ≤ xs.length ∧ ∀ j, j < k → (ss.getD i default).t.getD j 0 ≤ xs.getD j 0) (fun k => [(7, .int .i64 k)]) (fun k => xs.length - k) 0 ⟨Nat.zero_le _, fun j hj => absurd hj (Nat.not_lt_zero _)⟩ (by repeat (first | exact True.intro | refine And.intro rfl ?_)) ?_
  intro k hk
  refine TC.seq ?_
  refine TC.seq ?_
  refine TC.region ?_
  refine TL.pure (PV.move rfl) rfl (by decide) ?_
  refine TL.pure (PV.fieldAddr rfl Tb.fo_24_0) rfl (by decide) ?_
  refine TL.pure (PV.load rfl Tb.one_3 (by repeat (first | exact List.Mem.head _ | refine List.Mem.tail _ ?_ | refine List.mem_append_right _ ?_)) rfl) rfl (by decide) ?_
  refine TL.pure (PV.lss rfl rfl) rfl (by decide) ?_
  refine TL.nil ?_
  refine TQ.thenC ?_
  first | refine TC.condD rfl (fun hlt => ?_) (fun hlt => ?_) | refine TC.cond rfl (fun hlt => ?_) (fun hlt => ?_)
  · skip
    refine TC.skip ?_
    refine TQ.thenC ?_
    refine TC.seq ?_
    refine TC.block ?_
    refine TC.seq ?_
    obtain ⟨q2, hq2p, hq2⟩ := hx k (by omega)
    obtain ⟨q1, hq1p, pa, pb, ca, cb, hq10, hq11, hta, htb⟩ := hr i (by omega)
    obtain ⟨q3, hq3p, hq3⟩ := hta k (by omega)
    refine TC.mixV [true, true, true, true, true, true, true, true, true, true, true, true, true, true] [(b0, Obj.cells #[.int .i64 n, .slice p ss.length cp] 24 (0, 0))] 14 Tb.mixed rfl (by kernel_rfl) (by kernel_rfl) (by kernel_rfl) (by kernel_rfl) (by repeat (first | exact List.Sublist.slnil | exact List.nil_sublist _ | exact List.Sublist.refl _ | refine List.Sublist.cons_cons _ ?_ | refine List.Sublist.cons _ ?_ | refine List.Sublist.trans ?_ (List.sublist_append_right _ _))) ?_
    refine TV.virt 0 rfl rfl (by decide) rfl (by kernel_rfl) (SOK.pure (PV.move rfl) rfl) ?_
    refine TV.virt 1 rfl rfl (by decide) rfl (by kernel_rfl) (SOK.pure (PV.move rfl) rfl) ?_
    refine TV.virt 2 rfl rfl (by decide) rfl (by kernel_rfl) (SOK.pure (PV.indexA rfl hq2p rfl Tb.elm_25 rfl (by omega)) rfl) ?_
    refine TV.virt 3 rfl rfl (by decide) rfl (by kernel_rfl) (SOK.pure (PV.loadOld rfl Tb.one_3 hq2) rfl) ?_
    refine TV.virt 4 rfl rfl (by decide) rfl (by kernel_rfl) (SOK.pure (PV.fieldAddr rfl Tb.fo_24_1) rfl) ?_
    refine TV.virt 5 rfl rfl (by decide) rfl (by kernel_rfl) (SOK.pure (PV.load rfl Tb.one_22 (by repeat (first | exact List.Mem.head _ | refine List.Mem.tail _ ?_ | refine List.mem_append_right _ ?_)) rfl) rfl) ?_
    refine TV.virt 6 rfl rfl (by decide) rfl (by kernel_rfl) (SOK.pure (PV.move rfl) rfl) ?_
    refine TV.virt 7 rfl rfl (by decide) rfl (by kernel_rfl) (SOK.pure (PV.indexA rfl hq1p rfl Tb.elm_22 rfl (by omega)) rfl) ?_
    refine TV.virt 8 rfl rfl (by decide) rfl (by kernel_rfl) (SOK.pure (PV.fieldAddrA rfl Tb.fo_63_0) rfl) ?_
    refine TV.virt 9 rfl rfl (by decide) rfl (by kernel_rfl) (SOK.pure (PV.loadOld rfl Tb.one_25 hq10) rfl) ?_
    refine TV.virt 10 rfl rfl (by decide) rfl (by kernel_rfl) (SOK.pure (PV.move rfl) rfl) ?_
    refine TV.virt 11 rfl rfl (by decide) rfl (by kernel_rfl) (SOK.pure (PV.indexA rfl hq3p rfl Tb.elm_25 rfl (by omega)) rfl) ?_
    refine TV.virt 12 rfl rfl (by decide) rfl (by kernel_rfl) (SOK.pure (PV.loadOld rfl Tb.one_3 hq3) rfl) ?_
    refine TV.virt 13 rfl rfl (by decide) rfl (by kernel_rfl) (SOK.pure (PV.lss rfl rfl) rfl) ?_
    refine TV.done (by kernel_rfl) ?_
    refine TQ.thenC ?_
    first | refine TC.condD rfl (fun hno => ?_) (fun hno => ?_) | refine TC.cond rfl (fun hno => ?_) (fun hno => ?_)
    · skip
      refine TC.seq ?_
      refine TC.region ?_
      refine TL.pure (PV.assign rfl) rfl (by decide) ?_
      refine TL.nil ?_
      refine TQ.thenC ?_
      refine TC.ret ?_
      refine TQ.blkR ?_
      refine TQ.thenR ?_
      refine TQ.thenR ?_
      refine TQ.blkR ?_
      refine TQ.thenR ?_
      refine TQ.retE1 rfl rfl ?_
      exact ⟨(), by rw [can_no (p := k) (by omega) (by omega)], trivial, List.nil_sublist _⟩
    · skip
      refine TC.skip ?_
      refine TQ.blkN ?_
      refine TQ.thenC ?_
      refine TC.region ?_
      refine TL.pure (PV.move rfl) rfl (by decide) ?_
      refine TL.pure (PV.add rfl rfl (by omega)) rfl (by decide) ?_
      refine TL.pure (PV.assign rfl) rfl (by decide) ?_
      refine TL.nil ?_
      refine TQ.thenN ?_
      refine TQ.backK (k + 1) (by repeat (first | exact True.intro | refine And.intro rfl ?_)) (by repeat (first | exact True.intro | refine And.intro rfl ?_)) (by repeat (first | exact List.Sublist.slnil | exact List.nil_sublist _ | exact List.Sublist.refl _ | refine List.Sublist.cons_cons _ ?_ | refine List.Sublist.cons _ ?_ | refine List.Sublist.trans ?_ (List.sublist_append_right _ _))) ⟨by omega, fun j hj => if e : j < k then hk.2 j e else (show k = j by omega) ▸ (by omega)⟩ (by omega)
  · skip
    refine TC.exit ?_
    refine TQ.thenE ?_
    refine TQ.thenE ?_
    refine TQ.blkS ?_
    refine TQ.thenC ?_
    refine TC.seq ?_
    refine TC.region ?_
    refine TL.pure (PV.assign rfl) rfl (by decide) ?_
    refine TL.nil ?_
    refine TQ.thenC ?_
    refine TC.ret ?_
    refine TQ.retE1 rfl rfl ?_
    exact ⟨(), by rw [can_yes (fun j hj => hk.2 j (by omega))], trivial, List.nil_sublist _⟩

end Go.Proofs.Ytkkipbkkijoneaa
