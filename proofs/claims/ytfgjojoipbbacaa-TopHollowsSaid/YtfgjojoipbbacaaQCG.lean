/- Lists of ints beside each other, hollows of lists, Open: contracts. -/
import Derived.Test.YtfgjojoipbbacaaQCF
import Derived.Laws.IdiomCopy
set_option linter.unusedVariables false
set_option linter.unusedSimpArgs false
namespace Go.Sx
open Go.RowKit Go.Proofs.Ytfgjojoipbbacaa
theorem Upd.mid {b : Nat} {o o'' : Obj} (o' : Obj) {G G' : Heap} (h : Upd b o o'' G G') : ∃ G1, Upd b o o' G G1 ∧ Upd b o' o'' G1 G' := by
  induction h with
  | head R => exact ⟨_, Upd.head R, Upd.head R⟩
  | tail p _ ih =>
    obtain ⟨G1, h1, h2⟩ := ih
    exact ⟨p :: G1, Upd.tail p h1, Upd.tail p h2⟩
theorem Upd.self {b : Nat} {o : Obj} {G G' : Heap} (h : Upd b o o G G') : G' = G := by
  induction h with
  | head => rfl
  | tail _ _ ih => rw [ih]
def putA (arr : Array Value) (o : Nat) : List Value → Array Value
  | [] => arr
  | c :: cs => putA (arr.setIfInBounds o c) (o + 1) cs
theorem putA_list : ∀ (cs : List Value) (o : Nat) (arr : List Value), o + cs.length ≤ arr.length → (putA arr.toArray o cs).toList = arr.take o ++ cs ++ arr.drop (o + cs.length)
  | [], o, arr, _ => by simp [putA]
  | c :: cs, o, arr, h => by
    simp only [List.length_cons] at h
    unfold putA
    rw [List.setIfInBounds_toArray, putA_list cs (o + 1) (arr.set o c) (by rw [List.length_set]; omega), List.take_add_one, List.getElem?_set_self (by omega), List.take_set_of_le (Nat.le_refl _), List.drop_set_of_lt (by omega)]
    simp only [Option.toList_some, List.append_assoc, List.singleton_append, List.cons_append, List.nil_append, List.length_cons]
    rw [show o + 1 + cs.length = o + (cs.length + 1) by omega]
theorem New.setCells {w0 : World} {b : Nat} {e : TypeId} : ∀ (cs : List Value) (o : Nat) (arr : Array Value) (w : World) (G G' : Heap), New w0 w G → Upd b (.cells arr e (0, 0)) (.cells (putA arr o cs) e (0, 0)) G G' → New w0 (w.setCells b o cs) G'
  | [], o, arr, w, G, G', hN, hu => by
    rw [hu.self]
    exact hN
  | c :: cs, o, arr, w, G, G', hN, hu => by
    obtain ⟨G1, h1, h2⟩ := hu.mid (.cells (arr.setIfInBounds o c) e (0, 0))
    exact New.setCells cs (o + 1) _ _ _ _ (hN.setCell h1) h2
section
variable {P : Program} {n : Nat} {w0 : World} {E : Env} {G : Heap} {ty : TypeId} {pos : String} {aft : Array Edge} {g : Option (Nat × Bool)} {ops : Array Oper} {Q : Exit → Act → World → Prop} {l : List Oper}
/-- copy(a, b) of ints that lie in old memory. -/
theorem TL.copyI {d : Nat} {x y : Operand} {b len cap cl t1 t2 e eb : Nat} {p : Option Addr} {xs : List Int} {arr : Array Value} {G' : Heap} (hx : evo E x = some (.slice (some ⟨b, 0, none⟩) len cap)) (hy : evo E y = some (.slice p xs.length cl))
    (ht : P.underlying t1 = some (.slice e)) (hsz : (P.info? e).map (·.size) = some 1) (hi : IntsAt w0 p xs) (hl : xs.length ≤ len) (ha : len ≤ arr.size)
    (hu : Upd b (.cells arr eb (0, 0)) (.cells (putA arr 0 (xs.map (Value.int .i64))) eb (0, 0)) G G') (hg : wants ops E g = some true) (hd : d < n)
    (h : TL P n w0 ops Q l ((d, .int .i64 xs.length) :: E) G') :
    TL P n w0 ops Q (⟨some d, .call { callee := .builtin .copy, args := #[x, y], argTypes := #[t1, t2] }, ty, pos, aft, g⟩ :: l) E G :=
  TL.step hg fun a w hs => by
    have hrun : ∃ w', (Builtin.copy_ #[t1, t2] ty #[.slice (some ⟨b, 0, none⟩) len cap, .slice p xs.length cl]).run P w = .ok (.int .i64 xs.length) w' ∧ New w0 w' G' := by
      cases xs with
      | nil =>
        refine ⟨w, ?_, ?_⟩
        · have := run_copy_none (P := P) w t1 t2 ty e (some ⟨b, 0, none⟩) p len cap 0 cl ht hsz (by simp)
          simpa [goInt] using this
        · have hu' : Upd b (.cells arr eb (0, 0)) (.cells arr eb (0, 0)) G G' := hu
          rw [hu'.self]
          exact hs.new
      | cons v vs =>
        obtain ⟨q, rfl, _⟩ := hi 0 (by simp)
        have hc : ∀ j, j < ((v :: vs).map (Value.int .i64)).length → ∃ u, w.cell? ⟨b, 0 + j, none⟩ = some u := fun j hj => ⟨_, hs.new.cell hu.mem (Array.getElem?_eq_getElem (by simp only [List.length_map, List.length_cons] at hj hl; omega))⟩
        refine ⟨_, ?_, New.setCells _ 0 arr w G G' hs.new hu⟩
        have := run_copy_cells (P := P) w t1 t2 ty e b 0 len cap q (v :: vs).length cl ((v :: vs).map (Value.int .i64)) ht hsz (by rw [List.length_map]; exact (Nat.min_eq_left hl).symm) (fun j u hj => by
            have hj2 : j < (v :: vs).length := by have := (List.getElem?_eq_some_iff.1 hj).1; simpa using this
            obtain ⟨q2, e2, h2⟩ := (hi.new hs.new) j hj2
            cases e2
            rw [Nat.mul_one] at h2
            rw [h2]
            rw [List.getElem?_map, List.getElem?_eq_getElem hj2] at hj
            simp only [Option.map_some, Option.some.injEq] at hj
            rw [← hj, show (v :: vs).getD j 0 = (v :: vs)[j] by rw [List.getD_eq_getElem?_getD, List.getElem?_eq_getElem hj2]; rfl])
          (fun j hj => by obtain ⟨u, hu2⟩ := hc j hj; rw [hu2]; rfl) (fun j _ => hs.new.frozen hu.mem) (fun u hu2 => by obtain ⟨i, _, rfl⟩ := List.mem_map.1 hu2; rfl)
        rw [this]
        simp [goInt]
    obtain ⟨w', hr, hN⟩ := hrun
    have hex : (execOp a.eval ⟨some d, .call { callee := .builtin .copy, args := #[x, y], argTypes := #[t1, t2] }, ty, pos, aft, g⟩).run P w = .ok (.value (.int .i64 xs.length)) w' := by
      simp only [execOp, resolve, List.map_toArray, List.map_cons, List.map_nil, hs.ev hx, hs.ev hy]
      simp [invoke, builtin, hr]
    unfold Oper.wp
    rw [hex]
    exact h _ _ ((hs.world hN).put hd _)
end
end Go.Sx
namespace Go.Proofs.Ytfgjojoipbbacaa
open Go.Sx Go.RowKit

theorem sz_3 : (Try.prog.info? 3).map (·.size) = some 1 := by kernel_rfl
/-- The list as a hollow: 0 in the columns that the bog does not have. -/
def pad6 (xs : List Int) : List Int := xs ++ List.replicate (6 - xs.length) 0
theorem pad_len {xs : List Int} (h : xs.length ≤ 6) : (pad6 xs).length = 6 := by
  unfold pad6
  rw [List.length_append, List.length_replicate]
  omega
theorem pad_put {xs : List Int} (h : xs.length ≤ 6) : putA Z6 0 (xs.map (Value.int .i64)) = intsA (pad6 xs) := by
  have h1 := putA_list (xs.map (Value.int .i64)) 0 ((List.replicate 6 (0 : Int)).map (Value.int .i64)) (by simp; omega)
  rw [show Z6 = ((List.replicate 6 (0 : Int)).map (Value.int .i64)).toArray from rfl]
  refine Array.toList_inj.1 ?_
  rw [h1]
  unfold intsA pad6
  simp only [List.take_zero, List.nil_append, List.length_map, Nat.zero_add, List.map_append, ← List.map_drop, List.drop_replicate]
theorem ints_ext {xs ys : List Int} (hl : xs.length = ys.length) (h : ∀ j, j < xs.length → xs.getD j 0 = ys.getD j 0) : xs = ys := by
  refine List.ext_getElem hl fun j h1 h2 => ?_
  have := h j h1
  simpa [List.getD, h1, h2] using this
def opnI (ls : List (List Int)) (xs : List Int) : List Int := if holI ls xs = 0 then opN ls (pad6 xs) ls.length else []


set_option maxRecDepth 100000 in
set_option maxHeartbeats 1000000 in
theorem hollowOf_ok (w0 : World) (pl : Option Addr) (cl : Nat) (xs : List Int) (hx : IntsAt w0 pl xs) (hl : xs.length ≤ 6) :
    Calls Try.prog 84 #[.slice pl xs.length cl] w0 (Post (X := Unit) (fun _ => .agg (intsA (pad6 xs))) (fun _ => True) (fun _ => []) w0) := by
  refine calls Try.func84 rfl (n := 8) rfl (by simp) ?_
  refine TC.seq ?_
  refine TC.region ?_
  refine TL.alloc Tb.zero_69 rfl (by decide) (fun b0 hb0 => ?_)
  refine TL.nil ?_
  refine TQ.thenC ?_
  refine TC.seq ?_
  refine TC.region ?_
  refine TL.alloc Tb.zero_69 rfl (by decide) (fun b1 hb1 => ?_)
  refine TL.nil ?_
  refine TQ.thenC ?_
  refine TC.seq ?_
  refine TC.region ?_
  refine TL.pure (PV.sliceAll rfl arr_69 (by decide)) rfl (by decide) ?_
  refine TL.pure (PV.move rfl) rfl (by decide) ?_
  refine TL.copyI (xs := xs) (arr := Z6) (e := 3) rfl rfl Tb.sl_25 sz_3 hx hl (by decide) (by rw [pad_put hl]; exact (by repeat (first | exact Upd.head _ | apply Upd.tail | apply Upd.appR))) rfl (by decide) ?_
  refine TL.nil ?_
  refine TQ.thenC ?_
  refine TC.seq ?_
  refine TC.region ?_
  refine TL.pure (PV.loadBox (cs := (pad6 xs).map (Value.int .i64)) rfl Tb.agg_69 (by repeat (first | exact List.Mem.head _ | refine List.Mem.tail _ ?_ | refine List.mem_append_right _ ?_)) (map_len (pad_len hl))) rfl (by decide) ?_
  refine TL.storeAgg (vs := (pad6 xs).map (Value.int .i64)) rfl rfl Tb.cells_69 (by repeat (first | exact Upd.head _ | apply Upd.tail | apply Upd.appR)) (map_len (pad_len hl)) rfl (ints_one _) rfl rfl ?_
  refine TL.nil ?_
  refine TQ.thenC ?_
  refine TC.ret ?_
  refine TQ.retR rfl (Res.agg rfl Tb.agg_69 (by repeat (first | exact List.Mem.head _ | refine List.Mem.tail _ ?_ | refine List.mem_append_right _ ?_)) (map_len (pad_len hl)) Res.nil) ?_
  simp only [tup]
  exact ⟨(), rfl, trivial, List.nil_sublist _⟩

end Go.Proofs.Ytfgjojoipbbacaa
