/- A hollow as a list: contracts. -/
import Derived.Test.YtfgjojoipbbacaaQCH
set_option linter.unusedVariables false
set_option linter.unusedSimpArgs false
namespace Go.Sx
open Go.RowKit Go.Proofs.Ytfgjojoipbbacaa
section
variable {P : Program} {n : Nat} {w0 : World} {E : Env} {G : Heap} {ty : TypeId} {pos : String} {aft : Array Edge} {g : Option (Nat × Bool)} {ops : Array Oper} {Q : Exit → Act → World → Prop} {l : List Oper}
/-- append([]T{}, xs...) where T is one cell. -/
theorem TL.append0 {d : Nat} {s x : Operand} {t e by_ m bA : Nat} {z xv : Value} {news : List Value} {R : Heap} (hsv : evo E s = some (.slice (some ⟨bA, 0, none⟩) 0 0)) (hx : evo E x = some xv)
    (ht : P.underlying t = some (.slice e)) (hz : zeroI P e = some (z, 1, by_)) (hzs : z.cells.size = 1) (hT : Take bA (.cells #[] e (0, 0)) G R)
    (hsrc : ∀ w', New w0 w' G → Src P 1 t xv m news w') (hb : m * by_ ≤ 140737488355328) (hm : m ≤ 9223372036854775807)
    (hg : wants ops E g = some true) (hd : d < n)
    (h : ∀ h', gok h' m 1 news → TL P n w0 ops Q l ((d, gval h' m) :: E) (gblk h' e news ++ R)) :
    TL P n w0 ops Q (⟨some d, .call { callee := .builtin .append, args := #[s, x], argTypes := #[t, t] }, ty, pos, aft, g⟩ :: l) E G := by
  refine TL.perm hT.perm ?_
  have hp : ∀ w', New w0 w' ((bA, .cells #[] e (0, 0)) :: R) → New w0 w' G := fun w' hN => hN.perm hT.perm.symm
  refine TL.append (hd0 := some (bA, 0, [])) (ys := []) (len := 0) (m := m) (news := news) hsv hx ht hz hzs (by decide) ⟨rfl, rfl, Nat.le_refl _⟩ (TakeH.here (some (bA, 0, [])) e [] R) (fun a w hs => hsrc w (hp w hs.new)) (fun w' hN => hsrc w' (hp w' hN)) (by rw [Nat.zero_add]; exact hb) (by omega) hg hd (fun h' ho _ => ?_)
  have := h h'
  rw [List.nil_append, Nat.zero_add] at ho
  rw [Nat.zero_add, List.nil_append]
  exact this ho

theorem src_ints {tx e' c : Nat} {q : Addr} {xs : List Int} {w : World} (hk : P.underlying tx = some (.slice e')) (hi : IntsAt w (some q) xs) : Src P 1 tx (.slice (some q) xs.length c) xs.length (ival xs) w :=
  Src.ofSlice w hk q xs.length c (ival xs) (by simp) (fun j u hj => by
    have hj2 : j < xs.length := by have := (List.getElem?_eq_some_iff.1 hj).1; simpa using this
    obtain ⟨q2, e2, h2⟩ := hi j hj2
    cases e2
    rw [Nat.mul_one] at h2
    rw [h2]
    unfold ival at hj
    rw [List.getElem?_map, List.getElem?_eq_getElem hj2] at hj
    simp only [Option.map_some, Option.some.injEq] at hj
    rw [← hj, show xs.getD j 0 = xs[j] by rw [List.getD_eq_getElem?_getD, List.getElem?_eq_getElem hj2]; rfl]) (by simp [Value.oneCell'])
end
end Go.Sx
namespace Go.Proofs.Ytfgjojoipbbacaa
open Go.Sx Go.RowKit
theorem nil25_guard (x y : Operand) (a : Option Addr) (k c : Nat) (w : World) : (eqGuard .eql 25 x y (.slice a k c) (.slice none 0 0)).run Try.prog w = .ok () w := by simp [eqGuard]
theorem nil25 (a : Option Addr) (k c : Nat) (w : World) : (binOp .eql 25 (.slice a k c) (.slice none 0 0)).run Try.prog w = .ok (.bool a.isNone) w := Go.Lib.run_eql_slice_nil w 25 3 a k c 0 0 Tb.sl_25
theorem IntsAt.pre {w0 w : World} {G : Heap} {b k : Nat} {xs : List Int} {e : TypeId} (hn : New w0 w G) (hm : (b, Obj.cells (intsA xs) e (0, 0)) ∈ G) : IntsAt w (some ⟨b, 0, none⟩) (xs.take k) := by
  intro j hj
  rw [List.length_take] at hj
  obtain ⟨q, e1, h1⟩ := IntsAt.arr hn hm j (by omega)
  refine ⟨q, e1, ?_⟩
  rw [h1]
  congr 2
  rw [List.getD_eq_getElem?_getD, List.getD_eq_getElem?_getD, List.getElem?_take, if_pos (by omega)]


set_option maxRecDepth 100000 in
set_option maxHeartbeats 1000000 in
theorem clone_ok (w0 : World) (q : Addr) (cl : Nat) (xs : List Int) (hx : IntsAt w0 (some q) xs) (hl : xs.length ≤ 1000000) :
    Calls Try.prog 76 #[.slice (some q) xs.length cl] w0 (Post (X := HD) (fun h => gvI (h, xs)) (fun h => goI (h, xs)) (fun h => gbI (h, xs)) w0) := by
  refine calls Try.func76 rfl (n := 8) rfl (by simp) ?_
  refine TC.seq ?_
  refine TC.region ?_
  refine TL.pure (PV.assign rfl) rfl (by decide) ?_
  refine TL.nil ?_
  refine TQ.thenC ?_
  refine TC.seq ?_
  refine TC.seq ?_
  refine TC.region ?_
  refine TL.pure (PV.move rfl) rfl (by decide) ?_
  refine TL.pure (PV.cmp rfl rfl (nil25_guard _ _ _ _ _) (nil25 _ _ _)) rfl (by decide) ?_
  refine TL.nil ?_
  refine TQ.thenC ?_
  first | refine TC.condD rfl (fun hnil => ?_) (fun hnil => ?_) | refine TC.cond rfl (fun hnil => ?_) (fun hnil => ?_)
  · skip
    exact absurd hnil (by simp)
  · skip
    refine TC.skip ?_
    refine TQ.thenC ?_
    refine TC.seq ?_
    refine TC.region ?_
    refine TL.buildSlice0 Tb.sl_25 Tb.zi_3 rfl (by decide) (fun bE hbE => ?_)
    refine TL.pure (PV.move rfl) rfl (by decide) ?_
    refine TL.append0 (news := ival xs) rfl rfl Tb.sl_25 Tb.zi_3 rfl (Take.head _) (fun w' hN => src_ints Tb.sl_25 (hx.new hN)) (by omega) (by omega) rfl (by decide) (fun h1 hh1 => ?_)
    refine TL.pure (PV.assign rfl) rfl (by decide) ?_
    refine TL.nil ?_
    refine TQ.thenC ?_
    refine TC.ret ?_
    refine TQ.retE1 rfl rfl ?_
    exact ⟨h1, rfl, by simpa [goI] using hh1, List.sublist_append_left _ _⟩

set_option maxRecDepth 100000 in
set_option maxHeartbeats 1000000 in
theorem in_ok (w0 : World) (xs : List Int) (hx6 : xs.length = 6) (p : Option Addr) (cap : Nat) (ls : List (List Int)) (hr : LsAt w0 p ls) (hb : 1 ≤ ls.length ∧ ls.length ≤ 6) :
    Calls Try.prog 85 #[.agg (intsA xs), bv p ls.length cap] w0 (Post (X := HD) (fun h => gvI (h, xs.take ls.length)) (fun h => goI (h, xs.take ls.length)) (fun h => gbI (h, xs.take ls.length)) w0) := by
  have hl9 : (xs.take ls.length).length = ls.length := by rw [List.length_take]; omega
  refine calls Try.func85 rfl (n := 10) rfl (by simp) ?_
  refine TC.seq ?_
  refine TC.region ?_
  refine TL.box rfl rfl (by decide) (fun b0 hb0 => ?_)
  refine TL.box rfl rfl (by decide) (fun b1 hb1 => ?_)
  refine TL.pure (PV.assign rfl) rfl (by decide) ?_
  refine TL.nil ?_
  refine TQ.thenC ?_
  refine TC.seq ?_
  refine TC.region ?_
  refine TL.pure (PV.fieldAddr rfl Tb.fo_24_0) rfl (by decide) ?_
  refine TL.pure (PV.load rfl Tb.one_22 (by repeat (first | exact List.Mem.head _ | refine List.Mem.tail _ ?_ | refine List.mem_append_right _ ?_)) rfl) rfl (by decide) ?_
  refine TL.pure (PV.len rfl Tb.sl_22) rfl (by decide) ?_
  refine TL.pure (PV.sliceArr (h := (xs.take ls.length).length) rfl rfl arr_69 (by rw [hl9]) (by omega) (by decide)) rfl (by decide) ?_
  refine TL.call rfl Tb.gofn_76 (fun a w hs => clone_ok w _ _ (xs.take ls.length) (IntsAt.pre hs.new (by repeat (first | exact List.Mem.head _ | refine List.Mem.tail _ ?_ | refine List.mem_append_right _ ?_))) (by omega)) rfl (by decide) (fun h9 hh9 => ?_)
  refine TL.pure (PV.assign rfl) rfl (by decide) ?_
  refine TL.nil ?_
  refine TQ.thenC ?_
  refine TC.ret ?_
  refine TQ.retE1 rfl rfl ?_
  exact ⟨h9, rfl, hh9, List.sublist_append_left _ _⟩

end Go.Proofs.Ytfgjojoipbbacaa
