/- Which points are joined: the program's way. -/
import Derived.Test.YtmmgcajegokkoaaA2
set_option linter.unusedVariables false
set_option linter.unusedSimpArgs false
namespace Go.Proofs.Ytmmgcajegokkoaa
open Go.Sx Go.RowKit

/-- The first k elements turned by g, the others as they were. -/
def mix (g : Int → Int) (xs : List Int) (k : Nat) : List Int := (xs.take k).map g ++ xs.drop k
theorem mix_zero (g : Int → Int) (xs : List Int) : mix g xs 0 = xs := by simp [mix]
theorem mix_len (g : Int → Int) (xs : List Int) (k : Nat) : (mix g xs k).length = xs.length := by simp [mix]; omega
theorem mix_all (g : Int → Int) (xs : List Int) (k : Nat) (h : xs.length ≤ k) : mix g xs k = xs.map g := by simp [mix, List.take_of_length_le h, List.drop_of_length_le h]
theorem mix_get (g : Int → Int) (xs : List Int) (k : Nat) (h : k < xs.length) : (mix g xs k).getD k 0 = xs.getD k 0 := by
  simp only [mix, List.getD]
  rw [List.getElem?_append_right (by simp; omega)]
  simp [Nat.min_eq_left (Nat.le_of_lt h)]
theorem mix_succ (g : Int → Int) (xs : List Int) (k : Nat) (h : k < xs.length) : mix g xs (k + 1) = (xs.take k).map g ++ g (xs.getD k 0) :: xs.drop (k + 1) := by
  simp only [mix, List.getD]
  rw [List.take_succ_eq_append_getElem h, List.map_append]
  simp [h]
theorem mix_set (g : Int → Int) (xs : List Int) (k : Nat) (h : k < xs.length) : (mix g xs k).set k (g (xs.getD k 0)) = mix g xs (k + 1) := by
  rw [mix_succ g xs k h, mix, List.set_append_right _ _ (by simp; omega)]
  simp only [List.length_map, List.length_take, Nat.min_eq_left (Nat.le_of_lt h), Nat.sub_self]
  rw [List.drop_eq_getElem_cons h]
  rfl
theorem mix_keep (g : Int → Int) (xs : List Int) (k : Nat) (h : k < xs.length) (hg : g (xs.getD k 0) = xs.getD k 0) : mix g xs k = mix g xs (k + 1) := by
  rw [mix_succ g xs k h, hg, mix, List.drop_eq_getElem_cons h]
  simp [List.getD, h]

def lowJ (xs : List Int) (a b : Int) : Int := min (xs.getD a.toNat 0) (xs.getD b.toNat 0)
def highJ (xs : List Int) (a b : Int) : Int := max (xs.getD a.toNat 0) (xs.getD b.toNat 0)
def joinG (xs : List Int) (a b : Int) (f : Int) : Int := if f = highJ xs a b then lowJ xs a b else f
def joinL (xs : List Int) (a b : Int) : List Int := xs.map (joinG xs a b)
theorem join_stepT {xs l : List Int} {a b : Int} {k : Nat} (hx : l = mix (joinG xs a b) xs k) (hk : k < xs.length) (h : l.getD k 0 = highJ xs a b) : l.set k (lowJ xs a b) = mix (joinG xs a b) xs (k + 1) := by
  rw [hx, mix_get _ _ _ hk] at h
  rw [hx, ← mix_set _ _ _ hk, joinG, if_pos h]
theorem join_stepF {xs l : List Int} {a b : Int} {k : Nat} (hx : l = mix (joinG xs a b) xs k) (hk : k < xs.length) (h : ¬ l.getD k 0 = highJ xs a b) : l = mix (joinG xs a b) xs (k + 1) := by
  rw [hx, mix_get _ _ _ hk] at h
  rw [hx]
  exact mix_keep _ _ _ hk (by rw [joinG, if_neg h])
abbrev boxS (bB bA k : Nat) : Nat × Obj := (bB, .cells #[.slice (some ⟨bA, 0, none⟩) k k] 31 (0, 0))
abbrev arrI (bA : Nat) (xs : List Int) : Nat × Obj := (bA, .cells (intsA xs) 3 (0, 0))


set_option maxRecDepth 100000 in
theorem join_ok (w0 w : World) (bB bA : Nat) (R : Heap) (k : Nat) (xs : List Int) (a b : Int) (hk : xs.length = k) (hN : New w0 w (boxS bB bA k :: arrI bA xs :: R)) (hl : xs.length ≤ 1000000) (ha : 0 ≤ a ∧ a < xs.length) (hb : 0 ≤ b ∧ b < xs.length) :
    Calls Try.prog 104 #[.int .i64 a, .int .i64 b, .pointer (some ⟨bB, 0, none⟩)] w (Post (X := Unit) (fun _ => .bool (decide (lowJ xs a b ≠ highJ xs a b))) (fun _ => True) (fun _ => boxS bB bA k :: arrI bA (joinL xs a b) :: R) w0) := by
  refine callsM hN Try.func104 rfl (n := 46) rfl (by simp) ?_
  refine TC.seq ?_
  refine TC.region ?_
  refine TL.pure (PV.assign rfl) rfl (by decide) ?_
  refine TL.nil ?_
  refine TQ.thenC ?_
  refine TC.seq ?_
  refine TC.any Tb.mixed rfl rfl ?_
  refine TA.op (OpOK.pure (PV.load rfl Tb.one_31 (by repeat (first | exact List.Mem.head _ | refine List.Mem.tail _ ?_ | refine List.mem_append_right _ ?_)) rfl) rfl (by decide)) (by decide) ?_
  refine TA.op (OpOK.pure (PV.move rfl) rfl (by decide)) (by decide) ?_
  refine TA.op (OpOK.pure (PV.index1 rfl rfl Tb.elm_31 (Int.toNat_of_nonneg (by omega)).symm (by omega)) rfl (by decide)) (by decide) ?_
  refine TA.op (OpOK.pure (PV.loadI rfl Tb.one_3 (by repeat (first | exact List.Mem.head _ | refine List.Mem.tail _ ?_)) (by omega)) rfl (by decide)) (by decide) ?_
  refine TA.op (OpOK.pure (PV.load rfl Tb.one_31 (by repeat (first | exact List.Mem.head _ | refine List.Mem.tail _ ?_ | refine List.mem_append_right _ ?_)) rfl) rfl (by decide)) (by decide) ?_
  refine TA.op (OpOK.pure (PV.move rfl) rfl (by decide)) (by decide) ?_
  refine TA.op (OpOK.pure (PV.index1 rfl rfl Tb.elm_31 (Int.toNat_of_nonneg (by omega)).symm (by omega)) rfl (by decide)) (by decide) ?_
  refine TA.op (OpOK.pure (PV.loadI rfl Tb.one_3 (by repeat (first | exact List.Mem.head _ | refine List.Mem.tail _ ?_)) (by omega)) rfl (by decide)) (by decide) ?_
  refine TA.op (OpOK.pure (PV.min rfl rfl Tb.int_3) rfl (by decide)) (by decide) ?_
  refine TA.op (OpOK.pure (PV.load rfl Tb.one_31 (by repeat (first | exact List.Mem.head _ | refine List.Mem.tail _ ?_ | refine List.mem_append_right _ ?_)) rfl) rfl (by decide)) (by decide) ?_
  refine TA.op (OpOK.pure (PV.move rfl) rfl (by decide)) (by decide) ?_
  refine TA.op (OpOK.pure (PV.index1 rfl rfl Tb.elm_31 (Int.toNat_of_nonneg (by omega)).symm (by omega)) rfl (by decide)) (by decide) ?_
  refine TA.op (OpOK.pure (PV.loadI rfl Tb.one_3 (by repeat (first | exact List.Mem.head _ | refine List.Mem.tail _ ?_)) (by omega)) rfl (by decide)) (by decide) ?_
  refine TA.op (OpOK.pure (PV.load rfl Tb.one_31 (by repeat (first | exact List.Mem.head _ | refine List.Mem.tail _ ?_ | refine List.mem_append_right _ ?_)) rfl) rfl (by decide)) (by decide) ?_
  refine TA.op (OpOK.pure (PV.move rfl) rfl (by decide)) (by decide) ?_
  refine TA.op (OpOK.pure (PV.index1 rfl rfl Tb.elm_31 (Int.toNat_of_nonneg (by omega)).symm (by omega)) rfl (by decide)) (by decide) ?_
  refine TA.op (OpOK.pure (PV.loadI rfl Tb.one_3 (by repeat (first | exact List.Mem.head _ | refine List.Mem.tail _ ?_)) (by omega)) rfl (by decide)) (by decide) ?_
  refine TA.op (OpOK.pure (PV.max rfl rfl Tb.int_3) rfl (by decide)) (by decide) ?_
  refine TA.op (OpOK.pure (PV.assign rfl) rfl (by decide)) (by decide) ?_
  refine TA.op (OpOK.pure (PV.assign rfl) rfl (by decide)) (by decide) ?_
  show TQ _ _ _ _ _
  refine TQ.thenC ?_
  refine TC.seq ?_
  refine TC.seq ?_
  refine TC.region ?_
  refine TL.pure (PV.load rfl Tb.one_31 (by repeat (first | exact List.Mem.head _ | refine List.Mem.tail _ ?_ | refine List.mem_append_right _ ?_)) rfl) rfl (by decide) ?_
  refine TL.pure (PV.len rfl Tb.sl_31) rfl (by decide) ?_
  refine TL.pure (PV.move rfl) rfl (by decide) ?_
  refine TL.nil ?_
  refine TQ.thenC ?_
  refine TC.block ?_
  refine TC.loopK [2, 5, 6, 7, 28, 29] (X := Nat × List Int) (fun x => x.1 ≤ xs.length ∧ x.2 = mix (joinG xs a b) xs x.1) (fun x => [(30, .int .i64 x.1)]) (fun x => boxS bB bA k :: arrI bA x.2 :: R) (fun x => xs.length - x.1) (0, xs) ⟨Nat.zero_le _, (mix_zero _ _).symm⟩ (by repeat (first | exact True.intro | refine And.intro rfl ?_)) (by repeat (first | exact List.Sublist.slnil | exact List.nil_sublist _ | exact List.Sublist.refl _ | refine List.Sublist.cons_cons _ ?_ | refine List.Sublist.cons _ ?_ | refine List.Sublist.trans ?_ (List.sublist_append_right _ _))) ?_
  intro x hx
  refine TC.seq ?_
  refine TC.region ?_
  refine TL.pure (PV.lss rfl rfl) rfl (by decide) ?_
  refine TL.nil ?_
  refine TQ.thenC ?_
  refine TC.seq ?_
  first | refine TC.condD rfl (fun hlt => ?_) (fun hlt => ?_) | refine TC.cond rfl (fun hlt => ?_) (fun hlt => ?_)
  · skip
    refine TC.skip ?_
    refine TQ.thenC ?_
    refine TC.seq ?_
    refine TC.block ?_
    refine TC.seq ?_
    refine TC.region ?_
    refine TL.pure (PV.move rfl) rfl (by decide) ?_
    refine TL.pure (PV.index1 rfl rfl Tb.elm_31 rfl (by omega)) rfl (by decide) ?_
    refine TL.pure (PV.loadI rfl Tb.one_3 (by repeat (first | exact List.Mem.head _ | refine List.Mem.tail _ ?_)) (by rw [hx.2, mix_len]; omega)) rfl (by decide) ?_
    refine TL.pure (PV.assign rfl) rfl (by decide) ?_
    refine TL.pure (PV.assign rfl) rfl (by decide) ?_
    refine TL.nil ?_
    refine TQ.thenC ?_
    refine TC.seq ?_
    refine TC.region ?_
    refine TL.pure (PV.move rfl) rfl (by decide) ?_
    refine TL.pure (PV.move rfl) rfl (by decide) ?_
    refine TL.pure (PV.eql rfl rfl) rfl (by decide) ?_
    refine TL.nil ?_
    refine TQ.thenC ?_
    first | refine TC.condD rfl (fun heq => ?_) (fun heq => ?_) | refine TC.cond rfl (fun heq => ?_) (fun heq => ?_)
    · skip
      refine TC.region ?_
      refine TL.pure (PV.load rfl Tb.one_31 (by repeat (first | exact List.Mem.head _ | refine List.Mem.tail _ ?_ | refine List.mem_append_right _ ?_)) rfl) rfl (by decide) ?_
      refine TL.pure (PV.move rfl) rfl (by decide) ?_
      refine TL.pure (PV.move rfl) rfl (by decide) ?_
      refine TL.pure (PV.index1 rfl rfl Tb.elm_31 rfl (by omega)) rfl (by decide) ?_
      refine TL.storeI rfl rfl Tb.cells_3 (by repeat (first | exact Upd.head _ | apply Upd.tail)) (by rw [hx.2, mix_len]; omega) rfl rfl ?_
      refine TL.nil ?_
      refine TQ.blkN ?_
      refine TQ.thenC ?_
      refine TC.region ?_
      refine TL.pure (PV.add rfl rfl (by omega)) rfl (by decide) ?_
      refine TL.pure (PV.move rfl) rfl (by decide) ?_
      refine TL.nil ?_
      refine TQ.thenN ?_
      refine TQ.backK (x.1 + 1, _) (by repeat (first | exact True.intro | refine And.intro rfl ?_)) (by repeat (first | exact True.intro | refine And.intro rfl ?_)) (by repeat (first | exact List.Sublist.slnil | exact List.nil_sublist _ | exact List.Sublist.refl _ | refine List.Sublist.cons_cons _ ?_ | refine List.Sublist.cons _ ?_ | refine List.Sublist.trans ?_ (List.sublist_append_right _ _))) (by first | exact ⟨Nat.lt_of_lt_of_le (Int.ofNat_lt.1 hlt) (Nat.le_of_eq hk.symm), join_stepT hx.2 (by omega) heq⟩ | exact ⟨Nat.lt_of_lt_of_le (Int.ofNat_lt.1 hlt) (Nat.le_of_eq hk.symm), join_stepF hx.2 (by omega) heq⟩) (by simp only; omega)
    · skip
      refine TC.skip ?_
      refine TQ.blkN ?_
      refine TQ.thenC ?_
      refine TC.region ?_
      refine TL.pure (PV.add rfl rfl (by omega)) rfl (by decide) ?_
      refine TL.pure (PV.move rfl) rfl (by decide) ?_
      refine TL.nil ?_
      refine TQ.thenN ?_
      refine TQ.backK (x.1 + 1, _) (by repeat (first | exact True.intro | refine And.intro rfl ?_)) (by repeat (first | exact True.intro | refine And.intro rfl ?_)) (by repeat (first | exact List.Sublist.slnil | exact List.nil_sublist _ | exact List.Sublist.refl _ | refine List.Sublist.cons_cons _ ?_ | refine List.Sublist.cons _ ?_ | refine List.Sublist.trans ?_ (List.sublist_append_right _ _))) (by first | exact ⟨Nat.lt_of_lt_of_le (Int.ofNat_lt.1 hlt) (Nat.le_of_eq hk.symm), join_stepT hx.2 (by omega) heq⟩ | exact ⟨Nat.lt_of_lt_of_le (Int.ofNat_lt.1 hlt) (Nat.le_of_eq hk.symm), join_stepF hx.2 (by omega) heq⟩) (by simp only; omega)
  · skip
    refine TC.exit ?_
    refine TQ.thenE ?_
    refine TQ.thenE ?_
    refine TQ.blkS ?_
    refine TQ.thenC ?_
    refine TC.seq ?_
    refine TC.region ?_
    refine TL.pure (PV.move rfl) rfl (by decide) ?_
    refine TL.pure (PV.move rfl) rfl (by decide) ?_
    refine TL.pure (PV.neq rfl rfl) rfl (by decide) ?_
    refine TL.pure (PV.assign rfl) rfl (by decide) ?_
    refine TL.nil ?_
    refine TQ.thenC ?_
    refine TC.ret ?_
    refine TQ.retE1 rfl rfl ?_
    exact ⟨(), rfl, trivial, by rw [hx.2, mix_all _ _ _ (by omega)]; exact List.Sublist.refl _⟩

end Go.Proofs.Ytmmgcajegokkoaa
