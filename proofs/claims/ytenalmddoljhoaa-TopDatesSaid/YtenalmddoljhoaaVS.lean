/- Bounds are compared: contracts. -/
import Derived.Test.YtenalmddoljhoaaVC
set_option linter.unusedVariables false
set_option linter.unusedSimpArgs false
namespace Go.Proofs.Ytenalmddoljhoaa
open Go.Sx Go.RowKit

def cmpI (i j : Int) : Int := if i < j then -1 else if j < i then 1 else 0
def orL : List Int → Int
  | [] => 0
  | x :: r => if x ≠ 0 then x else orL r
def orT (x y z : Int) : Int := if x ≠ 0 then x else if y ≠ 0 then y else z
def cmpB (r s : Bd) : Int := orT (cmpI r.a s.a) (cmpI r.b s.b) (cmpI r.m s.m)
def besB (r s : Bd) : Bool := decide (r.a = s.a ∧ r.b = s.b)
theorem orL_at : ∀ (xs : List Int) (k : Nat), k ≤ xs.length → (∀ j, j < k → xs.getD j 0 = 0) → orL xs = orL (xs.drop k)
  | xs, 0, _, _ => rfl
  | [], k + 1, h, _ => absurd h (by simp)
  | x :: r, k + 1, h, hz => by
    have h0 := hz 0 (by omega)
    simp only [List.getD_cons_zero] at h0
    have ih := orL_at r k (by simpa using h) (fun j hj => by have := hz (j + 1) (by omega); simpa using this)
    simp only [orL, List.drop_succ_cons]
    rw [if_neg (by simp [h0]), ih]
theorem orL_yes {xs : List Int} {k : Nat} (hk : k < xs.length) (hz : ∀ j, j < k → xs.getD j 0 = 0) (h : xs.getD k 0 ≠ 0) : orL xs = xs.getD k 0 := by
  have e : xs.getD k 0 = xs[k] := by simp [List.getD, hk]
  rw [orL_at xs k (by omega) hz, List.drop_eq_getElem_cons hk, orL, if_pos (by rw [← e]; exact h), e]
theorem orL_no {xs : List Int} (hz : ∀ j, j < xs.length → xs.getD j 0 = 0) : orL xs = 0 := by
  rw [orL_at xs xs.length (Nat.le_refl _) hz, List.drop_length]
  rfl
theorem orL3 (x y z : Int) : orL [x, y, z] = orT x y z := by
  unfold orL orL orL orL orT
  by_cases h : z = 0 <;> simp [h]


set_option maxRecDepth 100000 in
theorem isNaN_ok (w0 : World) (i : Int) :
    Calls Try.prog 113 #[.int .i64 i] w0 (Post (X := Unit) (fun _ => .bool false) (fun _ => True) (fun _ => []) w0) := by
  refine calls Try.func113 rfl (n := 6) rfl (by simp) ?_
  refine TC.seq ?_
  refine TC.region ?_
  refine TL.pure (PV.assign rfl) rfl (by decide) ?_
  refine TL.nil ?_
  refine TQ.thenC ?_
  refine TC.seq ?_
  refine TC.region ?_
  refine TL.pure (PV.move rfl) rfl (by decide) ?_
  refine TL.pure (PV.move rfl) rfl (by decide) ?_
  refine TL.pure (PV.neq rfl rfl) rfl (by decide) ?_
  refine TL.pure (PV.assign rfl) rfl (by decide) ?_
  refine TL.nil ?_
  refine TQ.thenC ?_
  refine TC.ret ?_
  refine TQ.retE1 rfl rfl ?_
  exact ⟨(), by simp, trivial, List.nil_sublist _⟩

set_option maxRecDepth 100000 in
theorem cmp_ok (w0 : World) (i j : Int) :
    Calls Try.prog 102 #[.int .i64 i, .int .i64 j] w0 (Post (X := Unit) (fun _ => .int .i64 (cmpI i j)) (fun _ => True) (fun _ => []) w0) := by
  refine calls Try.func102 rfl (n := 20) rfl (by simp) ?_
  refine TC.seq ?_
  refine TC.region ?_
  refine TL.pure (PV.assign rfl) rfl (by decide) ?_
  refine TL.nil ?_
  refine TQ.thenC ?_
  refine TC.seq ?_
  refine TC.region ?_
  refine TL.pure (PV.move rfl) rfl (by decide) ?_
  refine TL.call rfl Tb.gofn_113 (fun a w hs => isNaN_ok _ _) rfl (by decide) (fun _ _ => ?_)
  refine TL.pure (PV.assign rfl) rfl (by decide) ?_
  refine TL.nil ?_
  refine TQ.thenC ?_
  refine TC.seq ?_
  refine TC.region ?_
  refine TL.pure (PV.move rfl) rfl (by decide) ?_
  refine TL.call rfl Tb.gofn_113 (fun a w hs => isNaN_ok _ _) rfl (by decide) (fun _ _ => ?_)
  refine TL.pure (PV.assign rfl) rfl (by decide) ?_
  refine TL.nil ?_
  refine TQ.thenC ?_
  refine TC.seq ?_
  refine TC.seq ?_
  refine TC.region ?_
  refine TL.pure (PV.move rfl) rfl (by decide) ?_
  refine TL.nil ?_
  refine TQ.thenC ?_
  first | refine TC.condD rfl (fun hn => ?_) (fun hn => ?_) | refine TC.cond rfl (fun hn => ?_) (fun hn => ?_)
  · skip
    refine TC.seq ?_
    refine TC.seq ?_
    refine TC.region ?_
    refine TL.pure (PV.move rfl) rfl (by decide) ?_
    refine TL.nil ?_
    refine TQ.thenC ?_
    first | refine TC.condD rfl (fun h1 => ?_) (fun h1 => ?_) | refine TC.cond rfl (fun h1 => ?_) (fun h1 => ?_)
    · skip
      refine TC.seq ?_
      refine TC.region ?_
      refine TL.pure (PV.assign rfl) rfl (by decide) ?_
      refine TL.nil ?_
      refine TQ.thenC ?_
      refine TC.ret ?_
      refine TQ.thenR ?_
      refine TQ.thenR ?_
      refine TQ.retE1 rfl rfl ?_
      first | exact (Bool.false_ne_true hn).elim | exact ⟨(), by rw [cmpI, if_pos (by omega)], trivial, List.nil_sublist _⟩ | exact ⟨(), by rw [cmpI, if_neg (by omega), if_pos (by omega)], trivial, List.nil_sublist _⟩ | exact ⟨(), by rw [cmpI, if_neg (by omega), if_neg (by omega)], trivial, List.nil_sublist _⟩
    · skip
      refine TC.skip ?_
      refine TQ.thenC ?_
      refine TC.seq ?_
      refine TC.region ?_
      refine TL.pure (PV.assign rfl) rfl (by decide) ?_
      refine TL.nil ?_
      refine TQ.thenC ?_
      refine TC.ret ?_
      refine TQ.thenR ?_
      refine TQ.retE1 rfl rfl ?_
      first | exact (Bool.false_ne_true hn).elim | exact ⟨(), by rw [cmpI, if_pos (by omega)], trivial, List.nil_sublist _⟩ | exact ⟨(), by rw [cmpI, if_neg (by omega), if_pos (by omega)], trivial, List.nil_sublist _⟩ | exact ⟨(), by rw [cmpI, if_neg (by omega), if_neg (by omega)], trivial, List.nil_sublist _⟩
  · skip
    refine TC.skip ?_
    refine TQ.thenC ?_
    refine TC.seq ?_
    refine TC.seq ?_
    refine TC.region ?_
    refine TL.pure (PV.move rfl) rfl (by decide) ?_
    refine TL.nil ?_
    refine TQ.thenC ?_
    first | refine TC.condD rfl (fun hn => ?_) (fun hn => ?_) | refine TC.cond rfl (fun hn => ?_) (fun hn => ?_)
    · skip
      refine TC.seq ?_
      refine TC.region ?_
      refine TL.pure (PV.assign rfl) rfl (by decide) ?_
      refine TL.nil ?_
      refine TQ.thenC ?_
      refine TC.ret ?_
      refine TQ.thenR ?_
      refine TQ.retE1 rfl rfl ?_
      first | exact (Bool.false_ne_true hn).elim | exact ⟨(), by rw [cmpI, if_pos (by omega)], trivial, List.nil_sublist _⟩ | exact ⟨(), by rw [cmpI, if_neg (by omega), if_pos (by omega)], trivial, List.nil_sublist _⟩ | exact ⟨(), by rw [cmpI, if_neg (by omega), if_neg (by omega)], trivial, List.nil_sublist _⟩
    · skip
      refine TC.skip ?_
      refine TQ.thenC ?_
      refine TC.seq ?_
      refine TC.seq ?_
      refine TC.region ?_
      refine TL.pure (PV.move rfl) rfl (by decide) ?_
      refine TL.pure (PV.move rfl) rfl (by decide) ?_
      refine TL.pure (PV.lss rfl rfl) rfl (by decide) ?_
      refine TL.nil ?_
      refine TQ.thenC ?_
      first | refine TC.condD rfl (fun hA => ?_) (fun hA => ?_) | refine TC.cond rfl (fun hA => ?_) (fun hA => ?_)
      · skip
        refine TC.seq ?_
        refine TC.region ?_
        refine TL.pure (PV.assign rfl) rfl (by decide) ?_
        refine TL.nil ?_
        refine TQ.thenC ?_
        refine TC.ret ?_
        refine TQ.thenR ?_
        refine TQ.retE1 rfl rfl ?_
        first | exact (Bool.false_ne_true hn).elim | exact ⟨(), by rw [cmpI, if_pos (by omega)], trivial, List.nil_sublist _⟩ | exact ⟨(), by rw [cmpI, if_neg (by omega), if_pos (by omega)], trivial, List.nil_sublist _⟩ | exact ⟨(), by rw [cmpI, if_neg (by omega), if_neg (by omega)], trivial, List.nil_sublist _⟩
      · skip
        refine TC.skip ?_
        refine TQ.thenC ?_
        refine TC.seq ?_
        refine TC.seq ?_
        refine TC.region ?_
        refine TL.pure (PV.move rfl) rfl (by decide) ?_
        refine TL.pure (PV.move rfl) rfl (by decide) ?_
        refine TL.pure (PV.gtr rfl rfl) rfl (by decide) ?_
        refine TL.nil ?_
        refine TQ.thenC ?_
        first | refine TC.condD rfl (fun hB => ?_) (fun hB => ?_) | refine TC.cond rfl (fun hB => ?_) (fun hB => ?_)
        · skip
          refine TC.seq ?_
          refine TC.region ?_
          refine TL.pure (PV.assign rfl) rfl (by decide) ?_
          refine TL.nil ?_
          refine TQ.thenC ?_
          refine TC.ret ?_
          refine TQ.thenR ?_
          refine TQ.retE1 rfl rfl ?_
          first | exact (Bool.false_ne_true hn).elim | exact ⟨(), by rw [cmpI, if_pos (by omega)], trivial, List.nil_sublist _⟩ | exact ⟨(), by rw [cmpI, if_neg (by omega), if_pos (by omega)], trivial, List.nil_sublist _⟩ | exact ⟨(), by rw [cmpI, if_neg (by omega), if_neg (by omega)], trivial, List.nil_sublist _⟩
        · skip
          refine TC.skip ?_
          refine TQ.thenC ?_
          refine TC.seq ?_
          refine TC.region ?_
          refine TL.pure (PV.assign rfl) rfl (by decide) ?_
          refine TL.nil ?_
          refine TQ.thenC ?_
          refine TC.ret ?_
          refine TQ.retE1 rfl rfl ?_
          first | exact (Bool.false_ne_true hn).elim | exact ⟨(), by rw [cmpI, if_pos (by omega)], trivial, List.nil_sublist _⟩ | exact ⟨(), by rw [cmpI, if_neg (by omega), if_pos (by omega)], trivial, List.nil_sublist _⟩ | exact ⟨(), by rw [cmpI, if_neg (by omega), if_neg (by omega)], trivial, List.nil_sublist _⟩

set_option maxRecDepth 100000 in
theorem or_ok (w0 : World) (p : Option Addr) (cp : Nat) (xs : List Int) (hx : IntsAt w0 p xs) (hlen : xs.length ≤ 100) :
    Calls Try.prog 101 #[.slice p xs.length cp] w0 (Post (X := Unit) (fun _ => .int .i64 (orL xs)) (fun _ => True) (fun _ => []) w0) := by
  refine calls Try.func101 rfl (n := 18) rfl (by simp) ?_
  refine TC.seq ?_
  refine TC.region ?_
  refine TL.pure (PV.assign rfl) rfl (by decide) ?_
  refine TL.nil ?_
  refine TQ.thenC ?_
  refine TC.seq ?_
  refine TC.region ?_
  refine TL.pure (PV.assign rfl) rfl (by decide) ?_
  refine TL.nil ?_
  refine TQ.thenC ?_
  refine TC.seq ?_
  refine TC.seq ?_
  refine TC.region ?_
  refine TL.pure (PV.move rfl) rfl (by decide) ?_
  refine TL.pure (PV.len rfl Tb.sl_25) rfl (by decide) ?_
  refine TL.pure (PV.move rfl) rfl (by decide) ?_
  refine TL.nil ?_
  refine TQ.thenC ?_
  refine TC.block ?_
  -- live and written in the loop, not told: [2]
  refine TC.loopG [3, 6, 7] (X := Nat) (fun k => k ≤ xs.length ∧ ∀ j, j < k → xs.getD j 0 = 0) (fun k => [(8, .int .i64 k)]) (fun k => xs.length - k) 0 ⟨Nat.zero_le _, fun j hj => absurd hj (Nat.not_lt_zero _)⟩ (by repeat (first | exact True.intro | refine And.intro rfl ?_)) ?_
  intro k hk
  refine TC.seq ?_
  refine TC.region ?_
  refine TL.pure (PV.lss rfl rfl) rfl (by decide) ?_
  refine TL.nil ?_
  refine TQ.thenC ?_
  refine TC.seq ?_
  first | refine TC.condD rfl (fun hlt => ?_) (fun hlt => ?_) | refine TC.cond rfl (fun hlt => ?_) (fun hlt => ?_)
  · skip
    refine TC.skip ?_
    refine TQ.thenC ?_
    refine TC.seq ?_
    refine TC.block ?_
    refine TC.seq ?_
    obtain ⟨q, hqp, hq⟩ := hx k (by omega)
    refine TC.region ?_
    refine TL.pure (PV.indexA rfl hqp rfl Tb.elm_25 rfl (by omega)) rfl (by decide) ?_
    refine TL.pure (PV.loadOld rfl Tb.one_3 hq) rfl (by decide) ?_
    refine TL.pure (PV.assign rfl) rfl (by decide) ?_
    refine TL.nil ?_
    refine TQ.thenC ?_
    refine TC.seq ?_
    refine TC.region ?_
    refine TL.pure (PV.move rfl) rfl (by decide) ?_
    refine TL.pure (PV.move rfl) rfl (by decide) ?_
    refine TL.pure (PV.neq rfl rfl) rfl (by decide) ?_
    refine TL.nil ?_
    refine TQ.thenC ?_
    first | refine TC.condD rfl (fun hbad => ?_) (fun hbad => ?_) | refine TC.cond rfl (fun hbad => ?_) (fun hbad => ?_)
    · skip
      refine TC.seq ?_
      refine TC.region ?_
      refine TL.pure (PV.move rfl) rfl (by decide) ?_
      refine TL.pure (PV.assign rfl) rfl (by decide) ?_
      refine TL.nil ?_
      refine TQ.thenC ?_
      refine TC.ret ?_
      refine TQ.blkR ?_
      refine TQ.thenR ?_
      refine TQ.thenR ?_
      refine TQ.blkR ?_
      refine TQ.thenR ?_
      refine TQ.retE1 rfl rfl ?_
      first | exact ⟨(), by rw [orL_yes (k := k) (by omega) hk.2 hbad], trivial, List.nil_sublist _⟩ | exact ⟨(), by rw [orL_no (fun j hj => hk.2 j (by omega))], trivial, List.nil_sublist _⟩
    · skip
      refine TC.skip ?_
      refine TQ.blkN ?_
      refine TQ.thenC ?_
      refine TC.region ?_
      refine TL.pure (PV.add rfl rfl (by omega)) rfl (by decide) ?_
      refine TL.pure (PV.move rfl) rfl (by decide) ?_
      refine TL.nil ?_
      refine TQ.thenN ?_
      refine TQ.backK (k + 1) (by repeat (first | exact True.intro | refine And.intro rfl ?_)) (by repeat (first | exact True.intro | refine And.intro rfl ?_)) (by repeat (first | exact List.Sublist.slnil | exact List.nil_sublist _ | exact List.Sublist.refl _ | refine List.Sublist.cons_cons _ ?_ | refine List.Sublist.cons _ ?_ | refine List.Sublist.trans ?_ (List.sublist_append_right _ _))) ⟨by omega, fun j hj => if e : j < k then hk.2 j e else (show j = k by omega) ▸ Decidable.of_not_not hbad⟩ (by omega)
  · skip
    refine TC.exit ?_
    refine TQ.thenE ?_
    refine TQ.thenE ?_
    refine TQ.blkS ?_
    refine TQ.thenC ?_
    refine TC.seq ?_
    refine TC.region ?_
    refine TL.pure (PV.move rfl) rfl (by decide) ?_
    refine TL.pure (PV.assign rfl) rfl (by decide) ?_
    refine TL.nil ?_
    refine TQ.thenC ?_
    refine TC.ret ?_
    refine TQ.retE1 rfl rfl ?_
    first | exact ⟨(), by rw [orL_yes (k := k) (by omega) hk.2 hbad], trivial, List.nil_sublist _⟩ | exact ⟨(), by rw [orL_no (fun j hj => hk.2 j (by omega))], trivial, List.nil_sublist _⟩

set_option maxRecDepth 100000 in
theorem beside_ok (w0 : World) (r s : Bd) :
    Calls Try.prog 88 #[r.val, s.val] w0 (Post (X := Unit) (fun _ => .bool (besB r s)) (fun _ => True) (fun _ => []) w0) := by
  refine calls Try.func88 rfl (n := 17) rfl (by simp) ?_
  refine TC.seq ?_
  refine TC.region ?_
  refine TL.box rfl rfl (by decide) (fun b0 hb0 => ?_)
  refine TL.box rfl rfl (by decide) (fun b1 hb1 => ?_)
  refine TL.pure (PV.assign rfl) rfl (by decide) ?_
  refine TL.nil ?_
  refine TQ.thenC ?_
  refine TC.seq ?_
  refine TC.region ?_
  refine TL.pure (PV.fieldAddr rfl Tb.fo_88_0) rfl (by decide) ?_
  refine TL.pure (PV.load rfl Tb.one_3 (by repeat (first | exact List.Mem.head _ | refine List.Mem.tail _ ?_ | refine List.mem_append_right _ ?_)) rfl) rfl (by decide) ?_
  refine TL.pure (PV.fieldAddr rfl Tb.fo_88_0) rfl (by decide) ?_
  refine TL.pure (PV.load rfl Tb.one_3 (by repeat (first | exact List.Mem.head _ | refine List.Mem.tail _ ?_ | refine List.mem_append_right _ ?_)) rfl) rfl (by decide) ?_
  refine TL.pure (PV.eql rfl rfl) rfl (by decide) ?_
  refine TL.pure (PV.move rfl) rfl (by decide) ?_
  first | refine TL.splitD 10 rfl (fun h0 => ?_) (fun h0 => ?_) | refine TL.split 10 rfl (fun h0 => ?_) (fun h0 => ?_)
  · skip
    refine TL.pure (PV.fieldAddr rfl Tb.fo_88_1) rfl (by decide) ?_
    refine TL.pure (PV.load rfl Tb.one_3 (by repeat (first | exact List.Mem.head _ | refine List.Mem.tail _ ?_ | refine List.mem_append_right _ ?_)) rfl) rfl (by decide) ?_
    refine TL.pure (PV.fieldAddr rfl Tb.fo_88_1) rfl (by decide) ?_
    refine TL.pure (PV.load rfl Tb.one_3 (by repeat (first | exact List.Mem.head _ | refine List.Mem.tail _ ?_ | refine List.mem_append_right _ ?_)) rfl) rfl (by decide) ?_
    refine TL.pure (PV.eql rfl rfl) rfl (by decide) ?_
    refine TL.pure (PV.pickT rfl rfl) rfl (by decide) ?_
    refine TL.pure (PV.assign rfl) rfl (by decide) ?_
    refine TL.nil ?_
    refine TQ.thenC ?_
    refine TC.ret ?_
    refine TQ.retE1 rfl rfl ?_
    first | exact ⟨(), by simp [besB, *], trivial, List.nil_sublist _⟩ | exact ⟨(), by unfold besB; simp_all, trivial, List.nil_sublist _⟩
  · skip
    refine TL.skip rfl (fun k hk => by cases hk; decide) ?_
    refine TL.skip rfl (fun k hk => by cases hk; decide) ?_
    refine TL.skip rfl (fun k hk => by cases hk; decide) ?_
    refine TL.skip rfl (fun k hk => by cases hk; decide) ?_
    refine TL.skip rfl (fun k hk => by cases hk; decide) ?_
    refine TL.pure (PV.pickF rfl rfl) rfl (by decide) ?_
    refine TL.pure (PV.assign rfl) rfl (by decide) ?_
    refine TL.nil ?_
    refine TQ.thenC ?_
    refine TC.ret ?_
    refine TQ.retE1 rfl rfl ?_
    first | exact ⟨(), by simp [besB, *], trivial, List.nil_sublist _⟩ | exact ⟨(), by unfold besB; simp_all, trivial, List.nil_sublist _⟩

end Go.Proofs.Ytenalmddoljhoaa
