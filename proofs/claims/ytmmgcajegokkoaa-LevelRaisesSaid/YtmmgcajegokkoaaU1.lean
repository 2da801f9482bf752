/- Lowest terms the other way, checks of claims, shares: contracts. -/
import Derived.Test.YtmmgcajegokkoaaS1
import Derived.Test.YtmmgcajegokkoaaSw
import Derived.Test.YtmmgcajegokkoaaQ1
namespace Go.Proofs.Ytmmgcajegokkoaa
open Go.Sx Go.RowKit

theorem gcd_tmod (a b : Int) : Int.gcd b (a.tmod b) = Int.gcd a b := by
  unfold Int.gcd
  rw [Int.natAbs_tmod, Nat.gcd_comm a.natAbs b.natAbs, Nat.gcd_rec b.natAbs a.natAbs, Nat.gcd_comm]
theorem tmod_bd {a b B : Int} (hb : b ≠ 0) (h : -B ≤ b ∧ b ≤ B) : -B ≤ a.tmod b ∧ a.tmod b ≤ B := by
  have h1 := Int.natAbs_tmod a b
  have h2 : a.natAbs % b.natAbs < b.natAbs := Nat.mod_lt _ (by omega)
  omega
theorem tmod_less {a b : Int} (hb : b ≠ 0) : (a.tmod b).natAbs < b.natAbs := by
  rw [Int.natAbs_tmod]
  exact Nat.mod_lt _ (by omega)
def withinL (xs : List Int) (m : Int) : Bool := xs.all fun x => isWithinB x m
theorem withinL_at {xs : List Int} {m : Int} (h : withinL xs m = true) (j : Nat) (hm : 0 ≤ m) : -m ≤ xs.getD j 0 ∧ xs.getD j 0 ≤ m := by
  by_cases hj : j < xs.length
  · have := List.all_eq_true.1 h (xs.getD j 0) (by simp [List.getD, hj])
    simpa [isWithinB] using this
  · have : xs.getD j 0 = 0 := by simp [List.getD, hj]
    rw [this]; omega
theorem withinL_no {xs : List Int} {m : Int} {k : Nat} (hk : k < xs.length) (h : isWithinB (xs.getD k 0) m = false) : withinL xs m = false := by
  cases hw : withinL xs m
  · rfl
  · have := List.all_eq_true.1 hw (xs.getD k 0) (by simp [List.getD, hk])
    rw [this] at h; cases h
theorem surL_len (N : Nat) (rs : List Rd) (am : List Int) : (surL N rs am).length = N := by simp [surL, surF_len]
/-- What a check of a claim answers. -/
def checkE (n : Int) (rs : List Rd) (den : Int) (nums : List Int) : Int :=
  if validateI n rs ≠ 0 then validateI n rs else if ¬ ((1 ≤ den ∧ den ≤ 1000000) ∧ (nums.length : Int) = n ∧ withinL nums 1000000000 = true) then 1
  else if ∀ j, j < n.toNat → Root n.toNat rs j → nums.getD j 0 = 0 then (if zeroB (surL n.toNat rs (residL rs den nums)) then 0 else 7) else 7
theorem resid_bd {n : Int} {rs : List Rd} {den : Int} {nums : List Int} (hv : Valid n rs) (hd : 1 ≤ den ∧ den ≤ 1000000) (hb : Bd nums 1000000000) : Bd (residL rs den nums) 4000000000 := by
  intro j
  by_cases h : j < rs.length
  · have e : (residL rs den nums).getD j 0 = resR rs den nums j := by simp [residL, List.getD, h]
    rw [e]
    have h1 := hv.at h
    have h2 := hb (rs.getD j default).to.toNat
    have h3 := hb (rs.getD j default).fr.toNat
    have h4 := (show Bn (rs.getD j default).rise 1000 from h1.2.2.2.1).mul (show Bn den 1000000 from ⟨by omega, by omega⟩)
    unfold Bn at h4
    unfold resR
    omega
  · have e : (residL rs den nums).getD j 0 = 0 := by simp [residL, List.getD, h]
    rw [e]; omega
theorem checkE_ok {n : Int} {rs : List Rd} {den : Int} {nums : List Int} (h : checkE n rs den nums = 0) : Valid n rs ∧ (1 ≤ den ∧ den ≤ 1000000) ∧ (nums.length : Int) = n ∧ withinL nums 1000000000 = true ∧ (∀ j, j < n.toNat → Root n.toNat rs j → nums.getD j 0 = 0) ∧ zeroB (surL n.toNat rs (residL rs den nums)) = true := by
  unfold checkE at h
  split at h
  · omega
  · next h1 =>
    split at h
    · omega
    · next h2 =>
      split at h
      · next h3 =>
        split at h
        · next h4 => exact ⟨Decidable.of_not_not (p := validateI n rs = 0) h1, (Decidable.of_not_not h2).1, (Decidable.of_not_not h2).2.1, (Decidable.of_not_not h2).2.2, h3, h4⟩
        · omega
      · omega


set_option maxRecDepth 100000 in
theorem ratio_ok (w0 : World) (num den : Int) (hd : 0 < den ∧ den ≤ 4000000000000000000) (hn : -4000000000000000000 ≤ num ∧ num ≤ 4000000000000000000) :
    Calls Try.prog 50 #[.int .i64 num, .int .i64 den] w0 (Post (X := Unit) (fun _ => lowV num den) (fun _ => True) (fun _ => []) w0) := by
  refine calls Try.func50 rfl (n := 29) rfl (by simp) ?_
  refine TC.seq ?_
  refine TC.region ?_
  refine TL.alloc Tb.zero_46 rfl (by decide) (fun b0 hb0 => ?_)
  refine TL.nil ?_
  refine TQ.thenC ?_
  refine TC.seq ?_
  refine TC.region ?_
  refine TL.pure (PV.move rfl) rfl (by decide) ?_
  refine TL.pure (PV.move rfl) rfl (by decide) ?_
  refine TL.pure (PV.assign rfl) rfl (by decide) ?_
  refine TL.pure (PV.assign rfl) rfl (by decide) ?_
  refine TL.nil ?_
  refine TQ.thenC ?_
  refine TC.seq ?_
  refine TC.block ?_
  refine TC.loopG [0, 1, 4] (X := Int × Int) (fun x => Int.gcd x.1 x.2 = Int.gcd num den ∧ (-4000000000000000000 ≤ x.1 ∧ x.1 ≤ 4000000000000000000) ∧ (-4000000000000000000 ≤ x.2 ∧ x.2 ≤ 4000000000000000000)) (fun x => [(5, .int .i64 x.1), (6, .int .i64 x.2)]) (fun x => x.2.natAbs) (num, den) ⟨rfl, by omega, by omega⟩ (by repeat (first | exact True.intro | refine And.intro rfl ?_)) ?_
  intro x hx
  obtain ⟨hx1, hx2, hx3⟩ := hx
  refine TC.seq ?_
  refine TC.seq ?_
  refine TC.region ?_
  refine TL.pure (PV.move rfl) rfl (by decide) ?_
  refine TL.pure (PV.neq rfl rfl) rfl (by decide) ?_
  refine TL.nil ?_
  refine TQ.thenC ?_
  first | refine TC.condD rfl (fun hne => ?_) (fun hne => ?_) | refine TC.cond rfl (fun hne => ?_) (fun hne => ?_)
  · skip
    refine TC.skip ?_
    refine TQ.thenC ?_
    refine TC.block ?_
    refine TC.mixE [false, false, false, false, false, false] _ 6 Tb.mixed rfl (by kernel_rfl) (by kernel_rfl) (by kernel_rfl) (by kernel_rfl) (List.Sublist.refl _) ?_
    refine TY.no ?_
    refine TY.no ?_
    refine TY.no ?_
    refine TY.no ?_
    refine TY.no ?_
    refine TY.no ?_
    refine TY.fin ?_
    refine TX.step [0, 1, 2] (by kernel_rfl) (by decide) ⟨⟨_, rfl, ?_⟩, ⟨_, rfl, ?_⟩, ⟨_, rfl, ?_⟩, trivial⟩
    · skip
      refine TL.pure (PV.move rfl) rfl (by decide) ?_
      refine TL.nil ?_
      refine TX.next (.inr (by kernel_rfl)) ?_
      refine TX.step [1, 2] (by kernel_rfl) (by decide) ⟨⟨_, rfl, ?_⟩, ⟨_, rfl, ?_⟩, trivial⟩
      · skip
        refine TL.pure (PV.move rfl) rfl (by decide) ?_
        refine TL.nil ?_
        refine TX.next (.inr (by kernel_rfl)) ?_
        refine TX.step [2, 4] (by kernel_rfl) (by decide) ⟨⟨_, rfl, ?_⟩, ⟨_, rfl, ?_⟩, trivial⟩
        · skip
          refine TL.pure (PV.move rfl) rfl (by decide) ?_
          refine TL.nil ?_
          refine TX.next (.inr (by kernel_rfl)) ?_
          refine TX.step [3, 4] (by kernel_rfl) (by decide) ⟨⟨_, rfl, ?_⟩, ⟨_, rfl, ?_⟩, trivial⟩
          · skip
            refine TL.pure (PV.rem rfl rfl hne (by have := tmod_bd (a := x.1) hne hx3; omega)) rfl (by decide) ?_
            refine TL.nil ?_
            refine TX.next (.inr (by kernel_rfl)) ?_
            refine TX.step [4] (by kernel_rfl) (by decide) ⟨⟨_, rfl, ?_⟩, trivial⟩
            refine TL.pure (PV.assign rfl) rfl (by decide) ?_
            refine TL.nil ?_
            refine TX.next (.inr (by kernel_rfl)) ?_
            refine TX.step [5] (by kernel_rfl) (by decide) ⟨⟨_, rfl, ?_⟩, trivial⟩
            refine TL.pure (PV.assign rfl) rfl (by decide) ?_
            refine TL.nil ?_
            refine TX.next (.inr (by kernel_rfl)) ?_
            refine TX.done (by kernel_rfl) ?_
            refine TQ.blkN ?_
            refine TQ.thenN ?_
            refine TQ.backK (x.2, x.1.tmod x.2) (by repeat (first | exact True.intro | refine And.intro rfl ?_)) (by repeat (first | exact True.intro | refine And.intro rfl ?_)) (by repeat (first | exact List.Sublist.slnil | exact List.nil_sublist _ | exact List.Sublist.refl _ | refine List.Sublist.cons_cons _ ?_ | refine List.Sublist.cons _ ?_ | refine List.Sublist.trans ?_ (List.sublist_append_right _ _))) ⟨(gcd_tmod _ _).trans hx1, by omega, tmod_bd hne hx3⟩ (tmod_less hne)
          · skip
            refine TL.pure (PV.assign rfl) rfl (by decide) ?_
            refine TL.nil ?_
            refine TX.next (.inr (by kernel_rfl)) ?_
            refine TX.step [3] (by kernel_rfl) (by decide) ⟨⟨_, rfl, ?_⟩, trivial⟩
            refine TL.pure (PV.rem rfl rfl hne (by have := tmod_bd (a := x.1) hne hx3; omega)) rfl (by decide) ?_
            refine TL.nil ?_
            refine TX.next (.inr (by kernel_rfl)) ?_
            refine TX.step [5] (by kernel_rfl) (by decide) ⟨⟨_, rfl, ?_⟩, trivial⟩
            refine TL.pure (PV.assign rfl) rfl (by decide) ?_
            refine TL.nil ?_
            refine TX.next (.inr (by kernel_rfl)) ?_
            refine TX.done (by kernel_rfl) ?_
            refine TQ.blkN ?_
            refine TQ.thenN ?_
            refine TQ.backK (x.2, x.1.tmod x.2) (by repeat (first | exact True.intro | refine And.intro rfl ?_)) (by repeat (first | exact True.intro | refine And.intro rfl ?_)) (by repeat (first | exact List.Sublist.slnil | exact List.nil_sublist _ | exact List.Sublist.refl _ | refine List.Sublist.cons_cons _ ?_ | refine List.Sublist.cons _ ?_ | refine List.Sublist.trans ?_ (List.sublist_append_right _ _))) ⟨(gcd_tmod _ _).trans hx1, by omega, tmod_bd hne hx3⟩ (tmod_less hne)
        · skip
          refine TL.pure (PV.assign rfl) rfl (by decide) ?_
          refine TL.nil ?_
          refine TX.next (.inr (by kernel_rfl)) ?_
          refine TX.step [2] (by kernel_rfl) (by decide) ⟨⟨_, rfl, ?_⟩, trivial⟩
          refine TL.pure (PV.move rfl) rfl (by decide) ?_
          refine TL.nil ?_
          refine TX.next (.inr (by kernel_rfl)) ?_
          refine TX.step [3] (by kernel_rfl) (by decide) ⟨⟨_, rfl, ?_⟩, trivial⟩
          refine TL.pure (PV.rem rfl rfl hne (by have := tmod_bd (a := x.1) hne hx3; omega)) rfl (by decide) ?_
          refine TL.nil ?_
          refine TX.next (.inr (by kernel_rfl)) ?_
          refine TX.step [5] (by kernel_rfl) (by decide) ⟨⟨_, rfl, ?_⟩, trivial⟩
          refine TL.pure (PV.assign rfl) rfl (by decide) ?_
          refine TL.nil ?_
          refine TX.next (.inr (by kernel_rfl)) ?_
          refine TX.done (by kernel_rfl) ?_
          refine TQ.blkN ?_
          refine TQ.thenN ?_
          refine TQ.backK (x.2, x.1.tmod x.2) (by repeat (first | exact True.intro | refine And.intro rfl ?_)) (by repeat (first | exact True.intro | refine And.intro rfl ?_)) (by repeat (first | exact List.Sublist.slnil | exact List.nil_sublist _ | exact List.Sublist.refl _ | refine List.Sublist.cons_cons _ ?_ | refine List.Sublist.cons _ ?_ | refine List.Sublist.trans ?_ (List.sublist_append_right _ _))) ⟨(gcd_tmod _ _).trans hx1, by omega, tmod_bd hne hx3⟩ (tmod_less hne)
      · skip
        refine TL.pure (PV.move rfl) rfl (by decide) ?_
        refine TL.nil ?_
        refine TX.next (.inr (by kernel_rfl)) ?_
        refine TX.step [1] (by kernel_rfl) (by decide) ⟨⟨_, rfl, ?_⟩, trivial⟩
        refine TL.pure (PV.move rfl) rfl (by decide) ?_
        refine TL.nil ?_
        refine TX.next (.inr (by kernel_rfl)) ?_
        refine TX.step [3, 4] (by kernel_rfl) (by decide) ⟨⟨_, rfl, ?_⟩, ⟨_, rfl, ?_⟩, trivial⟩
        · skip
          refine TL.pure (PV.rem rfl rfl hne (by have := tmod_bd (a := x.1) hne hx3; omega)) rfl (by decide) ?_
          refine TL.nil ?_
          refine TX.next (.inr (by kernel_rfl)) ?_
          refine TX.step [4] (by kernel_rfl) (by decide) ⟨⟨_, rfl, ?_⟩, trivial⟩
          refine TL.pure (PV.assign rfl) rfl (by decide) ?_
          refine TL.nil ?_
          refine TX.next (.inr (by kernel_rfl)) ?_
          refine TX.step [5] (by kernel_rfl) (by decide) ⟨⟨_, rfl, ?_⟩, trivial⟩
          refine TL.pure (PV.assign rfl) rfl (by decide) ?_
          refine TL.nil ?_
          refine TX.next (.inr (by kernel_rfl)) ?_
          refine TX.done (by kernel_rfl) ?_
          refine TQ.blkN ?_
          refine TQ.thenN ?_
          refine TQ.backK (x.2, x.1.tmod x.2) (by repeat (first | exact True.intro | refine And.intro rfl ?_)) (by repeat (first | exact True.intro | refine And.intro rfl ?_)) (by repeat (first | exact List.Sublist.slnil | exact List.nil_sublist _ | exact List.Sublist.refl _ | refine List.Sublist.cons_cons _ ?_ | refine List.Sublist.cons _ ?_ | refine List.Sublist.trans ?_ (List.sublist_append_right _ _))) ⟨(gcd_tmod _ _).trans hx1, by omega, tmod_bd hne hx3⟩ (tmod_less hne)
        · skip
          refine TL.pure (PV.assign rfl) rfl (by decide) ?_
          refine TL.nil ?_
          refine TX.next (.inr (by kernel_rfl)) ?_
          refine TX.step [3] (by kernel_rfl) (by decide) ⟨⟨_, rfl, ?_⟩, trivial⟩
          refine TL.pure (PV.rem rfl rfl hne (by have := tmod_bd (a := x.1) hne hx3; omega)) rfl (by decide) ?_
          refine TL.nil ?_
          refine TX.next (.inr (by kernel_rfl)) ?_
          refine TX.step [5] (by kernel_rfl) (by decide) ⟨⟨_, rfl, ?_⟩, trivial⟩
          refine TL.pure (PV.assign rfl) rfl (by decide) ?_
          refine TL.nil ?_
          refine TX.next (.inr (by kernel_rfl)) ?_
          refine TX.done (by kernel_rfl) ?_
          refine TQ.blkN ?_
          refine TQ.thenN ?_
          refine TQ.backK (x.2, x.1.tmod x.2) (by repeat (first | exact True.intro | refine And.intro rfl ?_)) (by repeat (first | exact True.intro | refine And.intro rfl ?_)) (by repeat (first | exact List.Sublist.slnil | exact List.nil_sublist _ | exact List.Sublist.refl _ | refine List.Sublist.cons_cons _ ?_ | refine List.Sublist.cons _ ?_ | refine List.Sublist.trans ?_ (List.sublist_append_right _ _))) ⟨(gcd_tmod _ _).trans hx1, by omega, tmod_bd hne hx3⟩ (tmod_less hne)
    · skip
      refine TL.pure (PV.move rfl) rfl (by decide) ?_
      refine TL.nil ?_
      refine TX.next (.inr (by kernel_rfl)) ?_
      refine TX.step [0, 2] (by kernel_rfl) (by decide) ⟨⟨_, rfl, ?_⟩, ⟨_, rfl, ?_⟩, trivial⟩
      · skip
        refine TL.pure (PV.move rfl) rfl (by decide) ?_
        refine TL.nil ?_
        refine TX.next (.inr (by kernel_rfl)) ?_
        refine TX.step [2, 4] (by kernel_rfl) (by decide) ⟨⟨_, rfl, ?_⟩, ⟨_, rfl, ?_⟩, trivial⟩
        · skip
          refine TL.pure (PV.move rfl) rfl (by decide) ?_
          refine TL.nil ?_
          refine TX.next (.inr (by kernel_rfl)) ?_
          refine TX.step [3, 4] (by kernel_rfl) (by decide) ⟨⟨_, rfl, ?_⟩, ⟨_, rfl, ?_⟩, trivial⟩
          · skip
            refine TL.pure (PV.rem rfl rfl hne (by have := tmod_bd (a := x.1) hne hx3; omega)) rfl (by decide) ?_
            refine TL.nil ?_
            refine TX.next (.inr (by kernel_rfl)) ?_
            refine TX.step [4] (by kernel_rfl) (by decide) ⟨⟨_, rfl, ?_⟩, trivial⟩
            refine TL.pure (PV.assign rfl) rfl (by decide) ?_
            refine TL.nil ?_
            refine TX.next (.inr (by kernel_rfl)) ?_
            refine TX.step [5] (by kernel_rfl) (by decide) ⟨⟨_, rfl, ?_⟩, trivial⟩
            refine TL.pure (PV.assign rfl) rfl (by decide) ?_
            refine TL.nil ?_
            refine TX.next (.inr (by kernel_rfl)) ?_
            refine TX.done (by kernel_rfl) ?_
            refine TQ.blkN ?_
            refine TQ.thenN ?_
            refine TQ.backK (x.2, x.1.tmod x.2) (by repeat (first | exact True.intro | refine And.intro rfl ?_)) (by repeat (first | exact True.intro | refine And.intro rfl ?_)) (by repeat (first | exact List.Sublist.slnil | exact List.nil_sublist _ | exact List.Sublist.refl _ | refine List.Sublist.cons_cons _ ?_ | refine List.Sublist.cons _ ?_ | refine List.Sublist.trans ?_ (List.sublist_append_right _ _))) ⟨(gcd_tmod _ _).trans hx1, by omega, tmod_bd hne hx3⟩ (tmod_less hne)
          · skip
            refine TL.pure (PV.assign rfl) rfl (by decide) ?_
            refine TL.nil ?_
            refine TX.next (.inr (by kernel_rfl)) ?_
            refine TX.step [3] (by kernel_rfl) (by decide) ⟨⟨_, rfl, ?_⟩, trivial⟩
            refine TL.pure (PV.rem rfl rfl hne (by have := tmod_bd (a := x.1) hne hx3; omega)) rfl (by decide) ?_
            refine TL.nil ?_
            refine TX.next (.inr (by kernel_rfl)) ?_
            refine TX.step [5] (by kernel_rfl) (by decide) ⟨⟨_, rfl, ?_⟩, trivial⟩
            refine TL.pure (PV.assign rfl) rfl (by decide) ?_
            refine TL.nil ?_
            refine TX.next (.inr (by kernel_rfl)) ?_
            refine TX.done (by kernel_rfl) ?_
            refine TQ.blkN ?_
            refine TQ.thenN ?_
            refine TQ.backK (x.2, x.1.tmod x.2) (by repeat (first | exact True.intro | refine And.intro rfl ?_)) (by repeat (first | exact True.intro | refine And.intro rfl ?_)) (by repeat (first | exact List.Sublist.slnil | exact List.nil_sublist _ | exact List.Sublist.refl _ | refine List.Sublist.cons_cons _ ?_ | refine List.Sublist.cons _ ?_ | refine List.Sublist.trans ?_ (List.sublist_append_right _ _))) ⟨(gcd_tmod _ _).trans hx1, by omega, tmod_bd hne hx3⟩ (tmod_less hne)
        · skip
          refine TL.pure (PV.assign rfl) rfl (by decide) ?_
          refine TL.nil ?_
          refine TX.next (.inr (by kernel_rfl)) ?_
          refine TX.step [2] (by kernel_rfl) (by decide) ⟨⟨_, rfl, ?_⟩, trivial⟩
          refine TL.pure (PV.move rfl) rfl (by decide) ?_
          refine TL.nil ?_
          refine TX.next (.inr (by kernel_rfl)) ?_
          refine TX.step [3] (by kernel_rfl) (by decide) ⟨⟨_, rfl, ?_⟩, trivial⟩
          refine TL.pure (PV.rem rfl rfl hne (by have := tmod_bd (a := x.1) hne hx3; omega)) rfl (by decide) ?_
          refine TL.nil ?_
          refine TX.next (.inr (by kernel_rfl)) ?_
          refine TX.step [5] (by kernel_rfl) (by decide) ⟨⟨_, rfl, ?_⟩, trivial⟩
          refine TL.pure (PV.assign rfl) rfl (by decide) ?_
          refine TL.nil ?_
          refine TX.next (.inr (by kernel_rfl)) ?_
          refine TX.done (by kernel_rfl) ?_
          refine TQ.blkN ?_
          refine TQ.thenN ?_
          refine TQ.backK (x.2, x.1.tmod x.2) (by repeat (first | exact True.intro | refine And.intro rfl ?_)) (by repeat (first | exact True.intro | refine And.intro rfl ?_)) (by repeat (first | exact List.Sublist.slnil | exact List.nil_sublist _ | exact List.Sublist.refl _ | refine List.Sublist.cons_cons _ ?_ | refine List.Sublist.cons _ ?_ | refine List.Sublist.trans ?_ (List.sublist_append_right _ _))) ⟨(gcd_tmod _ _).trans hx1, by omega, tmod_bd hne hx3⟩ (tmod_less hne)
      · skip
        refine TL.pure (PV.move rfl) rfl (by decide) ?_
        refine TL.nil ?_
        refine TX.next (.inr (by kernel_rfl)) ?_
        refine TX.step [0, 3] (by kernel_rfl) (by decide) ⟨⟨_, rfl, ?_⟩, ⟨_, rfl, ?_⟩, trivial⟩
        · skip
          refine TL.pure (PV.move rfl) rfl (by decide) ?_
          refine TL.nil ?_
          refine TX.next (.inr (by kernel_rfl)) ?_
          refine TX.step [3, 4] (by kernel_rfl) (by decide) ⟨⟨_, rfl, ?_⟩, ⟨_, rfl, ?_⟩, trivial⟩
          · skip
            refine TL.pure (PV.rem rfl rfl hne (by have := tmod_bd (a := x.1) hne hx3; omega)) rfl (by decide) ?_
            refine TL.nil ?_
            refine TX.next (.inr (by kernel_rfl)) ?_
            refine TX.step [4] (by kernel_rfl) (by decide) ⟨⟨_, rfl, ?_⟩, trivial⟩
            refine TL.pure (PV.assign rfl) rfl (by decide) ?_
            refine TL.nil ?_
            refine TX.next (.inr (by kernel_rfl)) ?_
            refine TX.step [5] (by kernel_rfl) (by decide) ⟨⟨_, rfl, ?_⟩, trivial⟩
            refine TL.pure (PV.assign rfl) rfl (by decide) ?_
            refine TL.nil ?_
            refine TX.next (.inr (by kernel_rfl)) ?_
            refine TX.done (by kernel_rfl) ?_
            refine TQ.blkN ?_
            refine TQ.thenN ?_
            refine TQ.backK (x.2, x.1.tmod x.2) (by repeat (first | exact True.intro | refine And.intro rfl ?_)) (by repeat (first | exact True.intro | refine And.intro rfl ?_)) (by repeat (first | exact List.Sublist.slnil | exact List.nil_sublist _ | exact List.Sublist.refl _ | refine List.Sublist.cons_cons _ ?_ | refine List.Sublist.cons _ ?_ | refine List.Sublist.trans ?_ (List.sublist_append_right _ _))) ⟨(gcd_tmod _ _).trans hx1, by omega, tmod_bd hne hx3⟩ (tmod_less hne)
          · skip
            refine TL.pure (PV.assign rfl) rfl (by decide) ?_
            refine TL.nil ?_
            refine TX.next (.inr (by kernel_rfl)) ?_
            refine TX.step [3] (by kernel_rfl) (by decide) ⟨⟨_, rfl, ?_⟩, trivial⟩
            refine TL.pure (PV.rem rfl rfl hne (by have := tmod_bd (a := x.1) hne hx3; omega)) rfl (by decide) ?_
            refine TL.nil ?_
            refine TX.next (.inr (by kernel_rfl)) ?_
            refine TX.step [5] (by kernel_rfl) (by decide) ⟨⟨_, rfl, ?_⟩, trivial⟩
            refine TL.pure (PV.assign rfl) rfl (by decide) ?_
            refine TL.nil ?_
            refine TX.next (.inr (by kernel_rfl)) ?_
            refine TX.done (by kernel_rfl) ?_
            refine TQ.blkN ?_
            refine TQ.thenN ?_
            refine TQ.backK (x.2, x.1.tmod x.2) (by repeat (first | exact True.intro | refine And.intro rfl ?_)) (by repeat (first | exact True.intro | refine And.intro rfl ?_)) (by repeat (first | exact List.Sublist.slnil | exact List.nil_sublist _ | exact List.Sublist.refl _ | refine List.Sublist.cons_cons _ ?_ | refine List.Sublist.cons _ ?_ | refine List.Sublist.trans ?_ (List.sublist_append_right _ _))) ⟨(gcd_tmod _ _).trans hx1, by omega, tmod_bd hne hx3⟩ (tmod_less hne)
        · skip
          refine TL.pure (PV.rem rfl rfl hne (by have := tmod_bd (a := x.1) hne hx3; omega)) rfl (by decide) ?_
          refine TL.nil ?_
          refine TX.next (.inr (by kernel_rfl)) ?_
          refine TX.step [0] (by kernel_rfl) (by decide) ⟨⟨_, rfl, ?_⟩, trivial⟩
          refine TL.pure (PV.move rfl) rfl (by decide) ?_
          refine TL.nil ?_
          refine TX.next (.inr (by kernel_rfl)) ?_
          refine TX.step [4] (by kernel_rfl) (by decide) ⟨⟨_, rfl, ?_⟩, trivial⟩
          refine TL.pure (PV.assign rfl) rfl (by decide) ?_
          refine TL.nil ?_
          refine TX.next (.inr (by kernel_rfl)) ?_
          refine TX.step [5] (by kernel_rfl) (by decide) ⟨⟨_, rfl, ?_⟩, trivial⟩
          refine TL.pure (PV.assign rfl) rfl (by decide) ?_
          refine TL.nil ?_
          refine TX.next (.inr (by kernel_rfl)) ?_
          refine TX.done (by kernel_rfl) ?_
          refine TQ.blkN ?_
          refine TQ.thenN ?_
          refine TQ.backK (x.2, x.1.tmod x.2) (by repeat (first | exact True.intro | refine And.intro rfl ?_)) (by repeat (first | exact True.intro | refine And.intro rfl ?_)) (by repeat (first | exact List.Sublist.slnil | exact List.nil_sublist _ | exact List.Sublist.refl _ | refine List.Sublist.cons_cons _ ?_ | refine List.Sublist.cons _ ?_ | refine List.Sublist.trans ?_ (List.sublist_append_right _ _))) ⟨(gcd_tmod _ _).trans hx1, by omega, tmod_bd hne hx3⟩ (tmod_less hne)
    · skip
      refine TL.pure (PV.move rfl) rfl (by decide) ?_
      refine TL.nil ?_
      refine TX.next (.inr (by kernel_rfl)) ?_
      refine TX.step [0, 1] (by kernel_rfl) (by decide) ⟨⟨_, rfl, ?_⟩, ⟨_, rfl, ?_⟩, trivial⟩
      · skip
        refine TL.pure (PV.move rfl) rfl (by decide) ?_
        refine TL.nil ?_
        refine TX.next (.inr (by kernel_rfl)) ?_
        refine TX.step [1] (by kernel_rfl) (by decide) ⟨⟨_, rfl, ?_⟩, trivial⟩
        refine TL.pure (PV.move rfl) rfl (by decide) ?_
        refine TL.nil ?_
        refine TX.next (.inr (by kernel_rfl)) ?_
        refine TX.step [3, 4] (by kernel_rfl) (by decide) ⟨⟨_, rfl, ?_⟩, ⟨_, rfl, ?_⟩, trivial⟩
        · skip
          refine TL.pure (PV.rem rfl rfl hne (by have := tmod_bd (a := x.1) hne hx3; omega)) rfl (by decide) ?_
          refine TL.nil ?_
          refine TX.next (.inr (by kernel_rfl)) ?_
          refine TX.step [4] (by kernel_rfl) (by decide) ⟨⟨_, rfl, ?_⟩, trivial⟩
          refine TL.pure (PV.assign rfl) rfl (by decide) ?_
          refine TL.nil ?_
          refine TX.next (.inr (by kernel_rfl)) ?_
          refine TX.step [5] (by kernel_rfl) (by decide) ⟨⟨_, rfl, ?_⟩, trivial⟩
          refine TL.pure (PV.assign rfl) rfl (by decide) ?_
          refine TL.nil ?_
          refine TX.next (.inr (by kernel_rfl)) ?_
          refine TX.done (by kernel_rfl) ?_
          refine TQ.blkN ?_
          refine TQ.thenN ?_
          refine TQ.backK (x.2, x.1.tmod x.2) (by repeat (first | exact True.intro | refine And.intro rfl ?_)) (by repeat (first | exact True.intro | refine And.intro rfl ?_)) (by repeat (first | exact List.Sublist.slnil | exact List.nil_sublist _ | exact List.Sublist.refl _ | refine List.Sublist.cons_cons _ ?_ | refine List.Sublist.cons _ ?_ | refine List.Sublist.trans ?_ (List.sublist_append_right _ _))) ⟨(gcd_tmod _ _).trans hx1, by omega, tmod_bd hne hx3⟩ (tmod_less hne)
        · skip
          refine TL.pure (PV.assign rfl) rfl (by decide) ?_
          refine TL.nil ?_
          refine TX.next (.inr (by kernel_rfl)) ?_
          refine TX.step [3] (by kernel_rfl) (by decide) ⟨⟨_, rfl, ?_⟩, trivial⟩
          refine TL.pure (PV.rem rfl rfl hne (by have := tmod_bd (a := x.1) hne hx3; omega)) rfl (by decide) ?_
          refine TL.nil ?_
          refine TX.next (.inr (by kernel_rfl)) ?_
          refine TX.step [5] (by kernel_rfl) (by decide) ⟨⟨_, rfl, ?_⟩, trivial⟩
          refine TL.pure (PV.assign rfl) rfl (by decide) ?_
          refine TL.nil ?_
          refine TX.next (.inr (by kernel_rfl)) ?_
          refine TX.done (by kernel_rfl) ?_
          refine TQ.blkN ?_
          refine TQ.thenN ?_
          refine TQ.backK (x.2, x.1.tmod x.2) (by repeat (first | exact True.intro | refine And.intro rfl ?_)) (by repeat (first | exact True.intro | refine And.intro rfl ?_)) (by repeat (first | exact List.Sublist.slnil | exact List.nil_sublist _ | exact List.Sublist.refl _ | refine List.Sublist.cons_cons _ ?_ | refine List.Sublist.cons _ ?_ | refine List.Sublist.trans ?_ (List.sublist_append_right _ _))) ⟨(gcd_tmod _ _).trans hx1, by omega, tmod_bd hne hx3⟩ (tmod_less hne)
      · skip
        refine TL.pure (PV.move rfl) rfl (by decide) ?_
        refine TL.nil ?_
        refine TX.next (.inr (by kernel_rfl)) ?_
        refine TX.step [0, 3] (by kernel_rfl) (by decide) ⟨⟨_, rfl, ?_⟩, ⟨_, rfl, ?_⟩, trivial⟩
        · skip
          refine TL.pure (PV.move rfl) rfl (by decide) ?_
          refine TL.nil ?_
          refine TX.next (.inr (by kernel_rfl)) ?_
          refine TX.step [3, 4] (by kernel_rfl) (by decide) ⟨⟨_, rfl, ?_⟩, ⟨_, rfl, ?_⟩, trivial⟩
          · skip
            refine TL.pure (PV.rem rfl rfl hne (by have := tmod_bd (a := x.1) hne hx3; omega)) rfl (by decide) ?_
            refine TL.nil ?_
            refine TX.next (.inr (by kernel_rfl)) ?_
            refine TX.step [4] (by kernel_rfl) (by decide) ⟨⟨_, rfl, ?_⟩, trivial⟩
            refine TL.pure (PV.assign rfl) rfl (by decide) ?_
            refine TL.nil ?_
            refine TX.next (.inr (by kernel_rfl)) ?_
            refine TX.step [5] (by kernel_rfl) (by decide) ⟨⟨_, rfl, ?_⟩, trivial⟩
            refine TL.pure (PV.assign rfl) rfl (by decide) ?_
            refine TL.nil ?_
            refine TX.next (.inr (by kernel_rfl)) ?_
            refine TX.done (by kernel_rfl) ?_
            refine TQ.blkN ?_
            refine TQ.thenN ?_
            refine TQ.backK (x.2, x.1.tmod x.2) (by repeat (first | exact True.intro | refine And.intro rfl ?_)) (by repeat (first | exact True.intro | refine And.intro rfl ?_)) (by repeat (first | exact List.Sublist.slnil | exact List.nil_sublist _ | exact List.Sublist.refl _ | refine List.Sublist.cons_cons _ ?_ | refine List.Sublist.cons _ ?_ | refine List.Sublist.trans ?_ (List.sublist_append_right _ _))) ⟨(gcd_tmod _ _).trans hx1, by omega, tmod_bd hne hx3⟩ (tmod_less hne)
          · skip
            refine TL.pure (PV.assign rfl) rfl (by decide) ?_
            refine TL.nil ?_
            refine TX.next (.inr (by kernel_rfl)) ?_
            refine TX.step [3] (by kernel_rfl) (by decide) ⟨⟨_, rfl, ?_⟩, trivial⟩
            refine TL.pure (PV.rem rfl rfl hne (by have := tmod_bd (a := x.1) hne hx3; omega)) rfl (by decide) ?_
            refine TL.nil ?_
            refine TX.next (.inr (by kernel_rfl)) ?_
            refine TX.step [5] (by kernel_rfl) (by decide) ⟨⟨_, rfl, ?_⟩, trivial⟩
            refine TL.pure (PV.assign rfl) rfl (by decide) ?_
            refine TL.nil ?_
            refine TX.next (.inr (by kernel_rfl)) ?_
            refine TX.done (by kernel_rfl) ?_
            refine TQ.blkN ?_
            refine TQ.thenN ?_
            refine TQ.backK (x.2, x.1.tmod x.2) (by repeat (first | exact True.intro | refine And.intro rfl ?_)) (by repeat (first | exact True.intro | refine And.intro rfl ?_)) (by repeat (first | exact List.Sublist.slnil | exact List.nil_sublist _ | exact List.Sublist.refl _ | refine List.Sublist.cons_cons _ ?_ | refine List.Sublist.cons _ ?_ | refine List.Sublist.trans ?_ (List.sublist_append_right _ _))) ⟨(gcd_tmod _ _).trans hx1, by omega, tmod_bd hne hx3⟩ (tmod_less hne)
        · skip
          refine TL.pure (PV.rem rfl rfl hne (by have := tmod_bd (a := x.1) hne hx3; omega)) rfl (by decide) ?_
          refine TL.nil ?_
          refine TX.next (.inr (by kernel_rfl)) ?_
          refine TX.step [0] (by kernel_rfl) (by decide) ⟨⟨_, rfl, ?_⟩, trivial⟩
          refine TL.pure (PV.move rfl) rfl (by decide) ?_
          refine TL.nil ?_
          refine TX.next (.inr (by kernel_rfl)) ?_
          refine TX.step [4] (by kernel_rfl) (by decide) ⟨⟨_, rfl, ?_⟩, trivial⟩
          refine TL.pure (PV.assign rfl) rfl (by decide) ?_
          refine TL.nil ?_
          refine TX.next (.inr (by kernel_rfl)) ?_
          refine TX.step [5] (by kernel_rfl) (by decide) ⟨⟨_, rfl, ?_⟩, trivial⟩
          refine TL.pure (PV.assign rfl) rfl (by decide) ?_
          refine TL.nil ?_
          refine TX.next (.inr (by kernel_rfl)) ?_
          refine TX.done (by kernel_rfl) ?_
          refine TQ.blkN ?_
          refine TQ.thenN ?_
          refine TQ.backK (x.2, x.1.tmod x.2) (by repeat (first | exact True.intro | refine And.intro rfl ?_)) (by repeat (first | exact True.intro | refine And.intro rfl ?_)) (by repeat (first | exact List.Sublist.slnil | exact List.nil_sublist _ | exact List.Sublist.refl _ | refine List.Sublist.cons_cons _ ?_ | refine List.Sublist.cons _ ?_ | refine List.Sublist.trans ?_ (List.sublist_append_right _ _))) ⟨(gcd_tmod _ _).trans hx1, by omega, tmod_bd hne hx3⟩ (tmod_less hne)
  · skip
    refine TC.exit ?_
    refine TQ.thenE ?_
    refine TQ.thenE ?_
    refine TQ.blkS ?_
    refine TQ.thenC ?_
    refine TC.seq ?_
    refine TC.seq ?_
    have hgg : x.1 = lowG num den ∨ x.1 = -lowG num den := by
      have h0 : x.2 = 0 := by omega
      rw [h0, Int.gcd_zero_right] at hx1
      unfold lowG
      omega
    have hgp := low_bound (num := num) (den := den) hd.1
    have hgl : lowG num den ≤ 4000000000000000000 := by omega
    refine TC.region ?_
    refine TL.pure (PV.move rfl) rfl (by decide) ?_
    refine TL.pure (PV.lss rfl rfl) rfl (by decide) ?_
    refine TL.pure (PV.move rfl) rfl (by decide) ?_
    refine TL.pure (PV.lss rfl rfl) rfl (by decide) ?_
    refine TL.pure (PV.neqB rfl rfl Tb.bool_4) rfl (by decide) ?_
    refine TL.nil ?_
    refine TQ.thenC ?_
    first | refine TC.condD rfl (fun hsg => ?_) (fun hsg => ?_) | refine TC.cond rfl (fun hsg => ?_) (fun hsg => ?_)
    · skip
      refine TC.region ?_
      refine TL.pure (PV.move rfl) rfl (by decide) ?_
      refine TL.pure (PV.neg rfl (by omega)) rfl (by decide) ?_
      refine TL.pure (PV.assign rfl) rfl (by decide) ?_
      refine TL.nil ?_
      refine TQ.thenC ?_
      refine TC.seq ?_
      have hdb := tdiv_bound (a := den) (g := lowG num den) (B := 4000000000000000000) (by omega) (by omega) (by omega)
      have hnb := tdiv_bound (a := num) (g := lowG num den) (B := 4000000000000000000) (by omega) (by omega) (by omega)
      first | (have hA : x.1 = lowG num den := by simp at hsg; omega) | (have hA : -x.1 = lowG num den := by simp at hsg; omega)
      rw [← hA] at hdb hnb hgp
      refine TC.draw 7 Tb.mixed (by kernel_rfl) ?_
      simp only [List.take_succ_cons, List.take_zero, List.drop_succ_cons, List.drop_zero]
      refine TS.pure (PV.move rfl) rfl (by decide) ?_
      refine TS.pure (PV.move rfl) rfl (by decide) ?_
      refine TS.pure (PV.quo rfl rfl (by omega) (by omega)) rfl (by decide) ?_
      refine TS.pure (PV.move rfl) rfl (by decide) ?_
      refine TS.pure (PV.move rfl) rfl (by decide) ?_
      refine TS.pure (PV.quo rfl rfl (by omega) (by omega)) rfl (by decide) ?_
      refine TS.pure (PV.build rfl Tb.zero_46 Tb.pl_46 rfl) rfl (by decide) ?_
      refine TS.nil ?_
      refine TL.storeAgg rfl rfl Tb.cells_46 (by repeat (first | exact Upd.head _ | apply Upd.tail | apply Upd.appR)) rfl rfl rfl rfl rfl ?_
      refine TL.nil ?_
      refine TQ.thenC ?_
      refine TC.ret ?_
      refine TQ.retR rfl (Res.agg rfl Tb.agg_46 (by repeat (first | exact List.Mem.head _ | refine List.Mem.tail _ ?_ | refine List.mem_append_right _ ?_)) rfl Res.nil) ?_
      simp only [tup]
      exact ⟨(), by rw [lowV, ← hA]; rfl, trivial, List.nil_sublist _⟩
    · skip
      refine TC.skip ?_
      refine TQ.thenC ?_
      refine TC.seq ?_
      have hdb := tdiv_bound (a := den) (g := lowG num den) (B := 4000000000000000000) (by omega) (by omega) (by omega)
      have hnb := tdiv_bound (a := num) (g := lowG num den) (B := 4000000000000000000) (by omega) (by omega) (by omega)
      first | (have hA : x.1 = lowG num den := by simp at hsg; omega) | (have hA : -x.1 = lowG num den := by simp at hsg; omega)
      rw [← hA] at hdb hnb hgp
      refine TC.draw 7 Tb.mixed (by kernel_rfl) ?_
      simp only [List.take_succ_cons, List.take_zero, List.drop_succ_cons, List.drop_zero]
      refine TS.pure (PV.move rfl) rfl (by decide) ?_
      refine TS.pure (PV.move rfl) rfl (by decide) ?_
      refine TS.pure (PV.quo rfl rfl (by omega) (by omega)) rfl (by decide) ?_
      refine TS.pure (PV.move rfl) rfl (by decide) ?_
      refine TS.pure (PV.move rfl) rfl (by decide) ?_
      refine TS.pure (PV.quo rfl rfl (by omega) (by omega)) rfl (by decide) ?_
      refine TS.pure (PV.build rfl Tb.zero_46 Tb.pl_46 rfl) rfl (by decide) ?_
      refine TS.nil ?_
      refine TL.storeAgg rfl rfl Tb.cells_46 (by repeat (first | exact Upd.head _ | apply Upd.tail | apply Upd.appR)) rfl rfl rfl rfl rfl ?_
      refine TL.nil ?_
      refine TQ.thenC ?_
      refine TC.ret ?_
      refine TQ.retR rfl (Res.agg rfl Tb.agg_46 (by repeat (first | exact List.Mem.head _ | refine List.Mem.tail _ ?_ | refine List.mem_append_right _ ?_)) rfl Res.nil) ?_
      simp only [tup]
      exact ⟨(), by rw [lowV, ← hA]; rfl, trivial, List.nil_sublist _⟩

set_option maxRecDepth 100000 in
theorem areWithin_ok (w0 : World) (pn : Option Addr) (cn : Nat) (xs : List Int) (K : Nat) (hK : xs.length = K) (hx : IntsAt w0 pn xs) (hl : K ≤ 1000000) (cnt m : Int) (hm : 0 ≤ m ∧ m ≤ 1000000000) :
    Calls Try.prog 80 #[.slice pn K cn, .int .i64 cnt, .int .i64 m] w0 (Post (X := Unit) (fun _ => .bool (decide ((K : Int) = cnt) && withinL xs m)) (fun _ => True) (fun _ => []) w0) := by
  refine calls Try.func80 rfl (n := 24) rfl (by simp) ?_
  refine TC.seq ?_
  refine TC.region ?_
  refine TL.pure (PV.assign rfl) rfl (by decide) ?_
  refine TL.nil ?_
  refine TQ.thenC ?_
  refine TC.seq ?_
  refine TC.seq ?_
  refine TC.region ?_
  refine TL.pure (PV.move rfl) rfl (by decide) ?_
  refine TL.pure (PV.len rfl Tb.sl_31) rfl (by decide) ?_
  refine TL.pure (PV.move rfl) rfl (by decide) ?_
  refine TL.pure (PV.neq rfl rfl) rfl (by decide) ?_
  refine TL.nil ?_
  refine TQ.thenC ?_
  first | refine TC.condD rfl (fun hne => ?_) (fun hne => ?_) | refine TC.cond rfl (fun hne => ?_) (fun hne => ?_)
  · skip
    refine TC.seq ?_
    refine TC.region ?_
    refine TL.pure (PV.assign rfl) rfl (by decide) ?_
    refine TL.nil ?_
    refine TQ.thenC ?_
    refine TC.ret ?_
    refine TQ.thenR ?_
    refine TQ.retE1 rfl rfl ?_
    exact ⟨(), by simp [hne], trivial, List.nil_sublist _⟩
  · skip
    refine TC.skip ?_
    refine TQ.thenC ?_
    refine TC.seq ?_
    refine TC.seq ?_
    refine TC.region ?_
    refine TL.pure (PV.move rfl) rfl (by decide) ?_
    refine TL.pure (PV.len rfl Tb.sl_31) rfl (by decide) ?_
    refine TL.pure (PV.move rfl) rfl (by decide) ?_
    refine TL.nil ?_
    refine TQ.thenC ?_
    refine TC.block ?_
    -- live and written in the loop, not told: [6]
    refine TC.loopG [2, 13, 14] (X := Nat) (fun k => k ≤ K ∧ withinL (xs.take k) m = true) (fun k => [(15, .int .i64 k)]) (fun k => K - k) 0 ⟨Nat.zero_le _, rfl⟩ (by repeat (first | exact True.intro | refine And.intro rfl ?_)) ?_
    intro k hk
    refine TC.seq ?_
    refine TC.region ?_
    refine TL.pure (PV.lss rfl rfl) rfl (by decide) ?_
    refine TL.nil ?_
    refine TQ.thenC ?_
    refine TC.seq ?_
    first | refine TC.condD rfl (fun hlt => ?_) (fun hlt => ?_) | refine TC.cond rfl (fun hlt => ?_) (fun hlt => ?_)
    · skip
      refine TC.skip ?_
      refine TQ.thenC ?_
      refine TC.seq ?_
      refine TC.block ?_
      refine TC.seq ?_
      obtain ⟨q, hqp, hq⟩ := hx k (by omega)
      refine TC.region ?_
      refine TL.pure (PV.indexA rfl hqp rfl Tb.elm_31 rfl (by omega)) rfl (by decide) ?_
      refine TL.pure (PV.loadOld rfl Tb.one_3 hq) rfl (by decide) ?_
      refine TL.pure (PV.assign rfl) rfl (by decide) ?_
      refine TL.nil ?_
      refine TQ.thenC ?_
      refine TC.seq ?_
      refine TC.region ?_
      refine TL.pure (PV.move rfl) rfl (by decide) ?_
      refine TL.pure (PV.move rfl) rfl (by decide) ?_
      refine TL.call rfl Tb.gofn_93 (fun a w hs => isWithin_ok w _ _ hm.1 hm.2) rfl (by decide) (fun _ _ => ?_)
      refine TL.pure ((by first | exact PV.notD rfl | exact PV.not rfl)) rfl (by decide) ?_
      refine TL.nil ?_
      refine TQ.thenC ?_
      first | refine TC.condD rfl (fun hok => ?_) (fun hok => ?_) | refine TC.cond rfl (fun hok => ?_) (fun hok => ?_)
      · skip
        refine TC.seq ?_
        refine TC.region ?_
        refine TL.pure (PV.assign rfl) rfl (by decide) ?_
        refine TL.nil ?_
        refine TQ.thenC ?_
        refine TC.ret ?_
        refine TQ.blkR ?_
        refine TQ.thenR ?_
        refine TQ.thenR ?_
        refine TQ.blkR ?_
        refine TQ.thenR ?_
        refine TQ.retE1 rfl rfl ?_
        exact ⟨(), by rw [withinL_no (k := k) (by omega) (by simpa [isWithinB] using hok)]; simp, trivial, List.nil_sublist _⟩
      · skip
        refine TC.skip ?_
        refine TQ.blkN ?_
        refine TQ.thenC ?_
        refine TC.region ?_
        refine TL.pure (PV.add rfl rfl (by omega)) rfl (by decide) ?_
        refine TL.pure (PV.move rfl) rfl (by decide) ?_
        refine TL.nil ?_
        refine TQ.thenN ?_
        refine TQ.backK (k + 1) (by repeat (first | exact True.intro | refine And.intro rfl ?_)) (by repeat (first | exact True.intro | refine And.intro rfl ?_)) (by repeat (first | exact List.Sublist.slnil | exact List.nil_sublist _ | exact List.Sublist.refl _ | refine List.Sublist.cons_cons _ ?_ | refine List.Sublist.cons _ ?_ | refine List.Sublist.trans ?_ (List.sublist_append_right _ _))) ⟨by omega, by rw [withinL, List.take_succ_eq_append_getElem (by omega), List.all_append, show (xs.take k).all (fun x => isWithinB x m) = true from hk.2]; simpa [List.getD, show k < xs.length by omega, isWithinB] using hok⟩ (by omega)
    · skip
      refine TC.exit ?_
      refine TQ.thenE ?_
      refine TQ.thenE ?_
      refine TQ.blkS ?_
      refine TQ.thenC ?_
      refine TC.seq ?_
      refine TC.region ?_
      refine TL.pure (PV.assign rfl) rfl (by decide) ?_
      refine TL.nil ?_
      refine TQ.thenC ?_
      refine TC.ret ?_
      refine TQ.retE1 rfl rfl ?_
      exact ⟨(), by rw [show withinL xs m = true by have h2 := hk.2; rwa [List.take_of_length_le (by omega)] at h2]; simp; omega, trivial, List.nil_sublist _⟩

set_option maxRecDepth 100000 in
set_option maxHeartbeats 1000000 in
theorem checkBest_ok (w0 : World) (n : Int) (p : Option Addr) (cap : Nat) (rs : List Rd) (hr : RdsAt w0 p rs) (den : Int) (pn : Option Addr) (cn : Nat) (nums : List Int) (K : Nat) (hK : nums.length = K) (hx : IntsAt w0 pn nums) (hl : K ≤ 1000000) :
    Calls Try.prog 42 #[sv n p rs.length cap, .agg #[.int .i64 den, .slice pn K cn]] w0 (Post (X := Unit) (fun _ => .int .i64 (checkE n rs den nums)) (fun _ => True) (fun _ => []) w0) := by
  refine calls Try.func42 rfl (n := 56) rfl (by simp) ?_
  refine TC.seq ?_
  refine TC.region ?_
  refine TL.box rfl rfl (by decide) (fun b0 hb0 => ?_)
  refine TL.box rfl rfl (by decide) (fun b1 hb1 => ?_)
  refine TL.pure (PV.assign rfl) rfl (by decide) ?_
  refine TL.nil ?_
  refine TQ.thenC ?_
  refine TC.seq ?_
  refine TC.seq ?_
  refine TC.region ?_
  refine TL.pure (PV.loadBox rfl Tb.agg_24 (by repeat (first | exact List.Mem.head _ | refine List.Mem.tail _ ?_ | refine List.mem_append_right _ ?_)) rfl) rfl (by decide) ?_
  refine TL.call rfl Tb.gofn_23 (fun a w hs => validate_ok w _ _ _ _ (hr.new hs.new)) rfl (by decide) (fun _ _ => ?_)
  refine TL.pure (PV.assign rfl) rfl (by decide) ?_
  refine TL.nil ?_
  refine TQ.thenC ?_
  refine TC.seq ?_
  refine TC.region ?_
  refine TL.pure (PV.move rfl) rfl (by decide) ?_
  refine TL.pure (PV.neq rfl rfl) rfl (by decide) ?_
  refine TL.nil ?_
  refine TQ.thenC ?_
  first | refine TC.condD rfl (fun hne => ?_) (fun hne => ?_) | refine TC.cond rfl (fun hne => ?_) (fun hne => ?_)
  · skip
    refine TC.seq ?_
    refine TC.region ?_
    refine TL.pure (PV.move rfl) rfl (by decide) ?_
    refine TL.pure (PV.assign rfl) rfl (by decide) ?_
    refine TL.nil ?_
    refine TQ.thenC ?_
    refine TC.ret ?_
    refine TQ.thenR ?_
    refine TQ.retE1 rfl rfl ?_
    first | exact ⟨(), by rw [checkE, if_pos hne], trivial, List.nil_sublist _⟩ | (refine ⟨(), ?_, trivial, List.nil_sublist _⟩; rw [checkE, if_neg hne, if_pos (fun hh => by first | omega | (simp_all; done) | (simp_all; omega))]; done) | (refine ⟨(), ?_, trivial, List.nil_sublist _⟩; rw [checkE, if_neg hne, if_neg (not_not_intro ⟨hden, ⟨by omega, hw⟩⟩), if_neg (fun hh => absurd (hh k (by omega) (by unfold Root; rw [hnn]; simp_all)) (by simp_all))]; done) | (refine ⟨(), ?_, trivial, List.nil_sublist _⟩; rw [checkE, if_neg hne, if_neg (not_not_intro ⟨hden, ⟨by omega, hw⟩⟩), if_pos (fun j hj => hk.2 j (by omega))]; simp_all; done)
  · skip
    refine TC.skip ?_
    refine TQ.thenC ?_
    refine TC.seq ?_
    refine TC.seq ?_
    refine TC.region ?_
    refine TL.pure (PV.fieldAddr rfl Tb.fo_51_0) rfl (by decide) ?_
    refine TL.pure (PV.load rfl Tb.one_3 (by repeat (first | exact List.Mem.head _ | refine List.Mem.tail _ ?_ | refine List.mem_append_right _ ?_)) rfl) rfl (by decide) ?_
    refine TL.pure (PV.lss rfl rfl) rfl (by decide) ?_
    refine TL.pure (PV.move rfl) rfl (by decide) ?_
    first | refine TL.splitD 16 rfl (fun h1 => ?_) (fun h1 => ?_) | refine TL.split 16 rfl (fun h1 => ?_) (fun h1 => ?_)
    · skip
      refine TL.skip rfl (fun k hk => by cases hk; decide) ?_
      refine TL.skip rfl (fun k hk => by cases hk; decide) ?_
      refine TL.skip rfl (fun k hk => by cases hk; decide) ?_
      refine TL.pure (PV.pickT rfl rfl) rfl (by decide) ?_
      refine TL.pure (PV.move rfl) rfl (by decide) ?_
      refine TL.skip rfl (fun k hk => by cases hk; decide) ?_
      refine TL.skip rfl (fun k hk => by cases hk; decide) ?_
      refine TL.skip rfl (fun k hk => by cases hk; decide) ?_
      refine TL.skip rfl (fun k hk => by cases hk; decide) ?_
      refine TL.skip rfl (fun k hk => by cases hk; decide) ?_
      refine TL.skip rfl (fun k hk => by cases hk; decide) ?_
      refine TL.pure (PV.pickT rfl rfl) rfl (by decide) ?_
      refine TL.nil ?_
      refine TQ.thenC ?_
      refine TC.condT rfl ?_
      refine TC.seq ?_
      refine TC.region ?_
      refine TL.pure (PV.assign rfl) rfl (by decide) ?_
      refine TL.nil ?_
      refine TQ.thenC ?_
      refine TC.ret ?_
      refine TQ.thenR ?_
      refine TQ.retE1 rfl rfl ?_
      first | exact ⟨(), by rw [checkE, if_pos hne], trivial, List.nil_sublist _⟩ | (refine ⟨(), ?_, trivial, List.nil_sublist _⟩; rw [checkE, if_neg hne, if_pos (fun hh => by first | omega | (simp_all; done) | (simp_all; omega))]; done) | (refine ⟨(), ?_, trivial, List.nil_sublist _⟩; rw [checkE, if_neg hne, if_neg (not_not_intro ⟨hden, ⟨by omega, hw⟩⟩), if_neg (fun hh => absurd (hh k (by omega) (by unfold Root; rw [hnn]; simp_all)) (by simp_all))]; done) | (refine ⟨(), ?_, trivial, List.nil_sublist _⟩; rw [checkE, if_neg hne, if_neg (not_not_intro ⟨hden, ⟨by omega, hw⟩⟩), if_pos (fun j hj => hk.2 j (by omega))]; simp_all; done)
    · skip
      refine TL.pure (PV.fieldAddr rfl Tb.fo_51_0) rfl (by decide) ?_
      refine TL.pure (PV.load rfl Tb.one_3 (by repeat (first | exact List.Mem.head _ | refine List.Mem.tail _ ?_ | refine List.mem_append_right _ ?_)) rfl) rfl (by decide) ?_
      refine TL.pure (PV.gtr rfl rfl) rfl (by decide) ?_
      refine TL.pure (PV.pickF rfl rfl) rfl (by decide) ?_
      refine TL.pure (PV.move rfl) rfl (by decide) ?_
      first | refine TL.splitD 21 rfl (fun h2 => ?_) (fun h2 => ?_) | refine TL.split 21 rfl (fun h2 => ?_) (fun h2 => ?_)
      · skip
        refine TL.skip rfl (fun k hk => by cases hk; decide) ?_
        refine TL.skip rfl (fun k hk => by cases hk; decide) ?_
        refine TL.skip rfl (fun k hk => by cases hk; decide) ?_
        refine TL.skip rfl (fun k hk => by cases hk; decide) ?_
        refine TL.skip rfl (fun k hk => by cases hk; decide) ?_
        refine TL.skip rfl (fun k hk => by cases hk; decide) ?_
        refine TL.pure (PV.pickT rfl rfl) rfl (by decide) ?_
        refine TL.nil ?_
        refine TQ.thenC ?_
        refine TC.condT rfl ?_
        refine TC.seq ?_
        refine TC.region ?_
        refine TL.pure (PV.assign rfl) rfl (by decide) ?_
        refine TL.nil ?_
        refine TQ.thenC ?_
        refine TC.ret ?_
        refine TQ.thenR ?_
        refine TQ.retE1 rfl rfl ?_
        first | exact ⟨(), by rw [checkE, if_pos hne], trivial, List.nil_sublist _⟩ | (refine ⟨(), ?_, trivial, List.nil_sublist _⟩; rw [checkE, if_neg hne, if_pos (fun hh => by first | omega | (simp_all; done) | (simp_all; omega))]; done) | (refine ⟨(), ?_, trivial, List.nil_sublist _⟩; rw [checkE, if_neg hne, if_neg (not_not_intro ⟨hden, ⟨by omega, hw⟩⟩), if_neg (fun hh => absurd (hh k (by omega) (by unfold Root; rw [hnn]; simp_all)) (by simp_all))]; done) | (refine ⟨(), ?_, trivial, List.nil_sublist _⟩; rw [checkE, if_neg hne, if_neg (not_not_intro ⟨hden, ⟨by omega, hw⟩⟩), if_pos (fun j hj => hk.2 j (by omega))]; simp_all; done)
      · skip
        refine TL.pure (PV.fieldAddr rfl Tb.fo_51_1) rfl (by decide) ?_
        refine TL.pure (PV.load rfl Tb.one_31 (by repeat (first | exact List.Mem.head _ | refine List.Mem.tail _ ?_ | refine List.mem_append_right _ ?_)) rfl) rfl (by decide) ?_
        refine TL.pure (PV.fieldAddr rfl Tb.fo_24_0) rfl (by decide) ?_
        refine TL.pure (PV.load rfl Tb.one_3 (by repeat (first | exact List.Mem.head _ | refine List.Mem.tail _ ?_ | refine List.mem_append_right _ ?_)) rfl) rfl (by decide) ?_
        refine TL.call rfl Tb.gofn_80 (fun a w hs => areWithin_ok w pn cn nums K hK (hx.new hs.new) hl _ _ (by omega)) rfl (by decide) (fun _ _ => ?_)
        refine TL.pure ((by first | exact PV.notD rfl | exact PV.not rfl)) rfl (by decide) ?_
        refine TL.pure (PV.pickF rfl rfl) rfl (by decide) ?_
        refine TL.nil ?_
        refine TQ.thenC ?_
        first | refine TC.condD rfl (fun h3 => ?_) (fun h3 => ?_) | refine TC.cond rfl (fun h3 => ?_) (fun h3 => ?_)
        · skip
          refine TC.seq ?_
          refine TC.region ?_
          refine TL.pure (PV.assign rfl) rfl (by decide) ?_
          refine TL.nil ?_
          refine TQ.thenC ?_
          refine TC.ret ?_
          refine TQ.thenR ?_
          refine TQ.retE1 rfl rfl ?_
          first | exact ⟨(), by rw [checkE, if_pos hne], trivial, List.nil_sublist _⟩ | (refine ⟨(), ?_, trivial, List.nil_sublist _⟩; rw [checkE, if_neg hne, if_pos (fun hh => by first | omega | (simp_all; done) | (simp_all; omega))]; done) | (refine ⟨(), ?_, trivial, List.nil_sublist _⟩; rw [checkE, if_neg hne, if_neg (not_not_intro ⟨hden, ⟨by omega, hw⟩⟩), if_neg (fun hh => absurd (hh k (by omega) (by unfold Root; rw [hnn]; simp_all)) (by simp_all))]; done) | (refine ⟨(), ?_, trivial, List.nil_sublist _⟩; rw [checkE, if_neg hne, if_neg (not_not_intro ⟨hden, ⟨by omega, hw⟩⟩), if_pos (fun j hj => hk.2 j (by omega))]; simp_all; done)
        · skip
          refine TC.skip ?_
          refine TQ.thenC ?_
          refine TC.seq ?_
          refine TC.seq ?_
          have hv : Valid n rs := Decidable.of_not_not (p := validateI n rs = 0) hne
          have hp := hv.pts
          have hll := hv.len
          have hall : (1 ≤ den ∧ den ≤ 1000000) ∧ (K : Int) = n ∧ withinL nums 1000000000 = true := by first | (simp_all; done) | (simp_all; omega)
          obtain ⟨hden, hlen, hw⟩ := hall
          obtain rfl : K = n.toNat := by omega
          have hbd : Bd nums 1000000000 := fun j => withinL_at hw j (by omega)
          have hfl := firstsL_len n rs
          have hnn : ((n.toNat : Nat) : Int) = n := by omega
          refine TC.region ?_
          refine TL.pure (PV.loadBox rfl Tb.agg_24 (by repeat (first | exact List.Mem.head _ | refine List.Mem.tail _ ?_ | refine List.mem_append_right _ ?_)) rfl) rfl (by decide) ?_
          refine TL.call rfl Tb.gofn_81 (fun a w hs => firsts_ok w _ _ _ _ (hr.new hs.new) hv) rfl (by decide) (fun bF _ => ?_)
          refine TL.pure (PV.len rfl Tb.sl_31) rfl (by decide) ?_
          refine TL.pure (PV.move rfl) rfl (by decide) ?_
          refine TL.nil ?_
          refine TQ.thenC ?_
          refine TC.block ?_
          -- live and written in the loop, not told: [4]
          refine TC.loopG [2, 3, 30, 31] (X := Nat) (fun k => k ≤ n.toNat ∧ ∀ j, j < k → Root n.toNat rs j → nums.getD j 0 = 0) (fun k => [(32, .int .i64 k)]) (fun k => n.toNat - k) 0 ⟨Nat.zero_le _, fun j hj => by omega⟩ (by repeat (first | exact True.intro | refine And.intro rfl ?_)) ?_
          intro k hk
          refine TC.seq ?_
          refine TC.region ?_
          refine TL.pure (PV.lss rfl rfl) rfl (by decide) ?_
          refine TL.nil ?_
          refine TQ.thenC ?_
          refine TC.seq ?_
          first | refine TC.condD rfl (fun hlt => ?_) (fun hlt => ?_) | refine TC.cond rfl (fun hlt => ?_) (fun hlt => ?_)
          · skip
            refine TC.skip ?_
            refine TQ.thenC ?_
            refine TC.seq ?_
            refine TC.block ?_
            refine TC.seq ?_
            obtain ⟨q, hqp, hq⟩ := hx k (by omega)
            refine TC.region ?_
            refine TL.pure (PV.move rfl) rfl (by decide) ?_
            refine TL.pure (PV.index1 rfl rfl Tb.elm_31 rfl (by omega)) rfl (by decide) ?_
            refine TL.pure (PV.loadI rfl Tb.one_3 (by repeat (first | exact List.Mem.head _ | refine List.Mem.tail _ ?_ | refine List.mem_append_right _ ?_)) (by omega)) rfl (by decide) ?_
            refine TL.pure (PV.assign rfl) rfl (by decide) ?_
            refine TL.pure (PV.assign rfl) rfl (by decide) ?_
            refine TL.nil ?_
            refine TQ.thenC ?_
            refine TC.seq ?_
            refine TC.region ?_
            refine TL.pure (PV.move rfl) rfl (by decide) ?_
            refine TL.pure (PV.move rfl) rfl (by decide) ?_
            refine TL.pure (PV.eql rfl rfl) rfl (by decide) ?_
            refine TL.pure (PV.move rfl) rfl (by decide) ?_
            first | refine TL.splitD 40 rfl (fun hroot => ?_) (fun hroot => ?_) | refine TL.split 40 rfl (fun hroot => ?_) (fun hroot => ?_)
            · skip
              refine TL.pure (PV.fieldAddr rfl Tb.fo_51_1) rfl (by decide) ?_
              refine TL.pure (PV.load rfl Tb.one_31 (by repeat (first | exact List.Mem.head _ | refine List.Mem.tail _ ?_ | refine List.mem_append_right _ ?_)) rfl) rfl (by decide) ?_
              refine TL.pure (PV.move rfl) rfl (by decide) ?_
              refine TL.pure (PV.indexA rfl hqp rfl Tb.elm_31 rfl (by omega)) rfl (by decide) ?_
              refine TL.pure (PV.loadOld rfl Tb.one_3 hq) rfl (by decide) ?_
              refine TL.pure (PV.neq rfl rfl) rfl (by decide) ?_
              refine TL.pure (PV.pickT rfl rfl) rfl (by decide) ?_
              refine TL.nil ?_
              refine TQ.thenC ?_
              first | refine TC.condD rfl (fun hnz => ?_) (fun hnz => ?_) | refine TC.cond rfl (fun hnz => ?_) (fun hnz => ?_)
              · skip
                refine TC.seq ?_
                refine TC.region ?_
                refine TL.pure (PV.assign rfl) rfl (by decide) ?_
                refine TL.nil ?_
                refine TQ.thenC ?_
                refine TC.ret ?_
                refine TQ.blkR ?_
                refine TQ.thenR ?_
                refine TQ.thenR ?_
                refine TQ.blkR ?_
                refine TQ.thenR ?_
                refine TQ.retE1 rfl rfl ?_
                first | exact ⟨(), by rw [checkE, if_pos hne], trivial, List.nil_sublist _⟩ | (refine ⟨(), ?_, trivial, List.nil_sublist _⟩; rw [checkE, if_neg hne, if_pos (fun hh => by first | omega | (simp_all; done) | (simp_all; omega))]; done) | (refine ⟨(), ?_, trivial, List.nil_sublist _⟩; rw [checkE, if_neg hne, if_neg (not_not_intro ⟨hden, ⟨by omega, hw⟩⟩), if_neg (fun hh => absurd (hh k (by omega) (by unfold Root; rw [hnn]; simp_all)) (by simp_all))]; done) | (refine ⟨(), ?_, trivial, List.nil_sublist _⟩; rw [checkE, if_neg hne, if_neg (not_not_intro ⟨hden, ⟨by omega, hw⟩⟩), if_pos (fun j hj => hk.2 j (by omega))]; simp_all; done)
              · skip
                refine TC.skip ?_
                refine TQ.blkN ?_
                refine TQ.thenC ?_
                refine TC.region ?_
                refine TL.pure (PV.add rfl rfl (by omega)) rfl (by decide) ?_
                refine TL.pure (PV.move rfl) rfl (by decide) ?_
                refine TL.nil ?_
                refine TQ.thenN ?_
                refine TQ.backK (k + 1) (by repeat (first | exact True.intro | refine And.intro rfl ?_)) (by repeat (first | exact True.intro | refine And.intro rfl ?_)) (by repeat (first | exact List.Sublist.slnil | exact List.nil_sublist _ | exact List.Sublist.refl _ | refine List.Sublist.cons_cons _ ?_ | refine List.Sublist.cons _ ?_ | refine List.Sublist.trans ?_ (List.sublist_append_right _ _))) ⟨by omega, fun j hj hR => by by_cases h : j = k; · { subst h; unfold Root at hR; rw [hnn] at hR; simp_all }; · { exact hk.2 j (by omega) hR }⟩ (by omega)
            · skip
              refine TL.skip rfl (fun k hk => by cases hk; decide) ?_
              refine TL.skip rfl (fun k hk => by cases hk; decide) ?_
              refine TL.skip rfl (fun k hk => by cases hk; decide) ?_
              refine TL.skip rfl (fun k hk => by cases hk; decide) ?_
              refine TL.skip rfl (fun k hk => by cases hk; decide) ?_
              refine TL.skip rfl (fun k hk => by cases hk; decide) ?_
              refine TL.pure (PV.pickF rfl rfl) rfl (by decide) ?_
              refine TL.nil ?_
              refine TQ.thenC ?_
              refine TC.condF rfl ?_
              refine TC.skip ?_
              refine TQ.blkN ?_
              refine TQ.thenC ?_
              refine TC.region ?_
              refine TL.pure (PV.add rfl rfl (by omega)) rfl (by decide) ?_
              refine TL.pure (PV.move rfl) rfl (by decide) ?_
              refine TL.nil ?_
              refine TQ.thenN ?_
              refine TQ.backK (k + 1) (by repeat (first | exact True.intro | refine And.intro rfl ?_)) (by repeat (first | exact True.intro | refine And.intro rfl ?_)) (by repeat (first | exact List.Sublist.slnil | exact List.nil_sublist _ | exact List.Sublist.refl _ | refine List.Sublist.cons_cons _ ?_ | refine List.Sublist.cons _ ?_ | refine List.Sublist.trans ?_ (List.sublist_append_right _ _))) ⟨by omega, fun j hj hR => by by_cases h : j = k; · { subst h; unfold Root at hR; rw [hnn] at hR; simp_all }; · { exact hk.2 j (by omega) hR }⟩ (by omega)
          · skip
            refine TC.exit ?_
            refine TQ.thenE ?_
            refine TQ.thenE ?_
            refine TQ.blkS ?_
            refine TQ.thenC ?_
            refine TC.seq ?_
            refine TC.seq ?_
            refine TC.mix [true, true, true, false, false, false, false] _ 4 Tb.mixed rfl (by kernel_rfl) (by kernel_rfl) (by kernel_rfl) (by kernel_rfl) (List.Sublist.refl _) ?_
            refine TB.op (SOK.pure (PV.loadBox rfl Tb.agg_24 (by repeat (first | exact List.Mem.head _ | refine List.Mem.tail _ ?_ | refine List.mem_append_right _ ?_)) rfl) rfl) (by decide) ?_
            refine TB.op (SOK.pure (PV.loadBox rfl Tb.agg_24 (by repeat (first | exact List.Mem.head _ | refine List.Mem.tail _ ?_ | refine List.mem_append_right _ ?_)) rfl) rfl) (by decide) ?_
            refine TB.op (SOK.pure (PV.loadBox rfl Tb.agg_51 (by repeat (first | exact List.Mem.head _ | refine List.Mem.tail _ ?_ | refine List.mem_append_right _ ?_)) rfl) rfl) (by decide) ?_
            refine TB.no ?_
            refine TB.no ?_
            refine TB.no ?_
            refine TB.no ?_
            refine TB.fin ?_
            refine TX.step [3] (by kernel_rfl) (by decide) ⟨⟨_, rfl, ?_⟩, trivial⟩
            refine TL.call rfl Tb.gofn_77 (fun a w hs => residuals_ok w _ _ _ _ (hr.new hs.new) hv den pn cn nums (hx.new hs.new) hK (by omega) (fun j => by have := hbd j; omega)) rfl (by decide) (fun bR _ => ?_)
            refine TL.nil ?_
            refine TX.next (.inl (by repeat (first | exact List.Sublist.slnil | exact List.nil_sublist _ | exact List.Sublist.refl _ | refine List.Sublist.cons_cons _ ?_ | refine List.Sublist.cons _ ?_ | refine List.Sublist.trans ?_ (List.sublist_append_right _ _)))) ?_
            refine TX.step [4] (by kernel_rfl) (by decide) ⟨⟨_, rfl, ?_⟩, trivial⟩
            refine TL.call rfl Tb.gofn_82 (fun a w hs => surplus_ok w _ _ _ _ (hr.new hs.new) hv (some ⟨bR, 0, none⟩) rs.length (residL rs den nums) (IntsAt.arr hs.new (by repeat (first | exact List.Mem.head _ | refine List.Mem.tail _ ?_ | refine List.mem_append_right _ ?_))) (residL_len _ _ _) 4000000000 (by omega) (resid_bd hv hden hbd)) rfl (by decide) (fun bS _ => ?_)
            refine TL.nil ?_
            refine TX.next (.inl (by repeat (first | exact List.Sublist.slnil | exact List.nil_sublist _ | exact List.Sublist.refl _ | refine List.Sublist.cons_cons _ ?_ | refine List.Sublist.cons _ ?_ | refine List.Sublist.trans ?_ (List.sublist_append_right _ _)))) ?_
            refine TX.step [5] (by kernel_rfl) (by decide) ⟨⟨_, rfl, ?_⟩, trivial⟩
            refine TL.call rfl Tb.gofn_70 (fun a w hs => areZero_ok w (some ⟨bS, 0, none⟩) n.toNat n.toNat (surL n.toNat rs (residL rs den nums)) (surL_len _ _ _) (IntsAt.arr hs.new (by repeat (first | exact List.Mem.head _ | refine List.Mem.tail _ ?_ | refine List.mem_append_right _ ?_))) (by omega)) rfl (by decide) (fun _ _ => ?_)
            refine TL.nil ?_
            refine TX.next (.inl (by repeat (first | exact List.Sublist.slnil | exact List.nil_sublist _ | exact List.Sublist.refl _ | refine List.Sublist.cons_cons _ ?_ | refine List.Sublist.cons _ ?_ | refine List.Sublist.trans ?_ (List.sublist_append_right _ _)))) ?_
            refine TX.step [6] (by kernel_rfl) (by decide) ⟨⟨_, rfl, ?_⟩, trivial⟩
            refine TL.pure ((by first | exact PV.notD rfl | exact PV.not rfl)) rfl (by decide) ?_
            refine TL.nil ?_
            refine TX.next (.inl (by repeat (first | exact List.Sublist.slnil | exact List.nil_sublist _ | exact List.Sublist.refl _ | refine List.Sublist.cons_cons _ ?_ | refine List.Sublist.cons _ ?_ | refine List.Sublist.trans ?_ (List.sublist_append_right _ _)))) ?_
            refine TX.done (by kernel_rfl) ?_
            refine TQ.thenC ?_
            first | refine TC.condD rfl (fun hz => ?_) (fun hz => ?_) | refine TC.cond rfl (fun hz => ?_) (fun hz => ?_)
            · skip
              refine TC.seq ?_
              refine TC.region ?_
              refine TL.pure (PV.assign rfl) rfl (by decide) ?_
              refine TL.nil ?_
              refine TQ.thenC ?_
              refine TC.ret ?_
              refine TQ.thenR ?_
              refine TQ.retE1 rfl rfl ?_
              first | exact ⟨(), by rw [checkE, if_pos hne], trivial, List.nil_sublist _⟩ | (refine ⟨(), ?_, trivial, List.nil_sublist _⟩; rw [checkE, if_neg hne, if_pos (fun hh => by first | omega | (simp_all; done) | (simp_all; omega))]; done) | (refine ⟨(), ?_, trivial, List.nil_sublist _⟩; rw [checkE, if_neg hne, if_neg (not_not_intro ⟨hden, ⟨by omega, hw⟩⟩), if_neg (fun hh => absurd (hh k (by omega) (by unfold Root; rw [hnn]; simp_all)) (by simp_all))]; done) | (refine ⟨(), ?_, trivial, List.nil_sublist _⟩; rw [checkE, if_neg hne, if_neg (not_not_intro ⟨hden, ⟨by omega, hw⟩⟩), if_pos (fun j hj => hk.2 j (by omega))]; simp_all; done)
            · skip
              refine TC.skip ?_
              refine TQ.thenC ?_
              refine TC.seq ?_
              refine TC.region ?_
              refine TL.pure (PV.assign rfl) rfl (by decide) ?_
              refine TL.nil ?_
              refine TQ.thenC ?_
              refine TC.ret ?_
              refine TQ.retE1 rfl rfl ?_
              first | exact ⟨(), by rw [checkE, if_pos hne], trivial, List.nil_sublist _⟩ | (refine ⟨(), ?_, trivial, List.nil_sublist _⟩; rw [checkE, if_neg hne, if_pos (fun hh => by first | omega | (simp_all; done) | (simp_all; omega))]; done) | (refine ⟨(), ?_, trivial, List.nil_sublist _⟩; rw [checkE, if_neg hne, if_neg (not_not_intro ⟨hden, ⟨by omega, hw⟩⟩), if_neg (fun hh => absurd (hh k (by omega) (by unfold Root; rw [hnn]; simp_all)) (by simp_all))]; done) | (refine ⟨(), ?_, trivial, List.nil_sublist _⟩; rw [checkE, if_neg hne, if_neg (not_not_intro ⟨hden, ⟨by omega, hw⟩⟩), if_pos (fun j hj => hk.2 j (by omega))]; simp_all; done)

end Go.Proofs.Ytmmgcajegokkoaa
