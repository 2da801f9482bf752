/- Which hollows are right, and what they are worth: contracts. -/
import Derived.Test.YtbnjmkidbfmomaaGreatDoorQCa
set_option linter.unusedVariables false
set_option linter.unusedSimpArgs false
namespace Go.Proofs.YtbnjmkidbfmomaaGreatDoor.C
open Go.Sx Go.RowKit

def numI (ls : List (List Int)) (hs : List Int) : Int := if validI ls ≠ 0 then validI ls else if hs.length = ls.length ∧ (hs.all fun x => wiB x 0 (dep ls)) = true then 0 else 1
def stepB (hs : List Int) (c : Nat) : Bool := wiB (hs.getD (c + 1) 0 - hs.getD c 0) (-1) 1
def rightB (hs : List Int) : Bool := (List.range (hs.length - 1)).all (stepB hs)
def holI (ls : List (List Int)) (hs : List Int) : Int := if numI ls hs ≠ 0 then numI ls hs else if rightB hs = true then 0 else 6
def sumN (col : List Int) : Nat → Int
  | 0 => 0
  | n + 1 => sumN col n + col.getD n 0
def worK (ls : List (List Int)) (hs : List Int) : Nat → Int
  | 0 => 0
  | k + 1 => worK ls hs k + sumN (ls.getD k []) (hs.getD k 0).toNat
def worH (ls : List (List Int)) (hs : List Int) : Int := worK ls hs hs.length
structure NB (ls : List (List Int)) (hs : List Int) : Prop where
  vb : VB ls
  len : hs.length = ls.length
  at_ : ∀ k, 0 ≤ hs.getD k 0 ∧ hs.getD k 0 ≤ dep ls
theorem num_bad {ls : List (List Int)} {hs : List Int} (h : validI ls ≠ 0) : numI ls hs = validI ls := if_pos h
theorem num_1 {ls : List (List Int)} {hs : List Int} (h : ¬ validI ls ≠ 0) (h2 : ¬ (hs.length = ls.length ∧ (hs.all fun x => wiB x 0 (dep ls)) = true)) : numI ls hs = 1 := by unfold numI; rw [if_neg h, if_neg h2]
theorem num_0 {ls : List (List Int)} {hs : List Int} (h : ¬ validI ls ≠ 0) (h2 : hs.length = ls.length ∧ (hs.all fun x => wiB x 0 (dep ls)) = true) : numI ls hs = 0 := by unfold numI; rw [if_neg h, if_pos h2]
theorem nb_of {ls : List (List Int)} {hs : List Int} (h : ¬ numI ls hs ≠ 0) : NB ls hs := by
  have h0 := Decidable.of_not_not h
  by_cases h1 : validI ls ≠ 0
  · rw [num_bad h1] at h0; exact absurd h0 h1
  · by_cases h2 : hs.length = ls.length ∧ (hs.all fun x => wiB x 0 (dep ls)) = true
    · refine ⟨vb_of h1, h2.1, fun k => ?_⟩
      by_cases hk : k < hs.length
      · have := List.all_eq_true.1 h2.2 (hs.getD k 0) (by simp [List.getD, hk])
        exact of_decide_eq_true this
      · have e : hs.getD k 0 = 0 := by simp [List.getD, hk]
        rw [e]; omega
    · rw [num_1 h1 h2] at h0; cases h0
theorem hol_bad {ls : List (List Int)} {hs : List Int} (h : numI ls hs ≠ 0) : holI ls hs = numI ls hs := if_pos h
theorem hol_6 {ls : List (List Int)} {hs : List Int} (h : ¬ numI ls hs ≠ 0) (h2 : rightB hs = false) : holI ls hs = 6 := by unfold holI; rw [if_neg h, if_neg (by rw [h2]; decide)]
theorem hol_0 {ls : List (List Int)} {hs : List Int} (h : ¬ numI ls hs ≠ 0) (h2 : rightB hs = true) : holI ls hs = 0 := by unfold holI; rw [if_neg h, if_pos h2]
theorem hol_nb {ls : List (List Int)} {hs : List Int} (h : ¬ holI ls hs ≠ 0) : NB ls hs ∧ rightB hs = true := by
  have h0 := Decidable.of_not_not h
  by_cases h1 : numI ls hs ≠ 0
  · rw [hol_bad h1] at h0; exact absurd h0 h1
  · refine ⟨nb_of h1, ?_⟩
    cases h2 : rightB hs with
    | true => rfl
    | false => rw [hol_6 h1 h2] at h0; cases h0
theorem right_no {hs : List Int} {k : Nat} (hk : k + 1 < hs.length) (h : stepB hs k = false) : rightB hs = false := by
  rw [Bool.eq_false_iff]
  intro h1
  have := List.all_eq_true.1 h1 k (List.mem_range.2 (by omega))
  rw [this] at h; cases h
theorem right_yes {hs : List Int} (h : ∀ k, k + 1 < hs.length → stepB hs k = true) : rightB hs = true :=
  List.all_eq_true.2 fun k hk => h k (by have := List.mem_range.1 hk; omega)
theorem sum_bd {ls : List (List Int)} (hv : VB ls) (k : Nat) : ∀ n : Nat, -50 * (n : Int) ≤ sumN (ls.getD k []) n ∧ sumN (ls.getD k []) n ≤ 50 * (n : Int)
  | 0 => by simp [sumN]
  | n + 1 => by
    have h1 := sum_bd hv k n
    have h2 := hv.w k n
    have e : sumN (ls.getD k []) (n + 1) = sumN (ls.getD k []) n + (ls.getD k []).getD n 0 := rfl
    rw [e]
    omega
theorem wor_bd {ls : List (List Int)} {hs : List Int} (hb : NB ls hs) : ∀ k : Nat, -200 * (k : Int) ≤ worK ls hs k ∧ worK ls hs k ≤ 200 * (k : Int)
  | 0 => by simp [worK]
  | k + 1 => by
    have h1 := wor_bd hb k
    have h2 := sum_bd hb.vb k (hs.getD k 0).toNat
    have h3 := hb.at_ k
    have h4 := hb.vb.d
    have e : worK ls hs (k + 1) = worK ls hs k + sumN (ls.getD k []) (hs.getD k 0).toNat := rfl
    rw [e]
    omega

set_option maxRecDepth 100000 in
set_option maxHeartbeats 1000000 in
theorem vnum_ok (w0 : World) (p : Option Addr) (cap : Nat) (ls : List (List Int)) (hr : LsAt w0 p ls) (pl : Option Addr) (cl : Nat) (xs : List Int) (hx : IntsAt w0 pl xs) :
    Calls Tryz.prog 92 #[bv p ls.length cap, .slice pl xs.length cl] w0 (Post (X := Unit) (fun _ => .int .i64 (numI ls xs)) (fun _ => True) (fun _ => []) w0) := by
  refine calls Tryz.func92 rfl (n := 24) rfl (by simp) ?_
  refine TC.seq ?_
  refine TC.region ?_
  refine TL.box rfl rfl (by decide) (fun b0 hb0 => ?_)
  refine TL.pure (PV.assign rfl) rfl (by decide) ?_
  refine TL.nil ?_
  refine TQ.thenC ?_
  refine TC.seq ?_
  refine TC.seq ?_
  refine TC.region ?_
  refine TL.pure (PV.loadBox rfl Tb.agg_24 (by repeat (first | exact List.Mem.head _ | refine List.Mem.tail _ ?_ | refine List.mem_append_right _ ?_)) rfl) rfl (by decide) ?_
  refine TL.call rfl Tb.gofn_96 (fun a w hs => validate_ok w _ _ _ (hr.new hs.new)) rfl (by decide) (fun _ _ => ?_)
  refine TL.pure (PV.assign rfl) rfl (by decide) ?_
  refine TL.nil ?_
  refine TQ.thenC ?_
  refine TC.seq ?_
  refine TC.region ?_
  refine TL.pure (PV.move rfl) rfl (by decide) ?_
  refine TL.pure (PV.neq rfl rfl) rfl (by decide) ?_
  refine TL.nil ?_
  refine TQ.thenC ?_
  first | refine TC.condD rfl (fun hbad => ?_) (fun hbad => ?_) | refine TC.cond rfl (fun hbad => ?_) (fun hbad => ?_)
  · refine TC.seq ?_
    refine TC.region ?_
    refine TL.pure (PV.move rfl) rfl (by decide) ?_
    refine TL.pure (PV.assign rfl) rfl (by decide) ?_
    refine TL.nil ?_
    refine TQ.thenC ?_
    refine TC.ret ?_
    refine TQ.thenR ?_
    refine TQ.retE1 rfl rfl ?_
    exact ⟨(), by rw [num_bad hbad], trivial, List.nil_sublist _⟩
  · refine TC.skip ?_
    refine TQ.thenC ?_
    refine TC.seq ?_
    refine TC.seq ?_
    have hv := vb_of hbad
    have hn := hv.n
    refine TC.region ?_
    refine TL.pure (PV.move rfl) rfl (by decide) ?_
    refine TL.pure (PV.len rfl Tb.sl_25) rfl (by decide) ?_
    refine TL.pure (PV.fieldAddr rfl Tb.fo_24_0) rfl (by decide) ?_
    refine TL.pure (PV.load rfl Tb.one_22 (by repeat (first | exact List.Mem.head _ | refine List.Mem.tail _ ?_ | refine List.mem_append_right _ ?_)) rfl) rfl (by decide) ?_
    refine TL.pure (PV.len rfl Tb.sl_22) rfl (by decide) ?_
    refine TL.pure (PV.neq rfl rfl) rfl (by decide) ?_
    refine TL.pure (PV.move rfl) rfl (by decide) ?_
    first | refine TL.splitD 17 rfl (fun a1 => ?_) (fun a1 => ?_) | refine TL.split 17 rfl (fun a1 => ?_) (fun a1 => ?_)
    · refine TL.skip rfl (fun k hk => by cases hk; decide) ?_
      refine TL.skip rfl (fun k hk => by cases hk; decide) ?_
      refine TL.skip rfl (fun k hk => by cases hk; decide) ?_
      refine TL.skip rfl (fun k hk => by cases hk; decide) ?_
      refine TL.skip rfl (fun k hk => by cases hk; decide) ?_
      refine TL.pure (PV.pickT rfl rfl) rfl (by decide) ?_
      refine TL.nil ?_
      refine TQ.thenC ?_
      refine TC.condT rfl ?_
      refine TC.seq ?_
      refine TC.region ?_
      refine TL.pure (PV.assign rfl) rfl (by decide) ?_
      refine TL.nil ?_
      refine TQ.thenC ?_
      refine TC.ret ?_
      refine TQ.thenR ?_
      refine TQ.retE1 rfl rfl ?_
      exact ⟨(), by rw [num_1 hbad (fun h => by omega)], trivial, List.nil_sublist _⟩
    · refine TL.pure (PV.move rfl) rfl (by decide) ?_
      refine TL.pure (PV.loadBox rfl Tb.agg_24 (by repeat (first | exact List.Mem.head _ | refine List.Mem.tail _ ?_ | refine List.mem_append_right _ ?_)) rfl) rfl (by decide) ?_
      refine TL.call rfl Tb.gofn_132 (fun a w hs => depth_ok w _ _ _ (hr.new hs.new) (by omega)) rfl (by decide) (fun _ _ => ?_)
      refine TL.call rfl Tb.gofn_131 (fun a w hs => areWithin_ok w _ _ _ (hx.new hs.new) (by omega) _ _) rfl (by decide) (fun _ _ => ?_)
      refine TL.pure ((by first | exact PV.notD rfl | exact PV.not rfl)) rfl (by decide) ?_
      refine TL.pure (PV.pickF rfl rfl) rfl (by decide) ?_
      refine TL.nil ?_
      refine TQ.thenC ?_
      first | refine TC.condD rfl (fun a2 => ?_) (fun a2 => ?_) | refine TC.cond rfl (fun a2 => ?_) (fun a2 => ?_)
      · refine TC.seq ?_
        refine TC.region ?_
        refine TL.pure (PV.assign rfl) rfl (by decide) ?_
        refine TL.nil ?_
        refine TQ.thenC ?_
        refine TC.ret ?_
        refine TQ.thenR ?_
        refine TQ.retE1 rfl rfl ?_
        exact ⟨(), by rw [num_1 hbad (fun h => by simp_all)], trivial, List.nil_sublist _⟩
      · refine TC.skip ?_
        refine TQ.thenC ?_
        refine TC.seq ?_
        refine TC.region ?_
        refine TL.pure (PV.assign rfl) rfl (by decide) ?_
        refine TL.nil ?_
        refine TQ.thenC ?_
        refine TC.ret ?_
        refine TQ.retE1 rfl rfl ?_
        exact ⟨(), by rw [num_0 hbad ⟨by omega, by simpa using a2⟩], trivial, List.nil_sublist _⟩

set_option maxRecDepth 100000 in
set_option maxHeartbeats 1000000 in
theorem checkHollow_ok (w0 : World) (p : Option Addr) (cap : Nat) (ls : List (List Int)) (hr : LsAt w0 p ls) (pl : Option Addr) (cl : Nat) (xs : List Int) (hx : IntsAt w0 pl xs) :
    Calls Tryz.prog 55 #[bv p ls.length cap, .slice pl xs.length cl] w0 (Post (X := Unit) (fun _ => .int .i64 (holI ls xs)) (fun _ => True) (fun _ => []) w0) := by
  refine calls Tryz.func55 rfl (n := 32) rfl (by simp) ?_
  refine TC.seq ?_
  refine TC.region ?_
  refine TL.box rfl rfl (by decide) (fun b0 hb0 => ?_)
  refine TL.pure (PV.assign rfl) rfl (by decide) ?_
  refine TL.nil ?_
  refine TQ.thenC ?_
  refine TC.seq ?_
  refine TC.seq ?_
  refine TC.region ?_
  refine TL.pure (PV.loadBox rfl Tb.agg_24 (by repeat (first | exact List.Mem.head _ | refine List.Mem.tail _ ?_ | refine List.mem_append_right _ ?_)) rfl) rfl (by decide) ?_
  refine TL.pure (PV.move rfl) rfl (by decide) ?_
  refine TL.call rfl Tb.gofn_92 (fun a w hs => vnum_ok w _ _ _ (hr.new hs.new) _ _ _ (hx.new hs.new)) rfl (by decide) (fun _ _ => ?_)
  refine TL.pure (PV.assign rfl) rfl (by decide) ?_
  refine TL.nil ?_
  refine TQ.thenC ?_
  refine TC.seq ?_
  refine TC.region ?_
  refine TL.pure (PV.move rfl) rfl (by decide) ?_
  refine TL.pure (PV.neq rfl rfl) rfl (by decide) ?_
  refine TL.nil ?_
  refine TQ.thenC ?_
  first | refine TC.condD rfl (fun hbad => ?_) (fun hbad => ?_) | refine TC.cond rfl (fun hbad => ?_) (fun hbad => ?_)
  · refine TC.seq ?_
    refine TC.region ?_
    refine TL.pure (PV.move rfl) rfl (by decide) ?_
    refine TL.pure (PV.assign rfl) rfl (by decide) ?_
    refine TL.nil ?_
    refine TQ.thenC ?_
    refine TC.ret ?_
    refine TQ.thenR ?_
    refine TQ.retE1 rfl rfl ?_
    exact ⟨(), by rw [hol_bad hbad], trivial, List.nil_sublist _⟩
  · refine TC.skip ?_
    refine TQ.thenC ?_
    refine TC.seq ?_
    refine TC.seq ?_
    have hb := nb_of hbad
    have hn := hb.vb.n
    have hd := hb.vb.d
    have hl9 := hb.len
    refine TC.region ?_
    refine TL.pure (PV.move rfl) rfl (by decide) ?_
    refine TL.pure (PV.len rfl Tb.sl_25) rfl (by decide) ?_
    refine TL.pure (PV.sub rfl rfl (by omega)) rfl (by decide) ?_
    refine TL.pure (PV.move rfl) rfl (by decide) ?_
    refine TL.nil ?_
    refine TQ.thenC ?_
    refine TC.block ?_
    -- live and written in the loop, not told: [4]
    refine TC.loopG [1, 15] (X := Nat) (fun k => k + 1 ≤ xs.length ∧ ∀ j, j < k → stepB xs j = true) (fun k => [(16, .int .i64 k)]) (fun k => xs.length - k) 0 ⟨by omega, fun j hj => absurd hj (Nat.not_lt_zero _)⟩ (by repeat (first | exact True.intro | refine And.intro rfl ?_)) ?_
    intro k hk
    refine TC.seq ?_
    refine TC.region ?_
    refine TL.pure (PV.lss rfl rfl) rfl (by decide) ?_
    refine TL.nil ?_
    refine TQ.thenC ?_
    refine TC.seq ?_
    first | refine TC.condD rfl (fun hlt => ?_) (fun hlt => ?_) | refine TC.cond rfl (fun hlt => ?_) (fun hlt => ?_)
    · refine TC.skip ?_
      refine TQ.thenC ?_
      refine TC.seq ?_
      refine TC.block ?_
      refine TC.seq ?_
      refine TC.region ?_
      refine TL.pure (PV.move rfl) rfl (by decide) ?_
      refine TL.pure (PV.assign rfl) rfl (by decide) ?_
      refine TL.nil ?_
      refine TQ.thenC ?_
      refine TC.seq ?_
      obtain ⟨q, hqp, hq⟩ := hx k (by omega)
      obtain ⟨q2, hq2p, hq2⟩ := hx (k + 1) (by omega)
      have b1 := hb.at_ k
      have b2 := hb.at_ (k + 1)
      refine TC.any Tb.mixed rfl rfl ?_
      refine TA.op (OpOK.pure (PV.move rfl) rfl (by decide)) (by decide) ?_
      refine TA.op (OpOK.pure (PV.move rfl) rfl (by decide)) (by decide) ?_
      refine TA.op (OpOK.pure (PV.add rfl rfl (by omega)) rfl (by decide)) (by decide) ?_
      refine TA.op (OpOK.pure (PV.indexA (j := k + 1) rfl hq2p rfl Tb.elm_25 (by omega) (by omega)) rfl (by decide)) (by decide) ?_
      refine TA.op (OpOK.pure (PV.loadOld rfl Tb.one_3 hq2) rfl (by decide)) (by decide) ?_
      refine TA.op (OpOK.pure (PV.move rfl) rfl (by decide)) (by decide) ?_
      refine TA.op (OpOK.pure (PV.move rfl) rfl (by decide)) (by decide) ?_
      refine TA.op (OpOK.pure (PV.indexA (j := k) rfl hqp rfl Tb.elm_25 rfl (by omega)) rfl (by decide)) (by decide) ?_
      refine TA.op (OpOK.pure (PV.loadOld rfl Tb.one_3 hq) rfl (by decide)) (by decide) ?_
      refine TA.op (OpOK.pure (PV.sub rfl rfl (by omega)) rfl (by decide)) (by decide) ?_
      refine TA.op (OpOK.call rfl Tb.gofn_93 (fun a w hs => isWithin_ok w _ _ _) rfl (by decide)) (by decide) ?_
      refine TA.op (OpOK.pure ((by first | exact PV.notD rfl | exact PV.not rfl)) rfl (by decide)) (by decide) ?_
      show TQ _ _ _ _ _
      refine TQ.thenC ?_
      first | refine TC.condD rfl (fun hno => ?_) (fun hno => ?_) | refine TC.cond rfl (fun hno => ?_) (fun hno => ?_)
      · refine TC.seq ?_
        refine TC.region ?_
        refine TL.pure (PV.assign rfl) rfl (by decide) ?_
        refine TL.nil ?_
        refine TQ.thenC ?_
        refine TC.ret ?_
        refine TQ.blkR ?_
        refine TQ.thenR ?_
        refine TQ.thenR ?_
        refine TQ.blkR ?_
        refine TQ.thenR ?_
        refine TQ.retE1 rfl rfl ?_
        exact ⟨(), by rw [hol_6 hbad (right_no (k := k) (by omega) (by unfold stepB wiB; exact decide_eq_false (by omega)))], trivial, List.nil_sublist _⟩
      · refine TC.skip ?_
        refine TQ.blkN ?_
        refine TQ.thenC ?_
        refine TC.region ?_
        refine TL.pure (PV.add rfl rfl (by omega)) rfl (by decide) ?_
        refine TL.pure (PV.move rfl) rfl (by decide) ?_
        refine TL.nil ?_
        refine TQ.thenN ?_
        refine TQ.backK (k + 1) (by repeat (first | exact True.intro | refine And.intro rfl ?_)) (by repeat (first | exact True.intro | refine And.intro rfl ?_)) (by repeat (first | exact .slnil | exact List.nil_sublist _ | exact .refl _ | refine .cons_cons _ ?_ | refine .cons _ ?_ | refine .trans ?_ (List.sublist_append_right _ _))) ⟨by omega, fun j hj => if e : j < k then hk.2 j e else (show k = j by omega) ▸ (by unfold stepB wiB; exact decide_eq_true (by omega))⟩ (by omega)
    · refine TC.exit ?_
      refine TQ.thenE ?_
      refine TQ.thenE ?_
      refine TQ.blkS ?_
      refine TQ.thenC ?_
      refine TC.seq ?_
      refine TC.region ?_
      refine TL.pure (PV.assign rfl) rfl (by decide) ?_
      refine TL.nil ?_
      refine TQ.thenC ?_
      refine TC.ret ?_
      refine TQ.retE1 rfl rfl ?_
      exact ⟨(), by rw [hol_0 hbad (right_yes (fun j hj => hk.2 j (by omega)))], trivial, List.nil_sublist _⟩

end Go.Proofs.YtbnjmkidbfmomaaGreatDoor.C
