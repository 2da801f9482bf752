/- Which dates keep the bounds: contracts. -/
import Derived.Test.YtenalmddoljhoaaVA
set_option linter.unusedVariables false
set_option linter.unusedSimpArgs false
namespace Go.Proofs.Ytenalmddoljhoaa
open Go.Sx Go.RowKit

def datesOk (n : Int) (ds : List Int) : Bool := decide ((ds.length : Int) = n) && ds.all (fun d => isWithinB d 1000000)
def keepB (ds : List Int) (r : Bd) : Bool := decide (ds.getD r.b.toNat 0 - ds.getD r.a.toNat 0 ≤ r.m)
def vdI (n : Int) (rs : List Bd) (ds : List Int) : Int := if validateI n rs ≠ 0 then validateI n rs else if datesOk n ds = true then 0 else 1
def checkI (n : Int) (rs : List Bd) (ds : List Int) : Int := if vdI n rs ds ≠ 0 then vdI n rs ds else if rs.all (keepB ds) then 0 else 7
theorem int_all {ds : List Int} {f : Int → Bool} (h : ∀ j, j < ds.length → f (ds.getD j 0) = true) : ds.all f = true := by
  refine List.all_eq_true.2 fun x hx => ?_
  obtain ⟨i, hi, rfl⟩ := List.mem_iff_getElem.1 hx
  have := h i hi
  simpa [List.getD, hi] using this
theorem int_at {ds : List Int} {f : Int → Bool} (h : ds.all f = true) {j : Nat} (hj : j < ds.length) : f (ds.getD j 0) = true := by
  refine List.all_eq_true.1 h _ ?_
  simp [List.getD, hj]
theorem datesOk_spec {n : Int} {ds : List Int} (h : datesOk n ds = true) : (ds.length : Int) = n ∧ ∀ j, -1000000 ≤ ds.getD j 0 ∧ ds.getD j 0 ≤ 1000000 := by
  unfold datesOk at h
  simp only [Bool.and_eq_true, decide_eq_true_eq] at h
  refine ⟨h.1, fun j => ?_⟩
  by_cases hj : j < ds.length
  · have := int_at h.2 hj
    unfold isWithinB at this
    exact of_decide_eq_true this
  · have : ds.getD j 0 = 0 := by simp [List.getD, hj]
    rw [this]; omega
theorem datesOk_yes {n : Int} {ds : List Int} (h1 : (ds.length : Int) = n) (h2 : ∀ j, j < ds.length → isWithinB (ds.getD j 0) 1000000 = true) : datesOk n ds = true := by
  unfold datesOk
  rw [decide_eq_true h1, int_all (f := fun d => isWithinB d 1000000) h2]
  rfl
theorem datesOk_no {n : Int} {ds : List Int} {k : Nat} (hk : k < ds.length) (h2 : ¬ isWithinB (ds.getD k 0) 1000000 = true) : datesOk n ds = false := by
  cases h : datesOk n ds with
  | false => rfl
  | true =>
    unfold datesOk at h
    simp only [Bool.and_eq_true] at h
    exact absurd (int_at h.2 hk) h2
theorem datesOk_len {n : Int} {ds : List Int} (h1 : ¬ (ds.length : Int) = n) : datesOk n ds = false := by
  unfold datesOk
  rw [decide_eq_false h1]
  rfl
theorem vdI_bad {n : Int} {rs : List Bd} {ds : List Int} (h : validateI n rs ≠ 0) : vdI n rs ds = validateI n rs := if_pos h
theorem vdI_arg {n : Int} {rs : List Bd} {ds : List Int} (h : ¬ validateI n rs ≠ 0) (h2 : datesOk n ds = false) : vdI n rs ds = 1 := by unfold vdI; rw [if_neg h, if_neg (by rw [h2]; simp)]
theorem vdI_ok {n : Int} {rs : List Bd} {ds : List Int} (h : ¬ validateI n rs ≠ 0) (h2 : datesOk n ds = true) : vdI n rs ds = 0 := by unfold vdI; rw [if_neg h, if_pos h2]
theorem vdI_is {n : Int} {rs : List Bd} {ds : List Int} (h : vdI n rs ds = 0) : Valid n rs ∧ datesOk n ds = true := by
  unfold vdI at h
  split at h
  · rename_i h1; exact absurd h h1
  · rename_i h1
    split at h
    · rename_i h2; exact ⟨vof h1, h2⟩
    · cases h
theorem checkI_bad {n : Int} {rs : List Bd} {ds : List Int} (h : vdI n rs ds ≠ 0) : checkI n rs ds = vdI n rs ds := if_pos h
theorem checkI_no {n : Int} {rs : List Bd} {ds : List Int} (h : ¬ vdI n rs ds ≠ 0) {k : Nat} (hk : k < rs.length) (h2 : ¬ keepB ds (rs.getD k default) = true) : checkI n rs ds = 7 := by
  unfold checkI; rw [if_neg h, if_neg (fun h3 => h2 (all_at h3 hk))]
theorem checkI_ok {n : Int} {rs : List Bd} {ds : List Int} (h : ¬ vdI n rs ds ≠ 0) (h2 : rs.all (keepB ds) = true) : checkI n rs ds = 0 := by unfold checkI; rw [if_neg h, if_pos h2]


set_option maxRecDepth 100000 in
set_option maxHeartbeats 1000000 in
theorem vd_ok (w0 : World) (n : Int) (p : Option Addr) (cap : Nat) (rs : List Bd) (hr : BdsAt w0 p rs) (pd : Option Addr) (cd K : Nat) (ds : List Int) (hK : ds.length = K) (hx : IntsAt w0 pd ds) (hb : K ≤ 1000000) :
    Calls Try.prog 63 #[cv n p rs.length cap, .slice pd K cd] w0 (Post (X := Unit) (fun _ => .int .i64 (vdI n rs ds)) (fun _ => True) (fun _ => []) w0) := by
  subst hK
  refine calls Try.func63 rfl (n := 28) rfl (by simp) ?_
  refine TC.seq ?_
  refine TC.region ?_
  refine TL.box rfl rfl (by decide) (fun b0 hb0 => ?_)
  refine TL.pure (PV.assign rfl) rfl (by decide) ?_
  refine TL.nil ?_
  refine TQ.thenC ?_
  refine TC.seq ?_
  refine TC.seq ?_
  refine TC.region ?_
  refine TL.pure (PV.loadBox rfl Tb.agg_24 (by repeat (first | exact List.Mem.head _ | refine List.Mem.tail _ ?_ | refine List.mem_append_right _ ?_)) rfl) rfl (by decide) ?_
  refine TL.call rfl Tb.gofn_21 (fun a w hs => validate_ok w _ _ _ _ (hr.new hs.new)) rfl (by decide) (fun _ _ => ?_)
  refine TL.pure (PV.assign rfl) rfl (by decide) ?_
  refine TL.nil ?_
  refine TQ.thenC ?_
  refine TC.seq ?_
  refine TC.region ?_
  refine TL.pure (PV.move rfl) rfl (by decide) ?_
  refine TL.pure (PV.neq rfl rfl) rfl (by decide) ?_
  refine TL.nil ?_
  refine TQ.thenC ?_
  first | refine TC.condD rfl (fun hne => ?_) (fun hne => ?_) | refine TC.cond rfl (fun hne => ?_) (fun hne => ?_)
  · skip
    refine TC.seq ?_
    refine TC.region ?_
    refine TL.pure (PV.move rfl) rfl (by decide) ?_
    refine TL.pure (PV.assign rfl) rfl (by decide) ?_
    refine TL.nil ?_
    refine TQ.thenC ?_
    refine TC.ret ?_
    refine TQ.thenR ?_
    refine TQ.retE1 rfl rfl ?_
    exact ⟨(), by rw [vdI_bad hne], trivial, List.nil_sublist _⟩
  · skip
    refine TC.skip ?_
    refine TQ.thenC ?_
    refine TC.seq ?_
    refine TC.seq ?_
    refine TC.region ?_
    refine TL.pure (PV.move rfl) rfl (by decide) ?_
    refine TL.pure (PV.len rfl Tb.sl_25) rfl (by decide) ?_
    refine TL.pure (PV.fieldAddr rfl Tb.fo_24_0) rfl (by decide) ?_
    refine TL.pure (PV.load rfl Tb.one_3 (by repeat (first | exact List.Mem.head _ | refine List.Mem.tail _ ?_ | refine List.mem_append_right _ ?_)) rfl) rfl (by decide) ?_
    refine TL.pure (PV.neq rfl rfl) rfl (by decide) ?_
    refine TL.nil ?_
    refine TQ.thenC ?_
    first | refine TC.condD rfl (fun hlen => ?_) (fun hlen => ?_) | refine TC.cond rfl (fun hlen => ?_) (fun hlen => ?_)
    · skip
      refine TC.seq ?_
      refine TC.region ?_
      refine TL.pure (PV.assign rfl) rfl (by decide) ?_
      refine TL.nil ?_
      refine TQ.thenC ?_
      refine TC.ret ?_
      refine TQ.thenR ?_
      refine TQ.retE1 rfl rfl ?_
      exact ⟨(), by rw [vdI_arg hne (datesOk_len (by omega))], trivial, List.nil_sublist _⟩
    · skip
      refine TC.skip ?_
      refine TQ.thenC ?_
      refine TC.seq ?_
      refine TC.seq ?_
      refine TC.region ?_
      refine TL.pure (PV.move rfl) rfl (by decide) ?_
      refine TL.pure (PV.len rfl Tb.sl_25) rfl (by decide) ?_
      refine TL.pure (PV.move rfl) rfl (by decide) ?_
      refine TL.nil ?_
      refine TQ.thenC ?_
      refine TC.block ?_
      -- live and written in the loop, not told: [4]
      refine TC.loopG [18, 19] (X := Nat) (fun k => k ≤ ds.length ∧ ∀ j, j < k → isWithinB (ds.getD j 0) 1000000 = true) (fun k => [(20, .int .i64 k)]) (fun k => ds.length - k) 0 ⟨Nat.zero_le _, fun j hj => by omega⟩ (by repeat (first | exact True.intro | refine And.intro rfl ?_)) ?_
      intro k hk
      refine TC.seq ?_
      refine TC.region ?_
      refine TL.pure (PV.lss rfl rfl) rfl (by decide) ?_
      refine TL.nil ?_
      refine TQ.thenC ?_
      refine TC.seq ?_
      first | refine TC.condD rfl (fun hlt => ?_) (fun hlt => ?_) | refine TC.cond rfl (fun hlt => ?_) (fun hlt => ?_)
      · skip
        refine TC.skip ?_
        refine TQ.thenC ?_
        refine TC.seq ?_
        refine TC.block ?_
        refine TC.seq ?_
        obtain ⟨q, hqp, hqa⟩ := hx k (by omega)
        refine TC.region ?_
        refine TL.pure (PV.indexA rfl hqp rfl Tb.elm_25 rfl (by omega)) rfl (by decide) ?_
        refine TL.pure (PV.loadOld rfl Tb.one_3 hqa) rfl (by decide) ?_
        refine TL.pure (PV.assign rfl) rfl (by decide) ?_
        refine TL.nil ?_
        refine TQ.thenC ?_
        refine TC.seq ?_
        refine TC.region ?_
        refine TL.pure (PV.move rfl) rfl (by decide) ?_
        refine TL.call rfl Tb.gofn_86 (fun a w hs => isWithin_ok _ _ _ (by omega) (by omega)) rfl (by decide) (fun _ _ => ?_)
        refine TL.pure ((by first | exact PV.notD rfl | exact PV.not rfl)) rfl (by decide) ?_
        refine TL.nil ?_
        refine TQ.thenC ?_
        first | refine TC.condD rfl (fun hbad => ?_) (fun hbad => ?_) | refine TC.cond rfl (fun hbad => ?_) (fun hbad => ?_)
        · skip
          refine TC.seq ?_
          refine TC.region ?_
          refine TL.pure (PV.assign rfl) rfl (by decide) ?_
          refine TL.nil ?_
          refine TQ.thenC ?_
          refine TC.ret ?_
          refine TQ.blkR ?_
          refine TQ.thenR ?_
          refine TQ.thenR ?_
          refine TQ.blkR ?_
          refine TQ.thenR ?_
          refine TQ.retE1 rfl rfl ?_
          exact ⟨(), by rw [vdI_arg hne (datesOk_no (k := k) (by omega) (by intro h; first | exact hbad (of_decide_eq_true h) | (have h9 := of_decide_eq_true h; simp at hbad; omega)))], trivial, List.nil_sublist _⟩
        · skip
          refine TC.skip ?_
          refine TQ.blkN ?_
          refine TQ.thenC ?_
          refine TC.region ?_
          refine TL.pure (PV.add rfl rfl (by omega)) rfl (by decide) ?_
          refine TL.pure (PV.move rfl) rfl (by decide) ?_
          refine TL.nil ?_
          refine TQ.thenN ?_
          refine TQ.backK (k + 1) (by repeat (first | exact True.intro | refine And.intro rfl ?_)) (by repeat (first | exact True.intro | refine And.intro rfl ?_)) (by repeat (first | exact List.Sublist.slnil | exact List.nil_sublist _ | exact List.Sublist.refl _ | refine List.Sublist.cons_cons _ ?_ | refine List.Sublist.cons _ ?_ | refine List.Sublist.trans ?_ (List.sublist_append_right _ _))) ⟨by omega, fun j hj => by by_cases h : j = k; · { rw [h]; first | exact decide_eq_true (Decidable.of_not_not hbad) | exact decide_eq_true hbad | (simpa using hbad) }; · { exact hk.2 j (by omega) }⟩ (by omega)
      · skip
        refine TC.exit ?_
        refine TQ.thenE ?_
        refine TQ.thenE ?_
        refine TQ.blkS ?_
        refine TQ.thenC ?_
        refine TC.seq ?_
        refine TC.region ?_
        refine TL.pure (PV.assign rfl) rfl (by decide) ?_
        refine TL.nil ?_
        refine TQ.thenC ?_
        refine TC.ret ?_
        refine TQ.retE1 rfl rfl ?_
        exact ⟨(), by rw [vdI_ok hne (datesOk_yes (by omega) (fun j hj => hk.2 j (by omega)))], trivial, List.nil_sublist _⟩

set_option maxRecDepth 100000 in
set_option maxHeartbeats 1000000 in
theorem isDates_ok (w0 : World) (n : Int) (p : Option Addr) (cap : Nat) (rs : List Bd) (hr : BdsAt w0 p rs) (pd : Option Addr) (cd K : Nat) (ds : List Int) (hK : ds.length = K) (hx : IntsAt w0 pd ds) (hb : K ≤ 1000000) :
    Calls Try.prog 64 #[cv n p rs.length cap, .slice pd K cd] w0 (Post (X := Unit) (fun _ => .bool (datesOk n ds)) (fun _ => True) (fun _ => []) w0) := by
  subst hK
  refine calls Try.func64 rfl (n := 23) rfl (by simp) ?_
  refine TC.seq ?_
  refine TC.region ?_
  refine TL.box rfl rfl (by decide) (fun b0 hb0 => ?_)
  refine TL.pure (PV.assign rfl) rfl (by decide) ?_
  refine TL.nil ?_
  refine TQ.thenC ?_
  refine TC.seq ?_
  refine TC.seq ?_
  refine TC.region ?_
  refine TL.pure (PV.move rfl) rfl (by decide) ?_
  refine TL.pure (PV.len rfl Tb.sl_25) rfl (by decide) ?_
  refine TL.pure (PV.fieldAddr rfl Tb.fo_24_0) rfl (by decide) ?_
  refine TL.pure (PV.load rfl Tb.one_3 (by repeat (first | exact List.Mem.head _ | refine List.Mem.tail _ ?_ | refine List.mem_append_right _ ?_)) rfl) rfl (by decide) ?_
  refine TL.pure (PV.neq rfl rfl) rfl (by decide) ?_
  refine TL.nil ?_
  refine TQ.thenC ?_
  first | refine TC.condD rfl (fun hlen => ?_) (fun hlen => ?_) | refine TC.cond rfl (fun hlen => ?_) (fun hlen => ?_)
  · skip
    refine TC.seq ?_
    refine TC.region ?_
    refine TL.pure (PV.assign rfl) rfl (by decide) ?_
    refine TL.nil ?_
    refine TQ.thenC ?_
    refine TC.ret ?_
    refine TQ.thenR ?_
    refine TQ.retE1 rfl rfl ?_
    exact ⟨(), by rw [datesOk_len (by omega)], trivial, List.nil_sublist _⟩
  · skip
    refine TC.skip ?_
    refine TQ.thenC ?_
    refine TC.seq ?_
    refine TC.seq ?_
    refine TC.region ?_
    refine TL.pure (PV.assign rfl) rfl (by decide) ?_
    refine TL.nil ?_
    refine TQ.thenC ?_
    refine TC.block ?_
    -- live and written in the loop, not told: [4]
    refine TC.loopG [1] (X := Nat) (fun k => k ≤ ds.length ∧ ∀ j, j < k → isWithinB (ds.getD j 0) 1000000 = true) (fun k => [(5, .int .i64 k)]) (fun k => ds.length - k) 0 ⟨Nat.zero_le _, fun j hj => by omega⟩ (by repeat (first | exact True.intro | refine And.intro rfl ?_)) ?_
    intro k hk
    refine TC.seq ?_
    refine TC.seq ?_
    refine TC.region ?_
    refine TL.pure (PV.move rfl) rfl (by decide) ?_
    refine TL.pure (PV.move rfl) rfl (by decide) ?_
    refine TL.pure (PV.len rfl Tb.sl_25) rfl (by decide) ?_
    refine TL.pure (PV.lss rfl rfl) rfl (by decide) ?_
    refine TL.nil ?_
    refine TQ.thenC ?_
    first | refine TC.condD rfl (fun hlt => ?_) (fun hlt => ?_) | refine TC.cond rfl (fun hlt => ?_) (fun hlt => ?_)
    · skip
      refine TC.skip ?_
      refine TQ.thenC ?_
      refine TC.seq ?_
      refine TC.block ?_
      refine TC.seq ?_
      obtain ⟨q, hqp, hqa⟩ := hx k (by omega)
      refine TC.region ?_
      refine TL.pure (PV.move rfl) rfl (by decide) ?_
      refine TL.pure (PV.move rfl) rfl (by decide) ?_
      refine TL.pure (PV.indexA rfl hqp rfl Tb.elm_25 rfl (by omega)) rfl (by decide) ?_
      refine TL.pure (PV.loadOld rfl Tb.one_3 hqa) rfl (by decide) ?_
      refine TL.call rfl Tb.gofn_61 (fun a w hs => within_ok _ _ _ _) rfl (by decide) (fun _ _ => ?_)
      refine TL.pure ((by first | exact PV.notD rfl | exact PV.not rfl)) rfl (by decide) ?_
      refine TL.nil ?_
      refine TQ.thenC ?_
      first | refine TC.condD rfl (fun hbad => ?_) (fun hbad => ?_) | refine TC.cond rfl (fun hbad => ?_) (fun hbad => ?_)
      · skip
        refine TC.seq ?_
        refine TC.region ?_
        refine TL.pure (PV.assign rfl) rfl (by decide) ?_
        refine TL.nil ?_
        refine TQ.thenC ?_
        refine TC.ret ?_
        refine TQ.blkR ?_
        refine TQ.thenR ?_
        refine TQ.thenR ?_
        refine TQ.blkR ?_
        refine TQ.thenR ?_
        refine TQ.retE1 rfl rfl ?_
        exact ⟨(), by rw [datesOk_no (k := k) (by omega) (by intro h; first | exact hbad (of_decide_eq_true h) | (have h9 := of_decide_eq_true h; simp at hbad; omega))], trivial, List.nil_sublist _⟩
      · skip
        refine TC.skip ?_
        refine TQ.blkN ?_
        refine TQ.thenC ?_
        refine TC.region ?_
        refine TL.pure (PV.move rfl) rfl (by decide) ?_
        refine TL.pure (PV.add rfl rfl (by omega)) rfl (by decide) ?_
        refine TL.pure (PV.assign rfl) rfl (by decide) ?_
        refine TL.nil ?_
        refine TQ.thenN ?_
        refine TQ.backK (k + 1) (by repeat (first | exact True.intro | refine And.intro rfl ?_)) (by repeat (first | exact True.intro | refine And.intro rfl ?_)) (by repeat (first | exact List.Sublist.slnil | exact List.nil_sublist _ | exact List.Sublist.refl _ | refine List.Sublist.cons_cons _ ?_ | refine List.Sublist.cons _ ?_ | refine List.Sublist.trans ?_ (List.sublist_append_right _ _))) ⟨by omega, fun j hj => by by_cases h : j = k; · { rw [h]; first | exact decide_eq_true (Decidable.of_not_not hbad) | exact decide_eq_true hbad | (simpa using hbad) }; · { exact hk.2 j (by omega) }⟩ (by omega)
    · skip
      refine TC.exit ?_
      refine TQ.thenE ?_
      refine TQ.thenE ?_
      refine TQ.blkS ?_
      refine TQ.thenC ?_
      refine TC.seq ?_
      refine TC.region ?_
      refine TL.pure (PV.assign rfl) rfl (by decide) ?_
      refine TL.nil ?_
      refine TQ.thenC ?_
      refine TC.ret ?_
      refine TQ.retE1 rfl rfl ?_
      exact ⟨(), by rw [datesOk_yes (by omega) (fun j hj => hk.2 j (by omega))], trivial, List.nil_sublist _⟩

set_option maxRecDepth 100000 in
set_option maxHeartbeats 1000000 in
theorem check_ok (w0 : World) (n : Int) (p : Option Addr) (cap : Nat) (rs : List Bd) (hr : BdsAt w0 p rs) (pd : Option Addr) (cd K : Nat) (ds : List Int) (hK : ds.length = K) (hx : IntsAt w0 pd ds) (hb : K ≤ 1000000) :
    Calls Try.prog 23 #[cv n p rs.length cap, .slice pd K cd] w0 (Post (X := Unit) (fun _ => .int .i64 (checkI n rs ds)) (fun _ => True) (fun _ => []) w0) := by
  refine calls Try.func23 rfl (n := 36) rfl (by simp) ?_
  refine TC.seq ?_
  refine TC.region ?_
  refine TL.box rfl rfl (by decide) (fun b0 hb0 => ?_)
  refine TL.pure (PV.assign rfl) rfl (by decide) ?_
  refine TL.nil ?_
  refine TQ.thenC ?_
  refine TC.seq ?_
  refine TC.seq ?_
  refine TC.region ?_
  refine TL.pure (PV.loadBox rfl Tb.agg_24 (by repeat (first | exact List.Mem.head _ | refine List.Mem.tail _ ?_ | refine List.mem_append_right _ ?_)) rfl) rfl (by decide) ?_
  refine TL.pure (PV.move rfl) rfl (by decide) ?_
  refine TL.call rfl Tb.gofn_63 (fun a w hs => vd_ok w _ _ _ _ (hr.new hs.new) _ _ _ _ hK (hx.new hs.new) hb) rfl (by decide) (fun _ _ => ?_)
  refine TL.pure (PV.assign rfl) rfl (by decide) ?_
  refine TL.nil ?_
  refine TQ.thenC ?_
  refine TC.seq ?_
  refine TC.region ?_
  refine TL.pure (PV.move rfl) rfl (by decide) ?_
  refine TL.pure (PV.neq rfl rfl) rfl (by decide) ?_
  refine TL.nil ?_
  refine TQ.thenC ?_
  first | refine TC.condD rfl (fun hne => ?_) (fun hne => ?_) | refine TC.cond rfl (fun hne => ?_) (fun hne => ?_)
  · skip
    refine TC.seq ?_
    refine TC.region ?_
    refine TL.pure (PV.move rfl) rfl (by decide) ?_
    refine TL.pure (PV.assign rfl) rfl (by decide) ?_
    refine TL.nil ?_
    refine TQ.thenC ?_
    refine TC.ret ?_
    refine TQ.thenR ?_
    refine TQ.retE1 rfl rfl ?_
    exact ⟨(), by rw [checkI_bad hne], trivial, List.nil_sublist _⟩
  · skip
    refine TC.skip ?_
    refine TQ.thenC ?_
    refine TC.seq ?_
    refine TC.seq ?_
    obtain ⟨hv, hdo⟩ := vdI_is (Decidable.of_not_not (p := vdI n rs ds = 0) hne)
    have hds := datesOk_spec hdo
    have hvl := hv.len
    refine TC.region ?_
    refine TL.pure (PV.fieldAddr rfl Tb.fo_24_1) rfl (by decide) ?_
    refine TL.pure (PV.load rfl Tb.one_22 (by repeat (first | exact List.Mem.head _ | refine List.Mem.tail _ ?_ | refine List.mem_append_right _ ?_)) rfl) rfl (by decide) ?_
    refine TL.pure (PV.len rfl Tb.sl_22) rfl (by decide) ?_
    refine TL.pure (PV.move rfl) rfl (by decide) ?_
    refine TL.nil ?_
    refine TQ.thenC ?_
    refine TC.block ?_
    -- live and written in the loop, not told: [4]
    refine TC.loopG [1, 15, 16] (X := Nat) (fun k => k ≤ rs.length ∧ (rs.take k).all (keepB ds) = true) (fun k => [(17, .int .i64 k)]) (fun k => rs.length - k) 0 ⟨Nat.zero_le _, by simp⟩ (by repeat (first | exact True.intro | refine And.intro rfl ?_)) ?_
    intro k hk
    refine TC.seq ?_
    refine TC.region ?_
    refine TL.pure (PV.lss rfl rfl) rfl (by decide) ?_
    refine TL.nil ?_
    refine TQ.thenC ?_
    refine TC.seq ?_
    first | refine TC.condD rfl (fun hlt => ?_) (fun hlt => ?_) | refine TC.cond rfl (fun hlt => ?_) (fun hlt => ?_)
    · skip
      refine TC.skip ?_
      refine TQ.thenC ?_
      refine TC.seq ?_
      refine TC.block ?_
      refine TC.seq ?_
      obtain ⟨q, hqp, hq⟩ := hr k (by omega)
      have hat := hv.at (k := k) (by omega)
      obtain ⟨q1, hq1p, hq1⟩ := hx (rs.getD k default).b.toNat (by omega)
      obtain ⟨q2, hq2p, hq2⟩ := hx (rs.getD k default).a.toNat (by omega)
      have z1 := hds.2 (rs.getD k default).b.toNat
      have z2 := hds.2 (rs.getD k default).a.toNat
      refine TC.region ?_
      refine TL.pure (PV.indexA rfl hqp rfl Tb.elm_22 rfl (by omega)) rfl (by decide) ?_
      refine TL.pure (PV.loadAggA rfl Tb.agg_42 rfl hq) rfl (by decide) ?_
      refine TL.alloc Tb.zero_42 rfl (by decide) (fun b1 hb1 => ?_)
      refine TL.storeAgg rfl rfl Tb.cells_42 (by repeat (first | exact Upd.head _ | apply Upd.tail | apply Upd.appR)) rfl rfl rfl rfl rfl ?_
      refine TL.nil ?_
      refine TQ.thenC ?_
      refine TC.seq ?_
      refine TC.any Tb.mixed rfl rfl ?_
      refine TA.op (OpOK.pure (PV.move rfl) rfl (by decide)) (by decide) ?_
      refine TA.op (OpOK.pure (PV.fieldAddr rfl Tb.fo_42_1) rfl (by decide)) (by decide) ?_
      refine TA.op (OpOK.pure (PV.load rfl Tb.one_3 (by repeat (first | exact List.Mem.head _ | refine List.Mem.tail _ ?_ | refine List.mem_append_right _ ?_)) rfl) rfl (by decide)) (by decide) ?_
      refine TA.op (OpOK.pure (PV.indexA rfl hq1p rfl Tb.elm_25 (Int.toNat_of_nonneg (by omega)).symm (by omega)) rfl (by decide)) (by decide) ?_
      refine TA.op (OpOK.pure (PV.loadOld rfl Tb.one_3 hq1) rfl (by decide)) (by decide) ?_
      refine TA.op (OpOK.pure (PV.move rfl) rfl (by decide)) (by decide) ?_
      refine TA.op (OpOK.pure (PV.fieldAddr rfl Tb.fo_42_0) rfl (by decide)) (by decide) ?_
      refine TA.op (OpOK.pure (PV.load rfl Tb.one_3 (by repeat (first | exact List.Mem.head _ | refine List.Mem.tail _ ?_ | refine List.mem_append_right _ ?_)) rfl) rfl (by decide)) (by decide) ?_
      refine TA.op (OpOK.pure (PV.indexA rfl hq2p rfl Tb.elm_25 (Int.toNat_of_nonneg (by omega)).symm (by omega)) rfl (by decide)) (by decide) ?_
      refine TA.op (OpOK.pure (PV.loadOld rfl Tb.one_3 hq2) rfl (by decide)) (by decide) ?_
      refine TA.op (OpOK.pure (PV.sub rfl rfl (by omega)) rfl (by decide)) (by decide) ?_
      refine TA.op (OpOK.pure (PV.fieldAddr rfl Tb.fo_42_2) rfl (by decide)) (by decide) ?_
      refine TA.op (OpOK.pure (PV.load rfl Tb.one_3 (by repeat (first | exact List.Mem.head _ | refine List.Mem.tail _ ?_ | refine List.mem_append_right _ ?_)) rfl) rfl (by decide)) (by decide) ?_
      refine TA.op (OpOK.pure (PV.gtr rfl rfl) rfl (by decide)) (by decide) ?_
      show TQ _ _ _ _ _
      refine TQ.thenC ?_
      first | refine TC.condD rfl (fun hbad => ?_) (fun hbad => ?_) | refine TC.cond rfl (fun hbad => ?_) (fun hbad => ?_)
      · skip
        refine TC.seq ?_
        refine TC.region ?_
        refine TL.pure (PV.assign rfl) rfl (by decide) ?_
        refine TL.nil ?_
        refine TQ.thenC ?_
        refine TC.ret ?_
        refine TQ.blkR ?_
        refine TQ.thenR ?_
        refine TQ.thenR ?_
        refine TQ.blkR ?_
        refine TQ.thenR ?_
        refine TQ.retE1 rfl rfl ?_
        exact ⟨(), by rw [checkI_no hne (k := k) (by omega) (fun h => by have h9 := of_decide_eq_true h; omega)], trivial, List.nil_sublist _⟩
      · skip
        refine TC.skip ?_
        refine TQ.blkN ?_
        refine TQ.thenC ?_
        refine TC.region ?_
        refine TL.pure (PV.add rfl rfl (by omega)) rfl (by decide) ?_
        refine TL.pure (PV.move rfl) rfl (by decide) ?_
        refine TL.nil ?_
        refine TQ.thenN ?_
        refine TQ.backK (k + 1) (by repeat (first | exact True.intro | refine And.intro rfl ?_)) (by repeat (first | exact True.intro | refine And.intro rfl ?_)) (by repeat (first | exact List.Sublist.slnil | exact List.nil_sublist _ | exact List.Sublist.refl _ | refine List.Sublist.cons_cons _ ?_ | refine List.Sublist.cons _ ?_ | refine List.Sublist.trans ?_ (List.sublist_append_right _ _))) ⟨by omega, take_all hk.2 (by omega) (decide_eq_true (by omega))⟩ (by omega)
    · skip
      refine TC.exit ?_
      refine TQ.thenE ?_
      refine TQ.thenE ?_
      refine TQ.blkS ?_
      refine TQ.thenC ?_
      refine TC.seq ?_
      refine TC.region ?_
      refine TL.pure (PV.assign rfl) rfl (by decide) ?_
      refine TL.nil ?_
      refine TQ.thenC ?_
      refine TC.ret ?_
      refine TQ.retE1 rfl rfl ?_
      exact ⟨(), by rw [checkI_ok hne (by rw [← hk.2, List.take_of_length_le (by omega)])], trivial, List.nil_sublist _⟩

set_option maxRecDepth 100000 in
set_option maxHeartbeats 1000000 in
theorem rcheck_ok (w0 : World) (n : Int) (p : Option Addr) (cap : Nat) (rs : List Bd) (hr : BdsAt w0 p rs) (pd : Option Addr) (cd K : Nat) (ds : List Int) (hK : ds.length = K) (hx : IntsAt w0 pd ds) (hb : K ≤ 1000000) :
    Calls Try.prog 24 #[cv n p rs.length cap, .slice pd K cd] w0 (Post (X := Unit) (fun _ => .int .i64 (checkI n rs ds)) (fun _ => True) (fun _ => []) w0) := by
  refine calls Try.func24 rfl (n := 43) rfl (by simp) ?_
  refine TC.seq ?_
  refine TC.region ?_
  refine TL.box rfl rfl (by decide) (fun b0 hb0 => ?_)
  refine TL.pure (PV.assign rfl) rfl (by decide) ?_
  refine TL.nil ?_
  refine TQ.thenC ?_
  refine TC.seq ?_
  refine TC.seq ?_
  refine TC.region ?_
  refine TL.pure (PV.loadBox rfl Tb.agg_24 (by repeat (first | exact List.Mem.head _ | refine List.Mem.tail _ ?_ | refine List.mem_append_right _ ?_)) rfl) rfl (by decide) ?_
  refine TL.call rfl Tb.gofn_22 (fun a w hs => rvalidate_ok w _ _ _ _ (hr.new hs.new)) rfl (by decide) (fun _ _ => ?_)
  refine TL.pure (PV.assign rfl) rfl (by decide) ?_
  refine TL.nil ?_
  refine TQ.thenC ?_
  refine TC.seq ?_
  refine TC.region ?_
  refine TL.pure (PV.move rfl) rfl (by decide) ?_
  refine TL.pure (PV.neq rfl rfl) rfl (by decide) ?_
  refine TL.nil ?_
  refine TQ.thenC ?_
  first | refine TC.condD rfl (fun hne => ?_) (fun hne => ?_) | refine TC.cond rfl (fun hne => ?_) (fun hne => ?_)
  · skip
    refine TC.seq ?_
    refine TC.region ?_
    refine TL.pure (PV.move rfl) rfl (by decide) ?_
    refine TL.pure (PV.assign rfl) rfl (by decide) ?_
    refine TL.nil ?_
    refine TQ.thenC ?_
    refine TC.ret ?_
    refine TQ.thenR ?_
    refine TQ.retE1 rfl rfl ?_
    exact ⟨(), by rw [checkI_bad (by rw [vdI_bad hne]; exact hne), vdI_bad hne], trivial, List.nil_sublist _⟩
  · skip
    refine TC.skip ?_
    refine TQ.thenC ?_
    refine TC.seq ?_
    refine TC.seq ?_
    refine TC.region ?_
    refine TL.pure (PV.loadBox rfl Tb.agg_24 (by repeat (first | exact List.Mem.head _ | refine List.Mem.tail _ ?_ | refine List.mem_append_right _ ?_)) rfl) rfl (by decide) ?_
    refine TL.pure (PV.move rfl) rfl (by decide) ?_
    refine TL.call rfl Tb.gofn_64 (fun a w hs => isDates_ok w _ _ _ _ (hr.new hs.new) _ _ _ _ hK (hx.new hs.new) hb) rfl (by decide) (fun _ _ => ?_)
    refine TL.pure ((by first | exact PV.notD rfl | exact PV.not rfl)) rfl (by decide) ?_
    refine TL.nil ?_
    refine TQ.thenC ?_
    first | refine TC.condD rfl (fun hw => ?_) (fun hw => ?_) | refine TC.cond rfl (fun hw => ?_) (fun hw => ?_)
    · skip
      refine TC.seq ?_
      refine TC.region ?_
      refine TL.pure (PV.assign rfl) rfl (by decide) ?_
      refine TL.nil ?_
      refine TQ.thenC ?_
      refine TC.ret ?_
      refine TQ.thenR ?_
      refine TQ.retE1 rfl rfl ?_
      exact ⟨(), by rw [checkI_bad (by rw [vdI_arg hne (by simpa using hw)]; simp), vdI_arg hne (by simpa using hw)], trivial, List.nil_sublist _⟩
    · skip
      refine TC.skip ?_
      refine TQ.thenC ?_
      refine TC.seq ?_
      refine TC.seq ?_
      have hdo : datesOk n ds = true := by simpa using hw
      have hne2 : ¬ vdI n rs ds ≠ 0 := by rw [vdI_ok hne hdo]; simp
      have hv := vof hne
      have hds := datesOk_spec hdo
      have hvl := hv.len
      refine TC.region ?_
      refine TL.pure (PV.assign rfl) rfl (by decide) ?_
      refine TL.nil ?_
      refine TQ.thenC ?_
      refine TC.block ?_
      -- live and written in the loop, not told: [4]
      refine TC.loopG [1, 2] (X := Nat) (fun k => k ≤ rs.length ∧ (rs.take k).all (keepB ds) = true) (fun k => [(6, .int .i64 k)]) (fun k => rs.length - k) 0 ⟨Nat.zero_le _, by simp⟩ (by repeat (first | exact True.intro | refine And.intro rfl ?_)) ?_
      intro k hk
      refine TC.seq ?_
      refine TC.seq ?_
      refine TC.region ?_
      refine TL.pure (PV.move rfl) rfl (by decide) ?_
      refine TL.pure (PV.fieldAddr rfl Tb.fo_24_1) rfl (by decide) ?_
      refine TL.pure (PV.load rfl Tb.one_22 (by repeat (first | exact List.Mem.head _ | refine List.Mem.tail _ ?_ | refine List.mem_append_right _ ?_)) rfl) rfl (by decide) ?_
      refine TL.pure (PV.len rfl Tb.sl_22) rfl (by decide) ?_
      refine TL.pure (PV.lss rfl rfl) rfl (by decide) ?_
      refine TL.nil ?_
      refine TQ.thenC ?_
      first | refine TC.condD rfl (fun hlt => ?_) (fun hlt => ?_) | refine TC.cond rfl (fun hlt => ?_) (fun hlt => ?_)
      · skip
        refine TC.skip ?_
        refine TQ.thenC ?_
        refine TC.seq ?_
        refine TC.block ?_
        refine TC.seq ?_
        obtain ⟨q, hqp, hq⟩ := hr k (by omega)
        have hat := hv.at (k := k) (by omega)
        obtain ⟨q1, hq1p, hq1⟩ := hx (rs.getD k default).b.toNat (by omega)
        obtain ⟨q2, hq2p, hq2⟩ := hx (rs.getD k default).a.toNat (by omega)
        have z1 := hds.2 (rs.getD k default).b.toNat
        have z2 := hds.2 (rs.getD k default).a.toNat
        refine TC.region ?_
        refine TL.pure (PV.fieldAddr rfl Tb.fo_24_1) rfl (by decide) ?_
        refine TL.pure (PV.load rfl Tb.one_22 (by repeat (first | exact List.Mem.head _ | refine List.Mem.tail _ ?_ | refine List.mem_append_right _ ?_)) rfl) rfl (by decide) ?_
        refine TL.pure (PV.move rfl) rfl (by decide) ?_
        refine TL.pure (PV.indexA rfl hqp rfl Tb.elm_22 rfl (by omega)) rfl (by decide) ?_
        refine TL.pure (PV.loadAggA rfl Tb.agg_42 rfl hq) rfl (by decide) ?_
        refine TL.alloc Tb.zero_42 rfl (by decide) (fun b1 hb1 => ?_)
        refine TL.storeAgg rfl rfl Tb.cells_42 (by repeat (first | exact Upd.head _ | apply Upd.tail | apply Upd.appR)) rfl rfl rfl rfl rfl ?_
        refine TL.nil ?_
        refine TQ.thenC ?_
        refine TC.seq ?_
        refine TC.any Tb.mixed rfl rfl ?_
        refine TA.op (OpOK.pure (PV.move rfl) rfl (by decide)) (by decide) ?_
        refine TA.op (OpOK.pure (PV.fieldAddr rfl Tb.fo_42_1) rfl (by decide)) (by decide) ?_
        refine TA.op (OpOK.pure (PV.load rfl Tb.one_3 (by repeat (first | exact List.Mem.head _ | refine List.Mem.tail _ ?_ | refine List.mem_append_right _ ?_)) rfl) rfl (by decide)) (by decide) ?_
        refine TA.op (OpOK.pure (PV.indexA rfl hq1p rfl Tb.elm_25 (Int.toNat_of_nonneg (by omega)).symm (by omega)) rfl (by decide)) (by decide) ?_
        refine TA.op (OpOK.pure (PV.loadOld rfl Tb.one_3 hq1) rfl (by decide)) (by decide) ?_
        refine TA.op (OpOK.pure (PV.move rfl) rfl (by decide)) (by decide) ?_
        refine TA.op (OpOK.pure (PV.fieldAddr rfl Tb.fo_42_0) rfl (by decide)) (by decide) ?_
        refine TA.op (OpOK.pure (PV.load rfl Tb.one_3 (by repeat (first | exact List.Mem.head _ | refine List.Mem.tail _ ?_ | refine List.mem_append_right _ ?_)) rfl) rfl (by decide)) (by decide) ?_
        refine TA.op (OpOK.pure (PV.indexA rfl hq2p rfl Tb.elm_25 (Int.toNat_of_nonneg (by omega)).symm (by omega)) rfl (by decide)) (by decide) ?_
        refine TA.op (OpOK.pure (PV.loadOld rfl Tb.one_3 hq2) rfl (by decide)) (by decide) ?_
        refine TA.op (OpOK.pure (PV.sub rfl rfl (by omega)) rfl (by decide)) (by decide) ?_
        refine TA.op (OpOK.pure (PV.fieldAddr rfl Tb.fo_42_2) rfl (by decide)) (by decide) ?_
        refine TA.op (OpOK.pure (PV.load rfl Tb.one_3 (by repeat (first | exact List.Mem.head _ | refine List.Mem.tail _ ?_ | refine List.mem_append_right _ ?_)) rfl) rfl (by decide)) (by decide) ?_
        refine TA.op (OpOK.pure (PV.gtr rfl rfl) rfl (by decide)) (by decide) ?_
        show TQ _ _ _ _ _
        refine TQ.thenC ?_
        first | refine TC.condD rfl (fun hbad => ?_) (fun hbad => ?_) | refine TC.cond rfl (fun hbad => ?_) (fun hbad => ?_)
        · skip
          refine TC.seq ?_
          refine TC.region ?_
          refine TL.pure (PV.assign rfl) rfl (by decide) ?_
          refine TL.nil ?_
          refine TQ.thenC ?_
          refine TC.ret ?_
          refine TQ.blkR ?_
          refine TQ.thenR ?_
          refine TQ.thenR ?_
          refine TQ.blkR ?_
          refine TQ.thenR ?_
          refine TQ.retE1 rfl rfl ?_
          exact ⟨(), by rw [checkI_no hne2 (k := k) (by omega) (fun h => by have h9 := of_decide_eq_true h; omega)], trivial, List.nil_sublist _⟩
        · skip
          refine TC.skip ?_
          refine TQ.blkN ?_
          refine TQ.thenC ?_
          refine TC.region ?_
          refine TL.pure (PV.move rfl) rfl (by decide) ?_
          refine TL.pure (PV.add rfl rfl (by omega)) rfl (by decide) ?_
          refine TL.pure (PV.assign rfl) rfl (by decide) ?_
          refine TL.nil ?_
          refine TQ.thenN ?_
          refine TQ.backK (k + 1) (by repeat (first | exact True.intro | refine And.intro rfl ?_)) (by repeat (first | exact True.intro | refine And.intro rfl ?_)) (by repeat (first | exact List.Sublist.slnil | exact List.nil_sublist _ | exact List.Sublist.refl _ | refine List.Sublist.cons_cons _ ?_ | refine List.Sublist.cons _ ?_ | refine List.Sublist.trans ?_ (List.sublist_append_right _ _))) ⟨by omega, take_all hk.2 (by omega) (decide_eq_true (by omega))⟩ (by omega)
      · skip
        refine TC.exit ?_
        refine TQ.thenE ?_
        refine TQ.thenE ?_
        refine TQ.blkS ?_
        refine TQ.thenC ?_
        refine TC.seq ?_
        refine TC.region ?_
        refine TL.pure (PV.assign rfl) rfl (by decide) ?_
        refine TL.nil ?_
        refine TQ.thenC ?_
        refine TC.ret ?_
        refine TQ.retE1 rfl rfl ?_
        exact ⟨(), by rw [checkI_ok hne2 (by rw [← hk.2, List.take_of_length_le (by omega)])], trivial, List.nil_sublist _⟩

end Go.Proofs.Ytenalmddoljhoaa
