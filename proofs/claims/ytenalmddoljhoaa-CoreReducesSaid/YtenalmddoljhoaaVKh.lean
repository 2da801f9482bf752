/- Dates that keep all bounds keep each one that follows: the statement's own function. -/
import Derived.Test.YtenalmddoljhoaaVKg
import Derived.Test.YtenalmddoljhoaaOp
set_option linter.unusedVariables false
set_option linter.unusedSimpArgs false
namespace Go.Proofs.Ytenalmddoljhoaa
open Go.Sx Go.RowKit

def KpB (ds : List Int) (r : Bd) : Prop := ds.getD r.b.toNat 0 - ds.getD r.a.toNat 0 ≤ r.m
theorem kp_plain {ds : List Int} {g : List Bd} (hg : ∀ r ∈ g, KpB ds r) : ∀ i, ∀ r ∈ plainN g i, KpB ds r
  | 0, r, h => hg r h
  | i + 1, r, h => by
    rcases List.mem_append.1 (tight_mem h) with h1 | h1
    · exact kp_plain hg i r h1
    · obtain ⟨u, hu, v, hv, hgo, rfl⟩ := sums_mem h1
      have a1 := kp_plain hg i u hu
      have a2 := hg v hv
      have h2 := (of_decide_eq_true hgo).1
      unfold KpB at a1 a2 ⊢
      simp only [addB]
      rw [h2] at a1
      omega
theorem find_mem {a b m : Int} : ∀ {l : List Bd}, findB a b l = some m → (⟨a, b, m⟩ : Bd) ∈ l
  | s :: l, h => by
    unfold findB at h
    split at h
    · rename_i h1
      have h2 : s.m = m := by simpa using h
      obtain ⟨sa, sb, sm⟩ := s
      simp only at h1 h2
      rw [h1.1, h1.2, h2]
      exact .head _
    · exact .tail _ (find_mem h)
theorem fnd_kp {ds : List Int} {l : List Bd} {a b : Int} (hl : ∀ r ∈ l, KpB ds r) (h : fndB l a b = true) : ds.getD b.toNat 0 - ds.getD a.toNat 0 ≤ fndM l a b := by
  unfold fndB at h
  unfold fndM
  by_cases e : a = b
  · rw [if_pos e, e]; omega
  · rw [if_neg e] at h
    rw [if_neg e]
    cases h1 : findB a b l with
    | none => rw [h1] at h; cases h
    | some m => exact hl _ (find_mem h1)
theorem pof_kp {n : Int} {rs : List Bd} {ds ls : List Int} (hc : checkI n rs ds = 0) : ∀ r ∈ pofL n rs ls, KpB ds r := by
  have h1 := check_vd (.inl hc)
  have h2 : rs.all (keepB ds) = true := by
    unfold checkI at hc
    rw [h1] at hc
    by_cases h3 : rs.all (keepB ds) = true
    · exact h3
    · rw [if_neg (by simp), if_neg h3] at hc; cases hc
  have h4 : ∀ r ∈ rs, KpB ds r := fun r hr => by
    have h5 := List.all_eq_true.1 h2 r hr
    unfold keepB at h5
    have h6 := of_decide_eq_true h5
    exact h6
  intro r hr
  unfold pofL at hr
  split at hr
  · exact kp_plain (fun s hs => h4 s (tight_mem hs)) _ r hr
  · simp at hr
theorem lay_rng {n : Int} {rs : List Bd} {a b : Int} (h : layI n rs [a, b] = 0) : (0 ≤ a ∧ a < n) ∧ (0 ≤ b ∧ b < n) := by
  unfold layI at h
  by_cases h1 : validateI n rs ≠ 0
  · rw [if_pos h1] at h; exact absurd h h1
  · rw [if_neg h1] at h
    by_cases h2 : [a, b].all (isLayerB n) = true
    · have h3 := List.all_eq_true.1 h2
      exact ⟨of_decide_eq_true (h3 a (by simp)), of_decide_eq_true (h3 b (by simp))⟩
    · rw [if_neg h2] at h; cases h
theorem flw_rng {n : Int} {rs : List Bd} {r : Bd} (h : flwI n rs r = 0) : (0 ≤ r.a ∧ r.a < n) ∧ (0 ≤ r.b ∧ r.b < n) := by
  unfold flwI at h
  by_cases h1 : layI n rs [r.a, r.b] ≠ 0
  · rw [if_pos h1] at h; exact absurd h h1
  · exact lay_rng (Decidable.of_not_not h1)
theorem pof_rng {n : Int} {rs : List Bd} {a b : Int} (h : pofI n rs [a, b] = 0) : (0 ≤ a ∧ a < n) ∧ (0 ≤ b ∧ b < n) := by
  unfold pofI at h
  by_cases h1 : layI n rs [a, b] ≠ 0
  · rw [if_pos h1] at h; exact absurd h h1
  · exact lay_rng (Decidable.of_not_not h1)
theorem flw_kp {n : Int} {rs : List Bd} {ds : List Int} {r : Bd} (hc : checkI n rs ds = 0) (h : flwI n rs r = 0) (hr : flwR n rs r = true) : ds.getD r.b.toNat 0 - ds.getD r.a.toNat 0 ≤ r.m := by
  unfold flwR at hr
  rw [if_pos h] at hr
  unfold flwB at hr
  simp only [Bool.and_eq_true, decide_eq_true_eq] at hr
  have := fnd_kp (ds := ds) (pof_kp hc) hr.1
  omega
theorem tg_kp {n : Int} {rs : List Bd} {ds : List Int} {a b : Int} (hc : checkI n rs ds = 0) (h : pofI n rs [a, b] = 0) (hr : tgB n rs a b = true) : ds.getD b.toNat 0 - ds.getD a.toNat 0 ≤ tgM n rs a b := by
  unfold tgB at hr
  unfold tgM
  rw [if_neg (by simp [h])] at hr ⊢
  exact fnd_kp (pof_kp hc) hr


set_option maxRecDepth 100000 in
set_option maxHeartbeats 4000000 in
theorem coreKeeps_ok (w0 : World) (n : Int) (p : Option Addr) (cap : Nat) (rs : List Bd) (hr : BdsAt w0 p rs) (pd : Option Addr) (cd : Nat) (ds : List Int) (hx : IntsAt w0 pd ds) (r : Bd) :
    Calls Try.prog 8 #[cv n p rs.length cap, .slice pd ds.length cd, r.val] w0 (Post (X := Unit) (fun _ => .bool true) (fun _ => True) (fun _ => []) w0) := by
  refine calls Try.func8 rfl (n := 131) rfl (by simp) ?_
  refine TC.seq ?_
  refine TC.region ?_
  refine TL.box rfl rfl (by decide) (fun b0 hb0 => ?_)
  refine TL.box rfl rfl (by decide) (fun b1 hb1 => ?_)
  refine TL.pure (PV.assign rfl) rfl (by decide) ?_
  refine TL.nil ?_
  refine TQ.thenC ?_
  refine TC.seq ?_
  refine TC.seq ?_
  refine TC.region ?_
  refine TL.pure (PV.loadBox rfl Tb.agg_24 (by repeat (first | exact List.Mem.head _ | refine List.Mem.tail _ ?_ | refine List.mem_append_right _ ?_)) rfl) rfl (by decide) ?_
  refine TL.call rfl Tb.gofn_17 (fun a w hs => long_ok w _ _ _ _ (hr.new hs.new)) rfl (by decide) (fun _ _ => ?_)
  refine TL.pure (PV.move rfl) rfl (by decide) ?_
  first | refine TL.splitD 14 rfl (fun l1 => ?_) (fun l1 => ?_) | refine TL.split 14 rfl (fun l1 => ?_) (fun l1 => ?_)
  · skip
    refine TL.skip rfl (fun k hk => by cases hk; decide) ?_
    refine TL.skip rfl (fun k hk => by cases hk; decide) ?_
    refine TL.skip rfl (fun k hk => by cases hk; decide) ?_
    refine TL.pure (PV.pickT rfl rfl) rfl (by decide) ?_
    refine TL.nil ?_
    refine TQ.thenC ?_
    refine TC.condT rfl ?_
    refine TC.seq ?_
    refine TC.region ?_
    refine TL.call rfl Tb.gofn_18 (fun a w hs => knownOk w) rfl (by decide) (fun _ _ => ?_)
    refine TL.pure (PV.assign rfl) rfl (by decide) ?_
    refine TL.nil ?_
    refine TQ.thenC ?_
    refine TC.ret ?_
    refine TQ.thenR ?_
    refine TQ.retE1 rfl rfl ?_
    first | exact ⟨(), rfl, trivial, List.nil_sublist _⟩ | (exfalso; have := hga a1; omega) | (exfalso; have := hgb b1; omega) | (exfalso; have := hka a1 (by simp_all); omega) | (exfalso; have := hkb b1 (by simp_all); omega) | (exfalso; simp_all; done)
  · skip
    refine TL.pure (PV.move rfl) rfl (by decide) ?_
    refine TL.pure (PV.len rfl Tb.sl_25) rfl (by decide) ?_
    refine TL.pure (PV.gtr rfl rfl) rfl (by decide) ?_
    refine TL.pure (PV.pickF rfl rfl) rfl (by decide) ?_
    refine TL.nil ?_
    refine TQ.thenC ?_
    first | refine TC.condD rfl (fun hlong => ?_) (fun hlong => ?_) | refine TC.cond rfl (fun hlong => ?_) (fun hlong => ?_)
    · skip
      refine TC.seq ?_
      refine TC.region ?_
      refine TL.call rfl Tb.gofn_18 (fun a w hs => knownOk w) rfl (by decide) (fun _ _ => ?_)
      refine TL.pure (PV.assign rfl) rfl (by decide) ?_
      refine TL.nil ?_
      refine TQ.thenC ?_
      refine TC.ret ?_
      refine TQ.thenR ?_
      refine TQ.retE1 rfl rfl ?_
      first | exact ⟨(), rfl, trivial, List.nil_sublist _⟩ | (exfalso; have := hga a1; omega) | (exfalso; have := hgb b1; omega) | (exfalso; have := hka a1 (by simp_all); omega) | (exfalso; have := hkb b1 (by simp_all); omega) | (exfalso; simp_all; done)
    · skip
      refine TC.skip ?_
      refine TQ.thenC ?_
      refine TC.seq ?_
      refine TC.seq ?_
      refine TC.region ?_
      refine TL.pure (PV.loadBox rfl Tb.agg_24 (by repeat (first | exact List.Mem.head _ | refine List.Mem.tail _ ?_ | refine List.mem_append_right _ ?_)) rfl) rfl (by decide) ?_
      refine TL.pure (PV.move rfl) rfl (by decide) ?_
      refine TL.call rfl Tb.gofn_23 (fun a w hs => check_ok w _ _ _ _ (hr.new hs.new) _ cd ds.length ds rfl (hx.new hs.new) (by omega)) rfl (by decide) (fun _ _ => ?_)
      refine TL.pure (PV.neq rfl rfl) rfl (by decide) ?_
      refine TL.nil ?_
      refine TQ.thenC ?_
      first | refine TC.condD rfl (fun hck => ?_) (fun hck => ?_) | refine TC.cond rfl (fun hck => ?_) (fun hck => ?_)
      · skip
        refine TC.seq ?_
        refine TC.region ?_
        refine TL.call rfl Tb.gofn_18 (fun a w hs => knownOk w) rfl (by decide) (fun _ _ => ?_)
        refine TL.pure (PV.assign rfl) rfl (by decide) ?_
        refine TL.nil ?_
        refine TQ.thenC ?_
        refine TC.ret ?_
        refine TQ.thenR ?_
        refine TQ.retE1 rfl rfl ?_
        first | exact ⟨(), rfl, trivial, List.nil_sublist _⟩ | (exfalso; have := hga a1; omega) | (exfalso; have := hgb b1; omega) | (exfalso; have := hka a1 (by simp_all); omega) | (exfalso; have := hkb b1 (by simp_all); omega) | (exfalso; simp_all; done)
      · skip
        refine TC.skip ?_
        refine TQ.thenC ?_
        refine TC.seq ?_
        have hc0 : checkI n rs ds = 0 := Decidable.of_not_not hck
        have hvd := vdI_is (check_vd (.inl hc0))
        have hds := datesOk_spec hvd.2
        have hpt := hvd.1.pts
        obtain ⟨q, hqp, _⟩ := hx 0 (by omega)
        subst hqp
        have hcell : ∀ j, j < ds.length → w0.cell? (q.add (j * 1)) = some (.int .i64 (ds.getD j 0)) := fun j hj => by (obtain ⟨q2, e2, h2⟩ := hx j hj; cases e2; exact h2)
        have hga : flwI n rs r = 0 → (0 ≤ r.a ∧ r.a < (ds.length : Int)) ∧ (0 ≤ r.b ∧ r.b < (ds.length : Int)) := fun h => by (have := flw_rng h; omega)
        have hgb : pofI n rs [r.a, r.b] = 0 → (0 ≤ r.a ∧ r.a < (ds.length : Int)) ∧ (0 ≤ r.b ∧ r.b < (ds.length : Int)) := fun h => by (have := pof_rng h; omega)
        have hka : flwI n rs r = 0 → flwR n rs r = true → ds.getD r.b.toNat 0 - ds.getD r.a.toNat 0 ≤ r.m := flw_kp hc0
        have hkb : pofI n rs [r.a, r.b] = 0 → tgB n rs r.a r.b = true → ds.getD r.b.toNat 0 - ds.getD r.a.toNat 0 ≤ tgM n rs r.a r.b := tg_kp hc0
        have z1 := hds.2 r.b.toNat
        have z2 := hds.2 r.a.toNat
        refine TC.region ?_
        refine TL.pure (PV.loadBox rfl Tb.agg_24 (by repeat (first | exact List.Mem.head _ | refine List.Mem.tail _ ?_ | refine List.mem_append_right _ ?_)) rfl) rfl (by decide) ?_
        refine TL.pure (PV.loadBox rfl Tb.agg_42 (by repeat (first | exact List.Mem.head _ | refine List.Mem.tail _ ?_ | refine List.mem_append_right _ ?_)) rfl) rfl (by decide) ?_
        refine TL.call rfl Tb.gofn_33 (fun a w hs => Follows_ok w _ _ _ _ (hr.new hs.new) r) rfl (by decide) (fun _ _ => ?_)
        refine TL.pure (PV.move rfl) rfl (by decide) ?_
        refine TL.pure (PV.extract rfl rfl) rfl (by decide) ?_
        refine TL.pure (PV.extract rfl rfl) rfl (by decide) ?_
        refine TL.pure (PV.assign rfl) rfl (by decide) ?_
        refine TL.pure (PV.assign rfl) rfl (by decide) ?_
        refine TL.nil ?_
        refine TQ.thenC ?_
        refine TC.seq ?_
        refine TC.seq ?_
        refine TC.any Tb.mixed rfl rfl ?_
        refine TA.op (OpOK.pure (PV.move rfl) rfl (by decide)) (by decide) ?_
        refine TA.op (OpOK.pure (PV.eql rfl rfl) rfl (by decide)) (by decide) ?_
        refine TA.op (OpOK.pure (PV.move rfl) rfl (by decide)) (by decide) ?_
        first | refine TA.splitD 33 rfl (fun a1 => ?_) (fun a1 => ?_) | refine TA.split 33 rfl (fun a1 => ?_) (fun a1 => ?_)
        · skip
          refine TA.op (OpOK.pure (PV.fieldAddr rfl Tb.fo_42_0) rfl (by decide)) (by decide) ?_
          refine TA.op (OpOK.pure (PV.load rfl Tb.one_3 (by repeat (first | exact List.Mem.head _ | refine List.Mem.tail _ ?_ | refine List.mem_append_right _ ?_)) rfl) rfl (by decide)) (by decide) ?_
          refine TA.op (OpOK.pure (PV.lss rfl rfl) rfl (by decide)) (by decide) ?_
          refine TA.op (OpOK.pure (PV.move rfl) rfl (by decide)) (by decide) ?_
          first | refine TA.splitD 37 rfl (fun a2 => ?_) (fun a2 => ?_) | refine TA.split 37 rfl (fun a2 => ?_) (fun a2 => ?_)
          · skip
            refine TA.op (OpOK.skip rfl) (by decide) ?_
            refine TA.op (OpOK.skip rfl) (by decide) ?_
            refine TA.op (OpOK.skip rfl) (by decide) ?_
            refine TA.op (OpOK.skip rfl) (by decide) ?_
            refine TA.op (OpOK.skip rfl) (by decide) ?_
            refine TA.op (OpOK.pure (PV.pickT rfl rfl) rfl (by decide)) (by decide) ?_
            refine TA.op (OpOK.pure (PV.move rfl) rfl (by decide)) (by decide) ?_
            refine TA.op (OpOK.skip rfl) (by decide) ?_
            refine TA.op (OpOK.skip rfl) (by decide) ?_
            refine TA.op (OpOK.skip rfl) (by decide) ?_
            refine TA.op (OpOK.pure (PV.pickT rfl rfl) rfl (by decide)) (by decide) ?_
            refine TA.op (OpOK.pure (PV.move rfl) rfl (by decide)) (by decide) ?_
            refine TA.op (OpOK.skip rfl) (by decide) ?_
            refine TA.op (OpOK.skip rfl) (by decide) ?_
            refine TA.op (OpOK.skip rfl) (by decide) ?_
            refine TA.op (OpOK.skip rfl) (by decide) ?_
            refine TA.op (OpOK.skip rfl) (by decide) ?_
            refine TA.op (OpOK.pure (PV.pickT rfl rfl) rfl (by decide)) (by decide) ?_
            refine TA.op (OpOK.pure (PV.move rfl) rfl (by decide)) (by decide) ?_
            refine TA.op (OpOK.skip rfl) (by decide) ?_
            refine TA.op (OpOK.skip rfl) (by decide) ?_
            refine TA.op (OpOK.skipU rfl) (by decide) ?_
            refine TA.op (OpOK.skipU rfl) (by decide) ?_
            refine TA.op (OpOK.skipU rfl) (by decide) ?_
            refine TA.op (OpOK.skipU rfl) (by decide) ?_
            refine TA.op (OpOK.skipU rfl) (by decide) ?_
            refine TA.op (OpOK.skipU rfl) (by decide) ?_
            refine TA.op (OpOK.skipU rfl) (by decide) ?_
            refine TA.op (OpOK.skipU rfl) (by decide) ?_
            refine TA.op (OpOK.skipU rfl) (by decide) ?_
            refine TA.op (OpOK.skipU rfl) (by decide) ?_
            refine TA.op (OpOK.skipU rfl) (by decide) ?_
            refine TA.op (OpOK.skipU rfl) (by decide) ?_
            refine TA.op (OpOK.skipU rfl) (by decide) ?_
            refine TA.op (OpOK.skipU rfl) (by decide) ?_
            refine TA.op (OpOK.skip rfl) (by decide) ?_
            refine TA.op (OpOK.pure (PV.pickT rfl rfl) rfl (by decide)) (by decide) ?_
            refine TA.op (OpOK.pure (PV.pickT rfl rfl) rfl (by decide)) (by decide) ?_
            show TQ _ _ _ _ _
            refine TQ.thenC ?_
            refine TC.condT rfl ?_
            refine TC.seq ?_
            refine TC.region ?_
            refine TL.pure (PV.assign rfl) rfl (by decide) ?_
            refine TL.nil ?_
            refine TQ.thenC ?_
            refine TC.ret ?_
            refine TQ.thenR ?_
            refine TQ.retE1 rfl rfl ?_
            first | exact ⟨(), rfl, trivial, List.nil_sublist _⟩ | (exfalso; have := hga a1; omega) | (exfalso; have := hgb b1; omega) | (exfalso; have := hka a1 (by simp_all); omega) | (exfalso; have := hkb b1 (by simp_all); omega) | (exfalso; simp_all; done)
          · skip
            refine TA.op (OpOK.pure (PV.fieldAddr rfl Tb.fo_42_0) rfl (by decide)) (by decide) ?_
            refine TA.op (OpOK.pure (PV.load rfl Tb.one_3 (by repeat (first | exact List.Mem.head _ | refine List.Mem.tail _ ?_ | refine List.mem_append_right _ ?_)) rfl) rfl (by decide)) (by decide) ?_
            refine TA.op (OpOK.pure (PV.move rfl) rfl (by decide)) (by decide) ?_
            refine TA.op (OpOK.pure (PV.len rfl Tb.sl_25) rfl (by decide)) (by decide) ?_
            refine TA.op (OpOK.pure (PV.geq rfl rfl) rfl (by decide)) (by decide) ?_
            refine TA.op (OpOK.pure (PV.pickF rfl rfl) rfl (by decide)) (by decide) ?_
            refine TA.op (OpOK.pure (PV.move rfl) rfl (by decide)) (by decide) ?_
            first | refine TA.splitD 44 rfl (fun a3 => ?_) (fun a3 => ?_) | refine TA.split 44 rfl (fun a3 => ?_) (fun a3 => ?_)
            · skip
              refine TA.op (OpOK.skip rfl) (by decide) ?_
              refine TA.op (OpOK.skip rfl) (by decide) ?_
              refine TA.op (OpOK.skip rfl) (by decide) ?_
              refine TA.op (OpOK.pure (PV.pickT rfl rfl) rfl (by decide)) (by decide) ?_
              refine TA.op (OpOK.pure (PV.move rfl) rfl (by decide)) (by decide) ?_
              refine TA.op (OpOK.skip rfl) (by decide) ?_
              refine TA.op (OpOK.skip rfl) (by decide) ?_
              refine TA.op (OpOK.skip rfl) (by decide) ?_
              refine TA.op (OpOK.skip rfl) (by decide) ?_
              refine TA.op (OpOK.skip rfl) (by decide) ?_
              refine TA.op (OpOK.pure (PV.pickT rfl rfl) rfl (by decide)) (by decide) ?_
              refine TA.op (OpOK.pure (PV.move rfl) rfl (by decide)) (by decide) ?_
              refine TA.op (OpOK.skip rfl) (by decide) ?_
              refine TA.op (OpOK.skip rfl) (by decide) ?_
              refine TA.op (OpOK.skipU rfl) (by decide) ?_
              refine TA.op (OpOK.skipU rfl) (by decide) ?_
              refine TA.op (OpOK.skipU rfl) (by decide) ?_
              refine TA.op (OpOK.skipU rfl) (by decide) ?_
              refine TA.op (OpOK.skipU rfl) (by decide) ?_
              refine TA.op (OpOK.skipU rfl) (by decide) ?_
              refine TA.op (OpOK.skipU rfl) (by decide) ?_
              refine TA.op (OpOK.skipU rfl) (by decide) ?_
              refine TA.op (OpOK.skipU rfl) (by decide) ?_
              refine TA.op (OpOK.skipU rfl) (by decide) ?_
              refine TA.op (OpOK.skipU rfl) (by decide) ?_
              refine TA.op (OpOK.skipU rfl) (by decide) ?_
              refine TA.op (OpOK.skipU rfl) (by decide) ?_
              refine TA.op (OpOK.skipU rfl) (by decide) ?_
              refine TA.op (OpOK.skip rfl) (by decide) ?_
              refine TA.op (OpOK.pure (PV.pickT rfl rfl) rfl (by decide)) (by decide) ?_
              refine TA.op (OpOK.pure (PV.pickT rfl rfl) rfl (by decide)) (by decide) ?_
              show TQ _ _ _ _ _
              refine TQ.thenC ?_
              refine TC.condT rfl ?_
              refine TC.seq ?_
              refine TC.region ?_
              refine TL.pure (PV.assign rfl) rfl (by decide) ?_
              refine TL.nil ?_
              refine TQ.thenC ?_
              refine TC.ret ?_
              refine TQ.thenR ?_
              refine TQ.retE1 rfl rfl ?_
              first | exact ⟨(), rfl, trivial, List.nil_sublist _⟩ | (exfalso; have := hga a1; omega) | (exfalso; have := hgb b1; omega) | (exfalso; have := hka a1 (by simp_all); omega) | (exfalso; have := hkb b1 (by simp_all); omega) | (exfalso; simp_all; done)
            · skip
              refine TA.op (OpOK.pure (PV.fieldAddr rfl Tb.fo_42_1) rfl (by decide)) (by decide) ?_
              refine TA.op (OpOK.pure (PV.load rfl Tb.one_3 (by repeat (first | exact List.Mem.head _ | refine List.Mem.tail _ ?_ | refine List.mem_append_right _ ?_)) rfl) rfl (by decide)) (by decide) ?_
              refine TA.op (OpOK.pure (PV.lss rfl rfl) rfl (by decide)) (by decide) ?_
              refine TA.op (OpOK.pure (PV.pickF rfl rfl) rfl (by decide)) (by decide) ?_
              refine TA.op (OpOK.pure (PV.move rfl) rfl (by decide)) (by decide) ?_
              first | refine TA.splitD 49 rfl (fun a4 => ?_) (fun a4 => ?_) | refine TA.split 49 rfl (fun a4 => ?_) (fun a4 => ?_)
              · skip
                refine TA.op (OpOK.skip rfl) (by decide) ?_
                refine TA.op (OpOK.skip rfl) (by decide) ?_
                refine TA.op (OpOK.skip rfl) (by decide) ?_
                refine TA.op (OpOK.skip rfl) (by decide) ?_
                refine TA.op (OpOK.skip rfl) (by decide) ?_
                refine TA.op (OpOK.pure (PV.pickT rfl rfl) rfl (by decide)) (by decide) ?_
                refine TA.op (OpOK.pure (PV.move rfl) rfl (by decide)) (by decide) ?_
                refine TA.op (OpOK.skip rfl) (by decide) ?_
                refine TA.op (OpOK.skip rfl) (by decide) ?_
                refine TA.op (OpOK.skipU rfl) (by decide) ?_
                refine TA.op (OpOK.skipU rfl) (by decide) ?_
                refine TA.op (OpOK.skipU rfl) (by decide) ?_
                refine TA.op (OpOK.skipU rfl) (by decide) ?_
                refine TA.op (OpOK.skipU rfl) (by decide) ?_
                refine TA.op (OpOK.skipU rfl) (by decide) ?_
                refine TA.op (OpOK.skipU rfl) (by decide) ?_
                refine TA.op (OpOK.skipU rfl) (by decide) ?_
                refine TA.op (OpOK.skipU rfl) (by decide) ?_
                refine TA.op (OpOK.skipU rfl) (by decide) ?_
                refine TA.op (OpOK.skipU rfl) (by decide) ?_
                refine TA.op (OpOK.skipU rfl) (by decide) ?_
                refine TA.op (OpOK.skipU rfl) (by decide) ?_
                refine TA.op (OpOK.skipU rfl) (by decide) ?_
                refine TA.op (OpOK.skip rfl) (by decide) ?_
                refine TA.op (OpOK.pure (PV.pickT rfl rfl) rfl (by decide)) (by decide) ?_
                refine TA.op (OpOK.pure (PV.pickT rfl rfl) rfl (by decide)) (by decide) ?_
                show TQ _ _ _ _ _
                refine TQ.thenC ?_
                refine TC.condT rfl ?_
                refine TC.seq ?_
                refine TC.region ?_
                refine TL.pure (PV.assign rfl) rfl (by decide) ?_
                refine TL.nil ?_
                refine TQ.thenC ?_
                refine TC.ret ?_
                refine TQ.thenR ?_
                refine TQ.retE1 rfl rfl ?_
                first | exact ⟨(), rfl, trivial, List.nil_sublist _⟩ | (exfalso; have := hga a1; omega) | (exfalso; have := hgb b1; omega) | (exfalso; have := hka a1 (by simp_all); omega) | (exfalso; have := hkb b1 (by simp_all); omega) | (exfalso; simp_all; done)
              · skip
                refine TA.op (OpOK.pure (PV.fieldAddr rfl Tb.fo_42_1) rfl (by decide)) (by decide) ?_
                refine TA.op (OpOK.pure (PV.load rfl Tb.one_3 (by repeat (first | exact List.Mem.head _ | refine List.Mem.tail _ ?_ | refine List.mem_append_right _ ?_)) rfl) rfl (by decide)) (by decide) ?_
                refine TA.op (OpOK.pure (PV.move rfl) rfl (by decide)) (by decide) ?_
                refine TA.op (OpOK.pure (PV.len rfl Tb.sl_25) rfl (by decide)) (by decide) ?_
                refine TA.op (OpOK.pure (PV.geq rfl rfl) rfl (by decide)) (by decide) ?_
                refine TA.op (OpOK.pure (PV.pickF rfl rfl) rfl (by decide)) (by decide) ?_
                refine TA.op (OpOK.pure (PV.move rfl) rfl (by decide)) (by decide) ?_
                first | refine TA.splitD 56 rfl (fun a5 => ?_) (fun a5 => ?_) | refine TA.split 56 rfl (fun a5 => ?_) (fun a5 => ?_)
                · skip
                  refine TA.op (OpOK.skip rfl) (by decide) ?_
                  refine TA.op (OpOK.skip rfl) (by decide) ?_
                  refine TA.op (OpOK.skipU rfl) (by decide) ?_
                  refine TA.op (OpOK.skipU rfl) (by decide) ?_
                  refine TA.op (OpOK.skipU rfl) (by decide) ?_
                  refine TA.op (OpOK.skipU rfl) (by decide) ?_
                  refine TA.op (OpOK.skipU rfl) (by decide) ?_
                  refine TA.op (OpOK.skipU rfl) (by decide) ?_
                  refine TA.op (OpOK.skipU rfl) (by decide) ?_
                  refine TA.op (OpOK.skipU rfl) (by decide) ?_
                  refine TA.op (OpOK.skipU rfl) (by decide) ?_
                  refine TA.op (OpOK.skipU rfl) (by decide) ?_
                  refine TA.op (OpOK.skipU rfl) (by decide) ?_
                  refine TA.op (OpOK.skipU rfl) (by decide) ?_
                  refine TA.op (OpOK.skipU rfl) (by decide) ?_
                  refine TA.op (OpOK.skipU rfl) (by decide) ?_
                  refine TA.op (OpOK.skip rfl) (by decide) ?_
                  refine TA.op (OpOK.pure (PV.pickT rfl rfl) rfl (by decide)) (by decide) ?_
                  refine TA.op (OpOK.pure (PV.pickT rfl rfl) rfl (by decide)) (by decide) ?_
                  show TQ _ _ _ _ _
                  refine TQ.thenC ?_
                  refine TC.condT rfl ?_
                  refine TC.seq ?_
                  refine TC.region ?_
                  refine TL.pure (PV.assign rfl) rfl (by decide) ?_
                  refine TL.nil ?_
                  refine TQ.thenC ?_
                  refine TC.ret ?_
                  refine TQ.thenR ?_
                  refine TQ.retE1 rfl rfl ?_
                  first | exact ⟨(), rfl, trivial, List.nil_sublist _⟩ | (exfalso; have := hga a1; omega) | (exfalso; have := hgb b1; omega) | (exfalso; have := hka a1 (by simp_all); omega) | (exfalso; have := hkb b1 (by simp_all); omega) | (exfalso; simp_all; done)
                · skip
                  refine TA.op (OpOK.pure (PV.move rfl) rfl (by decide)) (by decide) ?_
                  refine TA.op (OpOK.pure (PV.move rfl) rfl (by decide)) (by decide) ?_
                  first | refine TA.splitD 58 rfl (fun a6 => ?_) (fun a6 => ?_) | refine TA.split 58 rfl (fun a6 => ?_) (fun a6 => ?_)
                  · skip
                    refine TA.op (OpOK.pure (PV.move rfl) rfl (by decide)) (by decide) ?_
                    refine TA.op (OpOK.pure (PV.fieldAddr rfl Tb.fo_42_1) rfl (by decide)) (by decide) ?_
                    refine TA.op (OpOK.pure (PV.load rfl Tb.one_3 (by repeat (first | exact List.Mem.head _ | refine List.Mem.tail _ ?_ | refine List.mem_append_right _ ?_)) rfl) rfl (by decide)) (by decide) ?_
                    refine TA.op (OpOK.pure (PV.indexA (j := r.b.toNat) rfl rfl rfl Tb.elm_25 (by have := hga a1; omega) (by have := hga a1; omega)) rfl (by decide)) (by decide) ?_
                    refine TA.op (OpOK.pure (PV.loadOld rfl Tb.one_3 (hcell _ (by have := hga a1; omega))) rfl (by decide)) (by decide) ?_
                    refine TA.op (OpOK.pure (PV.move rfl) rfl (by decide)) (by decide) ?_
                    refine TA.op (OpOK.pure (PV.fieldAddr rfl Tb.fo_42_0) rfl (by decide)) (by decide) ?_
                    refine TA.op (OpOK.pure (PV.load rfl Tb.one_3 (by repeat (first | exact List.Mem.head _ | refine List.Mem.tail _ ?_ | refine List.mem_append_right _ ?_)) rfl) rfl (by decide)) (by decide) ?_
                    refine TA.op (OpOK.pure (PV.indexA (j := r.a.toNat) rfl rfl rfl Tb.elm_25 (by have := hga a1; omega) (by have := hga a1; omega)) rfl (by decide)) (by decide) ?_
                    refine TA.op (OpOK.pure (PV.loadOld rfl Tb.one_3 (hcell _ (by have := hga a1; omega))) rfl (by decide)) (by decide) ?_
                    refine TA.op (OpOK.pure (PV.sub rfl rfl (by omega)) rfl (by decide)) (by decide) ?_
                    refine TA.op (OpOK.pure (PV.fieldAddr rfl Tb.fo_42_2) rfl (by decide)) (by decide) ?_
                    refine TA.op (OpOK.pure (PV.load rfl Tb.one_3 (by repeat (first | exact List.Mem.head _ | refine List.Mem.tail _ ?_ | refine List.mem_append_right _ ?_)) rfl) rfl (by decide)) (by decide) ?_
                    refine TA.op (OpOK.pure (PV.gtr rfl rfl) rfl (by decide)) (by decide) ?_
                    refine TA.op (OpOK.pure (PV.pickT rfl rfl) rfl (by decide)) (by decide) ?_
                    refine TA.op (OpOK.pure (PV.pickF rfl rfl) rfl (by decide)) (by decide) ?_
                    refine TA.op (OpOK.pure (PV.pickT rfl rfl) rfl (by decide)) (by decide) ?_
                    show TQ _ _ _ _ _
                    refine TQ.thenC ?_
                    first | refine TC.condD rfl (fun c1 => ?_) (fun c1 => ?_) | refine TC.cond rfl (fun c1 => ?_) (fun c1 => ?_)
                    · skip
                      refine TC.seq ?_
                      refine TC.region ?_
                      refine TL.pure (PV.assign rfl) rfl (by decide) ?_
                      refine TL.nil ?_
                      refine TQ.thenC ?_
                      refine TC.ret ?_
                      refine TQ.thenR ?_
                      refine TQ.retE1 rfl rfl ?_
                      first | exact ⟨(), rfl, trivial, List.nil_sublist _⟩ | (exfalso; have := hga a1; omega) | (exfalso; have := hgb b1; omega) | (exfalso; have := hka a1 (by simp_all); omega) | (exfalso; have := hkb b1 (by simp_all); omega) | (exfalso; simp_all; done)
                    · skip
                      refine TC.skip ?_
                      refine TQ.thenC ?_
                      refine TC.seq ?_
                      refine TC.region ?_
                      refine TL.pure (PV.loadBox rfl Tb.agg_24 (by repeat (first | exact List.Mem.head _ | refine List.Mem.tail _ ?_ | refine List.mem_append_right _ ?_)) rfl) rfl (by decide) ?_
                      refine TL.pure (PV.fieldAddr rfl Tb.fo_42_0) rfl (by decide) ?_
                      refine TL.pure (PV.load rfl Tb.one_3 (by repeat (first | exact List.Mem.head _ | refine List.Mem.tail _ ?_ | refine List.mem_append_right _ ?_)) rfl) rfl (by decide) ?_
                      refine TL.pure (PV.fieldAddr rfl Tb.fo_42_1) rfl (by decide) ?_
                      refine TL.pure (PV.load rfl Tb.one_3 (by repeat (first | exact List.Mem.head _ | refine List.Mem.tail _ ?_ | refine List.mem_append_right _ ?_)) rfl) rfl (by decide) ?_
                      refine TL.call rfl Tb.gofn_29 (fun a w hs => tightestG_ok w _ _ _ _ (hr.new hs.new) r.a r.b) rfl (by decide) (fun _ _ => ?_)
                      refine TL.pure (PV.move rfl) rfl (by decide) ?_
                      refine TL.pure (PV.extract rfl rfl) rfl (by decide) ?_
                      refine TL.pure (PV.extract rfl rfl) rfl (by decide) ?_
                      refine TL.pure (PV.extract rfl rfl) rfl (by decide) ?_
                      refine TL.pure (PV.assign rfl) rfl (by decide) ?_
                      refine TL.pure (PV.assign rfl) rfl (by decide) ?_
                      refine TL.pure (PV.assign rfl) rfl (by decide) ?_
                      refine TL.nil ?_
                      refine TQ.thenC ?_
                      refine TC.seq ?_
                      refine TC.seq ?_
                      refine TC.any Tb.mixed rfl rfl ?_
                      refine TA.op (OpOK.pure (PV.move rfl) rfl (by decide)) (by decide) ?_
                      refine TA.op (OpOK.pure (PV.eql rfl rfl) rfl (by decide)) (by decide) ?_
                      refine TA.op (OpOK.pure (PV.move rfl) rfl (by decide)) (by decide) ?_
                      first | refine TA.splitD 88 rfl (fun b1 => ?_) (fun b1 => ?_) | refine TA.split 88 rfl (fun b1 => ?_) (fun b1 => ?_)
                      · skip
                        refine TA.op (OpOK.pure (PV.fieldAddr rfl Tb.fo_42_0) rfl (by decide)) (by decide) ?_
                        refine TA.op (OpOK.pure (PV.load rfl Tb.one_3 (by repeat (first | exact List.Mem.head _ | refine List.Mem.tail _ ?_ | refine List.mem_append_right _ ?_)) rfl) rfl (by decide)) (by decide) ?_
                        refine TA.op (OpOK.pure (PV.lss rfl rfl) rfl (by decide)) (by decide) ?_
                        refine TA.op (OpOK.pure (PV.move rfl) rfl (by decide)) (by decide) ?_
                        first | refine TA.splitD 92 rfl (fun b2 => ?_) (fun b2 => ?_) | refine TA.split 92 rfl (fun b2 => ?_) (fun b2 => ?_)
                        · skip
                          refine TA.op (OpOK.skip rfl) (by decide) ?_
                          refine TA.op (OpOK.skip rfl) (by decide) ?_
                          refine TA.op (OpOK.skip rfl) (by decide) ?_
                          refine TA.op (OpOK.skip rfl) (by decide) ?_
                          refine TA.op (OpOK.skip rfl) (by decide) ?_
                          refine TA.op (OpOK.pure (PV.pickT rfl rfl) rfl (by decide)) (by decide) ?_
                          refine TA.op (OpOK.pure (PV.move rfl) rfl (by decide)) (by decide) ?_
                          refine TA.op (OpOK.skip rfl) (by decide) ?_
                          refine TA.op (OpOK.skip rfl) (by decide) ?_
                          refine TA.op (OpOK.skip rfl) (by decide) ?_
                          refine TA.op (OpOK.pure (PV.pickT rfl rfl) rfl (by decide)) (by decide) ?_
                          refine TA.op (OpOK.pure (PV.move rfl) rfl (by decide)) (by decide) ?_
                          refine TA.op (OpOK.skip rfl) (by decide) ?_
                          refine TA.op (OpOK.skip rfl) (by decide) ?_
                          refine TA.op (OpOK.skip rfl) (by decide) ?_
                          refine TA.op (OpOK.skip rfl) (by decide) ?_
                          refine TA.op (OpOK.skip rfl) (by decide) ?_
                          refine TA.op (OpOK.pure (PV.pickT rfl rfl) rfl (by decide)) (by decide) ?_
                          refine TA.op (OpOK.pure (PV.move rfl) rfl (by decide)) (by decide) ?_
                          refine TA.op (OpOK.skip rfl) (by decide) ?_
                          refine TA.op (OpOK.skip rfl) (by decide) ?_
                          refine TA.op (OpOK.skipU rfl) (by decide) ?_
                          refine TA.op (OpOK.skipU rfl) (by decide) ?_
                          refine TA.op (OpOK.skipU rfl) (by decide) ?_
                          refine TA.op (OpOK.skipU rfl) (by decide) ?_
                          refine TA.op (OpOK.skipU rfl) (by decide) ?_
                          refine TA.op (OpOK.skipU rfl) (by decide) ?_
                          refine TA.op (OpOK.skipU rfl) (by decide) ?_
                          refine TA.op (OpOK.skipU rfl) (by decide) ?_
                          refine TA.op (OpOK.skipU rfl) (by decide) ?_
                          refine TA.op (OpOK.skipU rfl) (by decide) ?_
                          refine TA.op (OpOK.skipU rfl) (by decide) ?_
                          refine TA.op (OpOK.skipU rfl) (by decide) ?_
                          refine TA.op (OpOK.skipU rfl) (by decide) ?_
                          refine TA.op (OpOK.skip rfl) (by decide) ?_
                          refine TA.op (OpOK.pure (PV.pickT rfl rfl) rfl (by decide)) (by decide) ?_
                          refine TA.op (OpOK.pure (PV.pickT rfl rfl) rfl (by decide)) (by decide) ?_
                          show TQ _ _ _ _ _
                          refine TQ.thenC ?_
                          refine TC.condT rfl ?_
                          refine TC.seq ?_
                          refine TC.region ?_
                          refine TL.pure (PV.assign rfl) rfl (by decide) ?_
                          refine TL.nil ?_
                          refine TQ.thenC ?_
                          refine TC.ret ?_
                          refine TQ.thenR ?_
                          refine TQ.retE1 rfl rfl ?_
                          first | exact ⟨(), rfl, trivial, List.nil_sublist _⟩ | (exfalso; have := hga a1; omega) | (exfalso; have := hgb b1; omega) | (exfalso; have := hka a1 (by simp_all); omega) | (exfalso; have := hkb b1 (by simp_all); omega) | (exfalso; simp_all; done)
                        · skip
                          refine TA.op (OpOK.pure (PV.fieldAddr rfl Tb.fo_42_0) rfl (by decide)) (by decide) ?_
                          refine TA.op (OpOK.pure (PV.load rfl Tb.one_3 (by repeat (first | exact List.Mem.head _ | refine List.Mem.tail _ ?_ | refine List.mem_append_right _ ?_)) rfl) rfl (by decide)) (by decide) ?_
                          refine TA.op (OpOK.pure (PV.move rfl) rfl (by decide)) (by decide) ?_
                          refine TA.op (OpOK.pure (PV.len rfl Tb.sl_25) rfl (by decide)) (by decide) ?_
                          refine TA.op (OpOK.pure (PV.geq rfl rfl) rfl (by decide)) (by decide) ?_
                          refine TA.op (OpOK.pure (PV.pickF rfl rfl) rfl (by decide)) (by decide) ?_
                          refine TA.op (OpOK.pure (PV.move rfl) rfl (by decide)) (by decide) ?_
                          first | refine TA.splitD 99 rfl (fun b3 => ?_) (fun b3 => ?_) | refine TA.split 99 rfl (fun b3 => ?_) (fun b3 => ?_)
                          · skip
                            refine TA.op (OpOK.skip rfl) (by decide) ?_
                            refine TA.op (OpOK.skip rfl) (by decide) ?_
                            refine TA.op (OpOK.skip rfl) (by decide) ?_
                            refine TA.op (OpOK.pure (PV.pickT rfl rfl) rfl (by decide)) (by decide) ?_
                            refine TA.op (OpOK.pure (PV.move rfl) rfl (by decide)) (by decide) ?_
                            refine TA.op (OpOK.skip rfl) (by decide) ?_
                            refine TA.op (OpOK.skip rfl) (by decide) ?_
                            refine TA.op (OpOK.skip rfl) (by decide) ?_
                            refine TA.op (OpOK.skip rfl) (by decide) ?_
                            refine TA.op (OpOK.skip rfl) (by decide) ?_
                            refine TA.op (OpOK.pure (PV.pickT rfl rfl) rfl (by decide)) (by decide) ?_
                            refine TA.op (OpOK.pure (PV.move rfl) rfl (by decide)) (by decide) ?_
                            refine TA.op (OpOK.skip rfl) (by decide) ?_
                            refine TA.op (OpOK.skip rfl) (by decide) ?_
                            refine TA.op (OpOK.skipU rfl) (by decide) ?_
                            refine TA.op (OpOK.skipU rfl) (by decide) ?_
                            refine TA.op (OpOK.skipU rfl) (by decide) ?_
                            refine TA.op (OpOK.skipU rfl) (by decide) ?_
                            refine TA.op (OpOK.skipU rfl) (by decide) ?_
                            refine TA.op (OpOK.skipU rfl) (by decide) ?_
                            refine TA.op (OpOK.skipU rfl) (by decide) ?_
                            refine TA.op (OpOK.skipU rfl) (by decide) ?_
                            refine TA.op (OpOK.skipU rfl) (by decide) ?_
                            refine TA.op (OpOK.skipU rfl) (by decide) ?_
                            refine TA.op (OpOK.skipU rfl) (by decide) ?_
                            refine TA.op (OpOK.skipU rfl) (by decide) ?_
                            refine TA.op (OpOK.skipU rfl) (by decide) ?_
                            refine TA.op (OpOK.skip rfl) (by decide) ?_
                            refine TA.op (OpOK.pure (PV.pickT rfl rfl) rfl (by decide)) (by decide) ?_
                            refine TA.op (OpOK.pure (PV.pickT rfl rfl) rfl (by decide)) (by decide) ?_
                            show TQ _ _ _ _ _
                            refine TQ.thenC ?_
                            refine TC.condT rfl ?_
                            refine TC.seq ?_
                            refine TC.region ?_
                            refine TL.pure (PV.assign rfl) rfl (by decide) ?_
                            refine TL.nil ?_
                            refine TQ.thenC ?_
                            refine TC.ret ?_
                            refine TQ.thenR ?_
                            refine TQ.retE1 rfl rfl ?_
                            first | exact ⟨(), rfl, trivial, List.nil_sublist _⟩ | (exfalso; have := hga a1; omega) | (exfalso; have := hgb b1; omega) | (exfalso; have := hka a1 (by simp_all); omega) | (exfalso; have := hkb b1 (by simp_all); omega) | (exfalso; simp_all; done)
                          · skip
                            refine TA.op (OpOK.pure (PV.fieldAddr rfl Tb.fo_42_1) rfl (by decide)) (by decide) ?_
                            refine TA.op (OpOK.pure (PV.load rfl Tb.one_3 (by repeat (first | exact List.Mem.head _ | refine List.Mem.tail _ ?_ | refine List.mem_append_right _ ?_)) rfl) rfl (by decide)) (by decide) ?_
                            refine TA.op (OpOK.pure (PV.lss rfl rfl) rfl (by decide)) (by decide) ?_
                            refine TA.op (OpOK.pure (PV.pickF rfl rfl) rfl (by decide)) (by decide) ?_
                            refine TA.op (OpOK.pure (PV.move rfl) rfl (by decide)) (by decide) ?_
                            first | refine TA.splitD 104 rfl (fun b4 => ?_) (fun b4 => ?_) | refine TA.split 104 rfl (fun b4 => ?_) (fun b4 => ?_)
                            · skip
                              refine TA.op (OpOK.skip rfl) (by decide) ?_
                              refine TA.op (OpOK.skip rfl) (by decide) ?_
                              refine TA.op (OpOK.skip rfl) (by decide) ?_
                              refine TA.op (OpOK.skip rfl) (by decide) ?_
                              refine TA.op (OpOK.skip rfl) (by decide) ?_
                              refine TA.op (OpOK.pure (PV.pickT rfl rfl) rfl (by decide)) (by decide) ?_
                              refine TA.op (OpOK.pure (PV.move rfl) rfl (by decide)) (by decide) ?_
                              refine TA.op (OpOK.skip rfl) (by decide) ?_
                              refine TA.op (OpOK.skip rfl) (by decide) ?_
                              refine TA.op (OpOK.skipU rfl) (by decide) ?_
                              refine TA.op (OpOK.skipU rfl) (by decide) ?_
                              refine TA.op (OpOK.skipU rfl) (by decide) ?_
                              refine TA.op (OpOK.skipU rfl) (by decide) ?_
                              refine TA.op (OpOK.skipU rfl) (by decide) ?_
                              refine TA.op (OpOK.skipU rfl) (by decide) ?_
                              refine TA.op (OpOK.skipU rfl) (by decide) ?_
                              refine TA.op (OpOK.skipU rfl) (by decide) ?_
                              refine TA.op (OpOK.skipU rfl) (by decide) ?_
                              refine TA.op (OpOK.skipU rfl) (by decide) ?_
                              refine TA.op (OpOK.skipU rfl) (by decide) ?_
                              refine TA.op (OpOK.skipU rfl) (by decide) ?_
                              refine TA.op (OpOK.skipU rfl) (by decide) ?_
                              refine TA.op (OpOK.skip rfl) (by decide) ?_
                              refine TA.op (OpOK.pure (PV.pickT rfl rfl) rfl (by decide)) (by decide) ?_
                              refine TA.op (OpOK.pure (PV.pickT rfl rfl) rfl (by decide)) (by decide) ?_
                              show TQ _ _ _ _ _
                              refine TQ.thenC ?_
                              refine TC.condT rfl ?_
                              refine TC.seq ?_
                              refine TC.region ?_
                              refine TL.pure (PV.assign rfl) rfl (by decide) ?_
                              refine TL.nil ?_
                              refine TQ.thenC ?_
                              refine TC.ret ?_
                              refine TQ.thenR ?_
                              refine TQ.retE1 rfl rfl ?_
                              first | exact ⟨(), rfl, trivial, List.nil_sublist _⟩ | (exfalso; have := hga a1; omega) | (exfalso; have := hgb b1; omega) | (exfalso; have := hka a1 (by simp_all); omega) | (exfalso; have := hkb b1 (by simp_all); omega) | (exfalso; simp_all; done)
                            · skip
                              refine TA.op (OpOK.pure (PV.fieldAddr rfl Tb.fo_42_1) rfl (by decide)) (by decide) ?_
                              refine TA.op (OpOK.pure (PV.load rfl Tb.one_3 (by repeat (first | exact List.Mem.head _ | refine List.Mem.tail _ ?_ | refine List.mem_append_right _ ?_)) rfl) rfl (by decide)) (by decide) ?_
                              refine TA.op (OpOK.pure (PV.move rfl) rfl (by decide)) (by decide) ?_
                              refine TA.op (OpOK.pure (PV.len rfl Tb.sl_25) rfl (by decide)) (by decide) ?_
                              refine TA.op (OpOK.pure (PV.geq rfl rfl) rfl (by decide)) (by decide) ?_
                              refine TA.op (OpOK.pure (PV.pickF rfl rfl) rfl (by decide)) (by decide) ?_
                              refine TA.op (OpOK.pure (PV.move rfl) rfl (by decide)) (by decide) ?_
                              first | refine TA.splitD 111 rfl (fun b5 => ?_) (fun b5 => ?_) | refine TA.split 111 rfl (fun b5 => ?_) (fun b5 => ?_)
                              · skip
                                refine TA.op (OpOK.skip rfl) (by decide) ?_
                                refine TA.op (OpOK.skip rfl) (by decide) ?_
                                refine TA.op (OpOK.skipU rfl) (by decide) ?_
                                refine TA.op (OpOK.skipU rfl) (by decide) ?_
                                refine TA.op (OpOK.skipU rfl) (by decide) ?_
                                refine TA.op (OpOK.skipU rfl) (by decide) ?_
                                refine TA.op (OpOK.skipU rfl) (by decide) ?_
                                refine TA.op (OpOK.skipU rfl) (by decide) ?_
                                refine TA.op (OpOK.skipU rfl) (by decide) ?_
                                refine TA.op (OpOK.skipU rfl) (by decide) ?_
                                refine TA.op (OpOK.skipU rfl) (by decide) ?_
                                refine TA.op (OpOK.skipU rfl) (by decide) ?_
                                refine TA.op (OpOK.skipU rfl) (by decide) ?_
                                refine TA.op (OpOK.skipU rfl) (by decide) ?_
                                refine TA.op (OpOK.skipU rfl) (by decide) ?_
                                refine TA.op (OpOK.skip rfl) (by decide) ?_
                                refine TA.op (OpOK.pure (PV.pickT rfl rfl) rfl (by decide)) (by decide) ?_
                                refine TA.op (OpOK.pure (PV.pickT rfl rfl) rfl (by decide)) (by decide) ?_
                                show TQ _ _ _ _ _
                                refine TQ.thenC ?_
                                refine TC.condT rfl ?_
                                refine TC.seq ?_
                                refine TC.region ?_
                                refine TL.pure (PV.assign rfl) rfl (by decide) ?_
                                refine TL.nil ?_
                                refine TQ.thenC ?_
                                refine TC.ret ?_
                                refine TQ.thenR ?_
                                refine TQ.retE1 rfl rfl ?_
                                first | exact ⟨(), rfl, trivial, List.nil_sublist _⟩ | (exfalso; have := hga a1; omega) | (exfalso; have := hgb b1; omega) | (exfalso; have := hka a1 (by simp_all); omega) | (exfalso; have := hkb b1 (by simp_all); omega) | (exfalso; simp_all; done)
                              · skip
                                refine TA.op (OpOK.pure (PV.move rfl) rfl (by decide)) (by decide) ?_
                                refine TA.op (OpOK.pure (PV.move rfl) rfl (by decide)) (by decide) ?_
                                first | refine TA.splitD 113 rfl (fun b6 => ?_) (fun b6 => ?_) | refine TA.split 113 rfl (fun b6 => ?_) (fun b6 => ?_)
                                · skip
                                  refine TA.op (OpOK.pure (PV.move rfl) rfl (by decide)) (by decide) ?_
                                  refine TA.op (OpOK.pure (PV.fieldAddr rfl Tb.fo_42_1) rfl (by decide)) (by decide) ?_
                                  refine TA.op (OpOK.pure (PV.load rfl Tb.one_3 (by repeat (first | exact List.Mem.head _ | refine List.Mem.tail _ ?_ | refine List.mem_append_right _ ?_)) rfl) rfl (by decide)) (by decide) ?_
                                  refine TA.op (OpOK.pure (PV.indexA (j := r.b.toNat) rfl rfl rfl Tb.elm_25 (by have := hgb b1; omega) (by have := hgb b1; omega)) rfl (by decide)) (by decide) ?_
                                  refine TA.op (OpOK.pure (PV.loadOld rfl Tb.one_3 (hcell _ (by have := hgb b1; omega))) rfl (by decide)) (by decide) ?_
                                  refine TA.op (OpOK.pure (PV.move rfl) rfl (by decide)) (by decide) ?_
                                  refine TA.op (OpOK.pure (PV.fieldAddr rfl Tb.fo_42_0) rfl (by decide)) (by decide) ?_
                                  refine TA.op (OpOK.pure (PV.load rfl Tb.one_3 (by repeat (first | exact List.Mem.head _ | refine List.Mem.tail _ ?_ | refine List.mem_append_right _ ?_)) rfl) rfl (by decide)) (by decide) ?_
                                  refine TA.op (OpOK.pure (PV.indexA (j := r.a.toNat) rfl rfl rfl Tb.elm_25 (by have := hgb b1; omega) (by have := hgb b1; omega)) rfl (by decide)) (by decide) ?_
                                  refine TA.op (OpOK.pure (PV.loadOld rfl Tb.one_3 (hcell _ (by have := hgb b1; omega))) rfl (by decide)) (by decide) ?_
                                  refine TA.op (OpOK.pure (PV.sub rfl rfl (by omega)) rfl (by decide)) (by decide) ?_
                                  refine TA.op (OpOK.pure (PV.move rfl) rfl (by decide)) (by decide) ?_
                                  refine TA.op (OpOK.pure (PV.gtr rfl rfl) rfl (by decide)) (by decide) ?_
                                  refine TA.op (OpOK.pure (PV.pickT rfl rfl) rfl (by decide)) (by decide) ?_
                                  refine TA.op (OpOK.pure (PV.pickF rfl rfl) rfl (by decide)) (by decide) ?_
                                  refine TA.op (OpOK.pure (PV.pickT rfl rfl) rfl (by decide)) (by decide) ?_
                                  show TQ _ _ _ _ _
                                  refine TQ.thenC ?_
                                  first | refine TC.condD rfl (fun c2 => ?_) (fun c2 => ?_) | refine TC.cond rfl (fun c2 => ?_) (fun c2 => ?_)
                                  · skip
                                    refine TC.seq ?_
                                    refine TC.region ?_
                                    refine TL.pure (PV.assign rfl) rfl (by decide) ?_
                                    refine TL.nil ?_
                                    refine TQ.thenC ?_
                                    refine TC.ret ?_
                                    refine TQ.thenR ?_
                                    refine TQ.retE1 rfl rfl ?_
                                    first | exact ⟨(), rfl, trivial, List.nil_sublist _⟩ | (exfalso; have := hga a1; omega) | (exfalso; have := hgb b1; omega) | (exfalso; have := hka a1 (by simp_all); omega) | (exfalso; have := hkb b1 (by simp_all); omega) | (exfalso; simp_all; done)
                                  · skip
                                    refine TC.skip ?_
                                    refine TQ.thenC ?_
                                    refine TC.seq ?_
                                    refine TC.region ?_
                                    refine TL.call rfl Tb.gofn_18 (fun a w hs => knownOk w) rfl (by decide) (fun _ _ => ?_)
                                    refine TL.pure (PV.assign rfl) rfl (by decide) ?_
                                    refine TL.nil ?_
                                    refine TQ.thenC ?_
                                    refine TC.ret ?_
                                    refine TQ.retE1 rfl rfl ?_
                                    first | exact ⟨(), rfl, trivial, List.nil_sublist _⟩ | (exfalso; have := hga a1; omega) | (exfalso; have := hgb b1; omega) | (exfalso; have := hka a1 (by simp_all); omega) | (exfalso; have := hkb b1 (by simp_all); omega) | (exfalso; simp_all; done)
                                · skip
                                  refine TA.op (OpOK.skip rfl) (by decide) ?_
                                  refine TA.op (OpOK.skip rfl) (by decide) ?_
                                  refine TA.op (OpOK.skip rfl) (by decide) ?_
                                  refine TA.op (OpOK.skip rfl) (by decide) ?_
                                  refine TA.op (OpOK.skip rfl) (by decide) ?_
                                  refine TA.op (OpOK.skip rfl) (by decide) ?_
                                  refine TA.op (OpOK.skip rfl) (by decide) ?_
                                  refine TA.op (OpOK.skip rfl) (by decide) ?_
                                  refine TA.op (OpOK.skip rfl) (by decide) ?_
                                  refine TA.op (OpOK.skip rfl) (by decide) ?_
                                  refine TA.op (OpOK.skip rfl) (by decide) ?_
                                  refine TA.op (OpOK.skip rfl) (by decide) ?_
                                  refine TA.op (OpOK.skip rfl) (by decide) ?_
                                  refine TA.op (OpOK.pure (PV.pickF rfl rfl) rfl (by decide)) (by decide) ?_
                                  refine TA.op (OpOK.pure (PV.pickF rfl rfl) rfl (by decide)) (by decide) ?_
                                  refine TA.op (OpOK.pure (PV.pickT rfl rfl) rfl (by decide)) (by decide) ?_
                                  show TQ _ _ _ _ _
                                  refine TQ.thenC ?_
                                  refine TC.condF rfl ?_
                                  refine TC.skip ?_
                                  refine TQ.thenC ?_
                                  refine TC.seq ?_
                                  refine TC.region ?_
                                  refine TL.call rfl Tb.gofn_18 (fun a w hs => knownOk w) rfl (by decide) (fun _ _ => ?_)
                                  refine TL.pure (PV.assign rfl) rfl (by decide) ?_
                                  refine TL.nil ?_
                                  refine TQ.thenC ?_
                                  refine TC.ret ?_
                                  refine TQ.retE1 rfl rfl ?_
                                  first | exact ⟨(), rfl, trivial, List.nil_sublist _⟩ | (exfalso; have := hga a1; omega) | (exfalso; have := hgb b1; omega) | (exfalso; have := hka a1 (by simp_all); omega) | (exfalso; have := hkb b1 (by simp_all); omega) | (exfalso; simp_all; done)
                      · skip
                        refine TA.op (OpOK.skip rfl) (by decide) ?_
                        refine TA.op (OpOK.skip rfl) (by decide) ?_
                        refine TA.op (OpOK.skip rfl) (by decide) ?_
                        refine TA.op (OpOK.skip rfl) (by decide) ?_
                        refine TA.op (OpOK.skipU rfl) (by decide) ?_
                        refine TA.op (OpOK.skipU rfl) (by decide) ?_
                        refine TA.op (OpOK.skipU rfl) (by decide) ?_
                        refine TA.op (OpOK.skipU rfl) (by decide) ?_
                        refine TA.op (OpOK.skipU rfl) (by decide) ?_
                        refine TA.op (OpOK.skip rfl) (by decide) ?_
                        refine TA.op (OpOK.skip rfl) (by decide) ?_
                        refine TA.op (OpOK.skipU rfl) (by decide) ?_
                        refine TA.op (OpOK.skipU rfl) (by decide) ?_
                        refine TA.op (OpOK.skipU rfl) (by decide) ?_
                        refine TA.op (OpOK.skip rfl) (by decide) ?_
                        refine TA.op (OpOK.skip rfl) (by decide) ?_
                        refine TA.op (OpOK.skipU rfl) (by decide) ?_
                        refine TA.op (OpOK.skipU rfl) (by decide) ?_
                        refine TA.op (OpOK.skipU rfl) (by decide) ?_
                        refine TA.op (OpOK.skipU rfl) (by decide) ?_
                        refine TA.op (OpOK.skipU rfl) (by decide) ?_
                        refine TA.op (OpOK.skip rfl) (by decide) ?_
                        refine TA.op (OpOK.skip rfl) (by decide) ?_
                        refine TA.op (OpOK.skipU rfl) (by decide) ?_
                        refine TA.op (OpOK.skipU rfl) (by decide) ?_
                        refine TA.op (OpOK.skipU rfl) (by decide) ?_
                        refine TA.op (OpOK.skipU rfl) (by decide) ?_
                        refine TA.op (OpOK.skipU rfl) (by decide) ?_
                        refine TA.op (OpOK.skipU rfl) (by decide) ?_
                        refine TA.op (OpOK.skipU rfl) (by decide) ?_
                        refine TA.op (OpOK.skipU rfl) (by decide) ?_
                        refine TA.op (OpOK.skipU rfl) (by decide) ?_
                        refine TA.op (OpOK.skipU rfl) (by decide) ?_
                        refine TA.op (OpOK.skipU rfl) (by decide) ?_
                        refine TA.op (OpOK.skipU rfl) (by decide) ?_
                        refine TA.op (OpOK.skipU rfl) (by decide) ?_
                        refine TA.op (OpOK.skipU rfl) (by decide) ?_
                        refine TA.op (OpOK.skipU rfl) (by decide) ?_
                        refine TA.op (OpOK.skipU rfl) (by decide) ?_
                        refine TA.op (OpOK.skip rfl) (by decide) ?_
                        refine TA.op (OpOK.pure (PV.pickF rfl rfl) rfl (by decide)) (by decide) ?_
                        show TQ _ _ _ _ _
                        refine TQ.thenC ?_
                        refine TC.condF rfl ?_
                        refine TC.skip ?_
                        refine TQ.thenC ?_
                        refine TC.seq ?_
                        refine TC.region ?_
                        refine TL.call rfl Tb.gofn_18 (fun a w hs => knownOk w) rfl (by decide) (fun _ _ => ?_)
                        refine TL.pure (PV.assign rfl) rfl (by decide) ?_
                        refine TL.nil ?_
                        refine TQ.thenC ?_
                        refine TC.ret ?_
                        refine TQ.retE1 rfl rfl ?_
                        first | exact ⟨(), rfl, trivial, List.nil_sublist _⟩ | (exfalso; have := hga a1; omega) | (exfalso; have := hgb b1; omega) | (exfalso; have := hka a1 (by simp_all); omega) | (exfalso; have := hkb b1 (by simp_all); omega) | (exfalso; simp_all; done)
                  · skip
                    refine TA.op (OpOK.skip rfl) (by decide) ?_
                    refine TA.op (OpOK.skip rfl) (by decide) ?_
                    refine TA.op (OpOK.skip rfl) (by decide) ?_
                    refine TA.op (OpOK.skip rfl) (by decide) ?_
                    refine TA.op (OpOK.skip rfl) (by decide) ?_
                    refine TA.op (OpOK.skip rfl) (by decide) ?_
                    refine TA.op (OpOK.skip rfl) (by decide) ?_
                    refine TA.op (OpOK.skip rfl) (by decide) ?_
                    refine TA.op (OpOK.skip rfl) (by decide) ?_
                    refine TA.op (OpOK.skip rfl) (by decide) ?_
                    refine TA.op (OpOK.skip rfl) (by decide) ?_
                    refine TA.op (OpOK.skip rfl) (by decide) ?_
                    refine TA.op (OpOK.skip rfl) (by decide) ?_
                    refine TA.op (OpOK.skip rfl) (by decide) ?_
                    refine TA.op (OpOK.pure (PV.pickF rfl rfl) rfl (by decide)) (by decide) ?_
                    refine TA.op (OpOK.pure (PV.pickF rfl rfl) rfl (by decide)) (by decide) ?_
                    refine TA.op (OpOK.pure (PV.pickT rfl rfl) rfl (by decide)) (by decide) ?_
                    show TQ _ _ _ _ _
                    refine TQ.thenC ?_
                    refine TC.condF rfl ?_
                    refine TC.skip ?_
                    refine TQ.thenC ?_
                    refine TC.seq ?_
                    refine TC.region ?_
                    refine TL.pure (PV.loadBox rfl Tb.agg_24 (by repeat (first | exact List.Mem.head _ | refine List.Mem.tail _ ?_ | refine List.mem_append_right _ ?_)) rfl) rfl (by decide) ?_
                    refine TL.pure (PV.fieldAddr rfl Tb.fo_42_0) rfl (by decide) ?_
                    refine TL.pure (PV.load rfl Tb.one_3 (by repeat (first | exact List.Mem.head _ | refine List.Mem.tail _ ?_ | refine List.mem_append_right _ ?_)) rfl) rfl (by decide) ?_
                    refine TL.pure (PV.fieldAddr rfl Tb.fo_42_1) rfl (by decide) ?_
                    refine TL.pure (PV.load rfl Tb.one_3 (by repeat (first | exact List.Mem.head _ | refine List.Mem.tail _ ?_ | refine List.mem_append_right _ ?_)) rfl) rfl (by decide) ?_
                    refine TL.call rfl Tb.gofn_29 (fun a w hs => tightestG_ok w _ _ _ _ (hr.new hs.new) r.a r.b) rfl (by decide) (fun _ _ => ?_)
                    refine TL.pure (PV.move rfl) rfl (by decide) ?_
                    refine TL.pure (PV.extract rfl rfl) rfl (by decide) ?_
                    refine TL.pure (PV.extract rfl rfl) rfl (by decide) ?_
                    refine TL.pure (PV.extract rfl rfl) rfl (by decide) ?_
                    refine TL.pure (PV.assign rfl) rfl (by decide) ?_
                    refine TL.pure (PV.assign rfl) rfl (by decide) ?_
                    refine TL.pure (PV.assign rfl) rfl (by decide) ?_
                    refine TL.nil ?_
                    refine TQ.thenC ?_
                    refine TC.seq ?_
                    refine TC.seq ?_
                    refine TC.any Tb.mixed rfl rfl ?_
                    refine TA.op (OpOK.pure (PV.move rfl) rfl (by decide)) (by decide) ?_
                    refine TA.op (OpOK.pure (PV.eql rfl rfl) rfl (by decide)) (by decide) ?_
                    refine TA.op (OpOK.pure (PV.move rfl) rfl (by decide)) (by decide) ?_
                    first | refine TA.splitD 88 rfl (fun b1 => ?_) (fun b1 => ?_) | refine TA.split 88 rfl (fun b1 => ?_) (fun b1 => ?_)
                    · skip
                      refine TA.op (OpOK.pure (PV.fieldAddr rfl Tb.fo_42_0) rfl (by decide)) (by decide) ?_
                      refine TA.op (OpOK.pure (PV.load rfl Tb.one_3 (by repeat (first | exact List.Mem.head _ | refine List.Mem.tail _ ?_ | refine List.mem_append_right _ ?_)) rfl) rfl (by decide)) (by decide) ?_
                      refine TA.op (OpOK.pure (PV.lss rfl rfl) rfl (by decide)) (by decide) ?_
                      refine TA.op (OpOK.pure (PV.move rfl) rfl (by decide)) (by decide) ?_
                      first | refine TA.splitD 92 rfl (fun b2 => ?_) (fun b2 => ?_) | refine TA.split 92 rfl (fun b2 => ?_) (fun b2 => ?_)
                      · skip
                        refine TA.op (OpOK.skip rfl) (by decide) ?_
                        refine TA.op (OpOK.skip rfl) (by decide) ?_
                        refine TA.op (OpOK.skip rfl) (by decide) ?_
                        refine TA.op (OpOK.skip rfl) (by decide) ?_
                        refine TA.op (OpOK.skip rfl) (by decide) ?_
                        refine TA.op (OpOK.pure (PV.pickT rfl rfl) rfl (by decide)) (by decide) ?_
                        refine TA.op (OpOK.pure (PV.move rfl) rfl (by decide)) (by decide) ?_
                        refine TA.op (OpOK.skip rfl) (by decide) ?_
                        refine TA.op (OpOK.skip rfl) (by decide) ?_
                        refine TA.op (OpOK.skip rfl) (by decide) ?_
                        refine TA.op (OpOK.pure (PV.pickT rfl rfl) rfl (by decide)) (by decide) ?_
                        refine TA.op (OpOK.pure (PV.move rfl) rfl (by decide)) (by decide) ?_
                        refine TA.op (OpOK.skip rfl) (by decide) ?_
                        refine TA.op (OpOK.skip rfl) (by decide) ?_
                        refine TA.op (OpOK.skip rfl) (by decide) ?_
                        refine TA.op (OpOK.skip rfl) (by decide) ?_
                        refine TA.op (OpOK.skip rfl) (by decide) ?_
                        refine TA.op (OpOK.pure (PV.pickT rfl rfl) rfl (by decide)) (by decide) ?_
                        refine TA.op (OpOK.pure (PV.move rfl) rfl (by decide)) (by decide) ?_
                        refine TA.op (OpOK.skip rfl) (by decide) ?_
                        refine TA.op (OpOK.skip rfl) (by decide) ?_
                        refine TA.op (OpOK.skipU rfl) (by decide) ?_
                        refine TA.op (OpOK.skipU rfl) (by decide) ?_
                        refine TA.op (OpOK.skipU rfl) (by decide) ?_
                        refine TA.op (OpOK.skipU rfl) (by decide) ?_
                        refine TA.op (OpOK.skipU rfl) (by decide) ?_
                        refine TA.op (OpOK.skipU rfl) (by decide) ?_
                        refine TA.op (OpOK.skipU rfl) (by decide) ?_
                        refine TA.op (OpOK.skipU rfl) (by decide) ?_
                        refine TA.op (OpOK.skipU rfl) (by decide) ?_
                        refine TA.op (OpOK.skipU rfl) (by decide) ?_
                        refine TA.op (OpOK.skipU rfl) (by decide) ?_
                        refine TA.op (OpOK.skipU rfl) (by decide) ?_
                        refine TA.op (OpOK.skipU rfl) (by decide) ?_
                        refine TA.op (OpOK.skip rfl) (by decide) ?_
                        refine TA.op (OpOK.pure (PV.pickT rfl rfl) rfl (by decide)) (by decide) ?_
                        refine TA.op (OpOK.pure (PV.pickT rfl rfl) rfl (by decide)) (by decide) ?_
                        show TQ _ _ _ _ _
                        refine TQ.thenC ?_
                        refine TC.condT rfl ?_
                        refine TC.seq ?_
                        refine TC.region ?_
                        refine TL.pure (PV.assign rfl) rfl (by decide) ?_
                        refine TL.nil ?_
                        refine TQ.thenC ?_
                        refine TC.ret ?_
                        refine TQ.thenR ?_
                        refine TQ.retE1 rfl rfl ?_
                        first | exact ⟨(), rfl, trivial, List.nil_sublist _⟩ | (exfalso; have := hga a1; omega) | (exfalso; have := hgb b1; omega) | (exfalso; have := hka a1 (by simp_all); omega) | (exfalso; have := hkb b1 (by simp_all); omega) | (exfalso; simp_all; done)
                      · skip
                        refine TA.op (OpOK.pure (PV.fieldAddr rfl Tb.fo_42_0) rfl (by decide)) (by decide) ?_
                        refine TA.op (OpOK.pure (PV.load rfl Tb.one_3 (by repeat (first | exact List.Mem.head _ | refine List.Mem.tail _ ?_ | refine List.mem_append_right _ ?_)) rfl) rfl (by decide)) (by decide) ?_
                        refine TA.op (OpOK.pure (PV.move rfl) rfl (by decide)) (by decide) ?_
                        refine TA.op (OpOK.pure (PV.len rfl Tb.sl_25) rfl (by decide)) (by decide) ?_
                        refine TA.op (OpOK.pure (PV.geq rfl rfl) rfl (by decide)) (by decide) ?_
                        refine TA.op (OpOK.pure (PV.pickF rfl rfl) rfl (by decide)) (by decide) ?_
                        refine TA.op (OpOK.pure (PV.move rfl) rfl (by decide)) (by decide) ?_
                        first | refine TA.splitD 99 rfl (fun b3 => ?_) (fun b3 => ?_) | refine TA.split 99 rfl (fun b3 => ?_) (fun b3 => ?_)
                        · skip
                          refine TA.op (OpOK.skip rfl) (by decide) ?_
                          refine TA.op (OpOK.skip rfl) (by decide) ?_
                          refine TA.op (OpOK.skip rfl) (by decide) ?_
                          refine TA.op (OpOK.pure (PV.pickT rfl rfl) rfl (by decide)) (by decide) ?_
                          refine TA.op (OpOK.pure (PV.move rfl) rfl (by decide)) (by decide) ?_
                          refine TA.op (OpOK.skip rfl) (by decide) ?_
                          refine TA.op (OpOK.skip rfl) (by decide) ?_
                          refine TA.op (OpOK.skip rfl) (by decide) ?_
                          refine TA.op (OpOK.skip rfl) (by decide) ?_
                          refine TA.op (OpOK.skip rfl) (by decide) ?_
                          refine TA.op (OpOK.pure (PV.pickT rfl rfl) rfl (by decide)) (by decide) ?_
                          refine TA.op (OpOK.pure (PV.move rfl) rfl (by decide)) (by decide) ?_
                          refine TA.op (OpOK.skip rfl) (by decide) ?_
                          refine TA.op (OpOK.skip rfl) (by decide) ?_
                          refine TA.op (OpOK.skipU rfl) (by decide) ?_
                          refine TA.op (OpOK.skipU rfl) (by decide) ?_
                          refine TA.op (OpOK.skipU rfl) (by decide) ?_
                          refine TA.op (OpOK.skipU rfl) (by decide) ?_
                          refine TA.op (OpOK.skipU rfl) (by decide) ?_
                          refine TA.op (OpOK.skipU rfl) (by decide) ?_
                          refine TA.op (OpOK.skipU rfl) (by decide) ?_
                          refine TA.op (OpOK.skipU rfl) (by decide) ?_
                          refine TA.op (OpOK.skipU rfl) (by decide) ?_
                          refine TA.op (OpOK.skipU rfl) (by decide) ?_
                          refine TA.op (OpOK.skipU rfl) (by decide) ?_
                          refine TA.op (OpOK.skipU rfl) (by decide) ?_
                          refine TA.op (OpOK.skipU rfl) (by decide) ?_
                          refine TA.op (OpOK.skip rfl) (by decide) ?_
                          refine TA.op (OpOK.pure (PV.pickT rfl rfl) rfl (by decide)) (by decide) ?_
                          refine TA.op (OpOK.pure (PV.pickT rfl rfl) rfl (by decide)) (by decide) ?_
                          show TQ _ _ _ _ _
                          refine TQ.thenC ?_
                          refine TC.condT rfl ?_
                          refine TC.seq ?_
                          refine TC.region ?_
                          refine TL.pure (PV.assign rfl) rfl (by decide) ?_
                          refine TL.nil ?_
                          refine TQ.thenC ?_
                          refine TC.ret ?_
                          refine TQ.thenR ?_
                          refine TQ.retE1 rfl rfl ?_
                          first | exact ⟨(), rfl, trivial, List.nil_sublist _⟩ | (exfalso; have := hga a1; omega) | (exfalso; have := hgb b1; omega) | (exfalso; have := hka a1 (by simp_all); omega) | (exfalso; have := hkb b1 (by simp_all); omega) | (exfalso; simp_all; done)
                        · skip
                          refine TA.op (OpOK.pure (PV.fieldAddr rfl Tb.fo_42_1) rfl (by decide)) (by decide) ?_
                          refine TA.op (OpOK.pure (PV.load rfl Tb.one_3 (by repeat (first | exact List.Mem.head _ | refine List.Mem.tail _ ?_ | refine List.mem_append_right _ ?_)) rfl) rfl (by decide)) (by decide) ?_
                          refine TA.op (OpOK.pure (PV.lss rfl rfl) rfl (by decide)) (by decide) ?_
                          refine TA.op (OpOK.pure (PV.pickF rfl rfl) rfl (by decide)) (by decide) ?_
                          refine TA.op (OpOK.pure (PV.move rfl) rfl (by decide)) (by decide) ?_
                          first | refine TA.splitD 104 rfl (fun b4 => ?_) (fun b4 => ?_) | refine TA.split 104 rfl (fun b4 => ?_) (fun b4 => ?_)
                          · skip
                            refine TA.op (OpOK.skip rfl) (by decide) ?_
                            refine TA.op (OpOK.skip rfl) (by decide) ?_
                            refine TA.op (OpOK.skip rfl) (by decide) ?_
                            refine TA.op (OpOK.skip rfl) (by decide) ?_
                            refine TA.op (OpOK.skip rfl) (by decide) ?_
                            refine TA.op (OpOK.pure (PV.pickT rfl rfl) rfl (by decide)) (by decide) ?_
                            refine TA.op (OpOK.pure (PV.move rfl) rfl (by decide)) (by decide) ?_
                            refine TA.op (OpOK.skip rfl) (by decide) ?_
                            refine TA.op (OpOK.skip rfl) (by decide) ?_
                            refine TA.op (OpOK.skipU rfl) (by decide) ?_
                            refine TA.op (OpOK.skipU rfl) (by decide) ?_
                            refine TA.op (OpOK.skipU rfl) (by decide) ?_
                            refine TA.op (OpOK.skipU rfl) (by decide) ?_
                            refine TA.op (OpOK.skipU rfl) (by decide) ?_
                            refine TA.op (OpOK.skipU rfl) (by decide) ?_
                            refine TA.op (OpOK.skipU rfl) (by decide) ?_
                            refine TA.op (OpOK.skipU rfl) (by decide) ?_
                            refine TA.op (OpOK.skipU rfl) (by decide) ?_
                            refine TA.op (OpOK.skipU rfl) (by decide) ?_
                            refine TA.op (OpOK.skipU rfl) (by decide) ?_
                            refine TA.op (OpOK.skipU rfl) (by decide) ?_
                            refine TA.op (OpOK.skipU rfl) (by decide) ?_
                            refine TA.op (OpOK.skip rfl) (by decide) ?_
                            refine TA.op (OpOK.pure (PV.pickT rfl rfl) rfl (by decide)) (by decide) ?_
                            refine TA.op (OpOK.pure (PV.pickT rfl rfl) rfl (by decide)) (by decide) ?_
                            show TQ _ _ _ _ _
                            refine TQ.thenC ?_
                            refine TC.condT rfl ?_
                            refine TC.seq ?_
                            refine TC.region ?_
                            refine TL.pure (PV.assign rfl) rfl (by decide) ?_
                            refine TL.nil ?_
                            refine TQ.thenC ?_
                            refine TC.ret ?_
                            refine TQ.thenR ?_
                            refine TQ.retE1 rfl rfl ?_
                            first | exact ⟨(), rfl, trivial, List.nil_sublist _⟩ | (exfalso; have := hga a1; omega) | (exfalso; have := hgb b1; omega) | (exfalso; have := hka a1 (by simp_all); omega) | (exfalso; have := hkb b1 (by simp_all); omega) | (exfalso; simp_all; done)
                          · skip
                            refine TA.op (OpOK.pure (PV.fieldAddr rfl Tb.fo_42_1) rfl (by decide)) (by decide) ?_
                            refine TA.op (OpOK.pure (PV.load rfl Tb.one_3 (by repeat (first | exact List.Mem.head _ | refine List.Mem.tail _ ?_ | refine List.mem_append_right _ ?_)) rfl) rfl (by decide)) (by decide) ?_
                            refine TA.op (OpOK.pure (PV.move rfl) rfl (by decide)) (by decide) ?_
                            refine TA.op (OpOK.pure (PV.len rfl Tb.sl_25) rfl (by decide)) (by decide) ?_
                            refine TA.op (OpOK.pure (PV.geq rfl rfl) rfl (by decide)) (by decide) ?_
                            refine TA.op (OpOK.pure (PV.pickF rfl rfl) rfl (by decide)) (by decide) ?_
                            refine TA.op (OpOK.pure (PV.move rfl) rfl (by decide)) (by decide) ?_
                            first | refine TA.splitD 111 rfl (fun b5 => ?_) (fun b5 => ?_) | refine TA.split 111 rfl (fun b5 => ?_) (fun b5 => ?_)
                            · skip
                              refine TA.op (OpOK.skip rfl) (by decide) ?_
                              refine TA.op (OpOK.skip rfl) (by decide) ?_
                              refine TA.op (OpOK.skipU rfl) (by decide) ?_
                              refine TA.op (OpOK.skipU rfl) (by decide) ?_
                              refine TA.op (OpOK.skipU rfl) (by decide) ?_
                              refine TA.op (OpOK.skipU rfl) (by decide) ?_
                              refine TA.op (OpOK.skipU rfl) (by decide) ?_
                              refine TA.op (OpOK.skipU rfl) (by decide) ?_
                              refine TA.op (OpOK.skipU rfl) (by decide) ?_
                              refine TA.op (OpOK.skipU rfl) (by decide) ?_
                              refine TA.op (OpOK.skipU rfl) (by decide) ?_
                              refine TA.op (OpOK.skipU rfl) (by decide) ?_
                              refine TA.op (OpOK.skipU rfl) (by decide) ?_
                              refine TA.op (OpOK.skipU rfl) (by decide) ?_
                              refine TA.op (OpOK.skipU rfl) (by decide) ?_
                              refine TA.op (OpOK.skip rfl) (by decide) ?_
                              refine TA.op (OpOK.pure (PV.pickT rfl rfl) rfl (by decide)) (by decide) ?_
                              refine TA.op (OpOK.pure (PV.pickT rfl rfl) rfl (by decide)) (by decide) ?_
                              show TQ _ _ _ _ _
                              refine TQ.thenC ?_
                              refine TC.condT rfl ?_
                              refine TC.seq ?_
                              refine TC.region ?_
                              refine TL.pure (PV.assign rfl) rfl (by decide) ?_
                              refine TL.nil ?_
                              refine TQ.thenC ?_
                              refine TC.ret ?_
                              refine TQ.thenR ?_
                              refine TQ.retE1 rfl rfl ?_
                              first | exact ⟨(), rfl, trivial, List.nil_sublist _⟩ | (exfalso; have := hga a1; omega) | (exfalso; have := hgb b1; omega) | (exfalso; have := hka a1 (by simp_all); omega) | (exfalso; have := hkb b1 (by simp_all); omega) | (exfalso; simp_all; done)
                            · skip
                              refine TA.op (OpOK.pure (PV.move rfl) rfl (by decide)) (by decide) ?_
                              refine TA.op (OpOK.pure (PV.move rfl) rfl (by decide)) (by decide) ?_
                              first | refine TA.splitD 113 rfl (fun b6 => ?_) (fun b6 => ?_) | refine TA.split 113 rfl (fun b6 => ?_) (fun b6 => ?_)
                              · skip
                                refine TA.op (OpOK.pure (PV.move rfl) rfl (by decide)) (by decide) ?_
                                refine TA.op (OpOK.pure (PV.fieldAddr rfl Tb.fo_42_1) rfl (by decide)) (by decide) ?_
                                refine TA.op (OpOK.pure (PV.load rfl Tb.one_3 (by repeat (first | exact List.Mem.head _ | refine List.Mem.tail _ ?_ | refine List.mem_append_right _ ?_)) rfl) rfl (by decide)) (by decide) ?_
                                refine TA.op (OpOK.pure (PV.indexA (j := r.b.toNat) rfl rfl rfl Tb.elm_25 (by have := hgb b1; omega) (by have := hgb b1; omega)) rfl (by decide)) (by decide) ?_
                                refine TA.op (OpOK.pure (PV.loadOld rfl Tb.one_3 (hcell _ (by have := hgb b1; omega))) rfl (by decide)) (by decide) ?_
                                refine TA.op (OpOK.pure (PV.move rfl) rfl (by decide)) (by decide) ?_
                                refine TA.op (OpOK.pure (PV.fieldAddr rfl Tb.fo_42_0) rfl (by decide)) (by decide) ?_
                                refine TA.op (OpOK.pure (PV.load rfl Tb.one_3 (by repeat (first | exact List.Mem.head _ | refine List.Mem.tail _ ?_ | refine List.mem_append_right _ ?_)) rfl) rfl (by decide)) (by decide) ?_
                                refine TA.op (OpOK.pure (PV.indexA (j := r.a.toNat) rfl rfl rfl Tb.elm_25 (by have := hgb b1; omega) (by have := hgb b1; omega)) rfl (by decide)) (by decide) ?_
                                refine TA.op (OpOK.pure (PV.loadOld rfl Tb.one_3 (hcell _ (by have := hgb b1; omega))) rfl (by decide)) (by decide) ?_
                                refine TA.op (OpOK.pure (PV.sub rfl rfl (by omega)) rfl (by decide)) (by decide) ?_
                                refine TA.op (OpOK.pure (PV.move rfl) rfl (by decide)) (by decide) ?_
                                refine TA.op (OpOK.pure (PV.gtr rfl rfl) rfl (by decide)) (by decide) ?_
                                refine TA.op (OpOK.pure (PV.pickT rfl rfl) rfl (by decide)) (by decide) ?_
                                refine TA.op (OpOK.pure (PV.pickF rfl rfl) rfl (by decide)) (by decide) ?_
                                refine TA.op (OpOK.pure (PV.pickT rfl rfl) rfl (by decide)) (by decide) ?_
                                show TQ _ _ _ _ _
                                refine TQ.thenC ?_
                                first | refine TC.condD rfl (fun c2 => ?_) (fun c2 => ?_) | refine TC.cond rfl (fun c2 => ?_) (fun c2 => ?_)
                                · skip
                                  refine TC.seq ?_
                                  refine TC.region ?_
                                  refine TL.pure (PV.assign rfl) rfl (by decide) ?_
                                  refine TL.nil ?_
                                  refine TQ.thenC ?_
                                  refine TC.ret ?_
                                  refine TQ.thenR ?_
                                  refine TQ.retE1 rfl rfl ?_
                                  first | exact ⟨(), rfl, trivial, List.nil_sublist _⟩ | (exfalso; have := hga a1; omega) | (exfalso; have := hgb b1; omega) | (exfalso; have := hka a1 (by simp_all); omega) | (exfalso; have := hkb b1 (by simp_all); omega) | (exfalso; simp_all; done)
                                · skip
                                  refine TC.skip ?_
                                  refine TQ.thenC ?_
                                  refine TC.seq ?_
                                  refine TC.region ?_
                                  refine TL.call rfl Tb.gofn_18 (fun a w hs => knownOk w) rfl (by decide) (fun _ _ => ?_)
                                  refine TL.pure (PV.assign rfl) rfl (by decide) ?_
                                  refine TL.nil ?_
                                  refine TQ.thenC ?_
                                  refine TC.ret ?_
                                  refine TQ.retE1 rfl rfl ?_
                                  first | exact ⟨(), rfl, trivial, List.nil_sublist _⟩ | (exfalso; have := hga a1; omega) | (exfalso; have := hgb b1; omega) | (exfalso; have := hka a1 (by simp_all); omega) | (exfalso; have := hkb b1 (by simp_all); omega) | (exfalso; simp_all; done)
                              · skip
                                refine TA.op (OpOK.skip rfl) (by decide) ?_
                                refine TA.op (OpOK.skip rfl) (by decide) ?_
                                refine TA.op (OpOK.skip rfl) (by decide) ?_
                                refine TA.op (OpOK.skip rfl) (by decide) ?_
                                refine TA.op (OpOK.skip rfl) (by decide) ?_
                                refine TA.op (OpOK.skip rfl) (by decide) ?_
                                refine TA.op (OpOK.skip rfl) (by decide) ?_
                                refine TA.op (OpOK.skip rfl) (by decide) ?_
                                refine TA.op (OpOK.skip rfl) (by decide) ?_
                                refine TA.op (OpOK.skip rfl) (by decide) ?_
                                refine TA.op (OpOK.skip rfl) (by decide) ?_
                                refine TA.op (OpOK.skip rfl) (by decide) ?_
                                refine TA.op (OpOK.skip rfl) (by decide) ?_
                                refine TA.op (OpOK.pure (PV.pickF rfl rfl) rfl (by decide)) (by decide) ?_
                                refine TA.op (OpOK.pure (PV.pickF rfl rfl) rfl (by decide)) (by decide) ?_
                                refine TA.op (OpOK.pure (PV.pickT rfl rfl) rfl (by decide)) (by decide) ?_
                                show TQ _ _ _ _ _
                                refine TQ.thenC ?_
                                refine TC.condF rfl ?_
                                refine TC.skip ?_
                                refine TQ.thenC ?_
                                refine TC.seq ?_
                                refine TC.region ?_
                                refine TL.call rfl Tb.gofn_18 (fun a w hs => knownOk w) rfl (by decide) (fun _ _ => ?_)
                                refine TL.pure (PV.assign rfl) rfl (by decide) ?_
                                refine TL.nil ?_
                                refine TQ.thenC ?_
                                refine TC.ret ?_
                                refine TQ.retE1 rfl rfl ?_
                                first | exact ⟨(), rfl, trivial, List.nil_sublist _⟩ | (exfalso; have := hga a1; omega) | (exfalso; have := hgb b1; omega) | (exfalso; have := hka a1 (by simp_all); omega) | (exfalso; have := hkb b1 (by simp_all); omega) | (exfalso; simp_all; done)
                    · skip
                      refine TA.op (OpOK.skip rfl) (by decide) ?_
                      refine TA.op (OpOK.skip rfl) (by decide) ?_
                      refine TA.op (OpOK.skip rfl) (by decide) ?_
                      refine TA.op (OpOK.skip rfl) (by decide) ?_
                      refine TA.op (OpOK.skipU rfl) (by decide) ?_
                      refine TA.op (OpOK.skipU rfl) (by decide) ?_
                      refine TA.op (OpOK.skipU rfl) (by decide) ?_
                      refine TA.op (OpOK.skipU rfl) (by decide) ?_
                      refine TA.op (OpOK.skipU rfl) (by decide) ?_
                      refine TA.op (OpOK.skip rfl) (by decide) ?_
                      refine TA.op (OpOK.skip rfl) (by decide) ?_
                      refine TA.op (OpOK.skipU rfl) (by decide) ?_
                      refine TA.op (OpOK.skipU rfl) (by decide) ?_
                      refine TA.op (OpOK.skipU rfl) (by decide) ?_
                      refine TA.op (OpOK.skip rfl) (by decide) ?_
                      refine TA.op (OpOK.skip rfl) (by decide) ?_
                      refine TA.op (OpOK.skipU rfl) (by decide) ?_
                      refine TA.op (OpOK.skipU rfl) (by decide) ?_
                      refine TA.op (OpOK.skipU rfl) (by decide) ?_
                      refine TA.op (OpOK.skipU rfl) (by decide) ?_
                      refine TA.op (OpOK.skipU rfl) (by decide) ?_
                      refine TA.op (OpOK.skip rfl) (by decide) ?_
                      refine TA.op (OpOK.skip rfl) (by decide) ?_
                      refine TA.op (OpOK.skipU rfl) (by decide) ?_
                      refine TA.op (OpOK.skipU rfl) (by decide) ?_
                      refine TA.op (OpOK.skipU rfl) (by decide) ?_
                      refine TA.op (OpOK.skipU rfl) (by decide) ?_
                      refine TA.op (OpOK.skipU rfl) (by decide) ?_
                      refine TA.op (OpOK.skipU rfl) (by decide) ?_
                      refine TA.op (OpOK.skipU rfl) (by decide) ?_
                      refine TA.op (OpOK.skipU rfl) (by decide) ?_
                      refine TA.op (OpOK.skipU rfl) (by decide) ?_
                      refine TA.op (OpOK.skipU rfl) (by decide) ?_
                      refine TA.op (OpOK.skipU rfl) (by decide) ?_
                      refine TA.op (OpOK.skipU rfl) (by decide) ?_
                      refine TA.op (OpOK.skipU rfl) (by decide) ?_
                      refine TA.op (OpOK.skipU rfl) (by decide) ?_
                      refine TA.op (OpOK.skipU rfl) (by decide) ?_
                      refine TA.op (OpOK.skipU rfl) (by decide) ?_
                      refine TA.op (OpOK.skip rfl) (by decide) ?_
                      refine TA.op (OpOK.pure (PV.pickF rfl rfl) rfl (by decide)) (by decide) ?_
                      show TQ _ _ _ _ _
                      refine TQ.thenC ?_
                      refine TC.condF rfl ?_
                      refine TC.skip ?_
                      refine TQ.thenC ?_
                      refine TC.seq ?_
                      refine TC.region ?_
                      refine TL.call rfl Tb.gofn_18 (fun a w hs => knownOk w) rfl (by decide) (fun _ _ => ?_)
                      refine TL.pure (PV.assign rfl) rfl (by decide) ?_
                      refine TL.nil ?_
                      refine TQ.thenC ?_
                      refine TC.ret ?_
                      refine TQ.retE1 rfl rfl ?_
                      first | exact ⟨(), rfl, trivial, List.nil_sublist _⟩ | (exfalso; have := hga a1; omega) | (exfalso; have := hgb b1; omega) | (exfalso; have := hka a1 (by simp_all); omega) | (exfalso; have := hkb b1 (by simp_all); omega) | (exfalso; simp_all; done)
        · skip
          refine TA.op (OpOK.skip rfl) (by decide) ?_
          refine TA.op (OpOK.skip rfl) (by decide) ?_
          refine TA.op (OpOK.skip rfl) (by decide) ?_
          refine TA.op (OpOK.skip rfl) (by decide) ?_
          refine TA.op (OpOK.skipU rfl) (by decide) ?_
          refine TA.op (OpOK.skipU rfl) (by decide) ?_
          refine TA.op (OpOK.skipU rfl) (by decide) ?_
          refine TA.op (OpOK.skipU rfl) (by decide) ?_
          refine TA.op (OpOK.skipU rfl) (by decide) ?_
          refine TA.op (OpOK.skip rfl) (by decide) ?_
          refine TA.op (OpOK.skip rfl) (by decide) ?_
          refine TA.op (OpOK.skipU rfl) (by decide) ?_
          refine TA.op (OpOK.skipU rfl) (by decide) ?_
          refine TA.op (OpOK.skipU rfl) (by decide) ?_
          refine TA.op (OpOK.skip rfl) (by decide) ?_
          refine TA.op (OpOK.skip rfl) (by decide) ?_
          refine TA.op (OpOK.skipU rfl) (by decide) ?_
          refine TA.op (OpOK.skipU rfl) (by decide) ?_
          refine TA.op (OpOK.skipU rfl) (by decide) ?_
          refine TA.op (OpOK.skipU rfl) (by decide) ?_
          refine TA.op (OpOK.skipU rfl) (by decide) ?_
          refine TA.op (OpOK.skip rfl) (by decide) ?_
          refine TA.op (OpOK.skip rfl) (by decide) ?_
          refine TA.op (OpOK.skipU rfl) (by decide) ?_
          refine TA.op (OpOK.skipU rfl) (by decide) ?_
          refine TA.op (OpOK.skipU rfl) (by decide) ?_
          refine TA.op (OpOK.skipU rfl) (by decide) ?_
          refine TA.op (OpOK.skipU rfl) (by decide) ?_
          refine TA.op (OpOK.skipU rfl) (by decide) ?_
          refine TA.op (OpOK.skipU rfl) (by decide) ?_
          refine TA.op (OpOK.skipU rfl) (by decide) ?_
          refine TA.op (OpOK.skipU rfl) (by decide) ?_
          refine TA.op (OpOK.skipU rfl) (by decide) ?_
          refine TA.op (OpOK.skipU rfl) (by decide) ?_
          refine TA.op (OpOK.skipU rfl) (by decide) ?_
          refine TA.op (OpOK.skipU rfl) (by decide) ?_
          refine TA.op (OpOK.skipU rfl) (by decide) ?_
          refine TA.op (OpOK.skipU rfl) (by decide) ?_
          refine TA.op (OpOK.skipU rfl) (by decide) ?_
          refine TA.op (OpOK.skipU rfl) (by decide) ?_
          refine TA.op (OpOK.skip rfl) (by decide) ?_
          refine TA.op (OpOK.pure (PV.pickF rfl rfl) rfl (by decide)) (by decide) ?_
          show TQ _ _ _ _ _
          refine TQ.thenC ?_
          refine TC.condF rfl ?_
          refine TC.skip ?_
          refine TQ.thenC ?_
          refine TC.seq ?_
          refine TC.region ?_
          refine TL.pure (PV.loadBox rfl Tb.agg_24 (by repeat (first | exact List.Mem.head _ | refine List.Mem.tail _ ?_ | refine List.mem_append_right _ ?_)) rfl) rfl (by decide) ?_
          refine TL.pure (PV.fieldAddr rfl Tb.fo_42_0) rfl (by decide) ?_
          refine TL.pure (PV.load rfl Tb.one_3 (by repeat (first | exact List.Mem.head _ | refine List.Mem.tail _ ?_ | refine List.mem_append_right _ ?_)) rfl) rfl (by decide) ?_
          refine TL.pure (PV.fieldAddr rfl Tb.fo_42_1) rfl (by decide) ?_
          refine TL.pure (PV.load rfl Tb.one_3 (by repeat (first | exact List.Mem.head _ | refine List.Mem.tail _ ?_ | refine List.mem_append_right _ ?_)) rfl) rfl (by decide) ?_
          refine TL.call rfl Tb.gofn_29 (fun a w hs => tightestG_ok w _ _ _ _ (hr.new hs.new) r.a r.b) rfl (by decide) (fun _ _ => ?_)
          refine TL.pure (PV.move rfl) rfl (by decide) ?_
          refine TL.pure (PV.extract rfl rfl) rfl (by decide) ?_
          refine TL.pure (PV.extract rfl rfl) rfl (by decide) ?_
          refine TL.pure (PV.extract rfl rfl) rfl (by decide) ?_
          refine TL.pure (PV.assign rfl) rfl (by decide) ?_
          refine TL.pure (PV.assign rfl) rfl (by decide) ?_
          refine TL.pure (PV.assign rfl) rfl (by decide) ?_
          refine TL.nil ?_
          refine TQ.thenC ?_
          refine TC.seq ?_
          refine TC.seq ?_
          refine TC.any Tb.mixed rfl rfl ?_
          refine TA.op (OpOK.pure (PV.move rfl) rfl (by decide)) (by decide) ?_
          refine TA.op (OpOK.pure (PV.eql rfl rfl) rfl (by decide)) (by decide) ?_
          refine TA.op (OpOK.pure (PV.move rfl) rfl (by decide)) (by decide) ?_
          first | refine TA.splitD 88 rfl (fun b1 => ?_) (fun b1 => ?_) | refine TA.split 88 rfl (fun b1 => ?_) (fun b1 => ?_)
          · skip
            refine TA.op (OpOK.pure (PV.fieldAddr rfl Tb.fo_42_0) rfl (by decide)) (by decide) ?_
            refine TA.op (OpOK.pure (PV.load rfl Tb.one_3 (by repeat (first | exact List.Mem.head _ | refine List.Mem.tail _ ?_ | refine List.mem_append_right _ ?_)) rfl) rfl (by decide)) (by decide) ?_
            refine TA.op (OpOK.pure (PV.lss rfl rfl) rfl (by decide)) (by decide) ?_
            refine TA.op (OpOK.pure (PV.move rfl) rfl (by decide)) (by decide) ?_
            first | refine TA.splitD 92 rfl (fun b2 => ?_) (fun b2 => ?_) | refine TA.split 92 rfl (fun b2 => ?_) (fun b2 => ?_)
            · skip
              refine TA.op (OpOK.skip rfl) (by decide) ?_
              refine TA.op (OpOK.skip rfl) (by decide) ?_
              refine TA.op (OpOK.skip rfl) (by decide) ?_
              refine TA.op (OpOK.skip rfl) (by decide) ?_
              refine TA.op (OpOK.skip rfl) (by decide) ?_
              refine TA.op (OpOK.pure (PV.pickT rfl rfl) rfl (by decide)) (by decide) ?_
              refine TA.op (OpOK.pure (PV.move rfl) rfl (by decide)) (by decide) ?_
              refine TA.op (OpOK.skip rfl) (by decide) ?_
              refine TA.op (OpOK.skip rfl) (by decide) ?_
              refine TA.op (OpOK.skip rfl) (by decide) ?_
              refine TA.op (OpOK.pure (PV.pickT rfl rfl) rfl (by decide)) (by decide) ?_
              refine TA.op (OpOK.pure (PV.move rfl) rfl (by decide)) (by decide) ?_
              refine TA.op (OpOK.skip rfl) (by decide) ?_
              refine TA.op (OpOK.skip rfl) (by decide) ?_
              refine TA.op (OpOK.skip rfl) (by decide) ?_
              refine TA.op (OpOK.skip rfl) (by decide) ?_
              refine TA.op (OpOK.skip rfl) (by decide) ?_
              refine TA.op (OpOK.pure (PV.pickT rfl rfl) rfl (by decide)) (by decide) ?_
              refine TA.op (OpOK.pure (PV.move rfl) rfl (by decide)) (by decide) ?_
              refine TA.op (OpOK.skip rfl) (by decide) ?_
              refine TA.op (OpOK.skip rfl) (by decide) ?_
              refine TA.op (OpOK.skipU rfl) (by decide) ?_
              refine TA.op (OpOK.skipU rfl) (by decide) ?_
              refine TA.op (OpOK.skipU rfl) (by decide) ?_
              refine TA.op (OpOK.skipU rfl) (by decide) ?_
              refine TA.op (OpOK.skipU rfl) (by decide) ?_
              refine TA.op (OpOK.skipU rfl) (by decide) ?_
              refine TA.op (OpOK.skipU rfl) (by decide) ?_
              refine TA.op (OpOK.skipU rfl) (by decide) ?_
              refine TA.op (OpOK.skipU rfl) (by decide) ?_
              refine TA.op (OpOK.skipU rfl) (by decide) ?_
              refine TA.op (OpOK.skipU rfl) (by decide) ?_
              refine TA.op (OpOK.skipU rfl) (by decide) ?_
              refine TA.op (OpOK.skipU rfl) (by decide) ?_
              refine TA.op (OpOK.skip rfl) (by decide) ?_
              refine TA.op (OpOK.pure (PV.pickT rfl rfl) rfl (by decide)) (by decide) ?_
              refine TA.op (OpOK.pure (PV.pickT rfl rfl) rfl (by decide)) (by decide) ?_
              show TQ _ _ _ _ _
              refine TQ.thenC ?_
              refine TC.condT rfl ?_
              refine TC.seq ?_
              refine TC.region ?_
              refine TL.pure (PV.assign rfl) rfl (by decide) ?_
              refine TL.nil ?_
              refine TQ.thenC ?_
              refine TC.ret ?_
              refine TQ.thenR ?_
              refine TQ.retE1 rfl rfl ?_
              first | exact ⟨(), rfl, trivial, List.nil_sublist _⟩ | (exfalso; have := hga a1; omega) | (exfalso; have := hgb b1; omega) | (exfalso; have := hka a1 (by simp_all); omega) | (exfalso; have := hkb b1 (by simp_all); omega) | (exfalso; simp_all; done)
            · skip
              refine TA.op (OpOK.pure (PV.fieldAddr rfl Tb.fo_42_0) rfl (by decide)) (by decide) ?_
              refine TA.op (OpOK.pure (PV.load rfl Tb.one_3 (by repeat (first | exact List.Mem.head _ | refine List.Mem.tail _ ?_ | refine List.mem_append_right _ ?_)) rfl) rfl (by decide)) (by decide) ?_
              refine TA.op (OpOK.pure (PV.move rfl) rfl (by decide)) (by decide) ?_
              refine TA.op (OpOK.pure (PV.len rfl Tb.sl_25) rfl (by decide)) (by decide) ?_
              refine TA.op (OpOK.pure (PV.geq rfl rfl) rfl (by decide)) (by decide) ?_
              refine TA.op (OpOK.pure (PV.pickF rfl rfl) rfl (by decide)) (by decide) ?_
              refine TA.op (OpOK.pure (PV.move rfl) rfl (by decide)) (by decide) ?_
              first | refine TA.splitD 99 rfl (fun b3 => ?_) (fun b3 => ?_) | refine TA.split 99 rfl (fun b3 => ?_) (fun b3 => ?_)
              · skip
                refine TA.op (OpOK.skip rfl) (by decide) ?_
                refine TA.op (OpOK.skip rfl) (by decide) ?_
                refine TA.op (OpOK.skip rfl) (by decide) ?_
                refine TA.op (OpOK.pure (PV.pickT rfl rfl) rfl (by decide)) (by decide) ?_
                refine TA.op (OpOK.pure (PV.move rfl) rfl (by decide)) (by decide) ?_
                refine TA.op (OpOK.skip rfl) (by decide) ?_
                refine TA.op (OpOK.skip rfl) (by decide) ?_
                refine TA.op (OpOK.skip rfl) (by decide) ?_
                refine TA.op (OpOK.skip rfl) (by decide) ?_
                refine TA.op (OpOK.skip rfl) (by decide) ?_
                refine TA.op (OpOK.pure (PV.pickT rfl rfl) rfl (by decide)) (by decide) ?_
                refine TA.op (OpOK.pure (PV.move rfl) rfl (by decide)) (by decide) ?_
                refine TA.op (OpOK.skip rfl) (by decide) ?_
                refine TA.op (OpOK.skip rfl) (by decide) ?_
                refine TA.op (OpOK.skipU rfl) (by decide) ?_
                refine TA.op (OpOK.skipU rfl) (by decide) ?_
                refine TA.op (OpOK.skipU rfl) (by decide) ?_
                refine TA.op (OpOK.skipU rfl) (by decide) ?_
                refine TA.op (OpOK.skipU rfl) (by decide) ?_
                refine TA.op (OpOK.skipU rfl) (by decide) ?_
                refine TA.op (OpOK.skipU rfl) (by decide) ?_
                refine TA.op (OpOK.skipU rfl) (by decide) ?_
                refine TA.op (OpOK.skipU rfl) (by decide) ?_
                refine TA.op (OpOK.skipU rfl) (by decide) ?_
                refine TA.op (OpOK.skipU rfl) (by decide) ?_
                refine TA.op (OpOK.skipU rfl) (by decide) ?_
                refine TA.op (OpOK.skipU rfl) (by decide) ?_
                refine TA.op (OpOK.skip rfl) (by decide) ?_
                refine TA.op (OpOK.pure (PV.pickT rfl rfl) rfl (by decide)) (by decide) ?_
                refine TA.op (OpOK.pure (PV.pickT rfl rfl) rfl (by decide)) (by decide) ?_
                show TQ _ _ _ _ _
                refine TQ.thenC ?_
                refine TC.condT rfl ?_
                refine TC.seq ?_
                refine TC.region ?_
                refine TL.pure (PV.assign rfl) rfl (by decide) ?_
                refine TL.nil ?_
                refine TQ.thenC ?_
                refine TC.ret ?_
                refine TQ.thenR ?_
                refine TQ.retE1 rfl rfl ?_
                first | exact ⟨(), rfl, trivial, List.nil_sublist _⟩ | (exfalso; have := hga a1; omega) | (exfalso; have := hgb b1; omega) | (exfalso; have := hka a1 (by simp_all); omega) | (exfalso; have := hkb b1 (by simp_all); omega) | (exfalso; simp_all; done)
              · skip
                refine TA.op (OpOK.pure (PV.fieldAddr rfl Tb.fo_42_1) rfl (by decide)) (by decide) ?_
                refine TA.op (OpOK.pure (PV.load rfl Tb.one_3 (by repeat (first | exact List.Mem.head _ | refine List.Mem.tail _ ?_ | refine List.mem_append_right _ ?_)) rfl) rfl (by decide)) (by decide) ?_
                refine TA.op (OpOK.pure (PV.lss rfl rfl) rfl (by decide)) (by decide) ?_
                refine TA.op (OpOK.pure (PV.pickF rfl rfl) rfl (by decide)) (by decide) ?_
                refine TA.op (OpOK.pure (PV.move rfl) rfl (by decide)) (by decide) ?_
                first | refine TA.splitD 104 rfl (fun b4 => ?_) (fun b4 => ?_) | refine TA.split 104 rfl (fun b4 => ?_) (fun b4 => ?_)
                · skip
                  refine TA.op (OpOK.skip rfl) (by decide) ?_
                  refine TA.op (OpOK.skip rfl) (by decide) ?_
                  refine TA.op (OpOK.skip rfl) (by decide) ?_
                  refine TA.op (OpOK.skip rfl) (by decide) ?_
                  refine TA.op (OpOK.skip rfl) (by decide) ?_
                  refine TA.op (OpOK.pure (PV.pickT rfl rfl) rfl (by decide)) (by decide) ?_
                  refine TA.op (OpOK.pure (PV.move rfl) rfl (by decide)) (by decide) ?_
                  refine TA.op (OpOK.skip rfl) (by decide) ?_
                  refine TA.op (OpOK.skip rfl) (by decide) ?_
                  refine TA.op (OpOK.skipU rfl) (by decide) ?_
                  refine TA.op (OpOK.skipU rfl) (by decide) ?_
                  refine TA.op (OpOK.skipU rfl) (by decide) ?_
                  refine TA.op (OpOK.skipU rfl) (by decide) ?_
                  refine TA.op (OpOK.skipU rfl) (by decide) ?_
                  refine TA.op (OpOK.skipU rfl) (by decide) ?_
                  refine TA.op (OpOK.skipU rfl) (by decide) ?_
                  refine TA.op (OpOK.skipU rfl) (by decide) ?_
                  refine TA.op (OpOK.skipU rfl) (by decide) ?_
                  refine TA.op (OpOK.skipU rfl) (by decide) ?_
                  refine TA.op (OpOK.skipU rfl) (by decide) ?_
                  refine TA.op (OpOK.skipU rfl) (by decide) ?_
                  refine TA.op (OpOK.skipU rfl) (by decide) ?_
                  refine TA.op (OpOK.skip rfl) (by decide) ?_
                  refine TA.op (OpOK.pure (PV.pickT rfl rfl) rfl (by decide)) (by decide) ?_
                  refine TA.op (OpOK.pure (PV.pickT rfl rfl) rfl (by decide)) (by decide) ?_
                  show TQ _ _ _ _ _
                  refine TQ.thenC ?_
                  refine TC.condT rfl ?_
                  refine TC.seq ?_
                  refine TC.region ?_
                  refine TL.pure (PV.assign rfl) rfl (by decide) ?_
                  refine TL.nil ?_
                  refine TQ.thenC ?_
                  refine TC.ret ?_
                  refine TQ.thenR ?_
                  refine TQ.retE1 rfl rfl ?_
                  first | exact ⟨(), rfl, trivial, List.nil_sublist _⟩ | (exfalso; have := hga a1; omega) | (exfalso; have := hgb b1; omega) | (exfalso; have := hka a1 (by simp_all); omega) | (exfalso; have := hkb b1 (by simp_all); omega) | (exfalso; simp_all; done)
                · skip
                  refine TA.op (OpOK.pure (PV.fieldAddr rfl Tb.fo_42_1) rfl (by decide)) (by decide) ?_
                  refine TA.op (OpOK.pure (PV.load rfl Tb.one_3 (by repeat (first | exact List.Mem.head _ | refine List.Mem.tail _ ?_ | refine List.mem_append_right _ ?_)) rfl) rfl (by decide)) (by decide) ?_
                  refine TA.op (OpOK.pure (PV.move rfl) rfl (by decide)) (by decide) ?_
                  refine TA.op (OpOK.pure (PV.len rfl Tb.sl_25) rfl (by decide)) (by decide) ?_
                  refine TA.op (OpOK.pure (PV.geq rfl rfl) rfl (by decide)) (by decide) ?_
                  refine TA.op (OpOK.pure (PV.pickF rfl rfl) rfl (by decide)) (by decide) ?_
                  refine TA.op (OpOK.pure (PV.move rfl) rfl (by decide)) (by decide) ?_
                  first | refine TA.splitD 111 rfl (fun b5 => ?_) (fun b5 => ?_) | refine TA.split 111 rfl (fun b5 => ?_) (fun b5 => ?_)
                  · skip
                    refine TA.op (OpOK.skip rfl) (by decide) ?_
                    refine TA.op (OpOK.skip rfl) (by decide) ?_
                    refine TA.op (OpOK.skipU rfl) (by decide) ?_
                    refine TA.op (OpOK.skipU rfl) (by decide) ?_
                    refine TA.op (OpOK.skipU rfl) (by decide) ?_
                    refine TA.op (OpOK.skipU rfl) (by decide) ?_
                    refine TA.op (OpOK.skipU rfl) (by decide) ?_
                    refine TA.op (OpOK.skipU rfl) (by decide) ?_
                    refine TA.op (OpOK.skipU rfl) (by decide) ?_
                    refine TA.op (OpOK.skipU rfl) (by decide) ?_
                    refine TA.op (OpOK.skipU rfl) (by decide) ?_
                    refine TA.op (OpOK.skipU rfl) (by decide) ?_
                    refine TA.op (OpOK.skipU rfl) (by decide) ?_
                    refine TA.op (OpOK.skipU rfl) (by decide) ?_
                    refine TA.op (OpOK.skipU rfl) (by decide) ?_
                    refine TA.op (OpOK.skip rfl) (by decide) ?_
                    refine TA.op (OpOK.pure (PV.pickT rfl rfl) rfl (by decide)) (by decide) ?_
                    refine TA.op (OpOK.pure (PV.pickT rfl rfl) rfl (by decide)) (by decide) ?_
                    show TQ _ _ _ _ _
                    refine TQ.thenC ?_
                    refine TC.condT rfl ?_
                    refine TC.seq ?_
                    refine TC.region ?_
                    refine TL.pure (PV.assign rfl) rfl (by decide) ?_
                    refine TL.nil ?_
                    refine TQ.thenC ?_
                    refine TC.ret ?_
                    refine TQ.thenR ?_
                    refine TQ.retE1 rfl rfl ?_
                    first | exact ⟨(), rfl, trivial, List.nil_sublist _⟩ | (exfalso; have := hga a1; omega) | (exfalso; have := hgb b1; omega) | (exfalso; have := hka a1 (by simp_all); omega) | (exfalso; have := hkb b1 (by simp_all); omega) | (exfalso; simp_all; done)
                  · skip
                    refine TA.op (OpOK.pure (PV.move rfl) rfl (by decide)) (by decide) ?_
                    refine TA.op (OpOK.pure (PV.move rfl) rfl (by decide)) (by decide) ?_
                    first | refine TA.splitD 113 rfl (fun b6 => ?_) (fun b6 => ?_) | refine TA.split 113 rfl (fun b6 => ?_) (fun b6 => ?_)
                    · skip
                      refine TA.op (OpOK.pure (PV.move rfl) rfl (by decide)) (by decide) ?_
                      refine TA.op (OpOK.pure (PV.fieldAddr rfl Tb.fo_42_1) rfl (by decide)) (by decide) ?_
                      refine TA.op (OpOK.pure (PV.load rfl Tb.one_3 (by repeat (first | exact List.Mem.head _ | refine List.Mem.tail _ ?_ | refine List.mem_append_right _ ?_)) rfl) rfl (by decide)) (by decide) ?_
                      refine TA.op (OpOK.pure (PV.indexA (j := r.b.toNat) rfl rfl rfl Tb.elm_25 (by have := hgb b1; omega) (by have := hgb b1; omega)) rfl (by decide)) (by decide) ?_
                      refine TA.op (OpOK.pure (PV.loadOld rfl Tb.one_3 (hcell _ (by have := hgb b1; omega))) rfl (by decide)) (by decide) ?_
                      refine TA.op (OpOK.pure (PV.move rfl) rfl (by decide)) (by decide) ?_
                      refine TA.op (OpOK.pure (PV.fieldAddr rfl Tb.fo_42_0) rfl (by decide)) (by decide) ?_
                      refine TA.op (OpOK.pure (PV.load rfl Tb.one_3 (by repeat (first | exact List.Mem.head _ | refine List.Mem.tail _ ?_ | refine List.mem_append_right _ ?_)) rfl) rfl (by decide)) (by decide) ?_
                      refine TA.op (OpOK.pure (PV.indexA (j := r.a.toNat) rfl rfl rfl Tb.elm_25 (by have := hgb b1; omega) (by have := hgb b1; omega)) rfl (by decide)) (by decide) ?_
                      refine TA.op (OpOK.pure (PV.loadOld rfl Tb.one_3 (hcell _ (by have := hgb b1; omega))) rfl (by decide)) (by decide) ?_
                      refine TA.op (OpOK.pure (PV.sub rfl rfl (by omega)) rfl (by decide)) (by decide) ?_
                      refine TA.op (OpOK.pure (PV.move rfl) rfl (by decide)) (by decide) ?_
                      refine TA.op (OpOK.pure (PV.gtr rfl rfl) rfl (by decide)) (by decide) ?_
                      refine TA.op (OpOK.pure (PV.pickT rfl rfl) rfl (by decide)) (by decide) ?_
                      refine TA.op (OpOK.pure (PV.pickF rfl rfl) rfl (by decide)) (by decide) ?_
                      refine TA.op (OpOK.pure (PV.pickT rfl rfl) rfl (by decide)) (by decide) ?_
                      show TQ _ _ _ _ _
                      refine TQ.thenC ?_
                      first | refine TC.condD rfl (fun c2 => ?_) (fun c2 => ?_) | refine TC.cond rfl (fun c2 => ?_) (fun c2 => ?_)
                      · skip
                        refine TC.seq ?_
                        refine TC.region ?_
                        refine TL.pure (PV.assign rfl) rfl (by decide) ?_
                        refine TL.nil ?_
                        refine TQ.thenC ?_
                        refine TC.ret ?_
                        refine TQ.thenR ?_
                        refine TQ.retE1 rfl rfl ?_
                        first | exact ⟨(), rfl, trivial, List.nil_sublist _⟩ | (exfalso; have := hga a1; omega) | (exfalso; have := hgb b1; omega) | (exfalso; have := hka a1 (by simp_all); omega) | (exfalso; have := hkb b1 (by simp_all); omega) | (exfalso; simp_all; done)
                      · skip
                        refine TC.skip ?_
                        refine TQ.thenC ?_
                        refine TC.seq ?_
                        refine TC.region ?_
                        refine TL.call rfl Tb.gofn_18 (fun a w hs => knownOk w) rfl (by decide) (fun _ _ => ?_)
                        refine TL.pure (PV.assign rfl) rfl (by decide) ?_
                        refine TL.nil ?_
                        refine TQ.thenC ?_
                        refine TC.ret ?_
                        refine TQ.retE1 rfl rfl ?_
                        first | exact ⟨(), rfl, trivial, List.nil_sublist _⟩ | (exfalso; have := hga a1; omega) | (exfalso; have := hgb b1; omega) | (exfalso; have := hka a1 (by simp_all); omega) | (exfalso; have := hkb b1 (by simp_all); omega) | (exfalso; simp_all; done)
                    · skip
                      refine TA.op (OpOK.skip rfl) (by decide) ?_
                      refine TA.op (OpOK.skip rfl) (by decide) ?_
                      refine TA.op (OpOK.skip rfl) (by decide) ?_
                      refine TA.op (OpOK.skip rfl) (by decide) ?_
                      refine TA.op (OpOK.skip rfl) (by decide) ?_
                      refine TA.op (OpOK.skip rfl) (by decide) ?_
                      refine TA.op (OpOK.skip rfl) (by decide) ?_
                      refine TA.op (OpOK.skip rfl) (by decide) ?_
                      refine TA.op (OpOK.skip rfl) (by decide) ?_
                      refine TA.op (OpOK.skip rfl) (by decide) ?_
                      refine TA.op (OpOK.skip rfl) (by decide) ?_
                      refine TA.op (OpOK.skip rfl) (by decide) ?_
                      refine TA.op (OpOK.skip rfl) (by decide) ?_
                      refine TA.op (OpOK.pure (PV.pickF rfl rfl) rfl (by decide)) (by decide) ?_
                      refine TA.op (OpOK.pure (PV.pickF rfl rfl) rfl (by decide)) (by decide) ?_
                      refine TA.op (OpOK.pure (PV.pickT rfl rfl) rfl (by decide)) (by decide) ?_
                      show TQ _ _ _ _ _
                      refine TQ.thenC ?_
                      refine TC.condF rfl ?_
                      refine TC.skip ?_
                      refine TQ.thenC ?_
                      refine TC.seq ?_
                      refine TC.region ?_
                      refine TL.call rfl Tb.gofn_18 (fun a w hs => knownOk w) rfl (by decide) (fun _ _ => ?_)
                      refine TL.pure (PV.assign rfl) rfl (by decide) ?_
                      refine TL.nil ?_
                      refine TQ.thenC ?_
                      refine TC.ret ?_
                      refine TQ.retE1 rfl rfl ?_
                      first | exact ⟨(), rfl, trivial, List.nil_sublist _⟩ | (exfalso; have := hga a1; omega) | (exfalso; have := hgb b1; omega) | (exfalso; have := hka a1 (by simp_all); omega) | (exfalso; have := hkb b1 (by simp_all); omega) | (exfalso; simp_all; done)
          · skip
            refine TA.op (OpOK.skip rfl) (by decide) ?_
            refine TA.op (OpOK.skip rfl) (by decide) ?_
            refine TA.op (OpOK.skip rfl) (by decide) ?_
            refine TA.op (OpOK.skip rfl) (by decide) ?_
            refine TA.op (OpOK.skipU rfl) (by decide) ?_
            refine TA.op (OpOK.skipU rfl) (by decide) ?_
            refine TA.op (OpOK.skipU rfl) (by decide) ?_
            refine TA.op (OpOK.skipU rfl) (by decide) ?_
            refine TA.op (OpOK.skipU rfl) (by decide) ?_
            refine TA.op (OpOK.skip rfl) (by decide) ?_
            refine TA.op (OpOK.skip rfl) (by decide) ?_
            refine TA.op (OpOK.skipU rfl) (by decide) ?_
            refine TA.op (OpOK.skipU rfl) (by decide) ?_
            refine TA.op (OpOK.skipU rfl) (by decide) ?_
            refine TA.op (OpOK.skip rfl) (by decide) ?_
            refine TA.op (OpOK.skip rfl) (by decide) ?_
            refine TA.op (OpOK.skipU rfl) (by decide) ?_
            refine TA.op (OpOK.skipU rfl) (by decide) ?_
            refine TA.op (OpOK.skipU rfl) (by decide) ?_
            refine TA.op (OpOK.skipU rfl) (by decide) ?_
            refine TA.op (OpOK.skipU rfl) (by decide) ?_
            refine TA.op (OpOK.skip rfl) (by decide) ?_
            refine TA.op (OpOK.skip rfl) (by decide) ?_
            refine TA.op (OpOK.skipU rfl) (by decide) ?_
            refine TA.op (OpOK.skipU rfl) (by decide) ?_
            refine TA.op (OpOK.skipU rfl) (by decide) ?_
            refine TA.op (OpOK.skipU rfl) (by decide) ?_
            refine TA.op (OpOK.skipU rfl) (by decide) ?_
            refine TA.op (OpOK.skipU rfl) (by decide) ?_
            refine TA.op (OpOK.skipU rfl) (by decide) ?_
            refine TA.op (OpOK.skipU rfl) (by decide) ?_
            refine TA.op (OpOK.skipU rfl) (by decide) ?_
            refine TA.op (OpOK.skipU rfl) (by decide) ?_
            refine TA.op (OpOK.skipU rfl) (by decide) ?_
            refine TA.op (OpOK.skipU rfl) (by decide) ?_
            refine TA.op (OpOK.skipU rfl) (by decide) ?_
            refine TA.op (OpOK.skipU rfl) (by decide) ?_
            refine TA.op (OpOK.skipU rfl) (by decide) ?_
            refine TA.op (OpOK.skipU rfl) (by decide) ?_
            refine TA.op (OpOK.skip rfl) (by decide) ?_
            refine TA.op (OpOK.pure (PV.pickF rfl rfl) rfl (by decide)) (by decide) ?_
            show TQ _ _ _ _ _
            refine TQ.thenC ?_
            refine TC.condF rfl ?_
            refine TC.skip ?_
            refine TQ.thenC ?_
            refine TC.seq ?_
            refine TC.region ?_
            refine TL.call rfl Tb.gofn_18 (fun a w hs => knownOk w) rfl (by decide) (fun _ _ => ?_)
            refine TL.pure (PV.assign rfl) rfl (by decide) ?_
            refine TL.nil ?_
            refine TQ.thenC ?_
            refine TC.ret ?_
            refine TQ.retE1 rfl rfl ?_
            first | exact ⟨(), rfl, trivial, List.nil_sublist _⟩ | (exfalso; have := hga a1; omega) | (exfalso; have := hgb b1; omega) | (exfalso; have := hka a1 (by simp_all); omega) | (exfalso; have := hkb b1 (by simp_all); omega) | (exfalso; simp_all; done)

theorem coreKeeps_all (W : World) (n : Int) (p : Option Addr) (cap : Nat) (rs : List Bd) (hr : BdsAt W p rs) (_ : rs.length ≤ cap) (_ : I64 n) (pd : Option Addr) (cd : Nat) (ds : List Int) (hx : IntsAt W pd ds) (_ : ∀ x ∈ ds, I64 x) (r : Bd) (_ : I64 r.a) (_ : I64 r.b) (_ : I64 r.m) :
    Calls Try.prog 8 #[cv n p rs.length cap, .slice pd ds.length cd, r.val] W (Post (X := Unit) (fun _ => .bool true) (fun _ => True) (fun _ => []) W) := coreKeeps_ok W n p cap rs hr pd cd ds hx r

end Go.Proofs.Ytenalmddoljhoaa
