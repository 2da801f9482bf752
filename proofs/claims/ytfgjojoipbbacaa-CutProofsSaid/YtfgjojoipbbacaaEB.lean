/- What a proof bounds: the law's contract. -/
import Derived.Test.YtfgjojoipbbacaaEA
import Derived.Test.YtfgjojoipbbacaaDG
set_option linter.unusedVariables false
set_option linter.unusedSimpArgs false
namespace Go.Proofs.Ytfgjojoipbbacaa
open Go.Sx Go.RowKit

end Go.Proofs.Ytfgjojoipbbacaa
namespace Go.Sx
/-- An operation whose guard's own operation was not wanted is not wanted. -/
def undoneB (ops : Array Oper) (E : Env) : Option (Nat × Bool) → Bool
  | none => false
  | some (j, _) => match (ops[j]?).bind (·.dst) with
    | none => false
    | some s => match Sx.look s E with
      | some (.tuple _) => true
      | _ => false
section
variable {P : Program} {n : Nat} {w0 : World} {E : Env} {G : Heap} {a : Act} {w : World} {ops : Array Oper} {Q : Exit → Act → World → Prop} {l : List Oper}
theorem S_undone (h : S n w0 E G a w) {o : Oper} (hw : undoneB ops E o.guard = true) : Region.wanted o (yielded ops a.tmps) = false := by
  unfold Region.wanted
  cases hg : o.guard with
  | none => simp [undoneB, hg] at hw
  | some jw =>
    obtain ⟨j, want⟩ := jw
    simp only [undoneB, hg] at hw
    simp only [yielded]
    cases hs : (ops[j]?).bind (·.dst) with
    | none => simp [hs] at hw
    | some s =>
      simp only [hs] at hw
      cases hl : Sx.look s E with
      | none => simp [hl] at hw
      | some v =>
        have := h.env s v hl
        rw [hl] at hw
        cases v <;> first | (simp [this]; done) | simp at hw
theorem TL.skipU {d : Option Nat} {op : Op} {ty : TypeId} {pos : String} {aft : Array Edge} {g : Option (Nat × Bool)}
    (hg : undoneB ops E g = true) (hd : ∀ k, d = some k → k < n) (h : TL P n w0 ops Q l (match d with | some k => (k, undef) :: E | none => E) G) :
    TL P n w0 ops Q (⟨d, op, ty, pos, aft, g⟩ :: l) E G := by
  intro a w hs
  unfold wpList
  have := S_undone hs (o := ⟨d, op, ty, pos, aft, g⟩) hg
  rw [if_neg (by simp [this])]
  cases d with
  | none => exact h _ _ hs
  | some k => exact h _ _ (hs.put (hd k rfl) undef)
theorem OpOK.skipU {d : Nat} {op : Op} {ty : TypeId} {pos : String} {aft : Array Edge} {g : Option (Nat × Bool)} (hg : undoneB ops E g = true) :
    OpOK P n w0 ops Q G E ⟨some d, op, ty, pos, aft, g⟩ d undef := by
  intro F' hF a w hs
  have := S_undone (hs.env_le hF) (o := ⟨some d, op, ty, pos, aft, g⟩) hg
  rw [if_neg (by simp [this])]
theorem TS.skipU {tl : List Oper} {d : Nat} {op : Op} {ty : TypeId} {pos : String} {aft : Array Edge} {g : Option (Nat × Bool)}
    (hg : undoneB ops E g = true) (hd : d < n) (h : TS P n w0 ops Q tl l ((d, undef) :: E) G) :
    TS P n w0 ops Q tl (⟨some d, op, ty, pos, aft, g⟩ :: l) E G := by
  intro a w hs
  unfold wpStill
  have := S_undone hs (o := ⟨some d, op, ty, pos, aft, g⟩) hg
  rw [if_neg (by simp [this])]
  exact h _ _ (hs.put hd undef)
end

end Go.Sx
namespace Go.Proofs.Ytfgjojoipbbacaa
open Go.Sx Go.RowKit
theorem sumN_tk (col : List Int) : ∀ n, sumN col n = (col.take n).sum
  | 0 => by simp [sumN]
  | n + 1 => by
    rw [sumN, sumN_tk col n, List.take_add_one]
    by_cases h : n < col.length
    · rw [show col[n]? = some (col.getD n 0) by simp [List.getD, h]]; simp
    · simp [List.getD, h]
theorem worK_cons (r : List Int) (m : List (List Int)) (xs : List Int) : ∀ k, worK (r :: m) xs (k + 1) = (r.take (xs.getD 0 0).toNat).sum + worK m xs.tail k
  | 0 => by simp [worK, sumN_tk]
  | k + 1 => by
    have ih := worK_cons r m xs k
    rw [worK, ih, worK]
    have e : xs.tail.getD k 0 = xs.getD (k + 1) 0 := by cases xs <;> simp
    rw [e]
    simp only [List.getD_cons_succ]
    omega
theorem hoS_worK : ∀ (m : List (List Int)) (xs : List Int), hoS m xs = worK m xs m.length
  | [], xs => rfl
  | r :: m, xs => by rw [hoS, hoS_worK m xs.tail, List.length_cons, worK_cons]
theorem ho_bound {ls : List (List Int)} {ps : List Ps} {xs : List Int} (h : prI ls ps = 0) (ho : HO ls xs) : worH ls xs ≤ prV ls ps := by
  have h1 := proof_bounds (xs := xs) h (fun c t hc ht h2 h3 => by
    by_cases e1 : c = t
    · subst e1; omega
    · by_cases e2 : c = t + 1
      · subst e2; have := ho.stp t hc; omega
      · obtain rfl : t = c + 1 := by omega
        have := ho.stp c ht; omega)
  rw [hoS_worK] at h1
  unfold worH
  rw [ho.len]
  exact h1
theorem pr_valid {ls : List (List Int)} {ps : List Ps} (h : prI ls ps = 0) : ¬ validI ls ≠ 0 := by
  intro h1
  unfold prI at h
  rw [if_pos h1] at h
  exact h1 h


set_option maxRecDepth 100000 in
set_option maxHeartbeats 2000000 in
theorem cutProofs_ok (w0 : World) (p : Option Addr) (cap : Nat) (ls : List (List Int)) (hr : LsAt w0 p ls) (hl2 : ls.length ≤ 9223372036854775807) (hcap : CapsAt w0 p ls) (pp : Option Addr) (cp : Nat) (ps : List Ps) (hp : RecsAt rP w0 pp ps) (pl : Option Addr) (cl : Nat) (xs : List Int) (hx : IntsAt w0 pl xs) :
    Calls Try.prog 14 #[bv p ls.length cap, .slice pp ps.length cp, .slice pl xs.length cl] w0 (Post (X := Unit) (fun _ => .bool true) (fun _ => True) (fun _ => []) w0) := by
  refine calls Try.func14 rfl (n := 81) rfl (by simp) ?_
  refine TC.seq ?_
  refine TC.region ?_
  refine TL.box rfl rfl (by decide) (fun b0 hb0 => ?_)
  refine TL.pure (PV.assign rfl) rfl (by decide) ?_
  refine TL.nil ?_
  refine TQ.thenC ?_
  refine TC.seq ?_
  refine TC.seq ?_
  refine TC.region ?_
  refine TL.pure (PV.loadBox rfl Tb.agg_24 (by repeat (first | exact List.Mem.head _ | refine List.Mem.tail _ ?_ | refine List.mem_append_right _ ?_)) rfl) rfl (by decide) ?_
  refine TL.pure (PV.move rfl) rfl (by decide) ?_
  refine TL.buildSlice (cs := #[.slice pl xs.length cl]) rfl Tb.sl_22 Tb.zi_25 (by decide) (fill_o _ _ _) (by decide) rfl (by decide) (fun bS hbS => ?_)
  refine TL.call rfl Tb.gofn_17 (fun a w hs => long_ok w _ _ _ (hr.new hs.new) _ 1 [xs] (LsAt.one hs.new (by repeat (first | exact List.Mem.head _ | refine List.Mem.tail _ ?_ | refine List.mem_append_right _ ?_)) (hx.new hs.new)) (show 1 ≤ 1000 by decide) hl2) rfl (by decide) (fun _ _ => ?_)
  refine TL.pure (PV.move rfl) rfl (by decide) ?_
  first | refine TL.splitD 20 rfl (fun h0 => ?_) (fun h0 => ?_) | refine TL.split 20 rfl (fun h0 => ?_) (fun h0 => ?_)
  · skip
    refine TL.skip rfl (fun k hk => by cases hk; decide) ?_
    refine TL.skip rfl (fun k hk => by cases hk; decide) ?_
    refine TL.skip rfl (fun k hk => by cases hk; decide) ?_
    refine TL.pure (PV.pickT rfl rfl) rfl (by decide) ?_
    refine TL.nil ?_
    refine TQ.thenC ?_
    refine TC.condT rfl ?_
    refine TC.seq ?_
    refine TC.region ?_
    refine TL.call rfl Tb.gofn_18 (fun a w hs => sane_ok w) rfl (by decide) (fun _ _ => ?_)
    refine TL.pure (PV.assign rfl) rfl (by decide) ?_
    refine TL.nil ?_
    refine TQ.thenC ?_
    refine TC.ret ?_
    refine TQ.thenR ?_
    refine TQ.retE1 rfl rfl ?_
    first | exact ⟨(), rfl, trivial, List.nil_sublist _⟩ | contradiction | (exfalso; omega) | (exfalso; obtain ⟨h7, h8, h9⟩ := hw1 (by omega); first | omega | (have h6 := h9 (by omega); first | omega | (rename_i hz; rw [if_pos (by omega)] at hz; omega))) | (exfalso; simp_all; done)
  · skip
    refine TL.pure (PV.move rfl) rfl (by decide) ?_
    refine TL.pure (PV.len rfl Tb.sl_55) rfl (by decide) ?_
    refine TL.pure (PV.gtr rfl rfl) rfl (by decide) ?_
    refine TL.pure (PV.pickF rfl rfl) rfl (by decide) ?_
    refine TL.nil ?_
    refine TQ.thenC ?_
    first | refine TC.condD rfl (fun h1 => ?_) (fun h1 => ?_) | refine TC.cond rfl (fun h1 => ?_) (fun h1 => ?_)
    · skip
      refine TC.seq ?_
      refine TC.region ?_
      refine TL.call rfl Tb.gofn_18 (fun a w hs => sane_ok w) rfl (by decide) (fun _ _ => ?_)
      refine TL.pure (PV.assign rfl) rfl (by decide) ?_
      refine TL.nil ?_
      refine TQ.thenC ?_
      refine TC.ret ?_
      refine TQ.thenR ?_
      refine TQ.retE1 rfl rfl ?_
      first | exact ⟨(), rfl, trivial, List.nil_sublist _⟩ | contradiction | (exfalso; omega) | (exfalso; obtain ⟨h7, h8, h9⟩ := hw1 (by omega); first | omega | (have h6 := h9 (by omega); first | omega | (rename_i hz; rw [if_pos (by omega)] at hz; omega))) | (exfalso; simp_all; done)
    · skip
      refine TC.skip ?_
      refine TQ.thenC ?_
      refine TC.seq ?_
      refine TC.region ?_
      refine TL.pure (PV.loadBox rfl Tb.agg_24 (by repeat (first | exact List.Mem.head _ | refine List.Mem.tail _ ?_ | refine List.mem_append_right _ ?_)) rfl) rfl (by decide) ?_
      refine TL.pure (PV.move rfl) rfl (by decide) ?_
      refine TL.call rfl Tb.gofn_57 (fun a w hs => CheckProof_ok w _ _ _ (hr.new hs.new) pp cp ps (hp.new hs.new)) rfl (by decide) (fun _ _ => ?_)
      refine TL.pure (PV.move rfl) rfl (by decide) ?_
      refine TL.pure (PV.extract rfl rfl) rfl (by decide) ?_
      refine TL.pure (PV.extract rfl rfl) rfl (by decide) ?_
      refine TL.pure (PV.assign rfl) rfl (by decide) ?_
      refine TL.pure (PV.assign rfl) rfl (by decide) ?_
      refine TL.nil ?_
      refine TQ.thenC ?_
      refine TC.seq ?_
      refine TC.region ?_
      refine TL.pure (PV.loadBox rfl Tb.agg_24 (by repeat (first | exact List.Mem.head _ | refine List.Mem.tail _ ?_ | refine List.mem_append_right _ ?_)) rfl) rfl (by decide) ?_
      refine TL.pure (PV.move rfl) rfl (by decide) ?_
      refine TL.call rfl Tb.gofn_58 (fun a w hs => rCheckProof_ok w _ _ _ (hr.new hs.new) pp cp ps (hp.new hs.new)) rfl (by decide) (fun _ _ => ?_)
      refine TL.pure (PV.move rfl) rfl (by decide) ?_
      refine TL.pure (PV.extract rfl rfl) rfl (by decide) ?_
      refine TL.pure (PV.extract rfl rfl) rfl (by decide) ?_
      refine TL.pure (PV.assign rfl) rfl (by decide) ?_
      refine TL.pure (PV.assign rfl) rfl (by decide) ?_
      refine TL.nil ?_
      refine TQ.thenC ?_
      refine TC.seq ?_
      refine TC.seq ?_
      refine TC.region ?_
      refine TL.pure (PV.move rfl) rfl (by decide) ?_
      refine TL.pure (PV.move rfl) rfl (by decide) ?_
      refine TL.pure (PV.neq rfl rfl) rfl (by decide) ?_
      refine TL.pure (PV.move rfl) rfl (by decide) ?_
      first | refine TL.splitD 41 rfl (fun h2 => ?_) (fun h2 => ?_) | refine TL.split 41 rfl (fun h2 => ?_) (fun h2 => ?_)
      · skip
        refine TL.skip rfl (fun k hk => by cases hk; decide) ?_
        refine TL.skip rfl (fun k hk => by cases hk; decide) ?_
        refine TL.skip rfl (fun k hk => by cases hk; decide) ?_
        refine TL.pure (PV.pickT rfl rfl) rfl (by decide) ?_
        refine TL.nil ?_
        refine TQ.thenC ?_
        refine TC.condT rfl ?_
        refine TC.seq ?_
        refine TC.region ?_
        refine TL.pure (PV.assign rfl) rfl (by decide) ?_
        refine TL.nil ?_
        refine TQ.thenC ?_
        refine TC.ret ?_
        refine TQ.thenR ?_
        refine TQ.retE1 rfl rfl ?_
        first | exact ⟨(), rfl, trivial, List.nil_sublist _⟩ | contradiction | (exfalso; omega) | (exfalso; obtain ⟨h7, h8, h9⟩ := hw1 (by omega); first | omega | (have h6 := h9 (by omega); first | omega | (rename_i hz; rw [if_pos (by omega)] at hz; omega))) | (exfalso; simp_all; done)
      · skip
        refine TL.pure (PV.move rfl) rfl (by decide) ?_
        refine TL.pure (PV.move rfl) rfl (by decide) ?_
        refine TL.pure (PV.neq rfl rfl) rfl (by decide) ?_
        refine TL.pure (PV.pickF rfl rfl) rfl (by decide) ?_
        refine TL.nil ?_
        refine TQ.thenC ?_
        first | refine TC.condD rfl (fun h3 => ?_) (fun h3 => ?_) | refine TC.cond rfl (fun h3 => ?_) (fun h3 => ?_)
        · skip
          refine TC.seq ?_
          refine TC.region ?_
          refine TL.pure (PV.assign rfl) rfl (by decide) ?_
          refine TL.nil ?_
          refine TQ.thenC ?_
          refine TC.ret ?_
          refine TQ.thenR ?_
          refine TQ.retE1 rfl rfl ?_
          first | exact ⟨(), rfl, trivial, List.nil_sublist _⟩ | contradiction | (exfalso; omega) | (exfalso; obtain ⟨h7, h8, h9⟩ := hw1 (by omega); first | omega | (have h6 := h9 (by omega); first | omega | (rename_i hz; rw [if_pos (by omega)] at hz; omega))) | (exfalso; simp_all; done)
        · skip
          refine TC.skip ?_
          refine TQ.thenC ?_
          refine TC.seq ?_
          refine TC.region ?_
          refine TL.pure (PV.loadBox rfl Tb.agg_24 (by repeat (first | exact List.Mem.head _ | refine List.Mem.tail _ ?_ | refine List.mem_append_right _ ?_)) rfl) rfl (by decide) ?_
          refine TL.pure (PV.move rfl) rfl (by decide) ?_
          refine TL.call rfl Tb.gofn_19 (fun a w hs => Worth_ok w _ _ _ (hr.new hs.new) _ _ _ (hx.new hs.new) (hcap.new hr hs.new)) rfl (by decide) (fun _ _ => ?_)
          refine TL.pure (PV.move rfl) rfl (by decide) ?_
          refine TL.pure (PV.extract rfl rfl) rfl (by decide) ?_
          refine TL.pure (PV.extract rfl rfl) rfl (by decide) ?_
          refine TL.pure (PV.assign rfl) rfl (by decide) ?_
          refine TL.pure (PV.assign rfl) rfl (by decide) ?_
          refine TL.nil ?_
          refine TQ.thenC ?_
          refine TC.seq ?_
          refine TC.region ?_
          refine TL.pure (PV.loadBox rfl Tb.agg_24 (by repeat (first | exact List.Mem.head _ | refine List.Mem.tail _ ?_ | refine List.mem_append_right _ ?_)) rfl) rfl (by decide) ?_
          refine TL.call rfl Tb.gofn_25 (fun a w hs => best_ok w _ _ _ (hr.new hs.new)) rfl (by decide) (fun z9 hz9 => ?_)
          refine TL.pure (PV.move rfl) rfl (by decide) ?_
          refine TL.pure (PV.extract rfl rfl) rfl (by decide) ?_
          refine TL.pure (PV.extract rfl rfl) rfl (by decide) ?_
          refine TL.pure (PV.extract rfl rfl) rfl (by decide) ?_
          refine TL.pure (PV.assign rfl) rfl (by decide) ?_
          refine TL.pure (PV.assign rfl) rfl (by decide) ?_
          refine TL.pure (PV.assign rfl) rfl (by decide) ?_
          refine TL.nil ?_
          refine TQ.thenC ?_
          refine TC.seq ?_
          have hw1 : prI ls ps = 0 → validI ls = 0 ∧ z9.2.2 ≤ prV ls ps ∧ (holI ls xs = 0 → worH ls xs ≤ prV ls ps) := fun h => ⟨Decidable.of_not_not (pr_valid h), by (have hb := hz9.1.ok (pr_valid h)); rw [← hb.w]; exact ho_bound h hb.ho, fun h2 => ho_bound h (ho_of (by rw [h2]; decide))⟩
          refine TC.region ?_
          refine TL.pure (PV.move rfl) rfl (by decide) ?_
          refine TL.pure (PV.neq rfl rfl) rfl (by decide) ?_
          refine TL.pure (PV.move rfl) rfl (by decide) ?_
          first | refine TL.splitD 60 rfl (fun h4 => ?_) (fun h4 => ?_) | refine TL.split 60 rfl (fun h4 => ?_) (fun h4 => ?_)
          · skip
            refine TL.skip rfl (fun k hk => by cases hk; decide) ?_
            refine TL.skip rfl (fun k hk => by cases hk; decide) ?_
            refine TL.skip rfl (fun k hk => by cases hk; decide) ?_
            refine TL.skipU rfl (fun k hk => by cases hk; decide) ?_
            refine TL.skipU rfl (fun k hk => by cases hk; decide) ?_
            refine TL.skipU rfl (fun k hk => by cases hk; decide) ?_
            refine TL.skip rfl (fun k hk => by cases hk; decide) ?_
            refine TL.skip rfl (fun k hk => by cases hk; decide) ?_
            refine TL.skipU rfl (fun k hk => by cases hk; decide) ?_
            refine TL.skipU rfl (fun k hk => by cases hk; decide) ?_
            refine TL.skipU rfl (fun k hk => by cases hk; decide) ?_
            refine TL.skipU rfl (fun k hk => by cases hk; decide) ?_
            refine TL.skipU rfl (fun k hk => by cases hk; decide) ?_
            refine TL.skipU rfl (fun k hk => by cases hk; decide) ?_
            refine TL.skipU rfl (fun k hk => by cases hk; decide) ?_
            refine TL.skip rfl (fun k hk => by cases hk; decide) ?_
            refine TL.pure (PV.pickT rfl rfl) rfl (by decide) ?_
            refine TL.pure (PV.move rfl) rfl (by decide) ?_
            refine TL.call rfl Tb.gofn_18 (fun a w hs => sane_ok w) rfl (by decide) (fun _ _ => ?_)
            refine TL.pure (PV.pickT rfl rfl) rfl (by decide) ?_
            refine TL.pure (PV.assign rfl) rfl (by decide) ?_
            refine TL.nil ?_
            refine TQ.thenC ?_
            refine TC.ret ?_
            refine TQ.retE1 rfl rfl ?_
            first | exact ⟨(), rfl, trivial, List.nil_sublist _⟩ | contradiction | (exfalso; omega) | (exfalso; obtain ⟨h7, h8, h9⟩ := hw1 (by omega); first | omega | (have h6 := h9 (by omega); first | omega | (rename_i hz; rw [if_pos (by omega)] at hz; omega))) | (exfalso; simp_all; done)
          · skip
            refine TL.pure (PV.move rfl) rfl (by decide) ?_
            refine TL.pure (PV.eql rfl rfl) rfl (by decide) ?_
            refine TL.pure (PV.move rfl) rfl (by decide) ?_
            first | refine TL.splitD 63 rfl (fun h5 => ?_) (fun h5 => ?_) | refine TL.split 63 rfl (fun h5 => ?_) (fun h5 => ?_)
            · skip
              refine TL.pure (PV.move rfl) rfl (by decide) ?_
              refine TL.pure (PV.move rfl) rfl (by decide) ?_
              refine TL.pure (PV.leq rfl rfl) rfl (by decide) ?_
              refine TL.pure (PV.pickT rfl rfl) rfl (by decide) ?_
              refine TL.pure (PV.move rfl) rfl (by decide) ?_
              first | refine TL.splitD 68 rfl (fun h6 => ?_) (fun h6 => ?_) | refine TL.split 68 rfl (fun h6 => ?_) (fun h6 => ?_)
              · skip
                refine TL.pure (PV.move rfl) rfl (by decide) ?_
                refine TL.pure (PV.neq rfl rfl) rfl (by decide) ?_
                refine TL.pure (PV.move rfl) rfl (by decide) ?_
                first | refine TL.splitD 71 rfl (fun h7 => ?_) (fun h7 => ?_) | refine TL.split 71 rfl (fun h7 => ?_) (fun h7 => ?_)
                · skip
                  refine TL.skip rfl (fun k hk => by cases hk; decide) ?_
                  refine TL.skip rfl (fun k hk => by cases hk; decide) ?_
                  refine TL.skip rfl (fun k hk => by cases hk; decide) ?_
                  refine TL.pure (PV.pickT rfl rfl) rfl (by decide) ?_
                  refine TL.pure (PV.pickT rfl rfl) rfl (by decide) ?_
                  refine TL.pure (PV.pickF rfl rfl) rfl (by decide) ?_
                  refine TL.pure (PV.move rfl) rfl (by decide) ?_
                  refine TL.call rfl Tb.gofn_18 (fun a w hs => sane_ok w) rfl (by decide) (fun _ _ => ?_)
                  refine TL.pure (PV.pickT rfl rfl) rfl (by decide) ?_
                  refine TL.pure (PV.assign rfl) rfl (by decide) ?_
                  refine TL.nil ?_
                  refine TQ.thenC ?_
                  refine TC.ret ?_
                  refine TQ.retE1 rfl rfl ?_
                  first | exact ⟨(), rfl, trivial, List.nil_sublist _⟩ | contradiction | (exfalso; omega) | (exfalso; obtain ⟨h7, h8, h9⟩ := hw1 (by omega); first | omega | (have h6 := h9 (by omega); first | omega | (rename_i hz; rw [if_pos (by omega)] at hz; omega))) | (exfalso; simp_all; done)
                · skip
                  refine TL.pure (PV.move rfl) rfl (by decide) ?_
                  refine TL.pure (PV.move rfl) rfl (by decide) ?_
                  refine TL.pure (PV.leq rfl rfl) rfl (by decide) ?_
                  refine TL.pure (PV.pickF rfl rfl) rfl (by decide) ?_
                  refine TL.pure (PV.pickT rfl rfl) rfl (by decide) ?_
                  refine TL.pure (PV.pickF rfl rfl) rfl (by decide) ?_
                  refine TL.pure (PV.move rfl) rfl (by decide) ?_
                  first | refine TL.splitD 78 rfl (fun h8 => ?_) (fun h8 => ?_) | refine TL.split 78 rfl (fun h8 => ?_) (fun h8 => ?_)
                  · skip
                    refine TL.call rfl Tb.gofn_18 (fun a w hs => sane_ok w) rfl (by decide) (fun _ _ => ?_)
                    refine TL.pure (PV.pickT rfl rfl) rfl (by decide) ?_
                    refine TL.pure (PV.assign rfl) rfl (by decide) ?_
                    refine TL.nil ?_
                    refine TQ.thenC ?_
                    refine TC.ret ?_
                    refine TQ.retE1 rfl rfl ?_
                    first | exact ⟨(), rfl, trivial, List.nil_sublist _⟩ | contradiction | (exfalso; omega) | (exfalso; obtain ⟨h7, h8, h9⟩ := hw1 (by omega); first | omega | (have h6 := h9 (by omega); first | omega | (rename_i hz; rw [if_pos (by omega)] at hz; omega))) | (exfalso; simp_all; done)
                  · skip
                    refine TL.skip rfl (fun k hk => by cases hk; decide) ?_
                    refine TL.pure (PV.pickF rfl rfl) rfl (by decide) ?_
                    refine TL.pure (PV.assign rfl) rfl (by decide) ?_
                    refine TL.nil ?_
                    refine TQ.thenC ?_
                    refine TC.ret ?_
                    refine TQ.retE1 rfl rfl ?_
                    first | exact ⟨(), rfl, trivial, List.nil_sublist _⟩ | contradiction | (exfalso; omega) | (exfalso; obtain ⟨h7, h8, h9⟩ := hw1 (by omega); first | omega | (have h6 := h9 (by omega); first | omega | (rename_i hz; rw [if_pos (by omega)] at hz; omega))) | (exfalso; simp_all; done)
              · skip
                refine TL.skip rfl (fun k hk => by cases hk; decide) ?_
                refine TL.skip rfl (fun k hk => by cases hk; decide) ?_
                refine TL.skip rfl (fun k hk => by cases hk; decide) ?_
                refine TL.skipU rfl (fun k hk => by cases hk; decide) ?_
                refine TL.skipU rfl (fun k hk => by cases hk; decide) ?_
                refine TL.skipU rfl (fun k hk => by cases hk; decide) ?_
                refine TL.skip rfl (fun k hk => by cases hk; decide) ?_
                refine TL.pure (PV.pickF rfl rfl) rfl (by decide) ?_
                refine TL.pure (PV.pickF rfl rfl) rfl (by decide) ?_
                refine TL.pure (PV.move rfl) rfl (by decide) ?_
                refine TL.skip rfl (fun k hk => by cases hk; decide) ?_
                refine TL.pure (PV.pickF rfl rfl) rfl (by decide) ?_
                refine TL.pure (PV.assign rfl) rfl (by decide) ?_
                refine TL.nil ?_
                refine TQ.thenC ?_
                refine TC.ret ?_
                refine TQ.retE1 rfl rfl ?_
                first | exact ⟨(), rfl, trivial, List.nil_sublist _⟩ | contradiction | (exfalso; omega) | (exfalso; obtain ⟨h7, h8, h9⟩ := hw1 (by omega); first | omega | (have h6 := h9 (by omega); first | omega | (rename_i hz; rw [if_pos (by omega)] at hz; omega))) | (exfalso; simp_all; done)
            · skip
              refine TL.skip rfl (fun k hk => by cases hk; decide) ?_
              refine TL.skip rfl (fun k hk => by cases hk; decide) ?_
              refine TL.skip rfl (fun k hk => by cases hk; decide) ?_
              refine TL.pure (PV.pickF rfl rfl) rfl (by decide) ?_
              refine TL.pure (PV.move rfl) rfl (by decide) ?_
              refine TL.skip rfl (fun k hk => by cases hk; decide) ?_
              refine TL.skip rfl (fun k hk => by cases hk; decide) ?_
              refine TL.skip rfl (fun k hk => by cases hk; decide) ?_
              refine TL.skipU rfl (fun k hk => by cases hk; decide) ?_
              refine TL.skipU rfl (fun k hk => by cases hk; decide) ?_
              refine TL.skipU rfl (fun k hk => by cases hk; decide) ?_
              refine TL.skip rfl (fun k hk => by cases hk; decide) ?_
              refine TL.pure (PV.pickF rfl rfl) rfl (by decide) ?_
              refine TL.pure (PV.pickF rfl rfl) rfl (by decide) ?_
              refine TL.pure (PV.move rfl) rfl (by decide) ?_
              refine TL.skip rfl (fun k hk => by cases hk; decide) ?_
              refine TL.pure (PV.pickF rfl rfl) rfl (by decide) ?_
              refine TL.pure (PV.assign rfl) rfl (by decide) ?_
              refine TL.nil ?_
              refine TQ.thenC ?_
              refine TC.ret ?_
              refine TQ.retE1 rfl rfl ?_
              first | exact ⟨(), rfl, trivial, List.nil_sublist _⟩ | contradiction | (exfalso; omega) | (exfalso; obtain ⟨h7, h8, h9⟩ := hw1 (by omega); first | omega | (have h6 := h9 (by omega); first | omega | (rename_i hz; rw [if_pos (by omega)] at hz; omega))) | (exfalso; simp_all; done)

theorem cutProofs_all (W : World) (p : Option Addr) (cap : Nat) (ls : List (List Int)) (hr : LsAt W p ls) (hl2 : ls.length ≤ 9223372036854775807) (hcap : CapsAt W p ls) (pp : Option Addr) (cp : Nat) (ps : List Ps) (hp : RecsAt rP W pp ps) (pl : Option Addr) (cl : Nat) (xs : List Int) (hx : IntsAt W pl xs) :
    Calls Try.prog 14 #[bv p ls.length cap, .slice pp ps.length cp, .slice pl xs.length cl] W (Post (X := Unit) (fun _ => .bool true) (fun _ => True) (fun _ => []) W) := cutProofs_ok W p cap ls hr hl2 hcap pp cp ps hp pl cl xs hx

end Go.Proofs.Ytfgjojoipbbacaa
