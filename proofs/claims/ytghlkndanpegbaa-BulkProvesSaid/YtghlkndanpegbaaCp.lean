/- The law of proofs: contract. -/
import Derived.Test.YtghlkndanpegbaaCm
set_option linter.unusedVariables false
set_option linter.unusedSimpArgs false
namespace Go.Proofs.Ytghlkndanpegbaa
open Go.Sx Go.RowKit Go.Sand Go.Tp

theorem prv_len {t : Td} {y : (HD × List Int) × (HD × List Int)} (h : if validI t ≠ 0 then y.1.2 = [] ∧ y.2.2 = [] else ∃ m, VP t m ∧ GdP t.s.length t.d.length (getM t.c) (getM m) y.1.2 y.2.2) : y.1.2.length ≤ 1000000 ∧ y.2.2.length ≤ 1000000 := by
  by_cases hv : validI t ≠ 0
  · rw [if_pos hv] at h
    rw [h.1, h.2]
    exact ⟨Nat.zero_le _, Nat.zero_le _⟩
  · rw [if_neg hv] at h
    obtain ⟨m, h1, h2⟩ := h
    have h3 := h1.ns
    have h4 := h1.nd
    rw [h2.lu, h2.lv]
    omega


set_option maxRecDepth 100000 in
set_option maxHeartbeats 4000000 in
theorem bulkProves_ok (w0 : World) (vt : Value) (t : Td) (ht : IsT w0 vt t) (hlc : t.c.length ≤ 9223372036854775807) :
    Calls Try.prog 9 #[vt] w0 (Post (X := Unit) (fun _ => .bool true) (fun _ => True) (fun _ => []) w0) := by
  obtain ⟨p1, c1, p2, c2, p3, c3, rfl, t1, t2, t3⟩ := ht
  refine calls Try.func9 rfl (n := 56) rfl (by simp) ?_
  refine TC.seq ?_
  refine TC.region ?_
  refine TL.box rfl rfl (by decide) (fun b0 hb0 => ?_)
  refine TL.pure (PV.assign rfl) rfl (by decide) ?_
  refine TL.nil ?_
  refine TQ.thenC ?_
  refine TC.seq ?_
  refine TC.seq ?_
  refine TC.region ?_
  refine TL.pure (PV.loadBox rfl Tb.agg_25 (by repeat (first | exact List.Mem.head _ | refine List.Mem.tail _ ?_ | refine List.mem_append_right _ ?_)) rfl) rfl (by decide) ?_
  refine TL.call rfl Tb.gofn_17 (fun a w hs => long_ok w _ t (IsT.mk (t1.new hs.new) (t2.new hs.new) (t3.new hs.new)) hlc none 0 [] (LsG.nil w) len0 (by decide)) rfl (by decide) (fun _ _ => ?_)
  refine TL.nil ?_
  refine TQ.thenC ?_
  first | refine TC.condD rfl (fun hlg => ?_) (fun hlg => ?_) | refine TC.cond rfl (fun hlg => ?_) (fun hlg => ?_)
  · skip
    refine TC.seq ?_
    refine TC.region ?_
    refine TL.call rfl Tb.gofn_18 (fun a w hs => sane_ok w) rfl (by decide) (fun _ _ => ?_)
    refine TL.pure (PV.assign rfl) rfl (by decide) ?_
    refine TL.nil ?_
    refine TQ.thenC ?_
    refine TC.ret ?_
    refine TQ.thenR ?_
    refine TQ.retE1 rfl rfl ?_
    first | exact ⟨(), rfl, trivial, List.nil_sublist _⟩ | (exfalso; simp_all; done) | (exfalso; simp_all; omega) | exact ⟨(), by simp, trivial, List.nil_sublist _⟩
  · skip
    refine TC.skip ?_
    refine TQ.thenC ?_
    refine TC.seq ?_
    have hT := (lgT_0 hlg).1
    refine TC.region ?_
    refine TL.pure (PV.loadBox rfl Tb.agg_25 (by repeat (first | exact List.Mem.head _ | refine List.Mem.tail _ ?_ | refine List.mem_append_right _ ?_)) rfl) rfl (by decide) ?_
    refine TL.call rfl Tb.gofn_39 (fun a w hs => Prove_ok w _ t (IsT.mk (t1.new hs.new) (t2.new hs.new) (t3.new hs.new)) hT) rfl (by decide) (fun y9 hy9 => ?_)
    refine TL.pure (PV.move rfl) rfl (by decide) ?_
    refine TL.pure (PV.extract rfl rfl) rfl (by decide) ?_
    refine TL.pure (PV.extract rfl rfl) rfl (by decide) ?_
    refine TL.alloc Tb.zero_43 rfl (by decide) (fun bq hbq => ?_)
    refine TL.storeAgg (vs := [gval y9.1.1 y9.1.2.length, gval y9.2.1 y9.2.2.length]) rfl rfl Tb.cells_43 (by repeat (first | exact Upd.head _ | apply Upd.tail | apply Upd.appR)) rfl rfl (gv2_one _ _ _ _) rfl rfl ?_
    refine TL.pure (PV.assign rfl) rfl (by decide) ?_
    refine TL.nil ?_
    refine TQ.thenC ?_
    refine TC.seq ?_
    refine TC.region ?_
    refine TL.pure (PV.loadBox rfl Tb.agg_25 (by repeat (first | exact List.Mem.head _ | refine List.Mem.tail _ ?_ | refine List.mem_append_right _ ?_)) rfl) rfl (by decide) ?_
    refine TL.call rfl Tb.gofn_29 (fun a w hs => rLeast_ok w _ t (IsT.mk (t1.new hs.new) (t2.new hs.new) (t3.new hs.new)) hT) rfl (by decide) (fun _ _ => ?_)
    rw [lst_2 t]
    refine TL.pure (PV.move rfl) rfl (by decide) ?_
    refine TL.pure (PV.extract rfl rfl) rfl (by decide) ?_
    refine TL.pure (PV.extract rfl rfl) rfl (by decide) ?_
    refine TL.pure (PV.assign rfl) rfl (by decide) ?_
    refine TL.pure (PV.assign rfl) rfl (by decide) ?_
    refine TL.nil ?_
    refine TQ.thenC ?_
    refine TC.seq ?_
    refine TC.seq ?_
    refine TC.region ?_
    refine TL.pure (PV.move rfl) rfl (by decide) ?_
    refine TL.pure (PV.move rfl) rfl (by decide) ?_
    refine TL.pure (PV.neq rfl rfl) rfl (by decide) ?_
    refine TL.nil ?_
    refine TQ.thenC ?_
    first | refine TC.condD rfl (fun e0 => ?_) (fun e0 => ?_) | refine TC.cond rfl (fun e0 => ?_) (fun e0 => ?_)
    · skip
      refine TC.seq ?_
      refine TC.region ?_
      refine TL.pure (PV.assign rfl) rfl (by decide) ?_
      refine TL.nil ?_
      refine TQ.thenC ?_
      refine TC.ret ?_
      refine TQ.thenR ?_
      refine TQ.retE1 rfl rfl ?_
      first | exact ⟨(), rfl, trivial, List.nil_sublist _⟩ | (exfalso; simp_all; done) | (exfalso; simp_all; omega) | exact ⟨(), by simp, trivial, List.nil_sublist _⟩
    · skip
      refine TC.skip ?_
      refine TQ.thenC ?_
      refine TC.seq ?_
      refine TC.seq ?_
      refine TC.region ?_
      refine TL.pure (PV.move rfl) rfl (by decide) ?_
      refine TL.pure (PV.neq rfl rfl) rfl (by decide) ?_
      refine TL.nil ?_
      refine TQ.thenC ?_
      first | refine TC.condD rfl (fun e1 => ?_) (fun e1 => ?_) | refine TC.cond rfl (fun e1 => ?_) (fun e1 => ?_)
      · skip
        refine TC.seq ?_
        have hyn : y9.1.2 = [] ∧ y9.2.2 = [] := by have h := hy9.2.2; rwa [if_pos e1] at h
        have hl1 : y9.1.2.length = 0 := by rw [hyn.1]; rfl
        have hl2 : y9.2.2.length = 0 := by rw [hyn.2]; rfl
        refine TC.region ?_
        refine TL.pure (PV.fieldAddr rfl Tb.fo_43_0) rfl (by decide) ?_
        refine TL.pure (PV.load rfl Tb.one_22 (by repeat (first | exact List.Mem.head _ | refine List.Mem.tail _ ?_ | refine List.mem_append_right _ ?_)) rfl) rfl (by decide) ?_
        refine TL.pure (PV.lenG rfl hy9.1 Tb.sl_22) rfl (by decide) ?_
        refine TL.pure (PV.eql rfl rfl) rfl (by decide) ?_
        refine TL.pure (PV.move rfl) rfl (by decide) ?_
        first | refine TL.splitD 31 rfl (fun e2 => ?_) (fun e2 => ?_) | refine TL.split 31 rfl (fun e2 => ?_) (fun e2 => ?_)
        · skip
          refine TL.pure (PV.fieldAddr rfl Tb.fo_43_1) rfl (by decide) ?_
          refine TL.pure (PV.load rfl Tb.one_22 (by repeat (first | exact List.Mem.head _ | refine List.Mem.tail _ ?_ | refine List.mem_append_right _ ?_)) rfl) rfl (by decide) ?_
          refine TL.pure (PV.lenG rfl hy9.2.1 Tb.sl_22) rfl (by decide) ?_
          refine TL.pure (PV.eql rfl rfl) rfl (by decide) ?_
          refine TL.pure (PV.pickT rfl rfl) rfl (by decide) ?_
          refine TL.pure (PV.move rfl) rfl (by decide) ?_
          first | refine TL.splitD 37 rfl (fun e3 => ?_) (fun e3 => ?_) | refine TL.split 37 rfl (fun e3 => ?_) (fun e3 => ?_)
          · skip
            refine TL.call rfl Tb.gofn_18 (fun a w hs => sane_ok w) rfl (by decide) (fun _ _ => ?_)
            refine TL.pure (PV.pickT rfl rfl) rfl (by decide) ?_
            refine TL.pure (PV.assign rfl) rfl (by decide) ?_
            refine TL.nil ?_
            refine TQ.thenC ?_
            refine TC.ret ?_
            refine TQ.thenR ?_
            refine TQ.retE1 rfl rfl ?_
            first | exact ⟨(), rfl, trivial, List.nil_sublist _⟩ | (exfalso; simp_all; done) | (exfalso; simp_all; omega) | exact ⟨(), by simp, trivial, List.nil_sublist _⟩
          · skip
            refine TL.skip rfl (fun k hk => by cases hk; decide) ?_
            refine TL.pure (PV.pickF rfl rfl) rfl (by decide) ?_
            refine TL.pure (PV.assign rfl) rfl (by decide) ?_
            refine TL.nil ?_
            refine TQ.thenC ?_
            refine TC.ret ?_
            refine TQ.thenR ?_
            refine TQ.retE1 rfl rfl ?_
            first | exact ⟨(), rfl, trivial, List.nil_sublist _⟩ | (exfalso; simp_all; done) | (exfalso; simp_all; omega) | exact ⟨(), by simp, trivial, List.nil_sublist _⟩
        · skip
          refine TL.skip rfl (fun k hk => by cases hk; decide) ?_
          refine TL.skip rfl (fun k hk => by cases hk; decide) ?_
          refine TL.skip rfl (fun k hk => by cases hk; decide) ?_
          refine TL.skip rfl (fun k hk => by cases hk; decide) ?_
          refine TL.pure (PV.pickF rfl rfl) rfl (by decide) ?_
          refine TL.pure (PV.move rfl) rfl (by decide) ?_
          refine TL.skip rfl (fun k hk => by cases hk; decide) ?_
          refine TL.pure (PV.pickF rfl rfl) rfl (by decide) ?_
          refine TL.pure (PV.assign rfl) rfl (by decide) ?_
          refine TL.nil ?_
          refine TQ.thenC ?_
          refine TC.ret ?_
          refine TQ.thenR ?_
          refine TQ.retE1 rfl rfl ?_
          first | exact ⟨(), rfl, trivial, List.nil_sublist _⟩ | (exfalso; simp_all; done) | (exfalso; simp_all; omega) | exact ⟨(), by simp, trivial, List.nil_sublist _⟩
      · skip
        refine TC.skip ?_
        refine TQ.thenC ?_
        refine TC.seq ?_
        obtain ⟨m9, hm9, hp9⟩ : ∃ m, VP t m ∧ GdP t.s.length t.d.length (getM t.c) (getM m) y9.1.2 y9.2.2 := by have h := hy9.2.2; rwa [if_neg e1] at h
        have hpw := prv_w hm9 hp9
        have el : (lstR t).1 = mnI t := by unfold lstR; rw [if_neg e1]
        rw [el]
        refine TC.region ?_
        refine TL.pure (PV.loadBox rfl Tb.agg_25 (by repeat (first | exact List.Mem.head _ | refine List.Mem.tail _ ?_ | refine List.mem_append_right _ ?_)) rfl) rfl (by decide) ?_
        refine TL.pure (PV.loadBox (cs := [gval y9.1.1 y9.1.2.length, gval y9.2.1 y9.2.2.length]) rfl Tb.agg_43 (by repeat (first | exact List.Mem.head _ | refine List.Mem.tail _ ?_ | refine List.mem_append_right _ ?_)) rfl) rfl (by decide) ?_
        refine TL.call rfl Tb.gofn_36 (fun a w hs => rWorth_ok w _ t (IsT.mk (t1.new hs.new) (t2.new hs.new) (t3.new hs.new)) hT _ _ _ (IsP.g hs.new y9.1 y9.2 hy9.1 hy9.2.1 (fun yy hyy => by repeat (first | exact List.mem_append_left _ hyy | exact List.mem_append_left _ (List.mem_append_right _ hyy) | exact List.mem_append_left _ (List.mem_append_left _ hyy) | refine List.mem_append_right _ ?_ | refine List.Mem.tail _ ?_))) (prv_len hy9.2.2).1 (prv_len hy9.2.2).2) rfl (by decide) (fun _ _ => ?_)
        rw [hpw]
        refine TL.pure (PV.move rfl) rfl (by decide) ?_
        refine TL.pure (PV.extract rfl rfl) rfl (by decide) ?_
        refine TL.pure (PV.extract rfl rfl) rfl (by decide) ?_
        refine TL.pure (PV.assign rfl) rfl (by decide) ?_
        refine TL.pure (PV.assign rfl) rfl (by decide) ?_
        refine TL.nil ?_
        refine TQ.thenC ?_
        refine TC.seq ?_
        refine TC.region ?_
        refine TL.pure (PV.move rfl) rfl (by decide) ?_
        refine TL.pure (PV.eql rfl rfl) rfl (by decide) ?_
        refine TL.pure (PV.move rfl) rfl (by decide) ?_
        first | refine TL.splitD 48 rfl (fun e4 => ?_) (fun e4 => ?_) | refine TL.split 48 rfl (fun e4 => ?_) (fun e4 => ?_)
        · skip
          refine TL.pure (PV.move rfl) rfl (by decide) ?_
          refine TL.pure (PV.move rfl) rfl (by decide) ?_
          refine TL.pure (PV.eql rfl rfl) rfl (by decide) ?_
          refine TL.pure (PV.pickT rfl rfl) rfl (by decide) ?_
          refine TL.pure (PV.move rfl) rfl (by decide) ?_
          first | refine TL.splitD 53 rfl (fun e5 => ?_) (fun e5 => ?_) | refine TL.split 53 rfl (fun e5 => ?_) (fun e5 => ?_)
          · skip
            refine TL.call rfl Tb.gofn_18 (fun a w hs => sane_ok w) rfl (by decide) (fun _ _ => ?_)
            refine TL.pure (PV.pickT rfl rfl) rfl (by decide) ?_
            refine TL.pure (PV.assign rfl) rfl (by decide) ?_
            refine TL.nil ?_
            refine TQ.thenC ?_
            refine TC.ret ?_
            refine TQ.retE1 rfl rfl ?_
            first | exact ⟨(), rfl, trivial, List.nil_sublist _⟩ | (exfalso; simp_all; done) | (exfalso; simp_all; omega) | exact ⟨(), by simp, trivial, List.nil_sublist _⟩
          · skip
            refine TL.skip rfl (fun k hk => by cases hk; decide) ?_
            refine TL.pure (PV.pickF rfl rfl) rfl (by decide) ?_
            refine TL.pure (PV.assign rfl) rfl (by decide) ?_
            refine TL.nil ?_
            refine TQ.thenC ?_
            refine TC.ret ?_
            refine TQ.retE1 rfl rfl ?_
            first | exact ⟨(), rfl, trivial, List.nil_sublist _⟩ | (exfalso; simp_all; done) | (exfalso; simp_all; omega) | exact ⟨(), by simp, trivial, List.nil_sublist _⟩
        · skip
          refine TL.skip rfl (fun k hk => by cases hk; decide) ?_
          refine TL.skip rfl (fun k hk => by cases hk; decide) ?_
          refine TL.skip rfl (fun k hk => by cases hk; decide) ?_
          refine TL.pure (PV.pickF rfl rfl) rfl (by decide) ?_
          refine TL.pure (PV.move rfl) rfl (by decide) ?_
          refine TL.skip rfl (fun k hk => by cases hk; decide) ?_
          refine TL.pure (PV.pickF rfl rfl) rfl (by decide) ?_
          refine TL.pure (PV.assign rfl) rfl (by decide) ?_
          refine TL.nil ?_
          refine TQ.thenC ?_
          refine TC.ret ?_
          refine TQ.retE1 rfl rfl ?_
          first | exact ⟨(), rfl, trivial, List.nil_sublist _⟩ | (exfalso; simp_all; done) | (exfalso; simp_all; omega) | exact ⟨(), by simp, trivial, List.nil_sublist _⟩

end Go.Proofs.Ytghlkndanpegbaa
