/- There are dates or a round that proves a clash: the statement's own function. -/
import Derived.Test.YtenalmddoljhoaaVF
import Derived.Test.YtenalmddoljhoaaOp
set_option linter.unusedVariables false
set_option linter.unusedSimpArgs false
namespace Go.Proofs.Ytenalmddoljhoaa
open Go.Sx Go.RowKit

theorem dok_cl {n : Int} {rs : List Bd} (hv : Valid n rs) : dOk n rs = !clB n rs := by
  unfold dOk clB
  have hv' : validateI n rs = 0 := hv
  by_cases h : (lowN n.toNat rs n.toNat).last = -1 <;> simp [hv', h]
theorem valid_nat {n : Int} {rs : List Bd} (hv : Valid n rs) : Valid ((n.toNat : Nat) : Int) rs := by
  have := hv.pts
  rw [Int.toNat_of_nonneg (by omega)]
  exact hv
theorem low_check {n : Int} {rs : List Bd} (hd : dOk n rs = true) : checkI n rs (lowN n.toNat rs n.toNat).ds = 0 := by
  have hd' := of_decide_eq_true hd
  have hv : Valid n rs := hd'.1
  have hp := hv.pts
  have hl := hv.len
  have hN := valid_nat hv
  have lo := LOk.low (N := n.toNat) hv n.toNat
  have hdl := lo.dl
  have h1 : datesOk n (lowN n.toNat rs n.toNat).ds = true := datesOk_yes (by rw [hdl]; omega) fun j _ => by
    have a1 := low_range hN (by omega) hd'.2 j
    have a2 := (lo.bd j).2
    exact decide_eq_true (by omega)
  have h2 : vdI n rs (lowN n.toNat rs n.toNat).ds = 0 := vdI_ok (not_not_intro hv) h1
  refine checkI_ok (not_not_intro h2) (List.all_eq_true.2 fun r hr => ?_)
  obtain ⟨j, hj, rfl⟩ := List.getElem_of_mem hr
  have h3 := low_keeps hN (by omega) hd'.2 j hj
  have e : rs.getD j default = rs[j] := by simp [List.getD, hj]
  simp only [eA, eB, eM, e] at h3
  unfold keepB
  exact decide_eq_true (by omega)
theorem datesCk {w0 w : World} {G : Heap} {n : Int} {p : Option Addr} {cap : Nat} {rs : List Bd} {b : Nat} (hn : New w0 w G) (hm : ∀ y ∈ dBl n rs b, y ∈ G) (hr : BdsAt w p rs) (hd : dOk n rs = true) :
    Calls Try.prog 23 #[cv n p rs.length cap, dSl n rs b] w (Post (X := Unit) (fun _ => .int .i64 0) (fun _ => True) (fun _ => []) w) := by
  have hd' := of_decide_eq_true hd
  have hv : Valid n rs := hd'.1
  have hp := hv.pts
  have lo := LOk.low (N := n.toNat) hv n.toNat
  unfold dSl
  rw [if_pos hd]
  unfold dBl at hm
  rw [if_pos hd] at hm
  have h := check_ok w n p cap rs hr (some ⟨b, 0, none⟩) n.toNat n.toNat (lowN n.toNat rs n.toNat).ds lo.dl (IntsAt.arr hn (hm _ (.head _))) (by omega)
  rw [low_check hd] at h
  exact h
theorem clashCk {w0 w : World} {G : Heap} {n : Int} {p : Option Addr} {cap : Nat} {rs : List Bd} {x : HD × List Int} (hn : New w0 w G) (hm : ∀ y ∈ gbI x, y ∈ G) (hr : BdsAt w p rs) (hx : CO n rs x) (hc : clB n rs = true) :
    Calls Try.prog 26 #[cv n p rs.length cap, gvI x] w (Post (X := Unit) (fun _ => .int .i64 0) (fun _ => True) (fun _ => []) w) := by
  have hc' := of_decide_eq_true hc
  have hv : Valid n rs := hc'.1
  have h := clash_ok w n p cap rs hr (gp x.1) (gc x.1) x.2 (IntsAt.g hn hm hx.ok)
  rw [(hx.yes hc).clash hv, ← gval_eq hx.ok] at h
  exact h


set_option maxRecDepth 100000 in
set_option maxHeartbeats 2000000 in
theorem coreEither_ok (w0 : World) (n : Int) (p : Option Addr) (cap : Nat) (rs : List Bd) (hr : BdsAt w0 p rs) :
    Calls Try.prog 5 #[cv n p rs.length cap] w0 (Post (X := Unit) (fun _ => .bool true) (fun _ => True) (fun _ => []) w0) := by
  refine calls Try.func5 rfl (n := 56) rfl (by simp) ?_
  refine TC.seq ?_
  refine TC.region ?_
  refine TL.box rfl rfl (by decide) (fun b0 hb0 => ?_)
  refine TL.pure (PV.assign rfl) rfl (by decide) ?_
  refine TL.nil ?_
  refine TQ.thenC ?_
  refine TC.seq ?_
  refine TC.seq ?_
  refine TC.region ?_
  refine TL.pure (PV.loadBox rfl Tb.agg_24 (by repeat (first | exact List.Mem.head _ | refine List.Mem.tail _ ?_ | refine List.mem_append_right _ ?_)) rfl) rfl (by decide) ?_
  refine TL.call rfl Tb.gofn_17 (fun a w hs => long_ok w _ _ _ _ (hr.new hs.new)) rfl (by decide) (fun _ _ => ?_)
  refine TL.nil ?_
  refine TQ.thenC ?_
  first | refine TC.condD rfl (fun hlong => ?_) (fun hlong => ?_) | refine TC.cond rfl (fun hlong => ?_) (fun hlong => ?_)
  · skip
    refine TC.seq ?_
    refine TC.region ?_
    refine TL.call rfl Tb.gofn_18 (fun a w hs => knownOk w) rfl (by decide) (fun _ _ => ?_)
    refine TL.pure (PV.assign rfl) rfl (by decide) ?_
    refine TL.nil ?_
    refine TQ.thenC ?_
    refine TC.ret ?_
    refine TQ.thenR ?_
    refine TQ.retE1 rfl rfl ?_
    first | exact ⟨(), rfl, trivial, List.nil_sublist _⟩ | (exfalso; simp_all; done)
  · skip
    refine TC.skip ?_
    refine TQ.thenC ?_
    refine TC.seq ?_
    refine TC.region ?_
    refine TL.pure (PV.loadBox rfl Tb.agg_24 (by repeat (first | exact List.Mem.head _ | refine List.Mem.tail _ ?_ | refine List.mem_append_right _ ?_)) rfl) rfl (by decide) ?_
    refine TL.call rfl Tb.gofn_25 (fun a w hs => dates_ok w n p cap rs (hr.new hs.new)) rfl (by decide) (fun bD hbD => ?_)
    refine TL.pure (PV.move rfl) rfl (by decide) ?_
    refine TL.pure (PV.extract rfl rfl) rfl (by decide) ?_
    refine TL.pure (PV.extract rfl rfl) rfl (by decide) ?_
    refine TL.pure (PV.extract rfl rfl) rfl (by decide) ?_
    refine TL.pure (PV.assign rfl) rfl (by decide) ?_
    refine TL.pure (PV.assign rfl) rfl (by decide) ?_
    refine TL.pure (PV.assign rfl) rfl (by decide) ?_
    refine TL.nil ?_
    refine TQ.thenC ?_
    refine TC.seq ?_
    refine TC.region ?_
    refine TL.pure (PV.loadBox rfl Tb.agg_24 (by repeat (first | exact List.Mem.head _ | refine List.Mem.tail _ ?_ | refine List.mem_append_right _ ?_)) rfl) rfl (by decide) ?_
    refine TL.call rfl Tb.gofn_28 (fun a w hs => Clash_ok w n p cap rs (hr.new hs.new)) rfl (by decide) (fun xa hxa => ?_)
    refine TL.pure (PV.move rfl) rfl (by decide) ?_
    refine TL.pure (PV.extract rfl rfl) rfl (by decide) ?_
    refine TL.pure (PV.extract rfl rfl) rfl (by decide) ?_
    refine TL.pure (PV.extract rfl rfl) rfl (by decide) ?_
    refine TL.pure (PV.assign rfl) rfl (by decide) ?_
    refine TL.pure (PV.assign rfl) rfl (by decide) ?_
    refine TL.pure (PV.assign rfl) rfl (by decide) ?_
    refine TL.nil ?_
    refine TQ.thenC ?_
    refine TC.seq ?_
    refine TC.seq ?_
    refine TC.region ?_
    refine TL.pure (PV.move rfl) rfl (by decide) ?_
    refine TL.pure (PV.move rfl) rfl (by decide) ?_
    refine TL.pure (PV.neq rfl rfl) rfl (by decide) ?_
    refine TL.nil ?_
    refine TQ.thenC ?_
    first | refine TC.condD rfl (fun g0 => ?_) (fun g0 => ?_) | refine TC.cond rfl (fun g0 => ?_) (fun g0 => ?_)
    · skip
      exact (g0 rfl).elim
    · skip
      refine TC.skip ?_
      refine TQ.thenC ?_
      refine TC.seq ?_
      refine TC.seq ?_
      refine TC.region ?_
      refine TL.pure (PV.move rfl) rfl (by decide) ?_
      refine TL.pure (PV.neq rfl rfl) rfl (by decide) ?_
      refine TL.nil ?_
      refine TQ.thenC ?_
      first | refine TC.condD rfl (fun hbad => ?_) (fun hbad => ?_) | refine TC.cond rfl (fun hbad => ?_) (fun hbad => ?_)
      · skip
        refine TC.seq ?_
        refine TC.region ?_
        refine TL.call rfl Tb.gofn_18 (fun a w hs => knownOk w) rfl (by decide) (fun _ _ => ?_)
        refine TL.pure (PV.assign rfl) rfl (by decide) ?_
        refine TL.nil ?_
        refine TQ.thenC ?_
        refine TC.ret ?_
        refine TQ.thenR ?_
        refine TQ.retE1 rfl rfl ?_
        first | exact ⟨(), rfl, trivial, List.nil_sublist _⟩ | (exfalso; simp_all; done)
      · skip
        refine TC.skip ?_
        refine TQ.thenC ?_
        refine TC.seq ?_
        have hz : Valid n rs := vof hbad
        have hxx : dOk n rs = !clB n rs := dok_cl hz
        refine TC.region ?_
        refine TL.pure (PV.move rfl) rfl (by decide) ?_
        refine TL.pure (PV.move rfl) rfl (by decide) ?_
        refine TL.pure (PV.neqB rfl rfl Tb.bool_4) rfl (by decide) ?_
        refine TL.pure (PV.move rfl) rfl (by decide) ?_
        first | refine TL.splitD 33 rfl (fun g1 => ?_) (fun g1 => ?_) | refine TL.split 33 rfl (fun g1 => ?_) (fun g1 => ?_)
        · skip
          refine TL.pure (PV.move rfl) rfl (by decide) ?_
          refine TL.pure ((by first | exact PV.notD rfl | exact PV.not rfl)) rfl (by decide) ?_
          refine TL.pure (PV.move rfl) rfl (by decide) ?_
          first | refine TL.splitD 36 rfl (fun g2 => ?_) (fun g2 => ?_) | refine TL.split 36 rfl (fun g2 => ?_) (fun g2 => ?_)
          · skip
            refine TL.skip rfl (fun k hk => by cases hk; decide) ?_
            refine TL.skip rfl (fun k hk => by cases hk; decide) ?_
            try have hd : dOk n rs = true := by (simpa using g2)
            refine TL.skip rfl (fun k hk => by cases hk; decide) ?_
            refine TL.skip rfl (fun k hk => by cases hk; decide) ?_
            refine TL.pure (PV.pickT rfl rfl) rfl (by decide) ?_
            refine TL.pure (PV.pickT rfl rfl) rfl (by decide) ?_
            refine TL.pure (PV.move rfl) rfl (by decide) ?_
            refine TL.pure (PV.move rfl) rfl (by decide) ?_
            refine TL.pure ((by first | exact PV.notD rfl | exact PV.not rfl)) rfl (by decide) ?_
            refine TL.pure (PV.move rfl) rfl (by decide) ?_
            first | refine TL.splitD 46 rfl (fun g4 => ?_) (fun g4 => ?_) | refine TL.split 46 rfl (fun g4 => ?_) (fun g4 => ?_)
            · skip
              refine TL.skip rfl (fun k hk => by cases hk; decide) ?_
              refine TL.skip rfl (fun k hk => by cases hk; decide) ?_
              try have hcl : clB n rs = true := by (simpa using g4)
              refine TL.skip rfl (fun k hk => by cases hk; decide) ?_
              refine TL.skip rfl (fun k hk => by cases hk; decide) ?_
              refine TL.pure (PV.pickT rfl rfl) rfl (by decide) ?_
              refine TL.pure (PV.pickT rfl rfl) rfl (by decide) ?_
              refine TL.pure (PV.move rfl) rfl (by decide) ?_
              refine TL.call rfl Tb.gofn_18 (fun a w hs => knownOk w) rfl (by decide) (fun _ _ => ?_)
              refine TL.pure (PV.pickT rfl rfl) rfl (by decide) ?_
              refine TL.pure (PV.assign rfl) rfl (by decide) ?_
              refine TL.nil ?_
              refine TQ.thenC ?_
              refine TC.ret ?_
              refine TQ.retE1 rfl rfl ?_
              first | exact ⟨(), rfl, trivial, List.nil_sublist _⟩ | (exfalso; simp_all; done)
            · skip
              refine TL.pure (PV.loadBox rfl Tb.agg_24 (by repeat (first | exact List.Mem.head _ | refine List.Mem.tail _ ?_ | refine List.mem_append_right _ ?_)) rfl) rfl (by decide) ?_
              refine TL.pure (PV.move rfl) rfl (by decide) ?_
              try have hcl : clB n rs = true := by (simpa using g4)
              refine TL.call rfl Tb.gofn_26 (fun a w hs => clashCk hs.new (fun yy hyy => by repeat (first | exact List.mem_append_left _ hyy | refine List.mem_append_right _ ?_ | refine List.Mem.tail _ ?_)) (hr.new hs.new) hxa (by unfold clB; simp_all [Valid]; done)) rfl (by decide) (fun _ _ => ?_)
              refine TL.pure (PV.eql rfl rfl) rfl (by decide) ?_
              refine TL.pure (PV.pickF rfl rfl) rfl (by decide) ?_
              refine TL.pure (PV.pickT rfl rfl) rfl (by decide) ?_
              refine TL.pure (PV.move rfl) rfl (by decide) ?_
              first | refine TL.splitD 53 rfl (fun g5 => ?_) (fun g5 => ?_) | refine TL.split 53 rfl (fun g5 => ?_) (fun g5 => ?_)
              · skip
                refine TL.call rfl Tb.gofn_18 (fun a w hs => knownOk w) rfl (by decide) (fun _ _ => ?_)
                refine TL.pure (PV.pickT rfl rfl) rfl (by decide) ?_
                refine TL.pure (PV.assign rfl) rfl (by decide) ?_
                refine TL.nil ?_
                refine TQ.thenC ?_
                refine TC.ret ?_
                refine TQ.retE1 rfl rfl ?_
                first | exact ⟨(), rfl, trivial, List.nil_sublist _⟩ | (exfalso; simp_all; done)
              · skip
                exfalso; simp_all
          · skip
            refine TL.pure (PV.loadBox rfl Tb.agg_24 (by repeat (first | exact List.Mem.head _ | refine List.Mem.tail _ ?_ | refine List.mem_append_right _ ?_)) rfl) rfl (by decide) ?_
            refine TL.pure (PV.move rfl) rfl (by decide) ?_
            try have hd : dOk n rs = true := by (simpa using g2)
            refine TL.call rfl Tb.gofn_23 (fun a w hs => datesCk hs.new (fun yy hyy => by repeat (first | exact List.mem_append_left _ hyy | refine List.mem_append_right _ ?_ | refine List.Mem.tail _ ?_)) (hr.new hs.new) (by unfold dOk; simp_all [Valid]; done)) rfl (by decide) (fun _ _ => ?_)
            refine TL.pure (PV.eql rfl rfl) rfl (by decide) ?_
            refine TL.pure (PV.pickF rfl rfl) rfl (by decide) ?_
            refine TL.pure (PV.pickT rfl rfl) rfl (by decide) ?_
            refine TL.pure (PV.move rfl) rfl (by decide) ?_
            first | refine TL.splitD 43 rfl (fun g3 => ?_) (fun g3 => ?_) | refine TL.split 43 rfl (fun g3 => ?_) (fun g3 => ?_)
            · skip
              refine TL.pure (PV.move rfl) rfl (by decide) ?_
              refine TL.pure ((by first | exact PV.notD rfl | exact PV.not rfl)) rfl (by decide) ?_
              refine TL.pure (PV.move rfl) rfl (by decide) ?_
              first | refine TL.splitD 46 rfl (fun g4 => ?_) (fun g4 => ?_) | refine TL.split 46 rfl (fun g4 => ?_) (fun g4 => ?_)
              · skip
                refine TL.skip rfl (fun k hk => by cases hk; decide) ?_
                refine TL.skip rfl (fun k hk => by cases hk; decide) ?_
                try have hcl : clB n rs = true := by (simpa using g4)
                refine TL.skip rfl (fun k hk => by cases hk; decide) ?_
                refine TL.skip rfl (fun k hk => by cases hk; decide) ?_
                refine TL.pure (PV.pickT rfl rfl) rfl (by decide) ?_
                refine TL.pure (PV.pickT rfl rfl) rfl (by decide) ?_
                refine TL.pure (PV.move rfl) rfl (by decide) ?_
                refine TL.call rfl Tb.gofn_18 (fun a w hs => knownOk w) rfl (by decide) (fun _ _ => ?_)
                refine TL.pure (PV.pickT rfl rfl) rfl (by decide) ?_
                refine TL.pure (PV.assign rfl) rfl (by decide) ?_
                refine TL.nil ?_
                refine TQ.thenC ?_
                refine TC.ret ?_
                refine TQ.retE1 rfl rfl ?_
                first | exact ⟨(), rfl, trivial, List.nil_sublist _⟩ | (exfalso; simp_all; done)
              · skip
                refine TL.pure (PV.loadBox rfl Tb.agg_24 (by repeat (first | exact List.Mem.head _ | refine List.Mem.tail _ ?_ | refine List.mem_append_right _ ?_)) rfl) rfl (by decide) ?_
                refine TL.pure (PV.move rfl) rfl (by decide) ?_
                try have hcl : clB n rs = true := by (simpa using g4)
                refine TL.call rfl Tb.gofn_26 (fun a w hs => clashCk hs.new (fun yy hyy => by repeat (first | exact List.mem_append_left _ hyy | refine List.mem_append_right _ ?_ | refine List.Mem.tail _ ?_)) (hr.new hs.new) hxa (by unfold clB; simp_all [Valid]; done)) rfl (by decide) (fun _ _ => ?_)
                refine TL.pure (PV.eql rfl rfl) rfl (by decide) ?_
                refine TL.pure (PV.pickF rfl rfl) rfl (by decide) ?_
                refine TL.pure (PV.pickT rfl rfl) rfl (by decide) ?_
                refine TL.pure (PV.move rfl) rfl (by decide) ?_
                first | refine TL.splitD 53 rfl (fun g5 => ?_) (fun g5 => ?_) | refine TL.split 53 rfl (fun g5 => ?_) (fun g5 => ?_)
                · skip
                  refine TL.call rfl Tb.gofn_18 (fun a w hs => knownOk w) rfl (by decide) (fun _ _ => ?_)
                  refine TL.pure (PV.pickT rfl rfl) rfl (by decide) ?_
                  refine TL.pure (PV.assign rfl) rfl (by decide) ?_
                  refine TL.nil ?_
                  refine TQ.thenC ?_
                  refine TC.ret ?_
                  refine TQ.retE1 rfl rfl ?_
                  first | exact ⟨(), rfl, trivial, List.nil_sublist _⟩ | (exfalso; simp_all; done)
                · skip
                  exfalso; simp_all
            · skip
              exfalso; simp_all
        · skip
          exfalso; simp_all

theorem coreEither_all (W : World) (n : Int) (p : Option Addr) (cap : Nat) (rs : List Bd) (hr : BdsAt W p rs) (_ : rs.length ≤ cap) (_ : I64 n) :
    Calls Try.prog 5 #[cv n p rs.length cap] W (Post (X := Unit) (fun _ => .bool true) (fun _ => True) (fun _ => []) W) := coreEither_ok W n p cap rs hr

end Go.Proofs.Ytenalmddoljhoaa
