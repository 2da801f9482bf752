/- The best hollows: the law's contract. -/
import Derived.Test.YtfgjojoipbbacaaDG
set_option linter.unusedVariables false
set_option linter.unusedSimpArgs false
namespace Go.Proofs.Ytfgjojoipbbacaa
open Go.Sx Go.RowKit

theorem lie_no {xs ys : List Int} {k : Nat} (hk : k < xs.length) (h : ¬ xs.getD k 0 ≤ ys.getD k 0) : lieB xs ys = false := decide_eq_false fun h2 => h (h2.2 k hk)
theorem lie_len {xs ys : List Int} (h : ¬ xs.length = ys.length) : lieB xs ys = false := decide_eq_false fun h2 => h h2.1
theorem lie_yes {xs ys : List Int} (h : xs.length = ys.length) (h2 : ∀ c, c < xs.length → xs.getD c 0 ≤ ys.getD c 0) : lieB xs ys = true := decide_eq_true ⟨h, h2⟩


set_option maxRecDepth 100000 in
set_option maxHeartbeats 1000000 in
theorem liesIn_ok (w0 : World) (pl : Option Addr) (cl : Nat) (xs : List Int) (hx : IntsAt w0 pl xs) (p2 : Option Addr) (c2 : Nat) (ys : List Int) (hy : IntsAt w0 p2 ys) (N M : Nat) (hN : xs.length = N) (hM : ys.length = M) (hl : N ≤ 1000000) (hl2 : M ≤ 1000000) :
    Calls Try.prog 30 #[.slice pl N cl, .slice p2 M c2] w0 (Post (X := Unit) (fun _ => .bool (lieB xs ys)) (fun _ => True) (fun _ => []) w0) := by
  refine calls Try.func30 rfl (n := 32) rfl (by simp) ?_
  refine TC.seq ?_
  refine TC.region ?_
  refine TL.pure (PV.assign rfl) rfl (by decide) ?_
  refine TL.nil ?_
  refine TQ.thenC ?_
  refine TC.seq ?_
  refine TC.seq ?_
  refine TC.region ?_
  refine TL.pure (PV.assign rfl) rfl (by decide) ?_
  refine TL.nil ?_
  refine TQ.thenC ?_
  refine TC.block ?_
  -- live and written in the loop, not told: [4]
  refine TC.loopG [0, 1] (X := Nat) (fun k => k ≤ N ∧ ∀ j, j < k → xs.getD j 0 ≤ ys.getD j 0) (fun k => [(5, .int .i64 k)]) (fun k => N - k) 0 ⟨Nat.zero_le _, fun j hj => absurd hj (Nat.not_lt_zero _)⟩ (by repeat (first | exact True.intro | refine And.intro rfl ?_)) ?_
  intro k hk
  refine TC.seq ?_
  refine TC.seq ?_
  refine TC.region ?_
  refine TL.pure (PV.move rfl) rfl (by decide) ?_
  refine TL.pure (PV.move rfl) rfl (by decide) ?_
  refine TL.pure (PV.len rfl Tb.sl_25) rfl (by decide) ?_
  refine TL.pure (PV.lss rfl rfl) rfl (by decide) ?_
  refine TL.pure (PV.move rfl) rfl (by decide) ?_
  first | refine TL.splitD 10 rfl (fun g1 => ?_) (fun g1 => ?_) | refine TL.split 10 rfl (fun g1 => ?_) (fun g1 => ?_)
  · skip
    refine TL.pure (PV.move rfl) rfl (by decide) ?_
    refine TL.pure (PV.move rfl) rfl (by decide) ?_
    refine TL.pure (PV.len rfl Tb.sl_25) rfl (by decide) ?_
    refine TL.pure (PV.lss rfl rfl) rfl (by decide) ?_
    refine TL.pure (PV.pickT rfl rfl) rfl (by decide) ?_
    refine TL.nil ?_
    refine TQ.thenC ?_
    first | refine TC.condD rfl (fun hlt => ?_) (fun hlt => ?_) | refine TC.cond rfl (fun hlt => ?_) (fun hlt => ?_)
    · skip
      refine TC.skip ?_
      refine TQ.thenC ?_
      refine TC.seq ?_
      refine TC.block ?_
      refine TC.seq ?_
      obtain ⟨q2, hq2p, hq2⟩ := hx k (by omega)
      obtain ⟨q3, hq3p, hq3⟩ := hy k (by omega)
      refine TC.any Tb.mixed rfl rfl ?_
      refine TA.op (OpOK.pure (PV.move rfl) rfl (by decide)) (by decide) ?_
      refine TA.op (OpOK.pure (PV.move rfl) rfl (by decide)) (by decide) ?_
      refine TA.op (OpOK.pure (PV.indexA rfl hq2p rfl Tb.elm_25 rfl (by omega)) rfl (by decide)) (by decide) ?_
      refine TA.op (OpOK.pure (PV.loadOld rfl Tb.one_3 hq2) rfl (by decide)) (by decide) ?_
      refine TA.op (OpOK.pure (PV.move rfl) rfl (by decide)) (by decide) ?_
      refine TA.op (OpOK.pure (PV.move rfl) rfl (by decide)) (by decide) ?_
      refine TA.op (OpOK.pure (PV.indexA rfl hq3p rfl Tb.elm_25 rfl (by omega)) rfl (by decide)) (by decide) ?_
      refine TA.op (OpOK.pure (PV.loadOld rfl Tb.one_3 hq3) rfl (by decide)) (by decide) ?_
      refine TA.op (OpOK.pure (PV.gtr rfl rfl) rfl (by decide)) (by decide) ?_
      show TQ _ _ _ _ _
      refine TQ.thenC ?_
      first | refine TC.condD rfl (fun hgt => ?_) (fun hgt => ?_) | refine TC.cond rfl (fun hgt => ?_) (fun hgt => ?_)
      · skip
        refine TC.seq ?_
        refine TC.region ?_
        refine TL.pure (PV.assign rfl) rfl (by decide) ?_
        refine TL.nil ?_
        refine TQ.thenC ?_
        refine TC.ret ?_
        refine TQ.blkR ?_
        refine TQ.thenR ?_
        refine TQ.thenR ?_
        refine TQ.blkR ?_
        refine TQ.thenR ?_
        refine TQ.retE1 rfl rfl ?_
        first | exact ⟨(), by rw [lie_no (k := k) (by omega) (by omega)], trivial, List.nil_sublist _⟩ | (by_cases e9 : xs.length = ys.length; exact ⟨(), by rw [lie_yes e9 (fun j hj => hk.2 j (by omega))]; simp; omega, trivial, List.nil_sublist _⟩; exact ⟨(), by rw [lie_len e9]; simp; omega, trivial, List.nil_sublist _⟩)
      · skip
        refine TC.skip ?_
        refine TQ.blkN ?_
        refine TQ.thenC ?_
        refine TC.region ?_
        refine TL.pure (PV.move rfl) rfl (by decide) ?_
        refine TL.pure (PV.add rfl rfl (by omega)) rfl (by decide) ?_
        refine TL.pure (PV.assign rfl) rfl (by decide) ?_
        refine TL.nil ?_
        refine TQ.thenN ?_
        refine TQ.backK (k + 1) (by repeat (first | exact True.intro | refine And.intro rfl ?_)) (by repeat (first | exact True.intro | refine And.intro rfl ?_)) (by repeat (first | exact List.Sublist.slnil | exact List.nil_sublist _ | exact List.Sublist.refl _ | refine List.Sublist.cons_cons _ ?_ | refine List.Sublist.cons _ ?_ | refine List.Sublist.trans ?_ (List.sublist_append_right _ _))) ⟨by omega, fun j hj => if e : j < k then hk.2 j e else (show k = j by omega) ▸ (by omega)⟩ (by omega)
    · skip
      refine TC.exit ?_
      refine TQ.thenE ?_
      refine TQ.thenE ?_
      refine TQ.blkS ?_
      refine TQ.thenC ?_
      refine TC.seq ?_
      refine TC.region ?_
      refine TL.pure (PV.move rfl) rfl (by decide) ?_
      refine TL.pure (PV.len rfl Tb.sl_25) rfl (by decide) ?_
      refine TL.pure (PV.move rfl) rfl (by decide) ?_
      refine TL.pure (PV.len rfl Tb.sl_25) rfl (by decide) ?_
      refine TL.pure (PV.eql rfl rfl) rfl (by decide) ?_
      refine TL.pure (PV.assign rfl) rfl (by decide) ?_
      refine TL.nil ?_
      refine TQ.thenC ?_
      refine TC.ret ?_
      refine TQ.retE1 rfl rfl ?_
      first | exact ⟨(), by rw [lie_no (k := k) (by omega) (by omega)], trivial, List.nil_sublist _⟩ | (by_cases e9 : xs.length = ys.length; exact ⟨(), by rw [lie_yes e9 (fun j hj => hk.2 j (by omega))]; simp; omega, trivial, List.nil_sublist _⟩; exact ⟨(), by rw [lie_len e9]; simp; omega, trivial, List.nil_sublist _⟩)
  · skip
    refine TL.skip rfl (fun k hk => by cases hk; decide) ?_
    refine TL.skip rfl (fun k hk => by cases hk; decide) ?_
    refine TL.skip rfl (fun k hk => by cases hk; decide) ?_
    refine TL.skip rfl (fun k hk => by cases hk; decide) ?_
    refine TL.pure (PV.pickF rfl rfl) rfl (by decide) ?_
    refine TL.nil ?_
    refine TQ.thenC ?_
    refine TC.condF rfl ?_
    refine TC.exit ?_
    refine TQ.thenE ?_
    refine TQ.thenE ?_
    refine TQ.blkS ?_
    refine TQ.thenC ?_
    refine TC.seq ?_
    refine TC.region ?_
    refine TL.pure (PV.move rfl) rfl (by decide) ?_
    refine TL.pure (PV.len rfl Tb.sl_25) rfl (by decide) ?_
    refine TL.pure (PV.move rfl) rfl (by decide) ?_
    refine TL.pure (PV.len rfl Tb.sl_25) rfl (by decide) ?_
    refine TL.pure (PV.eql rfl rfl) rfl (by decide) ?_
    refine TL.pure (PV.assign rfl) rfl (by decide) ?_
    refine TL.nil ?_
    refine TQ.thenC ?_
    refine TC.ret ?_
    refine TQ.retE1 rfl rfl ?_
    first | exact ⟨(), by rw [lie_no (k := k) (by omega) (by omega)], trivial, List.nil_sublist _⟩ | (by_cases e9 : xs.length = ys.length; exact ⟨(), by rw [lie_yes e9 (fun j hj => hk.2 j (by omega))]; simp; omega, trivial, List.nil_sublist _⟩; exact ⟨(), by rw [lie_len e9]; simp; omega, trivial, List.nil_sublist _⟩)

set_option maxRecDepth 100000 in
set_option maxHeartbeats 2000000 in
theorem cutBests_ok (w0 : World) (p : Option Addr) (cap : Nat) (ls : List (List Int)) (hr : LsAt w0 p ls) (hl2 : ls.length ≤ 9223372036854775807) (hcap : CapsAt w0 p ls) :
    Calls Try.prog 4 #[bv p ls.length cap] w0 (Post (X := Unit) (fun _ => .bool true) (fun _ => True) (fun _ => []) w0) := by
  refine calls Try.func4 rfl (n := 83) rfl (by simp) ?_
  refine TC.seq ?_
  refine TC.region ?_
  refine TL.box rfl rfl (by decide) (fun b0 hb0 => ?_)
  refine TL.pure (PV.assign rfl) rfl (by decide) ?_
  refine TL.nil ?_
  refine TQ.thenC ?_
  refine TC.seq ?_
  refine TC.seq ?_
  refine TC.region ?_
  refine TL.pure (PV.loadBox rfl Tb.agg_24 (by repeat (first | exact List.Mem.head _ | refine List.Mem.tail _ ?_ | refine List.mem_append_right _ ?_)) rfl) rfl (by decide) ?_
  refine TL.call rfl Tb.gofn_17 (fun a w hs => long_ok w _ _ _ (hr.new hs.new) _ 0 [] (fun j hj => absurd hj (Nat.not_lt_zero _)) (by decide) hl2) rfl (by decide) (fun _ _ => ?_)
  refine TL.nil ?_
  refine TQ.thenC ?_
  first | refine TC.condD rfl (fun hlong => ?_) (fun hlong => ?_) | refine TC.cond rfl (fun hlong => ?_) (fun hlong => ?_)
  · skip
    refine TC.seq ?_
    refine TC.region ?_
    refine TL.call rfl Tb.gofn_18 (fun a w hs => sane_ok w) rfl (by decide) (fun _ _ => ?_)
    refine TL.pure (PV.assign rfl) rfl (by decide) ?_
    refine TL.nil ?_
    refine TQ.thenC ?_
    refine TC.ret ?_
    refine TQ.thenR ?_
    refine TQ.retE1 rfl rfl ?_
    first | exact ⟨(), rfl, trivial, List.nil_sublist _⟩ | (exfalso; have k7 := of_decide_eq_true k6; contradiction) | (exfalso; simp_all; done)
  · skip
    refine TC.skip ?_
    refine TQ.thenC ?_
    refine TC.seq ?_
    refine TC.region ?_
    refine TL.pure (PV.loadBox rfl Tb.agg_24 (by repeat (first | exact List.Mem.head _ | refine List.Mem.tail _ ?_ | refine List.mem_append_right _ ?_)) rfl) rfl (by decide) ?_
    refine TL.call rfl Tb.gofn_25 (fun a w hs => best_ok w _ _ _ (hr.new hs.new)) rfl (by decide) (fun a9 ha9 => ?_)
    refine TL.pure (PV.move rfl) rfl (by decide) ?_
    refine TL.pure (PV.extract rfl rfl) rfl (by decide) ?_
    refine TL.pure (PV.extract rfl rfl) rfl (by decide) ?_
    refine TL.pure (PV.extract rfl rfl) rfl (by decide) ?_
    refine TL.pure (PV.assign rfl) rfl (by decide) ?_
    refine TL.pure (PV.assign rfl) rfl (by decide) ?_
    refine TL.pure (PV.assign rfl) rfl (by decide) ?_
    refine TL.nil ?_
    refine TQ.thenC ?_
    refine TC.seq ?_
    refine TC.region ?_
    refine TL.pure (PV.loadBox rfl Tb.agg_24 (by repeat (first | exact List.Mem.head _ | refine List.Mem.tail _ ?_ | refine List.mem_append_right _ ?_)) rfl) rfl (by decide) ?_
    refine TL.call rfl Tb.gofn_26 (fun a w hs => rBest_ok w _ _ _ (hr.new hs.new)) rfl (by decide) (fun b9 hb9 => ?_)
    refine TL.pure (PV.move rfl) rfl (by decide) ?_
    refine TL.pure (PV.extract rfl rfl) rfl (by decide) ?_
    refine TL.pure (PV.extract rfl rfl) rfl (by decide) ?_
    refine TL.pure (PV.extract rfl rfl) rfl (by decide) ?_
    refine TL.pure (PV.assign rfl) rfl (by decide) ?_
    refine TL.pure (PV.assign rfl) rfl (by decide) ?_
    refine TL.pure (PV.assign rfl) rfl (by decide) ?_
    refine TL.nil ?_
    refine TQ.thenC ?_
    refine TC.seq ?_
    refine TC.region ?_
    refine TL.pure (PV.loadBox rfl Tb.agg_24 (by repeat (first | exact List.Mem.head _ | refine List.Mem.tail _ ?_ | refine List.mem_append_right _ ?_)) rfl) rfl (by decide) ?_
    refine TL.call rfl Tb.gofn_27 (fun a w hs => deepest_ok w _ _ _ (hr.new hs.new)) rfl (by decide) (fun c9 hc9 => ?_)
    refine TL.pure (PV.move rfl) rfl (by decide) ?_
    refine TL.pure (PV.extract rfl rfl) rfl (by decide) ?_
    refine TL.pure (PV.extract rfl rfl) rfl (by decide) ?_
    refine TL.pure (PV.extract rfl rfl) rfl (by decide) ?_
    refine TL.pure (PV.assign rfl) rfl (by decide) ?_
    refine TL.pure (PV.assign rfl) rfl (by decide) ?_
    refine TL.pure (PV.assign rfl) rfl (by decide) ?_
    refine TL.nil ?_
    refine TQ.thenC ?_
    refine TC.seq ?_
    refine TC.region ?_
    refine TL.pure (PV.loadBox rfl Tb.agg_24 (by repeat (first | exact List.Mem.head _ | refine List.Mem.tail _ ?_ | refine List.mem_append_right _ ?_)) rfl) rfl (by decide) ?_
    refine TL.call rfl Tb.gofn_28 (fun a w hs => rDeepest_ok w _ _ _ (hr.new hs.new)) rfl (by decide) (fun d9 hd9 => ?_)
    refine TL.pure (PV.move rfl) rfl (by decide) ?_
    refine TL.pure (PV.extract rfl rfl) rfl (by decide) ?_
    refine TL.pure (PV.extract rfl rfl) rfl (by decide) ?_
    refine TL.pure (PV.extract rfl rfl) rfl (by decide) ?_
    refine TL.pure (PV.assign rfl) rfl (by decide) ?_
    refine TL.pure (PV.assign rfl) rfl (by decide) ?_
    refine TL.pure (PV.assign rfl) rfl (by decide) ?_
    refine TL.nil ?_
    refine TQ.thenC ?_
    refine TC.seq ?_
    obtain ⟨k1, k2⟩ := ha9.1.unique jn_min hb9.1
    obtain ⟨k3, k4⟩ := hc9.1.unique jn_max hd9.1
    obtain ⟨k5, k6⟩ := bests ha9.1 hc9.1
    refine TC.region ?_
    refine TL.pure (PV.move rfl) rfl (by decide) ?_
    refine TL.pure (PV.move rfl) rfl (by decide) ?_
    refine TL.call rfl Tb.gofn_29 (fun a w hs => sameGG w (a9.1) (a9.2.1) ha9.2 (IntsAt.g (x := (a9.1, a9.2.1)) hs.new (fun yy hyy => by repeat (first | exact List.mem_append_left _ hyy | exact List.mem_append_left _ (List.mem_append_right _ hyy) | exact List.mem_append_left _ (List.mem_append_left _ hyy) | refine List.mem_append_right _ ?_ | refine List.Mem.tail _ ?_)) ha9.2) (b9.1) (b9.2.1) hb9.2 (IntsAt.g (x := (b9.1, b9.2.1)) hs.new (fun yy hyy => by repeat (first | exact List.mem_append_left _ hyy | exact List.mem_append_left _ (List.mem_append_right _ hyy) | exact List.mem_append_left _ (List.mem_append_left _ hyy) | refine List.mem_append_right _ ?_ | refine List.Mem.tail _ ?_)) hb9.2) ha9.1.len hb9.1.len) rfl (by decide) (fun _ _ => ?_)
    refine TL.pure (PV.move rfl) rfl (by decide) ?_
    first | refine TL.splitD 45 rfl (fun h1 => ?_) (fun h1 => ?_) | refine TL.split 45 rfl (fun h1 => ?_) (fun h1 => ?_)
    · skip
      refine TL.pure (PV.move rfl) rfl (by decide) ?_
      refine TL.pure (PV.move rfl) rfl (by decide) ?_
      refine TL.pure (PV.eql rfl rfl) rfl (by decide) ?_
      refine TL.pure (PV.pickT rfl rfl) rfl (by decide) ?_
      refine TL.pure (PV.move rfl) rfl (by decide) ?_
      first | refine TL.splitD 50 rfl (fun h2 => ?_) (fun h2 => ?_) | refine TL.split 50 rfl (fun h2 => ?_) (fun h2 => ?_)
      · skip
        refine TL.pure (PV.move rfl) rfl (by decide) ?_
        refine TL.pure (PV.move rfl) rfl (by decide) ?_
        refine TL.pure (PV.eql rfl rfl) rfl (by decide) ?_
        refine TL.pure (PV.pickT rfl rfl) rfl (by decide) ?_
        refine TL.pure (PV.move rfl) rfl (by decide) ?_
        first | refine TL.splitD 55 rfl (fun h3 => ?_) (fun h3 => ?_) | refine TL.split 55 rfl (fun h3 => ?_) (fun h3 => ?_)
        · skip
          refine TL.pure (PV.move rfl) rfl (by decide) ?_
          refine TL.pure (PV.move rfl) rfl (by decide) ?_
          refine TL.call rfl Tb.gofn_29 (fun a w hs => sameGG w (c9.1) (c9.2.1) hc9.2 (IntsAt.g (x := (c9.1, c9.2.1)) hs.new (fun yy hyy => by repeat (first | exact List.mem_append_left _ hyy | exact List.mem_append_left _ (List.mem_append_right _ hyy) | exact List.mem_append_left _ (List.mem_append_left _ hyy) | refine List.mem_append_right _ ?_ | refine List.Mem.tail _ ?_)) hc9.2) (d9.1) (d9.2.1) hd9.2 (IntsAt.g (x := (d9.1, d9.2.1)) hs.new (fun yy hyy => by repeat (first | exact List.mem_append_left _ hyy | exact List.mem_append_left _ (List.mem_append_right _ hyy) | exact List.mem_append_left _ (List.mem_append_left _ hyy) | refine List.mem_append_right _ ?_ | refine List.Mem.tail _ ?_)) hd9.2) hc9.1.len hd9.1.len) rfl (by decide) (fun _ _ => ?_)
          refine TL.pure (PV.pickT rfl rfl) rfl (by decide) ?_
          refine TL.pure (PV.move rfl) rfl (by decide) ?_
          first | refine TL.splitD 60 rfl (fun h4 => ?_) (fun h4 => ?_) | refine TL.split 60 rfl (fun h4 => ?_) (fun h4 => ?_)
          · skip
            refine TL.pure (PV.move rfl) rfl (by decide) ?_
            refine TL.pure (PV.move rfl) rfl (by decide) ?_
            refine TL.pure (PV.eql rfl rfl) rfl (by decide) ?_
            refine TL.pure (PV.pickT rfl rfl) rfl (by decide) ?_
            refine TL.pure (PV.move rfl) rfl (by decide) ?_
            first | refine TL.splitD 65 rfl (fun h5 => ?_) (fun h5 => ?_) | refine TL.split 65 rfl (fun h5 => ?_) (fun h5 => ?_)
            · skip
              refine TL.pure (PV.move rfl) rfl (by decide) ?_
              refine TL.pure (PV.move rfl) rfl (by decide) ?_
              refine TL.pure (PV.eql rfl rfl) rfl (by decide) ?_
              refine TL.pure (PV.pickT rfl rfl) rfl (by decide) ?_
              refine TL.pure (PV.move rfl) rfl (by decide) ?_
              first | refine TL.splitD 70 rfl (fun h6 => ?_) (fun h6 => ?_) | refine TL.split 70 rfl (fun h6 => ?_) (fun h6 => ?_)
              · skip
                refine TL.pure (PV.move rfl) rfl (by decide) ?_
                refine TL.pure (PV.move rfl) rfl (by decide) ?_
                refine TL.pure (PV.eql rfl rfl) rfl (by decide) ?_
                refine TL.pure (PV.pickT rfl rfl) rfl (by decide) ?_
                refine TL.pure (PV.move rfl) rfl (by decide) ?_
                first | refine TL.splitD 75 rfl (fun h7 => ?_) (fun h7 => ?_) | refine TL.split 75 rfl (fun h7 => ?_) (fun h7 => ?_)
                · skip
                  refine TL.pure (PV.move rfl) rfl (by decide) ?_
                  refine TL.pure (PV.move rfl) rfl (by decide) ?_
                  refine TL.call rfl Tb.gofn_30 (fun a w hs => (by rw [gval_eq ha9.2, gval_eq hc9.2]; exact liesIn_ok w _ _ a9.2.1 (IntsAt.g (x := (a9.1, a9.2.1)) hs.new (fun yy hyy => by repeat (first | exact List.mem_append_left _ hyy | exact List.mem_append_left _ (List.mem_append_right _ hyy) | exact List.mem_append_left _ (List.mem_append_left _ hyy) | refine List.mem_append_right _ ?_ | refine List.Mem.tail _ ?_)) ha9.2) _ _ c9.2.1 (IntsAt.g (x := (c9.1, c9.2.1)) hs.new (fun yy hyy => by repeat (first | exact List.mem_append_left _ hyy | exact List.mem_append_left _ (List.mem_append_right _ hyy) | exact List.mem_append_left _ (List.mem_append_left _ hyy) | refine List.mem_append_right _ ?_ | refine List.Mem.tail _ ?_)) hc9.2) _ _ rfl rfl ha9.1.len hc9.1.len)) rfl (by decide) (fun _ _ => ?_)
                  refine TL.pure (PV.pickT rfl rfl) rfl (by decide) ?_
                  refine TL.pure (PV.move rfl) rfl (by decide) ?_
                  first | refine TL.splitD 80 rfl (fun h8 => ?_) (fun h8 => ?_) | refine TL.split 80 rfl (fun h8 => ?_) (fun h8 => ?_)
                  · skip
                    refine TL.call rfl Tb.gofn_18 (fun a w hs => sane_ok w) rfl (by decide) (fun _ _ => ?_)
                    refine TL.pure (PV.pickT rfl rfl) rfl (by decide) ?_
                    refine TL.pure (PV.assign rfl) rfl (by decide) ?_
                    refine TL.nil ?_
                    refine TQ.thenC ?_
                    refine TC.ret ?_
                    refine TQ.retE1 rfl rfl ?_
                    first | exact ⟨(), rfl, trivial, List.nil_sublist _⟩ | (exfalso; have k7 := of_decide_eq_true k6; contradiction) | (exfalso; simp_all; done)
                  · skip
                    refine TL.skip rfl (fun k hk => by cases hk; decide) ?_
                    refine TL.pure (PV.pickF rfl rfl) rfl (by decide) ?_
                    refine TL.pure (PV.assign rfl) rfl (by decide) ?_
                    refine TL.nil ?_
                    refine TQ.thenC ?_
                    refine TC.ret ?_
                    refine TQ.retE1 rfl rfl ?_
                    first | exact ⟨(), rfl, trivial, List.nil_sublist _⟩ | (exfalso; have k7 := of_decide_eq_true k6; contradiction) | (exfalso; simp_all; done)
                · skip
                  refine TL.skip rfl (fun k hk => by cases hk; decide) ?_
                  refine TL.skip rfl (fun k hk => by cases hk; decide) ?_
                  refine TL.skip rfl (fun k hk => by cases hk; decide) ?_
                  refine TL.pure (PV.pickF rfl rfl) rfl (by decide) ?_
                  refine TL.pure (PV.move rfl) rfl (by decide) ?_
                  refine TL.skip rfl (fun k hk => by cases hk; decide) ?_
                  refine TL.pure (PV.pickF rfl rfl) rfl (by decide) ?_
                  refine TL.pure (PV.assign rfl) rfl (by decide) ?_
                  refine TL.nil ?_
                  refine TQ.thenC ?_
                  refine TC.ret ?_
                  refine TQ.retE1 rfl rfl ?_
                  first | exact ⟨(), rfl, trivial, List.nil_sublist _⟩ | (exfalso; have k7 := of_decide_eq_true k6; contradiction) | (exfalso; simp_all; done)
              · skip
                refine TL.skip rfl (fun k hk => by cases hk; decide) ?_
                refine TL.skip rfl (fun k hk => by cases hk; decide) ?_
                refine TL.skip rfl (fun k hk => by cases hk; decide) ?_
                refine TL.pure (PV.pickF rfl rfl) rfl (by decide) ?_
                refine TL.pure (PV.move rfl) rfl (by decide) ?_
                refine TL.skip rfl (fun k hk => by cases hk; decide) ?_
                refine TL.skip rfl (fun k hk => by cases hk; decide) ?_
                refine TL.skip rfl (fun k hk => by cases hk; decide) ?_
                refine TL.pure (PV.pickF rfl rfl) rfl (by decide) ?_
                refine TL.pure (PV.move rfl) rfl (by decide) ?_
                refine TL.skip rfl (fun k hk => by cases hk; decide) ?_
                refine TL.pure (PV.pickF rfl rfl) rfl (by decide) ?_
                refine TL.pure (PV.assign rfl) rfl (by decide) ?_
                refine TL.nil ?_
                refine TQ.thenC ?_
                refine TC.ret ?_
                refine TQ.retE1 rfl rfl ?_
                first | exact ⟨(), rfl, trivial, List.nil_sublist _⟩ | (exfalso; have k7 := of_decide_eq_true k6; contradiction) | (exfalso; simp_all; done)
            · skip
              refine TL.skip rfl (fun k hk => by cases hk; decide) ?_
              refine TL.skip rfl (fun k hk => by cases hk; decide) ?_
              refine TL.skip rfl (fun k hk => by cases hk; decide) ?_
              refine TL.pure (PV.pickF rfl rfl) rfl (by decide) ?_
              refine TL.pure (PV.move rfl) rfl (by decide) ?_
              refine TL.skip rfl (fun k hk => by cases hk; decide) ?_
              refine TL.skip rfl (fun k hk => by cases hk; decide) ?_
              refine TL.skip rfl (fun k hk => by cases hk; decide) ?_
              refine TL.pure (PV.pickF rfl rfl) rfl (by decide) ?_
              refine TL.pure (PV.move rfl) rfl (by decide) ?_
              refine TL.skip rfl (fun k hk => by cases hk; decide) ?_
              refine TL.skip rfl (fun k hk => by cases hk; decide) ?_
              refine TL.skip rfl (fun k hk => by cases hk; decide) ?_
              refine TL.pure (PV.pickF rfl rfl) rfl (by decide) ?_
              refine TL.pure (PV.move rfl) rfl (by decide) ?_
              refine TL.skip rfl (fun k hk => by cases hk; decide) ?_
              refine TL.pure (PV.pickF rfl rfl) rfl (by decide) ?_
              refine TL.pure (PV.assign rfl) rfl (by decide) ?_
              refine TL.nil ?_
              refine TQ.thenC ?_
              refine TC.ret ?_
              refine TQ.retE1 rfl rfl ?_
              first | exact ⟨(), rfl, trivial, List.nil_sublist _⟩ | (exfalso; have k7 := of_decide_eq_true k6; contradiction) | (exfalso; simp_all; done)
          · skip
            refine TL.skip rfl (fun k hk => by cases hk; decide) ?_
            refine TL.skip rfl (fun k hk => by cases hk; decide) ?_
            refine TL.skip rfl (fun k hk => by cases hk; decide) ?_
            refine TL.pure (PV.pickF rfl rfl) rfl (by decide) ?_
            refine TL.pure (PV.move rfl) rfl (by decide) ?_
            refine TL.skip rfl (fun k hk => by cases hk; decide) ?_
            refine TL.skip rfl (fun k hk => by cases hk; decide) ?_
            refine TL.skip rfl (fun k hk => by cases hk; decide) ?_
            refine TL.pure (PV.pickF rfl rfl) rfl (by decide) ?_
            refine TL.pure (PV.move rfl) rfl (by decide) ?_
            refine TL.skip rfl (fun k hk => by cases hk; decide) ?_
            refine TL.skip rfl (fun k hk => by cases hk; decide) ?_
            refine TL.skip rfl (fun k hk => by cases hk; decide) ?_
            refine TL.pure (PV.pickF rfl rfl) rfl (by decide) ?_
            refine TL.pure (PV.move rfl) rfl (by decide) ?_
            refine TL.skip rfl (fun k hk => by cases hk; decide) ?_
            refine TL.skip rfl (fun k hk => by cases hk; decide) ?_
            refine TL.skip rfl (fun k hk => by cases hk; decide) ?_
            refine TL.pure (PV.pickF rfl rfl) rfl (by decide) ?_
            refine TL.pure (PV.move rfl) rfl (by decide) ?_
            refine TL.skip rfl (fun k hk => by cases hk; decide) ?_
            refine TL.pure (PV.pickF rfl rfl) rfl (by decide) ?_
            refine TL.pure (PV.assign rfl) rfl (by decide) ?_
            refine TL.nil ?_
            refine TQ.thenC ?_
            refine TC.ret ?_
            refine TQ.retE1 rfl rfl ?_
            first | exact ⟨(), rfl, trivial, List.nil_sublist _⟩ | (exfalso; have k7 := of_decide_eq_true k6; contradiction) | (exfalso; simp_all; done)
        · skip
          refine TL.skip rfl (fun k hk => by cases hk; decide) ?_
          refine TL.skip rfl (fun k hk => by cases hk; decide) ?_
          refine TL.skip rfl (fun k hk => by cases hk; decide) ?_
          refine TL.pure (PV.pickF rfl rfl) rfl (by decide) ?_
          refine TL.pure (PV.move rfl) rfl (by decide) ?_
          refine TL.skip rfl (fun k hk => by cases hk; decide) ?_
          refine TL.skip rfl (fun k hk => by cases hk; decide) ?_
          refine TL.skip rfl (fun k hk => by cases hk; decide) ?_
          refine TL.pure (PV.pickF rfl rfl) rfl (by decide) ?_
          refine TL.pure (PV.move rfl) rfl (by decide) ?_
          refine TL.skip rfl (fun k hk => by cases hk; decide) ?_
          refine TL.skip rfl (fun k hk => by cases hk; decide) ?_
          refine TL.skip rfl (fun k hk => by cases hk; decide) ?_
          refine TL.pure (PV.pickF rfl rfl) rfl (by decide) ?_
          refine TL.pure (PV.move rfl) rfl (by decide) ?_
          refine TL.skip rfl (fun k hk => by cases hk; decide) ?_
          refine TL.skip rfl (fun k hk => by cases hk; decide) ?_
          refine TL.skip rfl (fun k hk => by cases hk; decide) ?_
          refine TL.pure (PV.pickF rfl rfl) rfl (by decide) ?_
          refine TL.pure (PV.move rfl) rfl (by decide) ?_
          refine TL.skip rfl (fun k hk => by cases hk; decide) ?_
          refine TL.skip rfl (fun k hk => by cases hk; decide) ?_
          refine TL.skip rfl (fun k hk => by cases hk; decide) ?_
          refine TL.pure (PV.pickF rfl rfl) rfl (by decide) ?_
          refine TL.pure (PV.move rfl) rfl (by decide) ?_
          refine TL.skip rfl (fun k hk => by cases hk; decide) ?_
          refine TL.pure (PV.pickF rfl rfl) rfl (by decide) ?_
          refine TL.pure (PV.assign rfl) rfl (by decide) ?_
          refine TL.nil ?_
          refine TQ.thenC ?_
          refine TC.ret ?_
          refine TQ.retE1 rfl rfl ?_
          first | exact ⟨(), rfl, trivial, List.nil_sublist _⟩ | (exfalso; have k7 := of_decide_eq_true k6; contradiction) | (exfalso; simp_all; done)
      · skip
        refine TL.skip rfl (fun k hk => by cases hk; decide) ?_
        refine TL.skip rfl (fun k hk => by cases hk; decide) ?_
        refine TL.skip rfl (fun k hk => by cases hk; decide) ?_
        refine TL.pure (PV.pickF rfl rfl) rfl (by decide) ?_
        refine TL.pure (PV.move rfl) rfl (by decide) ?_
        refine TL.skip rfl (fun k hk => by cases hk; decide) ?_
        refine TL.skip rfl (fun k hk => by cases hk; decide) ?_
        refine TL.skip rfl (fun k hk => by cases hk; decide) ?_
        refine TL.pure (PV.pickF rfl rfl) rfl (by decide) ?_
        refine TL.pure (PV.move rfl) rfl (by decide) ?_
        refine TL.skip rfl (fun k hk => by cases hk; decide) ?_
        refine TL.skip rfl (fun k hk => by cases hk; decide) ?_
        refine TL.skip rfl (fun k hk => by cases hk; decide) ?_
        refine TL.pure (PV.pickF rfl rfl) rfl (by decide) ?_
        refine TL.pure (PV.move rfl) rfl (by decide) ?_
        refine TL.skip rfl (fun k hk => by cases hk; decide) ?_
        refine TL.skip rfl (fun k hk => by cases hk; decide) ?_
        refine TL.skip rfl (fun k hk => by cases hk; decide) ?_
        refine TL.pure (PV.pickF rfl rfl) rfl (by decide) ?_
        refine TL.pure (PV.move rfl) rfl (by decide) ?_
        refine TL.skip rfl (fun k hk => by cases hk; decide) ?_
        refine TL.skip rfl (fun k hk => by cases hk; decide) ?_
        refine TL.skip rfl (fun k hk => by cases hk; decide) ?_
        refine TL.pure (PV.pickF rfl rfl) rfl (by decide) ?_
        refine TL.pure (PV.move rfl) rfl (by decide) ?_
        refine TL.skip rfl (fun k hk => by cases hk; decide) ?_
        refine TL.skip rfl (fun k hk => by cases hk; decide) ?_
        refine TL.skip rfl (fun k hk => by cases hk; decide) ?_
        refine TL.pure (PV.pickF rfl rfl) rfl (by decide) ?_
        refine TL.pure (PV.move rfl) rfl (by decide) ?_
        refine TL.skip rfl (fun k hk => by cases hk; decide) ?_
        refine TL.pure (PV.pickF rfl rfl) rfl (by decide) ?_
        refine TL.pure (PV.assign rfl) rfl (by decide) ?_
        refine TL.nil ?_
        refine TQ.thenC ?_
        refine TC.ret ?_
        refine TQ.retE1 rfl rfl ?_
        first | exact ⟨(), rfl, trivial, List.nil_sublist _⟩ | (exfalso; have k7 := of_decide_eq_true k6; contradiction) | (exfalso; simp_all; done)
    · skip
      refine TL.skip rfl (fun k hk => by cases hk; decide) ?_
      refine TL.skip rfl (fun k hk => by cases hk; decide) ?_
      refine TL.skip rfl (fun k hk => by cases hk; decide) ?_
      refine TL.pure (PV.pickF rfl rfl) rfl (by decide) ?_
      refine TL.pure (PV.move rfl) rfl (by decide) ?_
      refine TL.skip rfl (fun k hk => by cases hk; decide) ?_
      refine TL.skip rfl (fun k hk => by cases hk; decide) ?_
      refine TL.skip rfl (fun k hk => by cases hk; decide) ?_
      refine TL.pure (PV.pickF rfl rfl) rfl (by decide) ?_
      refine TL.pure (PV.move rfl) rfl (by decide) ?_
      refine TL.skip rfl (fun k hk => by cases hk; decide) ?_
      refine TL.skip rfl (fun k hk => by cases hk; decide) ?_
      refine TL.skip rfl (fun k hk => by cases hk; decide) ?_
      refine TL.pure (PV.pickF rfl rfl) rfl (by decide) ?_
      refine TL.pure (PV.move rfl) rfl (by decide) ?_
      refine TL.skip rfl (fun k hk => by cases hk; decide) ?_
      refine TL.skip rfl (fun k hk => by cases hk; decide) ?_
      refine TL.skip rfl (fun k hk => by cases hk; decide) ?_
      refine TL.pure (PV.pickF rfl rfl) rfl (by decide) ?_
      refine TL.pure (PV.move rfl) rfl (by decide) ?_
      refine TL.skip rfl (fun k hk => by cases hk; decide) ?_
      refine TL.skip rfl (fun k hk => by cases hk; decide) ?_
      refine TL.skip rfl (fun k hk => by cases hk; decide) ?_
      refine TL.pure (PV.pickF rfl rfl) rfl (by decide) ?_
      refine TL.pure (PV.move rfl) rfl (by decide) ?_
      refine TL.skip rfl (fun k hk => by cases hk; decide) ?_
      refine TL.skip rfl (fun k hk => by cases hk; decide) ?_
      refine TL.skip rfl (fun k hk => by cases hk; decide) ?_
      refine TL.pure (PV.pickF rfl rfl) rfl (by decide) ?_
      refine TL.pure (PV.move rfl) rfl (by decide) ?_
      refine TL.skip rfl (fun k hk => by cases hk; decide) ?_
      refine TL.skip rfl (fun k hk => by cases hk; decide) ?_
      refine TL.skip rfl (fun k hk => by cases hk; decide) ?_
      refine TL.pure (PV.pickF rfl rfl) rfl (by decide) ?_
      refine TL.pure (PV.move rfl) rfl (by decide) ?_
      refine TL.skip rfl (fun k hk => by cases hk; decide) ?_
      refine TL.pure (PV.pickF rfl rfl) rfl (by decide) ?_
      refine TL.pure (PV.assign rfl) rfl (by decide) ?_
      refine TL.nil ?_
      refine TQ.thenC ?_
      refine TC.ret ?_
      refine TQ.retE1 rfl rfl ?_
      first | exact ⟨(), rfl, trivial, List.nil_sublist _⟩ | (exfalso; have k7 := of_decide_eq_true k6; contradiction) | (exfalso; simp_all; done)

end Go.Proofs.Ytfgjojoipbbacaa
