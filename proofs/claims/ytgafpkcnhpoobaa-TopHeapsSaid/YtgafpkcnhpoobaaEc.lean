/- Which heaps are valid, by the reference: contract. -/
import Derived.Test.YtgafpkcnhpoobaaEb
set_option linter.unusedVariables false
set_option linter.unusedSimpArgs false
namespace Go.Proofs.Ytgafpkcnhpoobaa
open Go.Sx Go.RowKit Go.Sand

theorem shp_of {ls : List (List Int)} {gs : List Int} (h1 : 1 ≤ gs.length ∧ gs.length ≤ 5) (h2 : ls.length = gs.length) (h3 : ∀ j, j < gs.length → (ls.getD j []).length = gs.length ∧ 0 ≤ gs.getD j 0 ∧ gs.getD j 0 ≤ 2)
    (h4 : ∀ i j, i < gs.length → j < gs.length → (0 ≤ getM ls i j ∧ getM ls i j ≤ 2) ∧ getM ls i j = getM ls j i ∧ (i = j → getM ls i j = 0)) : Shp ls gs where
  n := h1
  len := h2
  row := fun k hk => num_3 (by have := (h3 k (by omega)).1; omega) fun j hj => (h4 k j (by omega) (by have := (h3 k (by omega)).1; omega)).1
  gr := num_3 rfl fun k hk => (h3 k hk).2
  mu := fun i j hi hj => (h4 i j hi hj).2
theorem shp_to {ls : List (List Int)} {gs : List Int} (h : Shp ls gs) {i j : Nat} (hi : i < gs.length) (hj : j < gs.length) : (0 ≤ (ls.getD i []).getD j 0 ∧ (ls.getD i []).getD j 0 ≤ 2) ∧ (ls.getD i []).getD j 0 = (ls.getD j []).getD i 0 ∧ (i = j → (ls.getD i []).getD j 0 = 0) :=
  ⟨h.ent i j, h.mu i j hi hj⟩
theorem wi_t {a lo hi : Int} (h : wiB a lo hi = true) : lo ≤ a ∧ a ≤ hi := of_decide_eq_true h
theorem wi_f {a lo hi : Int} (h : wiB a lo hi = false) : ¬ (lo ≤ a ∧ a ≤ hi) := of_decide_eq_false h
theorem wi_t' {a lo hi : Int} (h : (!wiB a lo hi) = false) : lo ≤ a ∧ a ≤ hi := wi_t (by simpa using h)
theorem wi_f' {a lo hi : Int} (h : (!wiB a lo hi) = true) : ¬ (lo ≤ a ∧ a ≤ hi) := wi_f (by simpa using h)


set_option maxRecDepth 100000 in
set_option maxHeartbeats 4000000 in
theorem rvalidate_ok (w0 : World) (p : Option Addr) (cp : Nat) (ls : List (List Int)) (hr : LsAt w0 p ls) (q : Option Addr) (cq : Nat) (gs : List Int) (hg : IntsAt w0 q gs) :
    Calls Try.prog 25 #[hv p ls.length cp q gs.length cq] w0 (Post (X := Unit) (fun _ => .int .i64 (validI ls gs)) (fun _ => True) (fun _ => []) w0) := by
  refine calls Try.func25 rfl (n := 168) rfl (by simp) ?_
  refine TC.seq ?_
  refine TC.region ?_
  refine TL.box rfl rfl (by decide) (fun b0 hb0 => ?_)
  refine TL.pure (PV.assign rfl) rfl (by decide) ?_
  refine TL.nil ?_
  refine TQ.thenC ?_
  refine TC.seq ?_
  refine TC.region ?_
  refine TL.pure (PV.fieldAddr rfl Tb.fo_25_1) rfl (by decide) ?_
  refine TL.pure (PV.load rfl Tb.one_23 (by repeat (first | exact List.Mem.head _ | refine List.Mem.tail _ ?_ | refine List.mem_append_right _ ?_)) rfl) rfl (by decide) ?_
  refine TL.pure (PV.len rfl Tb.sl_23) rfl (by decide) ?_
  refine TL.pure (PV.assign rfl) rfl (by decide) ?_
  refine TL.nil ?_
  refine TQ.thenC ?_
  refine TC.seq ?_
  refine TC.seq ?_
  refine TC.region ?_
  refine TL.pure (PV.move rfl) rfl (by decide) ?_
  refine TL.call rfl Tb.gofn_62 (fun a w hs => within_ok w _ _ _) rfl (by decide) (fun _ _ => ?_)
  refine TL.pure ((by first | exact PV.notD rfl | exact PV.not rfl)) rfl (by decide) ?_
  refine TL.pure (PV.move rfl) rfl (by decide) ?_
  first | refine TL.splitD 18 rfl (fun a1 => ?_) (fun a1 => ?_) | refine TL.split 18 rfl (fun a1 => ?_) (fun a1 => ?_)
  · skip
    refine TL.skip rfl (fun k hk => by cases hk; decide) ?_
    refine TL.skip rfl (fun k hk => by cases hk; decide) ?_
    refine TL.skip rfl (fun k hk => by cases hk; decide) ?_
    refine TL.skip rfl (fun k hk => by cases hk; decide) ?_
    refine TL.skip rfl (fun k hk => by cases hk; decide) ?_
    refine TL.pure (PV.pickT rfl rfl) rfl (by decide) ?_
    refine TL.nil ?_
    refine TQ.thenC ?_
    refine TC.condT rfl ?_
    refine TC.seq ?_
    refine TC.region ?_
    refine TL.pure (PV.assign rfl) rfl (by decide) ?_
    refine TL.nil ?_
    refine TQ.thenC ?_
    refine TC.ret ?_
    refine TQ.thenR ?_
    refine TQ.retE1 rfl rfl ?_
    exact ⟨(), by rw [valid_1 (fun h => by have h1 := h.n; have h2 := h.len; omega)], trivial, List.nil_sublist _⟩
  · skip
    refine TL.pure (PV.fieldAddr rfl Tb.fo_25_0) rfl (by decide) ?_
    refine TL.pure (PV.load rfl Tb.one_22 (by repeat (first | exact List.Mem.head _ | refine List.Mem.tail _ ?_ | refine List.mem_append_right _ ?_)) rfl) rfl (by decide) ?_
    refine TL.pure (PV.len rfl Tb.sl_22) rfl (by decide) ?_
    refine TL.pure (PV.move rfl) rfl (by decide) ?_
    refine TL.pure (PV.neq rfl rfl) rfl (by decide) ?_
    refine TL.pure (PV.pickF rfl rfl) rfl (by decide) ?_
    refine TL.nil ?_
    refine TQ.thenC ?_
    first | refine TC.condD rfl (fun a2 => ?_) (fun a2 => ?_) | refine TC.cond rfl (fun a2 => ?_) (fun a2 => ?_)
    · skip
      refine TC.seq ?_
      refine TC.region ?_
      refine TL.pure (PV.assign rfl) rfl (by decide) ?_
      refine TL.nil ?_
      refine TQ.thenC ?_
      refine TC.ret ?_
      refine TQ.thenR ?_
      refine TQ.retE1 rfl rfl ?_
      exact ⟨(), by rw [valid_1 (fun h => by have h1 := h.n; have h2 := h.len; omega)], trivial, List.nil_sublist _⟩
    · skip
      refine TC.skip ?_
      refine TQ.thenC ?_
      refine TC.seq ?_
      refine TC.seq ?_
      have wi9 : 1 ≤ gs.length ∧ gs.length ≤ 5 := by omega
      refine TC.region ?_
      refine TL.pure (PV.assign rfl) rfl (by decide) ?_
      refine TL.nil ?_
      refine TQ.thenC ?_
      refine TC.block ?_
      -- live and written in the loop, not told: [2]
      refine TC.lit [(1, _), (3, _), (4, _)] (by repeat (first | exact True.intro | refine And.intro rfl ?_)) ?_
      refine TC.loopG [1, 3] (X := Nat × Unit) (fun k => k.1 ≤ gs.length ∧ ∀ j, j < k.1 → (ls.getD j []).length = gs.length ∧ 0 ≤ gs.getD j 0 ∧ gs.getD j 0 ≤ 2) (fun k => [(4, .int .i64 k.1)]) (fun k => gs.length - k.1) (0, ()) ⟨Nat.zero_le _, fun j hj => absurd hj (Nat.not_lt_zero _)⟩ (by repeat (first | exact True.intro | refine And.intro rfl ?_)) ?_
      intro k hk
      refine TC.lit [(1, _), (3, _), (4, _)] (by repeat (first | exact True.intro | refine And.intro rfl ?_)) ?_
      refine TC.seq ?_
      refine TC.seq ?_
      refine TC.region ?_
      refine TL.pure (PV.move rfl) rfl (by decide) ?_
      refine TL.pure (PV.move rfl) rfl (by decide) ?_
      refine TL.pure (PV.lss rfl rfl) rfl (by decide) ?_
      refine TL.nil ?_
      refine TQ.thenC ?_
      first | refine TC.condD rfl (fun hlt => ?_) (fun hlt => ?_) | refine TC.cond rfl (fun hlt => ?_) (fun hlt => ?_)
      · skip
        refine TC.skip ?_
        refine TQ.thenC ?_
        refine TC.seq ?_
        refine TC.block ?_
        refine TC.seq ?_
        obtain ⟨q1, hq1p, p1, c1, hq1, hi1⟩ := hr k.1 (by omega)
        obtain ⟨q2, hq2p, hq2⟩ := hg k.1 (by omega)
        refine TC.region ?_
        refine TL.pure (PV.fieldAddr rfl Tb.fo_25_0) rfl (by decide) ?_
        refine TL.pure (PV.load rfl Tb.one_22 (by repeat (first | exact List.Mem.head _ | refine List.Mem.tail _ ?_ | refine List.mem_append_right _ ?_)) rfl) rfl (by decide) ?_
        refine TL.pure (PV.move rfl) rfl (by decide) ?_
        refine TL.pure (PV.indexA rfl hq1p rfl Tb.elm_22 rfl (by omega)) rfl (by decide) ?_
        refine TL.pure (PV.loadOld rfl Tb.one_23 hq1) rfl (by decide) ?_
        refine TL.pure (PV.len rfl Tb.sl_23) rfl (by decide) ?_
        refine TL.pure (PV.move rfl) rfl (by decide) ?_
        refine TL.pure (PV.neq rfl rfl) rfl (by decide) ?_
        refine TL.pure (PV.move rfl) rfl (by decide) ?_
        first | refine TL.splitD 38 rfl (fun a3 => ?_) (fun a3 => ?_) | refine TL.split 38 rfl (fun a3 => ?_) (fun a3 => ?_)
        · skip
          refine TL.skip rfl (fun k hk => by cases hk; decide) ?_
          refine TL.skip rfl (fun k hk => by cases hk; decide) ?_
          refine TL.skip rfl (fun k hk => by cases hk; decide) ?_
          refine TL.skip rfl (fun k hk => by cases hk; decide) ?_
          refine TL.skip rfl (fun k hk => by cases hk; decide) ?_
          refine TL.skip rfl (fun k hk => by cases hk; decide) ?_
          refine TL.skip rfl (fun k hk => by cases hk; decide) ?_
          refine TL.pure (PV.pickT rfl rfl) rfl (by decide) ?_
          refine TL.nil ?_
          refine TQ.thenC ?_
          refine TC.condT rfl ?_
          refine TC.seq ?_
          refine TC.region ?_
          refine TL.pure (PV.assign rfl) rfl (by decide) ?_
          refine TL.nil ?_
          refine TQ.thenC ?_
          refine TC.ret ?_
          refine TQ.blkR ?_
          refine TQ.thenR ?_
          refine TQ.thenR ?_
          refine TQ.blkR ?_
          refine TQ.thenR ?_
          refine TQ.retE1 rfl rfl ?_
          exact ⟨(), by rw [valid_1 (fun h => by have h1 := h.rowl (k := k.1) (by omega); omega)], trivial, List.nil_sublist _⟩
        · skip
          refine TL.pure (PV.fieldAddr rfl Tb.fo_25_1) rfl (by decide) ?_
          refine TL.pure (PV.load rfl Tb.one_23 (by repeat (first | exact List.Mem.head _ | refine List.Mem.tail _ ?_ | refine List.mem_append_right _ ?_)) rfl) rfl (by decide) ?_
          refine TL.pure (PV.move rfl) rfl (by decide) ?_
          refine TL.pure (PV.indexA rfl hq2p rfl Tb.elm_23 rfl (by omega)) rfl (by decide) ?_
          refine TL.pure (PV.loadOld rfl Tb.one_3 hq2) rfl (by decide) ?_
          refine TL.call rfl Tb.gofn_62 (fun a w hs => within_ok w _ _ _) rfl (by decide) (fun _ _ => ?_)
          refine TL.pure ((by first | exact PV.notD rfl | exact PV.not rfl)) rfl (by decide) ?_
          refine TL.pure (PV.pickF rfl rfl) rfl (by decide) ?_
          refine TL.nil ?_
          refine TQ.thenC ?_
          first | refine TC.condD rfl (fun a4 => ?_) (fun a4 => ?_) | refine TC.cond rfl (fun a4 => ?_) (fun a4 => ?_)
          · skip
            refine TC.seq ?_
            refine TC.region ?_
            refine TL.pure (PV.assign rfl) rfl (by decide) ?_
            refine TL.nil ?_
            refine TQ.thenC ?_
            refine TC.ret ?_
            refine TQ.blkR ?_
            refine TQ.thenR ?_
            refine TQ.thenR ?_
            refine TQ.blkR ?_
            refine TQ.thenR ?_
            refine TQ.retE1 rfl rfl ?_
            exact ⟨(), by rw [valid_1 (fun h => by have h1 := h.gat k.1; omega)], trivial, List.nil_sublist _⟩
          · skip
            refine TC.skip ?_
            refine TQ.blkN ?_
            refine TQ.thenC ?_
            refine TC.region ?_
            refine TL.pure (PV.move rfl) rfl (by decide) ?_
            refine TL.pure (PV.add rfl rfl (by omega)) rfl (by decide) ?_
            refine TL.pure (PV.assign rfl) rfl (by decide) ?_
            refine TL.nil ?_
            refine TQ.thenN ?_
            refine TQ.backK (k.1 + 1, ()) (by repeat (first | exact True.intro | refine And.intro rfl ?_)) (by repeat (first | exact True.intro | refine And.intro rfl ?_)) (by repeat (first | exact List.Sublist.slnil | exact List.nil_sublist _ | exact List.Sublist.refl _ | refine List.Sublist.cons_cons _ ?_ | refine List.Sublist.cons _ ?_ | refine List.Sublist.trans ?_ (List.sublist_append_right _ _))) ⟨by simp only; omega, fun j hj => if e : j < k.1 then hk.2 j e else (show k.1 = j by simp only at hj; omega) ▸ ⟨by omega, by omega⟩⟩ (by simp only; omega)
      · skip
        refine TC.exit ?_
        refine TQ.thenE ?_
        refine TQ.thenE ?_
        refine TQ.blkS ?_
        refine TQ.thenC ?_
        refine TC.seq ?_
        refine TC.seq ?_
        refine TC.region ?_
        refine TL.pure (PV.assign rfl) rfl (by decide) ?_
        refine TL.nil ?_
        refine TQ.thenC ?_
        refine TC.block ?_
        -- live and written in the loop, not told: [2]
        refine TC.lit [(1, _), (3, _), (5, _)] (by repeat (first | exact True.intro | refine And.intro rfl ?_)) ?_
        refine TC.loopG [1, 3] (X := Nat × Unit) (fun i => i.1 ≤ gs.length ∧ ∀ a, a < i.1 → ∀ j, j < gs.length → (0 ≤ getM ls a j ∧ getM ls a j ≤ 2) ∧ getM ls a j = getM ls j a ∧ (a = j → getM ls a j = 0)) (fun i => [(5, .int .i64 i.1)]) (fun i => gs.length - i.1) (0, ()) ⟨Nat.zero_le _, fun a ha => absurd ha (Nat.not_lt_zero _)⟩ (by repeat (first | exact True.intro | refine And.intro rfl ?_)) ?_
        intro i hi
        refine TC.lit [(1, _), (3, _), (5, _)] (by repeat (first | exact True.intro | refine And.intro rfl ?_)) ?_
        refine TC.seq ?_
        refine TC.seq ?_
        refine TC.region ?_
        refine TL.pure (PV.move rfl) rfl (by decide) ?_
        refine TL.pure (PV.move rfl) rfl (by decide) ?_
        refine TL.pure (PV.lss rfl rfl) rfl (by decide) ?_
        refine TL.nil ?_
        refine TQ.thenC ?_
        first | refine TC.condD rfl (fun hlt2 => ?_) (fun hlt2 => ?_) | refine TC.cond rfl (fun hlt2 => ?_) (fun hlt2 => ?_)
        · skip
          refine TC.skip ?_
          refine TQ.thenC ?_
          refine TC.seq ?_
          refine TC.block ?_
          refine TC.seq ?_
          refine TC.region ?_
          refine TL.pure (PV.assign rfl) rfl (by decide) ?_
          refine TL.nil ?_
          refine TQ.thenC ?_
          refine TC.block ?_
          -- live and written in the loop, not told: [2]
          refine TC.lit [(1, _), (3, _), (5, _), (6, _)] (by repeat (first | exact True.intro | refine And.intro rfl ?_)) ?_
          refine TC.loopG [1, 3, 5] (X := Nat × Unit) (fun u => u.1 ≤ gs.length ∧ ∀ j, j < u.1 → (0 ≤ getM ls i.1 j ∧ getM ls i.1 j ≤ 2) ∧ getM ls i.1 j = getM ls j i.1 ∧ (i.1 = j → getM ls i.1 j = 0)) (fun u => [(6, .int .i64 u.1)]) (fun u => gs.length - u.1) (0, ()) ⟨Nat.zero_le _, fun j hj => absurd hj (Nat.not_lt_zero _)⟩ (by repeat (first | exact True.intro | refine And.intro rfl ?_)) ?_
          intro u hu
          refine TC.lit [(1, _), (3, _), (5, _), (6, _)] (by repeat (first | exact True.intro | refine And.intro rfl ?_)) ?_
          refine TC.seq ?_
          refine TC.seq ?_
          refine TC.region ?_
          refine TL.pure (PV.move rfl) rfl (by decide) ?_
          refine TL.pure (PV.move rfl) rfl (by decide) ?_
          refine TL.pure (PV.lss rfl rfl) rfl (by decide) ?_
          refine TL.nil ?_
          refine TQ.thenC ?_
          first | refine TC.condD rfl (fun hlt3 => ?_) (fun hlt3 => ?_) | refine TC.cond rfl (fun hlt3 => ?_) (fun hlt3 => ?_)
          · skip
            refine TC.skip ?_
            refine TQ.thenC ?_
            refine TC.seq ?_
            refine TC.block ?_
            refine TC.seq ?_
            have hr1 := hk.2 i.1 (by omega)
            have hr2 := hk.2 u.1 (by omega)
            obtain ⟨q1, hq1p, p1, c1, hq1, hi1⟩ := hr i.1 (by omega)
            obtain ⟨q2, hq2p, hq2⟩ := hi1 u.1 (by omega)
            obtain ⟨q3, hq3p, p3, c3, hq3, hi3⟩ := hr u.1 (by omega)
            obtain ⟨q4, hq4p, hq4⟩ := hi3 i.1 (by omega)
            refine TC.any Tb.mixed rfl rfl ?_
            refine TA.op (OpOK.pure (PV.fieldAddr rfl Tb.fo_25_0) rfl (by decide)) (by decide) ?_
            refine TA.op (OpOK.pure (PV.load rfl Tb.one_22 (by repeat (first | exact List.Mem.head _ | refine List.Mem.tail _ ?_ | refine List.mem_append_right _ ?_)) rfl) rfl (by decide)) (by decide) ?_
            refine TA.op (OpOK.pure (PV.move rfl) rfl (by decide)) (by decide) ?_
            refine TA.op (OpOK.pure (PV.indexA rfl hq1p rfl Tb.elm_22 rfl (by omega)) rfl (by decide)) (by decide) ?_
            refine TA.op (OpOK.pure (PV.loadOld rfl Tb.one_23 hq1) rfl (by decide)) (by decide) ?_
            refine TA.op (OpOK.pure (PV.move rfl) rfl (by decide)) (by decide) ?_
            refine TA.op (OpOK.pure (PV.indexA rfl hq2p rfl Tb.elm_23 rfl (by omega)) rfl (by decide)) (by decide) ?_
            refine TA.op (OpOK.pure (PV.loadOld rfl Tb.one_3 hq2) rfl (by decide)) (by decide) ?_
            refine TA.op (OpOK.call rfl Tb.gofn_62 (fun a w hs => within_ok w _ _ _) rfl (by decide)) (by decide) ?_
            refine TA.op (OpOK.pure ((by first | exact PV.notD rfl | exact PV.not rfl)) rfl (by decide)) (by decide) ?_
            refine TA.op (OpOK.pure (PV.move rfl) rfl (by decide)) (by decide) ?_
            first | refine TA.splitD 67 rfl (fun b1 => ?_) (fun b1 => ?_) | refine TA.split 67 rfl (fun b1 => ?_) (fun b1 => ?_)
            · skip
              refine TA.op (OpOK.skip rfl) (by decide) ?_
              refine TA.op (OpOK.skip rfl) (by decide) ?_
              refine TA.op (OpOK.skip rfl) (by decide) ?_
              refine TA.op (OpOK.skip rfl) (by decide) ?_
              refine TA.op (OpOK.skip rfl) (by decide) ?_
              refine TA.op (OpOK.skip rfl) (by decide) ?_
              refine TA.op (OpOK.skip rfl) (by decide) ?_
              refine TA.op (OpOK.skip rfl) (by decide) ?_
              refine TA.op (OpOK.skip rfl) (by decide) ?_
              refine TA.op (OpOK.skip rfl) (by decide) ?_
              refine TA.op (OpOK.skip rfl) (by decide) ?_
              refine TA.op (OpOK.skip rfl) (by decide) ?_
              refine TA.op (OpOK.skip rfl) (by decide) ?_
              refine TA.op (OpOK.skip rfl) (by decide) ?_
              refine TA.op (OpOK.skip rfl) (by decide) ?_
              refine TA.op (OpOK.skip rfl) (by decide) ?_
              refine TA.op (OpOK.skip rfl) (by decide) ?_
              refine TA.op (OpOK.pure (PV.pickT rfl rfl) rfl (by decide)) (by decide) ?_
              refine TA.op (OpOK.pure (PV.move rfl) rfl (by decide)) (by decide) ?_
              refine TA.op (OpOK.skip rfl) (by decide) ?_
              refine TA.op (OpOK.skip rfl) (by decide) ?_
              refine TA.op (OpOK.skip rfl) (by decide) ?_
              refine TA.op (OpOK.skip rfl) (by decide) ?_
              refine TA.op (OpOK.skipU rfl) (by decide) ?_
              refine TA.op (OpOK.skipU rfl) (by decide) ?_
              refine TA.op (OpOK.skipU rfl) (by decide) ?_
              refine TA.op (OpOK.skipU rfl) (by decide) ?_
              refine TA.op (OpOK.skipU rfl) (by decide) ?_
              refine TA.op (OpOK.skipU rfl) (by decide) ?_
              refine TA.op (OpOK.skipU rfl) (by decide) ?_
              refine TA.op (OpOK.skipU rfl) (by decide) ?_
              refine TA.op (OpOK.skipU rfl) (by decide) ?_
              refine TA.op (OpOK.skip rfl) (by decide) ?_
              refine TA.op (OpOK.pure (PV.pickT rfl rfl) rfl (by decide)) (by decide) ?_
              show TQ _ _ _ _ _
              refine TQ.thenC ?_
              refine TC.condT rfl ?_
              refine TC.seq ?_
              refine TC.region ?_
              refine TL.pure (PV.assign rfl) rfl (by decide) ?_
              refine TL.nil ?_
              refine TQ.thenC ?_
              refine TC.ret ?_
              refine TQ.blkR ?_
              refine TQ.thenR ?_
              refine TQ.thenR ?_
              refine TQ.blkR ?_
              refine TQ.blkR ?_
              refine TQ.thenR ?_
              refine TQ.thenR ?_
              refine TQ.blkR ?_
              refine TQ.thenR ?_
              refine TQ.retE1 rfl rfl ?_
              exact ⟨(), by rw [valid_1 (fun h => by have h1 := shp_to h (i := i.1) (j := u.1) (by omega) (by omega); omega)], trivial, List.nil_sublist _⟩
            · skip
              refine TA.op (OpOK.pure (PV.fieldAddr rfl Tb.fo_25_0) rfl (by decide)) (by decide) ?_
              refine TA.op (OpOK.pure (PV.load rfl Tb.one_22 (by repeat (first | exact List.Mem.head _ | refine List.Mem.tail _ ?_ | refine List.mem_append_right _ ?_)) rfl) rfl (by decide)) (by decide) ?_
              refine TA.op (OpOK.pure (PV.move rfl) rfl (by decide)) (by decide) ?_
              refine TA.op (OpOK.pure (PV.indexA rfl hq1p rfl Tb.elm_22 rfl (by omega)) rfl (by decide)) (by decide) ?_
              refine TA.op (OpOK.pure (PV.loadOld rfl Tb.one_23 hq1) rfl (by decide)) (by decide) ?_
              refine TA.op (OpOK.pure (PV.move rfl) rfl (by decide)) (by decide) ?_
              refine TA.op (OpOK.pure (PV.indexA rfl hq2p rfl Tb.elm_23 rfl (by omega)) rfl (by decide)) (by decide) ?_
              refine TA.op (OpOK.pure (PV.loadOld rfl Tb.one_3 hq2) rfl (by decide)) (by decide) ?_
              refine TA.op (OpOK.pure (PV.fieldAddr rfl Tb.fo_25_0) rfl (by decide)) (by decide) ?_
              refine TA.op (OpOK.pure (PV.load rfl Tb.one_22 (by repeat (first | exact List.Mem.head _ | refine List.Mem.tail _ ?_ | refine List.mem_append_right _ ?_)) rfl) rfl (by decide)) (by decide) ?_
              refine TA.op (OpOK.pure (PV.move rfl) rfl (by decide)) (by decide) ?_
              refine TA.op (OpOK.pure (PV.indexA rfl hq3p rfl Tb.elm_22 rfl (by omega)) rfl (by decide)) (by decide) ?_
              refine TA.op (OpOK.pure (PV.loadOld rfl Tb.one_23 hq3) rfl (by decide)) (by decide) ?_
              refine TA.op (OpOK.pure (PV.move rfl) rfl (by decide)) (by decide) ?_
              refine TA.op (OpOK.pure (PV.indexA rfl hq4p rfl Tb.elm_23 rfl (by omega)) rfl (by decide)) (by decide) ?_
              refine TA.op (OpOK.pure (PV.loadOld rfl Tb.one_3 hq4) rfl (by decide)) (by decide) ?_
              refine TA.op (OpOK.pure (PV.neq rfl rfl) rfl (by decide)) (by decide) ?_
              refine TA.op (OpOK.pure (PV.pickF rfl rfl) rfl (by decide)) (by decide) ?_
              refine TA.op (OpOK.pure (PV.move rfl) rfl (by decide)) (by decide) ?_
              first | refine TA.splitD 86 rfl (fun b2 => ?_) (fun b2 => ?_) | refine TA.split 86 rfl (fun b2 => ?_) (fun b2 => ?_)
              · skip
                refine TA.op (OpOK.skip rfl) (by decide) ?_
                refine TA.op (OpOK.skip rfl) (by decide) ?_
                refine TA.op (OpOK.skip rfl) (by decide) ?_
                refine TA.op (OpOK.skip rfl) (by decide) ?_
                refine TA.op (OpOK.skipU rfl) (by decide) ?_
                refine TA.op (OpOK.skipU rfl) (by decide) ?_
                refine TA.op (OpOK.skipU rfl) (by decide) ?_
                refine TA.op (OpOK.skipU rfl) (by decide) ?_
                refine TA.op (OpOK.skipU rfl) (by decide) ?_
                refine TA.op (OpOK.skipU rfl) (by decide) ?_
                refine TA.op (OpOK.skipU rfl) (by decide) ?_
                refine TA.op (OpOK.skipU rfl) (by decide) ?_
                refine TA.op (OpOK.skipU rfl) (by decide) ?_
                refine TA.op (OpOK.skip rfl) (by decide) ?_
                refine TA.op (OpOK.pure (PV.pickT rfl rfl) rfl (by decide)) (by decide) ?_
                show TQ _ _ _ _ _
                refine TQ.thenC ?_
                refine TC.condT rfl ?_
                refine TC.seq ?_
                refine TC.region ?_
                refine TL.pure (PV.assign rfl) rfl (by decide) ?_
                refine TL.nil ?_
                refine TQ.thenC ?_
                refine TC.ret ?_
                refine TQ.blkR ?_
                refine TQ.thenR ?_
                refine TQ.thenR ?_
                refine TQ.blkR ?_
                refine TQ.blkR ?_
                refine TQ.thenR ?_
                refine TQ.thenR ?_
                refine TQ.blkR ?_
                refine TQ.thenR ?_
                refine TQ.retE1 rfl rfl ?_
                exact ⟨(), by rw [valid_1 (fun h => by have h1 := shp_to h (i := i.1) (j := u.1) (by omega) (by omega); omega)], trivial, List.nil_sublist _⟩
              · skip
                refine TA.op (OpOK.pure (PV.move rfl) rfl (by decide)) (by decide) ?_
                refine TA.op (OpOK.pure (PV.move rfl) rfl (by decide)) (by decide) ?_
                refine TA.op (OpOK.pure (PV.eql rfl rfl) rfl (by decide)) (by decide) ?_
                refine TA.op (OpOK.pure (PV.move rfl) rfl (by decide)) (by decide) ?_
                first | refine TA.splitD 90 rfl (fun b3 => ?_) (fun b3 => ?_) | refine TA.split 90 rfl (fun b3 => ?_) (fun b3 => ?_)
                · skip
                  refine TA.op (OpOK.pure (PV.fieldAddr rfl Tb.fo_25_0) rfl (by decide)) (by decide) ?_
                  refine TA.op (OpOK.pure (PV.load rfl Tb.one_22 (by repeat (first | exact List.Mem.head _ | refine List.Mem.tail _ ?_ | refine List.mem_append_right _ ?_)) rfl) rfl (by decide)) (by decide) ?_
                  refine TA.op (OpOK.pure (PV.move rfl) rfl (by decide)) (by decide) ?_
                  refine TA.op (OpOK.pure (PV.indexA rfl hq1p rfl Tb.elm_22 rfl (by omega)) rfl (by decide)) (by decide) ?_
                  refine TA.op (OpOK.pure (PV.loadOld rfl Tb.one_23 hq1) rfl (by decide)) (by decide) ?_
                  refine TA.op (OpOK.pure (PV.move rfl) rfl (by decide)) (by decide) ?_
                  refine TA.op (OpOK.pure (PV.indexA rfl hq2p rfl Tb.elm_23 rfl (by omega)) rfl (by decide)) (by decide) ?_
                  refine TA.op (OpOK.pure (PV.loadOld rfl Tb.one_3 hq2) rfl (by decide)) (by decide) ?_
                  refine TA.op (OpOK.pure (PV.neq rfl rfl) rfl (by decide)) (by decide) ?_
                  refine TA.op (OpOK.pure (PV.pickT rfl rfl) rfl (by decide)) (by decide) ?_
                  refine TA.op (OpOK.pure (PV.pickF rfl rfl) rfl (by decide)) (by decide) ?_
                  show TQ _ _ _ _ _
                  refine TQ.thenC ?_
                  first | refine TC.condD rfl (fun b4 => ?_) (fun b4 => ?_) | refine TC.cond rfl (fun b4 => ?_) (fun b4 => ?_)
                  · skip
                    refine TC.seq ?_
                    refine TC.region ?_
                    refine TL.pure (PV.assign rfl) rfl (by decide) ?_
                    refine TL.nil ?_
                    refine TQ.thenC ?_
                    refine TC.ret ?_
                    refine TQ.blkR ?_
                    refine TQ.thenR ?_
                    refine TQ.thenR ?_
                    refine TQ.blkR ?_
                    refine TQ.blkR ?_
                    refine TQ.thenR ?_
                    refine TQ.thenR ?_
                    refine TQ.blkR ?_
                    refine TQ.thenR ?_
                    refine TQ.retE1 rfl rfl ?_
                    exact ⟨(), by rw [valid_1 (fun h => by have h1 := shp_to h (i := i.1) (j := u.1) (by omega) (by omega); omega)], trivial, List.nil_sublist _⟩
                  · skip
                    refine TC.skip ?_
                    refine TQ.blkN ?_
                    refine TQ.thenC ?_
                    refine TC.region ?_
                    refine TL.pure (PV.move rfl) rfl (by decide) ?_
                    refine TL.pure (PV.add rfl rfl (by omega)) rfl (by decide) ?_
                    refine TL.pure (PV.assign rfl) rfl (by decide) ?_
                    refine TL.nil ?_
                    refine TQ.thenN ?_
                    refine TQ.backK (u.1 + 1, ()) (by repeat (first | exact True.intro | refine And.intro rfl ?_)) (by repeat (first | exact True.intro | refine And.intro rfl ?_)) (by repeat (first | exact List.Sublist.slnil | exact List.nil_sublist _ | exact List.Sublist.refl _ | refine List.Sublist.cons_cons _ ?_ | refine List.Sublist.cons _ ?_ | refine List.Sublist.trans ?_ (List.sublist_append_right _ _))) ⟨by simp only; omega, fun j hj => if e : j < u.1 then hu.2 j e else (show u.1 = j by simp only at hj; omega) ▸ (by unfold getM; exact ⟨by omega, by omega, fun h => by omega⟩)⟩ (by simp only; omega)
                · skip
                  refine TA.op (OpOK.skip rfl) (by decide) ?_
                  refine TA.op (OpOK.skip rfl) (by decide) ?_
                  refine TA.op (OpOK.skip rfl) (by decide) ?_
                  refine TA.op (OpOK.skip rfl) (by decide) ?_
                  refine TA.op (OpOK.skip rfl) (by decide) ?_
                  refine TA.op (OpOK.skip rfl) (by decide) ?_
                  refine TA.op (OpOK.skip rfl) (by decide) ?_
                  refine TA.op (OpOK.skip rfl) (by decide) ?_
                  refine TA.op (OpOK.skip rfl) (by decide) ?_
                  refine TA.op (OpOK.pure (PV.pickF rfl rfl) rfl (by decide)) (by decide) ?_
                  refine TA.op (OpOK.pure (PV.pickF rfl rfl) rfl (by decide)) (by decide) ?_
                  show TQ _ _ _ _ _
                  refine TQ.thenC ?_
                  refine TC.condF rfl ?_
                  refine TC.skip ?_
                  refine TQ.blkN ?_
                  refine TQ.thenC ?_
                  refine TC.region ?_
                  refine TL.pure (PV.move rfl) rfl (by decide) ?_
                  refine TL.pure (PV.add rfl rfl (by omega)) rfl (by decide) ?_
                  refine TL.pure (PV.assign rfl) rfl (by decide) ?_
                  refine TL.nil ?_
                  refine TQ.thenN ?_
                  refine TQ.backK (u.1 + 1, ()) (by repeat (first | exact True.intro | refine And.intro rfl ?_)) (by repeat (first | exact True.intro | refine And.intro rfl ?_)) (by repeat (first | exact List.Sublist.slnil | exact List.nil_sublist _ | exact List.Sublist.refl _ | refine List.Sublist.cons_cons _ ?_ | refine List.Sublist.cons _ ?_ | refine List.Sublist.trans ?_ (List.sublist_append_right _ _))) ⟨by simp only; omega, fun j hj => if e : j < u.1 then hu.2 j e else (show u.1 = j by simp only at hj; omega) ▸ (by unfold getM; exact ⟨by omega, by omega, fun h => by omega⟩)⟩ (by simp only; omega)
          · skip
            refine TC.exit ?_
            refine TQ.thenE ?_
            refine TQ.thenE ?_
            refine TQ.blkS ?_
            refine TQ.blkN ?_
            refine TQ.thenC ?_
            refine TC.region ?_
            refine TL.pure (PV.move rfl) rfl (by decide) ?_
            refine TL.pure (PV.add rfl rfl (by omega)) rfl (by decide) ?_
            refine TL.pure (PV.assign rfl) rfl (by decide) ?_
            refine TL.nil ?_
            refine TQ.thenN ?_
            refine TQ.backK (i.1 + 1, ()) (by repeat (first | exact True.intro | refine And.intro rfl ?_)) (by repeat (first | exact True.intro | refine And.intro rfl ?_)) (by repeat (first | exact List.Sublist.slnil | exact List.nil_sublist _ | exact List.Sublist.refl _ | refine List.Sublist.cons_cons _ ?_ | refine List.Sublist.cons _ ?_ | refine List.Sublist.trans ?_ (List.sublist_append_right _ _))) ⟨by simp only; omega, fun a ha => if e : a < i.1 then hi.2 a e else (show i.1 = a by simp only at ha; omega) ▸ (fun j hj => hu.2 j (by omega))⟩ (by simp only; omega)
        · skip
          refine TC.exit ?_
          refine TQ.thenE ?_
          refine TQ.thenE ?_
          refine TQ.blkS ?_
          refine TQ.thenC ?_
          refine TC.seq ?_
          have hn9 : 1 ≤ gs.length ∧ gs.length ≤ 5 := wi9
          have hS : Shp ls gs := shp_of hn9 (by omega) (fun j hj => hk.2 j (by omega)) (fun a j ha hj => hi.2 a (by omega) j hj)
          refine TC.region ?_
          refine TL.pure (PV.move rfl) rfl (by decide) ?_
          refine TL.makeB (k := gs.length) rfl rfl Tb.sl_71 Tb.zi_4 rfl (by omega) (by omega) rfl (by decide) (fun bJ hbJ => ?_)
          refine TL.pure (PV.assign rfl) rfl (by decide) ?_
          refine TL.nil ?_
          refine TQ.thenC ?_
          refine TC.seq ?_
          refine TC.seq ?_
          refine TC.region ?_
          refine TL.pure (PV.assign rfl) rfl (by decide) ?_
          refine TL.nil ?_
          refine TQ.thenC ?_
          refine TC.block ?_
          refine TC.lit [(1, _), (3, _), (7, _), (8, _)] (by repeat (first | exact True.intro | refine And.intro rfl ?_)) ?_
          refine TC.loopK [1, 2, 3, 7] (X := Nat × List Bool) (fun x => x.1 ≤ gs.length + 1 ∧ JI ls gs x.1 0 0 x.2) (fun x => [(8, .int .i64 x.1)]) (fun x => [(bJ, Obj.cells (boolsA x.2) 4 (0, 0)), (b0, Obj.cells #[.slice p ls.length cp, .slice q gs.length cq] 25 (0, 0))]) (fun x => gs.length + 1 - x.1) (0, List.replicate gs.length false) ⟨Nat.zero_le _, JI.start _ _⟩ (by repeat (first | exact True.intro | refine And.intro rfl ?_)) (by repeat (first | exact List.Sublist.slnil | exact List.nil_sublist _ | exact List.Sublist.refl _ | refine List.Sublist.cons_cons _ ?_ | refine List.Sublist.cons _ ?_ | refine List.Sublist.trans ?_ (List.sublist_append_right _ _))) ?_
          intro x hx
          refine TC.lit [(1, _), (3, _), (7, _), (8, _)] (by repeat (first | exact True.intro | refine And.intro rfl ?_)) ?_
          refine TC.seq ?_
          refine TC.seq ?_
          refine TC.region ?_
          refine TL.pure (PV.move rfl) rfl (by decide) ?_
          refine TL.pure (PV.move rfl) rfl (by decide) ?_
          refine TL.pure (PV.leq rfl rfl) rfl (by decide) ?_
          refine TL.nil ?_
          refine TQ.thenC ?_
          first | refine TC.condD rfl (fun hlt4 => ?_) (fun hlt4 => ?_) | refine TC.cond rfl (fun hlt4 => ?_) (fun hlt4 => ?_)
          · skip
            refine TC.skip ?_
            refine TQ.thenC ?_
            refine TC.seq ?_
            refine TC.block ?_
            refine TC.seq ?_
            refine TC.region ?_
            refine TL.pure (PV.assign rfl) rfl (by decide) ?_
            refine TL.nil ?_
            refine TQ.thenC ?_
            refine TC.block ?_
            refine TC.lit [(1, _), (3, _), (7, _), (8, _), (9, _)] (by repeat (first | exact True.intro | refine And.intro rfl ?_)) ?_
            refine TC.loopK [1, 2, 3, 7, 8] (X := Nat × List Bool) (fun y => y.1 ≤ gs.length ∧ JI ls gs x.1 y.1 0 y.2) (fun y => [(9, .int .i64 y.1)]) (fun y => [(bJ, Obj.cells (boolsA y.2) 4 (0, 0)), (b0, Obj.cells #[.slice p ls.length cp, .slice q gs.length cq] 25 (0, 0))]) (fun y => gs.length - y.1) (0, x.2) ⟨Nat.zero_le _, hx.2⟩ (by repeat (first | exact True.intro | refine And.intro rfl ?_)) (by repeat (first | exact List.Sublist.slnil | exact List.nil_sublist _ | exact List.Sublist.refl _ | refine List.Sublist.cons_cons _ ?_ | refine List.Sublist.cons _ ?_ | refine List.Sublist.trans ?_ (List.sublist_append_right _ _))) ?_
            intro y hy
            refine TC.lit [(1, _), (3, _), (7, _), (8, _), (9, _)] (by repeat (first | exact True.intro | refine And.intro rfl ?_)) ?_
            refine TC.seq ?_
            refine TC.seq ?_
            refine TC.region ?_
            refine TL.pure (PV.move rfl) rfl (by decide) ?_
            refine TL.pure (PV.move rfl) rfl (by decide) ?_
            refine TL.pure (PV.lss rfl rfl) rfl (by decide) ?_
            refine TL.nil ?_
            refine TQ.thenC ?_
            first | refine TC.condD rfl (fun hlt5 => ?_) (fun hlt5 => ?_) | refine TC.cond rfl (fun hlt5 => ?_) (fun hlt5 => ?_)
            · skip
              refine TC.skip ?_
              refine TQ.thenC ?_
              refine TC.seq ?_
              refine TC.block ?_
              refine TC.seq ?_
              have hbl := hy.2.len
              obtain ⟨q3, hq3p, hq3⟩ := hg y.1 (by omega)
              refine TC.region ?_
              refine TL.pure (PV.move rfl) rfl (by decide) ?_
              refine TL.pure (PV.move rfl) rfl (by decide) ?_
              refine TL.pure (PV.move rfl) rfl (by decide) ?_
              refine TL.pure (PV.move rfl) rfl (by decide) ?_
              refine TL.pure (PV.index1 (j := y.1) rfl rfl Tb.elm_71 rfl (by omega)) rfl (by decide) ?_
              refine TL.pure (PV.loadB rfl Tb.one_4 (by repeat (first | exact List.Mem.head _ | refine List.Mem.tail _ ?_ | refine List.mem_append_right _ ?_)) (by omega)) rfl (by decide) ?_
              refine TL.pure (PV.move rfl) rfl (by decide) ?_
              first | refine TL.splitD 120 rfl (fun e1 => ?_) (fun e1 => ?_) | refine TL.split 120 rfl (fun e1 => ?_) (fun e1 => ?_)
              · skip
                refine TL.skip rfl (fun k hk => by cases hk; decide) ?_
                refine TL.skip rfl (fun k hk => by cases hk; decide) ?_
                refine TL.skip rfl (fun k hk => by cases hk; decide) ?_
                refine TL.skip rfl (fun k hk => by cases hk; decide) ?_
                refine TL.skip rfl (fun k hk => by cases hk; decide) ?_
                refine TL.skip rfl (fun k hk => by cases hk; decide) ?_
                refine TL.pure (PV.pickT rfl rfl) rfl (by decide) ?_
                refine TL.pure (PV.index1 (j := y.1) rfl rfl Tb.elm_71 rfl (by omega)) rfl (by decide) ?_
                refine TL.storeB (v := (y.2.getD y.1 false || decide (0 < gs.getD y.1 0))) rfl (show some (Value.bool _) = some (Value.bool _) from congrArg some (congrArg Value.bool (by first | (rw [e1] <;> rfl)))) Tb.cells_4 (by repeat (first | exact Upd.head _ | apply Upd.tail | apply Upd.appR)) (by omega) rfl rfl ?_
                refine TL.nil ?_
                refine TQ.thenC ?_
                refine TC.seq ?_
                refine TC.region ?_
                refine TL.pure (PV.assign rfl) rfl (by decide) ?_
                refine TL.nil ?_
                refine TQ.thenC ?_
                refine TC.block ?_
                refine TC.lit [(1, _), (3, _), (7, _), (8, _), (9, _), (10, _)] (by repeat (first | exact True.intro | refine And.intro rfl ?_)) ?_
                refine TC.loopK [1, 2, 3, 7, 8, 9] (X := Nat × List Bool) (fun z => z.1 ≤ gs.length ∧ JI ls gs x.1 y.1 z.1 z.2 ∧ (0 < gs.getD y.1 0 → z.2.getD y.1 false = true)) (fun z => [(10, .int .i64 z.1)]) (fun z => [(bJ, Obj.cells (boolsA z.2) 4 (0, 0)), (b0, Obj.cells #[.slice p ls.length cp, .slice q gs.length cq] 25 (0, 0))]) (fun z => gs.length - z.1) (0, y.2.set y.1 (y.2.getD y.1 false || decide (0 < gs.getD y.1 0))) ⟨Nat.zero_le _, hy.2.ground (by omega)⟩ (by repeat (first | exact True.intro | refine And.intro rfl ?_)) (by repeat (first | exact List.Sublist.slnil | exact List.nil_sublist _ | exact List.Sublist.refl _ | refine List.Sublist.cons_cons _ ?_ | refine List.Sublist.cons _ ?_ | refine List.Sublist.trans ?_ (List.sublist_append_right _ _))) ?_
                intro z hz
                refine TC.lit [(1, _), (3, _), (7, _), (8, _), (9, _), (10, _)] (by repeat (first | exact True.intro | refine And.intro rfl ?_)) ?_
                refine TC.seq ?_
                refine TC.seq ?_
                refine TC.region ?_
                refine TL.pure (PV.move rfl) rfl (by decide) ?_
                refine TL.pure (PV.move rfl) rfl (by decide) ?_
                refine TL.pure (PV.lss rfl rfl) rfl (by decide) ?_
                refine TL.nil ?_
                refine TQ.thenC ?_
                first | refine TC.condD rfl (fun hlt6 => ?_) (fun hlt6 => ?_) | refine TC.cond rfl (fun hlt6 => ?_) (fun hlt6 => ?_)
                · skip
                  refine TC.skip ?_
                  refine TQ.thenC ?_
                  refine TC.seq ?_
                  refine TC.block ?_
                  have hbl := hz.2.1.len
                  have hrk := hS.rowl (k := y.1) (by have := hS.len; omega)
                  obtain ⟨q1, hq1p, p1, c1, hq1, hi1⟩ := hr y.1 (by have := hS.len; omega)
                  obtain ⟨q2, hq2p, hq2⟩ := hi1 z.1 (by omega)
                  refine TC.region ?_
                  refine TL.pure (PV.move rfl) rfl (by decide) ?_
                  refine TL.pure (PV.move rfl) rfl (by decide) ?_
                  refine TL.pure (PV.move rfl) rfl (by decide) ?_
                  refine TL.pure (PV.move rfl) rfl (by decide) ?_
                  refine TL.pure (PV.index1 (j := y.1) rfl rfl Tb.elm_71 rfl (by omega)) rfl (by decide) ?_
                  refine TL.pure (PV.loadB rfl Tb.one_4 (by repeat (first | exact List.Mem.head _ | refine List.Mem.tail _ ?_ | refine List.mem_append_right _ ?_)) (by omega)) rfl (by decide) ?_
                  refine TL.pure (PV.move rfl) rfl (by decide) ?_
                  first | refine TL.splitD 140 rfl (fun e1 => ?_) (fun e1 => ?_) | refine TL.split 140 rfl (fun e1 => ?_) (fun e1 => ?_)
                  · skip
                    refine TL.skip rfl (fun k hk => by cases hk; decide) ?_
                    refine TL.skip rfl (fun k hk => by cases hk; decide) ?_
                    refine TL.skip rfl (fun k hk => by cases hk; decide) ?_
                    refine TL.skip rfl (fun k hk => by cases hk; decide) ?_
                    refine TL.skip rfl (fun k hk => by cases hk; decide) ?_
                    refine TL.skipU rfl (fun k hk => by cases hk; decide) ?_
                    refine TL.skipU rfl (fun k hk => by cases hk; decide) ?_
                    refine TL.skipU rfl (fun k hk => by cases hk; decide) ?_
                    refine TL.skipU rfl (fun k hk => by cases hk; decide) ?_
                    refine TL.skipU rfl (fun k hk => by cases hk; decide) ?_
                    refine TL.skipU rfl (fun k hk => by cases hk; decide) ?_
                    refine TL.skipU rfl (fun k hk => by cases hk; decide) ?_
                    refine TL.skipU rfl (fun k hk => by cases hk; decide) ?_
                    refine TL.skipU rfl (fun k hk => by cases hk; decide) ?_
                    refine TL.skip rfl (fun k hk => by cases hk; decide) ?_
                    refine TL.pure (PV.pickT rfl rfl) rfl (by decide) ?_
                    refine TL.pure (PV.index1 (j := y.1) rfl rfl Tb.elm_71 rfl (by omega)) rfl (by decide) ?_
                    refine TL.storeB (v := (z.2.getD y.1 false || (z.2.getD z.1 false && decide (0 < (ls.getD y.1 []).getD z.1 0)))) rfl (show some (Value.bool _) = some (Value.bool _) from congrArg some (congrArg Value.bool (by first | (rw [e1] <;> rfl) | (rw [e1, e2] <;> rfl)))) Tb.cells_4 (by repeat (first | exact Upd.head _ | apply Upd.tail | apply Upd.appR)) (by omega) rfl rfl ?_
                    refine TL.nil ?_
                    refine TQ.blkN ?_
                    refine TQ.thenC ?_
                    refine TC.region ?_
                    refine TL.pure (PV.move rfl) rfl (by decide) ?_
                    refine TL.pure (PV.add rfl rfl (by omega)) rfl (by decide) ?_
                    refine TL.pure (PV.assign rfl) rfl (by decide) ?_
                    refine TL.nil ?_
                    refine TQ.thenN ?_
                    refine TQ.backK (z.1 + 1, z.2.set y.1 (z.2.getD y.1 false || (z.2.getD z.1 false && decide (0 < (ls.getD y.1 []).getD z.1 0)))) (by repeat (first | exact True.intro | refine And.intro rfl ?_)) (by repeat (first | exact True.intro | refine And.intro rfl ?_)) (by repeat (first | exact List.Sublist.slnil | exact List.nil_sublist _ | exact List.Sublist.refl _ | refine List.Sublist.cons_cons _ ?_ | refine List.Sublist.cons _ ?_ | refine List.Sublist.trans ?_ (List.sublist_append_right _ _))) ⟨by simp only; omega, JI.cell2 hz.2 (by omega) (by omega)⟩ (by simp only; omega)
                  · skip
                    refine TL.pure (PV.move rfl) rfl (by decide) ?_
                    refine TL.pure (PV.move rfl) rfl (by decide) ?_
                    refine TL.pure (PV.index1 (j := z.1) rfl rfl Tb.elm_71 rfl (by omega)) rfl (by decide) ?_
                    refine TL.pure (PV.loadB rfl Tb.one_4 (by repeat (first | exact List.Mem.head _ | refine List.Mem.tail _ ?_ | refine List.mem_append_right _ ?_)) (by omega)) rfl (by decide) ?_
                    refine TL.pure (PV.move rfl) rfl (by decide) ?_
                    first | refine TL.splitD 145 rfl (fun e2 => ?_) (fun e2 => ?_) | refine TL.split 145 rfl (fun e2 => ?_) (fun e2 => ?_)
                    · skip
                      refine TL.pure (PV.fieldAddr rfl Tb.fo_25_0) rfl (by decide) ?_
                      refine TL.pure (PV.load rfl Tb.one_22 (by repeat (first | exact List.Mem.head _ | refine List.Mem.tail _ ?_ | refine List.mem_append_right _ ?_)) rfl) rfl (by decide) ?_
                      refine TL.pure (PV.move rfl) rfl (by decide) ?_
                      refine TL.pure (PV.indexA rfl hq1p rfl Tb.elm_22 rfl (by omega)) rfl (by decide) ?_
                      refine TL.pure (PV.loadOld rfl Tb.one_23 hq1) rfl (by decide) ?_
                      refine TL.pure (PV.move rfl) rfl (by decide) ?_
                      refine TL.pure (PV.indexA rfl hq2p rfl Tb.elm_23 rfl (by omega)) rfl (by decide) ?_
                      refine TL.pure (PV.loadOld rfl Tb.one_3 hq2) rfl (by decide) ?_
                      refine TL.pure (PV.gtr rfl rfl) rfl (by decide) ?_
                      refine TL.pure (PV.pickT rfl rfl) rfl (by decide) ?_
                      refine TL.pure (PV.pickF rfl rfl) rfl (by decide) ?_
                      refine TL.pure (PV.index1 (j := y.1) rfl rfl Tb.elm_71 rfl (by omega)) rfl (by decide) ?_
                      refine TL.storeB (v := (z.2.getD y.1 false || (z.2.getD z.1 false && decide (0 < (ls.getD y.1 []).getD z.1 0)))) rfl (show some (Value.bool _) = some (Value.bool _) from congrArg some (congrArg Value.bool (by first | (rw [e1] <;> rfl) | (rw [e1, e2] <;> rfl)))) Tb.cells_4 (by repeat (first | exact Upd.head _ | apply Upd.tail | apply Upd.appR)) (by omega) rfl rfl ?_
                      refine TL.nil ?_
                      refine TQ.blkN ?_
                      refine TQ.thenC ?_
                      refine TC.region ?_
                      refine TL.pure (PV.move rfl) rfl (by decide) ?_
                      refine TL.pure (PV.add rfl rfl (by omega)) rfl (by decide) ?_
                      refine TL.pure (PV.assign rfl) rfl (by decide) ?_
                      refine TL.nil ?_
                      refine TQ.thenN ?_
                      refine TQ.backK (z.1 + 1, z.2.set y.1 (z.2.getD y.1 false || (z.2.getD z.1 false && decide (0 < (ls.getD y.1 []).getD z.1 0)))) (by repeat (first | exact True.intro | refine And.intro rfl ?_)) (by repeat (first | exact True.intro | refine And.intro rfl ?_)) (by repeat (first | exact List.Sublist.slnil | exact List.nil_sublist _ | exact List.Sublist.refl _ | refine List.Sublist.cons_cons _ ?_ | refine List.Sublist.cons _ ?_ | refine List.Sublist.trans ?_ (List.sublist_append_right _ _))) ⟨by simp only; omega, JI.cell2 hz.2 (by omega) (by omega)⟩ (by simp only; omega)
                    · skip
                      refine TL.skip rfl (fun k hk => by cases hk; decide) ?_
                      refine TL.skip rfl (fun k hk => by cases hk; decide) ?_
                      refine TL.skip rfl (fun k hk => by cases hk; decide) ?_
                      refine TL.skip rfl (fun k hk => by cases hk; decide) ?_
                      refine TL.skip rfl (fun k hk => by cases hk; decide) ?_
                      refine TL.skip rfl (fun k hk => by cases hk; decide) ?_
                      refine TL.skip rfl (fun k hk => by cases hk; decide) ?_
                      refine TL.skip rfl (fun k hk => by cases hk; decide) ?_
                      refine TL.skip rfl (fun k hk => by cases hk; decide) ?_
                      refine TL.pure (PV.pickF rfl rfl) rfl (by decide) ?_
                      refine TL.pure (PV.pickF rfl rfl) rfl (by decide) ?_
                      refine TL.pure (PV.index1 (j := y.1) rfl rfl Tb.elm_71 rfl (by omega)) rfl (by decide) ?_
                      refine TL.storeB (v := (z.2.getD y.1 false || (z.2.getD z.1 false && decide (0 < (ls.getD y.1 []).getD z.1 0)))) rfl (show some (Value.bool _) = some (Value.bool _) from congrArg some (congrArg Value.bool (by first | (rw [e1] <;> rfl) | (rw [e1, e2] <;> rfl)))) Tb.cells_4 (by repeat (first | exact Upd.head _ | apply Upd.tail | apply Upd.appR)) (by omega) rfl rfl ?_
                      refine TL.nil ?_
                      refine TQ.blkN ?_
                      refine TQ.thenC ?_
                      refine TC.region ?_
                      refine TL.pure (PV.move rfl) rfl (by decide) ?_
                      refine TL.pure (PV.add rfl rfl (by omega)) rfl (by decide) ?_
                      refine TL.pure (PV.assign rfl) rfl (by decide) ?_
                      refine TL.nil ?_
                      refine TQ.thenN ?_
                      refine TQ.backK (z.1 + 1, z.2.set y.1 (z.2.getD y.1 false || (z.2.getD z.1 false && decide (0 < (ls.getD y.1 []).getD z.1 0)))) (by repeat (first | exact True.intro | refine And.intro rfl ?_)) (by repeat (first | exact True.intro | refine And.intro rfl ?_)) (by repeat (first | exact List.Sublist.slnil | exact List.nil_sublist _ | exact List.Sublist.refl _ | refine List.Sublist.cons_cons _ ?_ | refine List.Sublist.cons _ ?_ | refine List.Sublist.trans ?_ (List.sublist_append_right _ _))) ⟨by simp only; omega, JI.cell2 hz.2 (by omega) (by omega)⟩ (by simp only; omega)
                · skip
                  refine TC.exit ?_
                  refine TQ.thenE ?_
                  refine TQ.thenE ?_
                  refine TQ.blkS ?_
                  refine TQ.blkN ?_
                  refine TQ.thenC ?_
                  refine TC.region ?_
                  refine TL.pure (PV.move rfl) rfl (by decide) ?_
                  refine TL.pure (PV.add rfl rfl (by omega)) rfl (by decide) ?_
                  refine TL.pure (PV.assign rfl) rfl (by decide) ?_
                  refine TL.nil ?_
                  refine TQ.thenN ?_
                  refine TQ.backK (y.1 + 1, z.2) (by repeat (first | exact True.intro | refine And.intro rfl ?_)) (by repeat (first | exact True.intro | refine And.intro rfl ?_)) (by repeat (first | exact List.Sublist.slnil | exact List.nil_sublist _ | exact List.Sublist.refl _ | refine List.Sublist.cons_cons _ ?_ | refine List.Sublist.cons _ ?_ | refine List.Sublist.trans ?_ (List.sublist_append_right _ _))) ⟨by simp only; omega, JI.nextRow0 hz.2 (by omega) hn9.1⟩ (by simp only; omega)
              · skip
                refine TL.pure (PV.fieldAddr rfl Tb.fo_25_1) rfl (by decide) ?_
                refine TL.pure (PV.load rfl Tb.one_23 (by repeat (first | exact List.Mem.head _ | refine List.Mem.tail _ ?_ | refine List.mem_append_right _ ?_)) rfl) rfl (by decide) ?_
                refine TL.pure (PV.move rfl) rfl (by decide) ?_
                refine TL.pure (PV.indexA rfl hq3p rfl Tb.elm_23 rfl (by omega)) rfl (by decide) ?_
                refine TL.pure (PV.loadOld rfl Tb.one_3 hq3) rfl (by decide) ?_
                refine TL.pure (PV.gtr rfl rfl) rfl (by decide) ?_
                refine TL.pure (PV.pickF rfl rfl) rfl (by decide) ?_
                refine TL.pure (PV.index1 (j := y.1) rfl rfl Tb.elm_71 rfl (by omega)) rfl (by decide) ?_
                refine TL.storeB (v := (y.2.getD y.1 false || decide (0 < gs.getD y.1 0))) rfl (show some (Value.bool _) = some (Value.bool _) from congrArg some (congrArg Value.bool (by first | (rw [e1] <;> rfl)))) Tb.cells_4 (by repeat (first | exact Upd.head _ | apply Upd.tail | apply Upd.appR)) (by omega) rfl rfl ?_
                refine TL.nil ?_
                refine TQ.thenC ?_
                refine TC.seq ?_
                refine TC.region ?_
                refine TL.pure (PV.assign rfl) rfl (by decide) ?_
                refine TL.nil ?_
                refine TQ.thenC ?_
                refine TC.block ?_
                refine TC.lit [(1, _), (3, _), (7, _), (8, _), (9, _), (10, _)] (by repeat (first | exact True.intro | refine And.intro rfl ?_)) ?_
                refine TC.loopK [1, 2, 3, 7, 8, 9] (X := Nat × List Bool) (fun z => z.1 ≤ gs.length ∧ JI ls gs x.1 y.1 z.1 z.2 ∧ (0 < gs.getD y.1 0 → z.2.getD y.1 false = true)) (fun z => [(10, .int .i64 z.1)]) (fun z => [(bJ, Obj.cells (boolsA z.2) 4 (0, 0)), (b0, Obj.cells #[.slice p ls.length cp, .slice q gs.length cq] 25 (0, 0))]) (fun z => gs.length - z.1) (0, y.2.set y.1 (y.2.getD y.1 false || decide (0 < gs.getD y.1 0))) ⟨Nat.zero_le _, hy.2.ground (by omega)⟩ (by repeat (first | exact True.intro | refine And.intro rfl ?_)) (by repeat (first | exact List.Sublist.slnil | exact List.nil_sublist _ | exact List.Sublist.refl _ | refine List.Sublist.cons_cons _ ?_ | refine List.Sublist.cons _ ?_ | refine List.Sublist.trans ?_ (List.sublist_append_right _ _))) ?_
                intro z hz
                refine TC.lit [(1, _), (3, _), (7, _), (8, _), (9, _), (10, _)] (by repeat (first | exact True.intro | refine And.intro rfl ?_)) ?_
                refine TC.seq ?_
                refine TC.seq ?_
                refine TC.region ?_
                refine TL.pure (PV.move rfl) rfl (by decide) ?_
                refine TL.pure (PV.move rfl) rfl (by decide) ?_
                refine TL.pure (PV.lss rfl rfl) rfl (by decide) ?_
                refine TL.nil ?_
                refine TQ.thenC ?_
                first | refine TC.condD rfl (fun hlt6 => ?_) (fun hlt6 => ?_) | refine TC.cond rfl (fun hlt6 => ?_) (fun hlt6 => ?_)
                · skip
                  refine TC.skip ?_
                  refine TQ.thenC ?_
                  refine TC.seq ?_
                  refine TC.block ?_
                  have hbl := hz.2.1.len
                  have hrk := hS.rowl (k := y.1) (by have := hS.len; omega)
                  obtain ⟨q1, hq1p, p1, c1, hq1, hi1⟩ := hr y.1 (by have := hS.len; omega)
                  obtain ⟨q2, hq2p, hq2⟩ := hi1 z.1 (by omega)
                  refine TC.region ?_
                  refine TL.pure (PV.move rfl) rfl (by decide) ?_
                  refine TL.pure (PV.move rfl) rfl (by decide) ?_
                  refine TL.pure (PV.move rfl) rfl (by decide) ?_
                  refine TL.pure (PV.move rfl) rfl (by decide) ?_
                  refine TL.pure (PV.index1 (j := y.1) rfl rfl Tb.elm_71 rfl (by omega)) rfl (by decide) ?_
                  refine TL.pure (PV.loadB rfl Tb.one_4 (by repeat (first | exact List.Mem.head _ | refine List.Mem.tail _ ?_ | refine List.mem_append_right _ ?_)) (by omega)) rfl (by decide) ?_
                  refine TL.pure (PV.move rfl) rfl (by decide) ?_
                  first | refine TL.splitD 140 rfl (fun e1 => ?_) (fun e1 => ?_) | refine TL.split 140 rfl (fun e1 => ?_) (fun e1 => ?_)
                  · skip
                    refine TL.skip rfl (fun k hk => by cases hk; decide) ?_
                    refine TL.skip rfl (fun k hk => by cases hk; decide) ?_
                    refine TL.skip rfl (fun k hk => by cases hk; decide) ?_
                    refine TL.skip rfl (fun k hk => by cases hk; decide) ?_
                    refine TL.skip rfl (fun k hk => by cases hk; decide) ?_
                    refine TL.skipU rfl (fun k hk => by cases hk; decide) ?_
                    refine TL.skipU rfl (fun k hk => by cases hk; decide) ?_
                    refine TL.skipU rfl (fun k hk => by cases hk; decide) ?_
                    refine TL.skipU rfl (fun k hk => by cases hk; decide) ?_
                    refine TL.skipU rfl (fun k hk => by cases hk; decide) ?_
                    refine TL.skipU rfl (fun k hk => by cases hk; decide) ?_
                    refine TL.skipU rfl (fun k hk => by cases hk; decide) ?_
                    refine TL.skipU rfl (fun k hk => by cases hk; decide) ?_
                    refine TL.skipU rfl (fun k hk => by cases hk; decide) ?_
                    refine TL.skip rfl (fun k hk => by cases hk; decide) ?_
                    refine TL.pure (PV.pickT rfl rfl) rfl (by decide) ?_
                    refine TL.pure (PV.index1 (j := y.1) rfl rfl Tb.elm_71 rfl (by omega)) rfl (by decide) ?_
                    refine TL.storeB (v := (z.2.getD y.1 false || (z.2.getD z.1 false && decide (0 < (ls.getD y.1 []).getD z.1 0)))) rfl (show some (Value.bool _) = some (Value.bool _) from congrArg some (congrArg Value.bool (by first | (rw [e1] <;> rfl) | (rw [e1, e2] <;> rfl)))) Tb.cells_4 (by repeat (first | exact Upd.head _ | apply Upd.tail | apply Upd.appR)) (by omega) rfl rfl ?_
                    refine TL.nil ?_
                    refine TQ.blkN ?_
                    refine TQ.thenC ?_
                    refine TC.region ?_
                    refine TL.pure (PV.move rfl) rfl (by decide) ?_
                    refine TL.pure (PV.add rfl rfl (by omega)) rfl (by decide) ?_
                    refine TL.pure (PV.assign rfl) rfl (by decide) ?_
                    refine TL.nil ?_
                    refine TQ.thenN ?_
                    refine TQ.backK (z.1 + 1, z.2.set y.1 (z.2.getD y.1 false || (z.2.getD z.1 false && decide (0 < (ls.getD y.1 []).getD z.1 0)))) (by repeat (first | exact True.intro | refine And.intro rfl ?_)) (by repeat (first | exact True.intro | refine And.intro rfl ?_)) (by repeat (first | exact List.Sublist.slnil | exact List.nil_sublist _ | exact List.Sublist.refl _ | refine List.Sublist.cons_cons _ ?_ | refine List.Sublist.cons _ ?_ | refine List.Sublist.trans ?_ (List.sublist_append_right _ _))) ⟨by simp only; omega, JI.cell2 hz.2 (by omega) (by omega)⟩ (by simp only; omega)
                  · skip
                    refine TL.pure (PV.move rfl) rfl (by decide) ?_
                    refine TL.pure (PV.move rfl) rfl (by decide) ?_
                    refine TL.pure (PV.index1 (j := z.1) rfl rfl Tb.elm_71 rfl (by omega)) rfl (by decide) ?_
                    refine TL.pure (PV.loadB rfl Tb.one_4 (by repeat (first | exact List.Mem.head _ | refine List.Mem.tail _ ?_ | refine List.mem_append_right _ ?_)) (by omega)) rfl (by decide) ?_
                    refine TL.pure (PV.move rfl) rfl (by decide) ?_
                    first | refine TL.splitD 145 rfl (fun e2 => ?_) (fun e2 => ?_) | refine TL.split 145 rfl (fun e2 => ?_) (fun e2 => ?_)
                    · skip
                      refine TL.pure (PV.fieldAddr rfl Tb.fo_25_0) rfl (by decide) ?_
                      refine TL.pure (PV.load rfl Tb.one_22 (by repeat (first | exact List.Mem.head _ | refine List.Mem.tail _ ?_ | refine List.mem_append_right _ ?_)) rfl) rfl (by decide) ?_
                      refine TL.pure (PV.move rfl) rfl (by decide) ?_
                      refine TL.pure (PV.indexA rfl hq1p rfl Tb.elm_22 rfl (by omega)) rfl (by decide) ?_
                      refine TL.pure (PV.loadOld rfl Tb.one_23 hq1) rfl (by decide) ?_
                      refine TL.pure (PV.move rfl) rfl (by decide) ?_
                      refine TL.pure (PV.indexA rfl hq2p rfl Tb.elm_23 rfl (by omega)) rfl (by decide) ?_
                      refine TL.pure (PV.loadOld rfl Tb.one_3 hq2) rfl (by decide) ?_
                      refine TL.pure (PV.gtr rfl rfl) rfl (by decide) ?_
                      refine TL.pure (PV.pickT rfl rfl) rfl (by decide) ?_
                      refine TL.pure (PV.pickF rfl rfl) rfl (by decide) ?_
                      refine TL.pure (PV.index1 (j := y.1) rfl rfl Tb.elm_71 rfl (by omega)) rfl (by decide) ?_
                      refine TL.storeB (v := (z.2.getD y.1 false || (z.2.getD z.1 false && decide (0 < (ls.getD y.1 []).getD z.1 0)))) rfl (show some (Value.bool _) = some (Value.bool _) from congrArg some (congrArg Value.bool (by first | (rw [e1] <;> rfl) | (rw [e1, e2] <;> rfl)))) Tb.cells_4 (by repeat (first | exact Upd.head _ | apply Upd.tail | apply Upd.appR)) (by omega) rfl rfl ?_
                      refine TL.nil ?_
                      refine TQ.blkN ?_
                      refine TQ.thenC ?_
                      refine TC.region ?_
                      refine TL.pure (PV.move rfl) rfl (by decide) ?_
                      refine TL.pure (PV.add rfl rfl (by omega)) rfl (by decide) ?_
                      refine TL.pure (PV.assign rfl) rfl (by decide) ?_
                      refine TL.nil ?_
                      refine TQ.thenN ?_
                      refine TQ.backK (z.1 + 1, z.2.set y.1 (z.2.getD y.1 false || (z.2.getD z.1 false && decide (0 < (ls.getD y.1 []).getD z.1 0)))) (by repeat (first | exact True.intro | refine And.intro rfl ?_)) (by repeat (first | exact True.intro | refine And.intro rfl ?_)) (by repeat (first | exact List.Sublist.slnil | exact List.nil_sublist _ | exact List.Sublist.refl _ | refine List.Sublist.cons_cons _ ?_ | refine List.Sublist.cons _ ?_ | refine List.Sublist.trans ?_ (List.sublist_append_right _ _))) ⟨by simp only; omega, JI.cell2 hz.2 (by omega) (by omega)⟩ (by simp only; omega)
                    · skip
                      refine TL.skip rfl (fun k hk => by cases hk; decide) ?_
                      refine TL.skip rfl (fun k hk => by cases hk; decide) ?_
                      refine TL.skip rfl (fun k hk => by cases hk; decide) ?_
                      refine TL.skip rfl (fun k hk => by cases hk; decide) ?_
                      refine TL.skip rfl (fun k hk => by cases hk; decide) ?_
                      refine TL.skip rfl (fun k hk => by cases hk; decide) ?_
                      refine TL.skip rfl (fun k hk => by cases hk; decide) ?_
                      refine TL.skip rfl (fun k hk => by cases hk; decide) ?_
                      refine TL.skip rfl (fun k hk => by cases hk; decide) ?_
                      refine TL.pure (PV.pickF rfl rfl) rfl (by decide) ?_
                      refine TL.pure (PV.pickF rfl rfl) rfl (by decide) ?_
                      refine TL.pure (PV.index1 (j := y.1) rfl rfl Tb.elm_71 rfl (by omega)) rfl (by decide) ?_
                      refine TL.storeB (v := (z.2.getD y.1 false || (z.2.getD z.1 false && decide (0 < (ls.getD y.1 []).getD z.1 0)))) rfl (show some (Value.bool _) = some (Value.bool _) from congrArg some (congrArg Value.bool (by first | (rw [e1] <;> rfl) | (rw [e1, e2] <;> rfl)))) Tb.cells_4 (by repeat (first | exact Upd.head _ | apply Upd.tail | apply Upd.appR)) (by omega) rfl rfl ?_
                      refine TL.nil ?_
                      refine TQ.blkN ?_
                      refine TQ.thenC ?_
                      refine TC.region ?_
                      refine TL.pure (PV.move rfl) rfl (by decide) ?_
                      refine TL.pure (PV.add rfl rfl (by omega)) rfl (by decide) ?_
                      refine TL.pure (PV.assign rfl) rfl (by decide) ?_
                      refine TL.nil ?_
                      refine TQ.thenN ?_
                      refine TQ.backK (z.1 + 1, z.2.set y.1 (z.2.getD y.1 false || (z.2.getD z.1 false && decide (0 < (ls.getD y.1 []).getD z.1 0)))) (by repeat (first | exact True.intro | refine And.intro rfl ?_)) (by repeat (first | exact True.intro | refine And.intro rfl ?_)) (by repeat (first | exact List.Sublist.slnil | exact List.nil_sublist _ | exact List.Sublist.refl _ | refine List.Sublist.cons_cons _ ?_ | refine List.Sublist.cons _ ?_ | refine List.Sublist.trans ?_ (List.sublist_append_right _ _))) ⟨by simp only; omega, JI.cell2 hz.2 (by omega) (by omega)⟩ (by simp only; omega)
                · skip
                  refine TC.exit ?_
                  refine TQ.thenE ?_
                  refine TQ.thenE ?_
                  refine TQ.blkS ?_
                  refine TQ.blkN ?_
                  refine TQ.thenC ?_
                  refine TC.region ?_
                  refine TL.pure (PV.move rfl) rfl (by decide) ?_
                  refine TL.pure (PV.add rfl rfl (by omega)) rfl (by decide) ?_
                  refine TL.pure (PV.assign rfl) rfl (by decide) ?_
                  refine TL.nil ?_
                  refine TQ.thenN ?_
                  refine TQ.backK (y.1 + 1, z.2) (by repeat (first | exact True.intro | refine And.intro rfl ?_)) (by repeat (first | exact True.intro | refine And.intro rfl ?_)) (by repeat (first | exact List.Sublist.slnil | exact List.nil_sublist _ | exact List.Sublist.refl _ | refine List.Sublist.cons_cons _ ?_ | refine List.Sublist.cons _ ?_ | refine List.Sublist.trans ?_ (List.sublist_append_right _ _))) ⟨by simp only; omega, JI.nextRow0 hz.2 (by omega) hn9.1⟩ (by simp only; omega)
            · skip
              refine TC.exit ?_
              refine TQ.thenE ?_
              refine TQ.thenE ?_
              refine TQ.blkS ?_
              refine TQ.blkN ?_
              refine TQ.thenC ?_
              refine TC.region ?_
              refine TL.pure (PV.move rfl) rfl (by decide) ?_
              refine TL.pure (PV.add rfl rfl (by omega)) rfl (by decide) ?_
              refine TL.pure (PV.assign rfl) rfl (by decide) ?_
              refine TL.nil ?_
              refine TQ.thenN ?_
              refine TQ.backK (x.1 + 1, y.2) (by repeat (first | exact True.intro | refine And.intro rfl ?_)) (by repeat (first | exact True.intro | refine And.intro rfl ?_)) (by repeat (first | exact List.Sublist.slnil | exact List.nil_sublist _ | exact List.Sublist.refl _ | refine List.Sublist.cons_cons _ ?_ | refine List.Sublist.cons _ ?_ | refine List.Sublist.trans ?_ (List.sublist_append_right _ _))) ⟨by simp only; omega, hy.2.nextRound (by omega)⟩ (by simp only; omega)
          · skip
            refine TC.exit ?_
            refine TQ.thenE ?_
            refine TQ.thenE ?_
            refine TQ.blkS ?_
            refine TQ.thenC ?_
            refine TC.seq ?_
            refine TC.seq ?_
            refine TC.region ?_
            refine TL.pure (PV.assign rfl) rfl (by decide) ?_
            refine TL.nil ?_
            refine TQ.thenC ?_
            refine TC.block ?_
            -- live and written in the loop, not told: [2]
            refine TC.lit [(3, _), (7, _), (11, _)] (by repeat (first | exact True.intro | refine And.intro rfl ?_)) ?_
            refine TC.loopG [3, 7] (X := Nat × Unit) (fun v => v.1 ≤ gs.length ∧ ∀ j, j < v.1 → x.2.getD j false = true) (fun v => [(11, .int .i64 v.1)]) (fun v => gs.length - v.1) (0, ()) ⟨Nat.zero_le _, fun j hj => absurd hj (Nat.not_lt_zero _)⟩ (by repeat (first | exact True.intro | refine And.intro rfl ?_)) ?_
            intro v hv
            refine TC.lit [(3, _), (7, _), (11, _)] (by repeat (first | exact True.intro | refine And.intro rfl ?_)) ?_
            refine TC.seq ?_
            refine TC.seq ?_
            refine TC.region ?_
            refine TL.pure (PV.move rfl) rfl (by decide) ?_
            refine TL.pure (PV.move rfl) rfl (by decide) ?_
            refine TL.pure (PV.lss rfl rfl) rfl (by decide) ?_
            refine TL.nil ?_
            refine TQ.thenC ?_
            first | refine TC.condD rfl (fun hlt7 => ?_) (fun hlt7 => ?_) | refine TC.cond rfl (fun hlt7 => ?_) (fun hlt7 => ?_)
            · skip
              refine TC.skip ?_
              refine TQ.thenC ?_
              refine TC.seq ?_
              refine TC.block ?_
              refine TC.seq ?_
              have hbl := hx.2.len
              refine TC.region ?_
              refine TL.pure (PV.move rfl) rfl (by decide) ?_
              refine TL.pure (PV.move rfl) rfl (by decide) ?_
              refine TL.pure (PV.index1 (j := v.1) rfl rfl Tb.elm_71 rfl (by omega)) rfl (by decide) ?_
              refine TL.pure (PV.loadB rfl Tb.one_4 (by repeat (first | exact List.Mem.head _ | refine List.Mem.tail _ ?_ | refine List.mem_append_right _ ?_)) (by omega)) rfl (by decide) ?_
              refine TL.pure ((by first | exact PV.notD rfl | exact PV.not rfl)) rfl (by decide) ?_
              refine TL.nil ?_
              refine TQ.thenC ?_
              first | refine TC.condD rfl (fun hno => ?_) (fun hno => ?_) | refine TC.cond rfl (fun hno => ?_) (fun hno => ?_)
              · skip
                refine TC.seq ?_
                refine TC.region ?_
                refine TL.pure (PV.assign rfl) rfl (by decide) ?_
                refine TL.nil ?_
                refine TQ.thenC ?_
                refine TC.ret ?_
                refine TQ.blkR ?_
                refine TQ.thenR ?_
                refine TQ.thenR ?_
                refine TQ.blkR ?_
                refine TQ.thenR ?_
                refine TQ.retE1 rfl rfl ?_
                exact ⟨(), by rw [valid_9 hS (fun h => by have h1 := (hx.2.fin (by omega)).2 h v.1 (by omega); rw [h1] at hno; exact absurd hno (by decide))], trivial, List.nil_sublist _⟩
              · skip
                refine TC.skip ?_
                refine TQ.blkN ?_
                refine TQ.thenC ?_
                refine TC.region ?_
                refine TL.pure (PV.move rfl) rfl (by decide) ?_
                refine TL.pure (PV.add rfl rfl (by omega)) rfl (by decide) ?_
                refine TL.pure (PV.assign rfl) rfl (by decide) ?_
                refine TL.nil ?_
                refine TQ.thenN ?_
                refine TQ.backK (v.1 + 1, ()) (by repeat (first | exact True.intro | refine And.intro rfl ?_)) (by repeat (first | exact True.intro | refine And.intro rfl ?_)) (by repeat (first | exact List.Sublist.slnil | exact List.nil_sublist _ | exact List.Sublist.refl _ | refine List.Sublist.cons_cons _ ?_ | refine List.Sublist.cons _ ?_ | refine List.Sublist.trans ?_ (List.sublist_append_right _ _))) ⟨by simp only; omega, fun j hj => if e : j < v.1 then hv.2 j e else (show v.1 = j by simp only at hj; omega) ▸ (by simpa using hno)⟩ (by simp only; omega)
            · skip
              refine TC.exit ?_
              refine TQ.thenE ?_
              refine TQ.thenE ?_
              refine TQ.blkS ?_
              refine TQ.thenC ?_
              refine TC.seq ?_
              refine TC.region ?_
              refine TL.pure (PV.assign rfl) rfl (by decide) ?_
              refine TL.nil ?_
              refine TQ.thenC ?_
              refine TC.ret ?_
              refine TQ.retE1 rfl rfl ?_
              exact ⟨(), by rw [valid_0 hS ((hx.2.fin (by omega)).1 (fun j hj => hv.2 j (by omega)))], trivial, List.nil_sublist _⟩

end Go.Proofs.Ytgafpkcnhpoobaa
