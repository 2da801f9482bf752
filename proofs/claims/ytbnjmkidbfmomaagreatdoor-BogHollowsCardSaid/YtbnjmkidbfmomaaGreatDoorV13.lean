/- Hc -/
import Derived.Test.YtbnjmkidbfmomaaGreatDoorV06
import Derived.Test.YtbnjmkidbfmomaaGreatDoorV12
set_option linter.unusedVariables false
set_option linter.unusedSimpArgs false
set_option maxRecDepth 100000
namespace Go.Proofs.YtbnjmkidbfmomaaGreatDoor.H
open Go.Sx Go.RowKit Go.Sand
theorem shp_of {ls : List (List Int)} {gs : List Int} (h1 : 1 ≤ gs.length ∧ gs.length ≤ 5) (h2 : ls.length = gs.length) (h3 : ∀ j, j < gs.length → (ls.getD j []).length = gs.length ∧ 0 ≤ gs.getD j 0 ∧ gs.getD j 0 ≤ 2)
    (h4 : ∀ i j, i < gs.length → j < gs.length → (0 ≤ getM ls i j ∧ getM ls i j ≤ 2) ∧ getM ls i j = getM ls j i ∧ (i = j → getM ls i j = 0)) : Shp ls gs where
  n := h1
  len := h2
  row := fun k hk => num_3 (by have := (h3 k (by omega)).1; omega) fun j hj => (h4 k j (by omega) (by have := (h3 k (by omega)).1; omega)).1
  gr := num_3 rfl fun k hk => (h3 k hk).2
  mu := fun i j hi hj => (h4 i j hi hj).2
theorem shp_to {ls : List (List Int)} {gs : List Int} (h : Shp ls gs) {i j : Nat} (hi : i < gs.length) (hj : j < gs.length) : (0 ≤ (ls.getD i []).getD j 0 ∧ (ls.getD i []).getD j 0 ≤ 2) ∧ (ls.getD i []).getD j 0 = (ls.getD j []).getD i 0 ∧ (i = j → (ls.getD i []).getD j 0 = 0) :=
  ⟨h.ent i j, h.mu i j hi hj⟩
set_option maxHeartbeats 4000000 in
theorem rvalidate_ok (w0 : World) (p : Option Addr) (cp : Nat) (ls : List (List Int)) (hr : LsAt w0 p ls) (q : Option Addr) (cq : Nat) (gs : List Int) (hg : IntsAt w0 q gs) :
    Calls Tryz.prog 87 #[hv p ls.length cp q gs.length cq] w0 (Post (X := Unit) (fun _ => .int .i64 (validI ls gs)) (fun _ => True) (fun _ => []) w0) := by
  refine calls Tryz.func87 rfl (n := 168) rfl (by simp) ?_
  refine zr (TL.box rfl rfl dc (fun b0 hb0 => ?_))
  refine za rfl (zk (zq (PV.fieldAddr rfl Tb.fo_27_1) rfl (zq (PV.load rfl Tb.one_25 m9z rfl) rfl ?_)))
  refine zq (PV.len rfl Tb.sl_25) rfl (za rfl (zn (TC.seq (zr (zm rfl (TL.call rfl Tb.gofn_127 (fun a w hs => within_ok w _ _ _) rfl dc (fun _ _ => ?_)))))))
  refine zq ((by first | exact PV.notD rfl | exact PV.not rfl)) rfl ?_
  refine zm rfl (TL.sp 18 rfl (fun a1 => ?_) (fun a1 => ?_))
  refine zx rfl (zx rfl (zx rfl (zx rfl (zx rfl (zq (PV.pickT rfl rfl) rfl (zn (TC.condT rfl (zr (za rfl (zt (TQ.thenR (TQ.retE1 rfl rfl ?_))))))))))))
  exact ⟨(), by rw [valid_1 (fun h => by have h1 := h.n; have h2 := h.len; omega)], trivial, nils⟩
  refine zq (PV.fieldAddr rfl Tb.fo_27_0) rfl (zq (PV.load rfl Tb.one_22 m9z rfl) rfl ?_)
  refine zq (PV.len rfl Tb.sl_22) rfl (zm rfl (zq (PV.neq rfl rfl) rfl (zq (PV.pickF rfl rfl) rfl (zn (TC.cd rfl (fun a2 => ?_) (fun a2 => ?_))))))
  refine zr (za rfl (zt (TQ.thenR (TQ.retE1 rfl rfl ?_))))
  exact ⟨(), by rw [valid_1 (fun h => by have h1 := h.n; have h2 := h.len; omega)], trivial, nils⟩
  refine TC.skip (TQ.thenC (TC.seq (TC.seq ?_)))
  have wi9 : 1 ≤ gs.length ∧ gs.length ≤ 5 := by omega
  refine TC.region (za rfl (zn (TC.block (TC.lit [(1, _), (3, _), (4, _)] l9z ?_))))
  refine TC.loopG [1, 3] (X := Nat × Unit) (fun k => k.1 ≤ gs.length ∧ ∀ j, j < k.1 → (ls.getD j []).length = gs.length ∧ 0 ≤ gs.getD j 0 ∧ gs.getD j 0 ≤ 2) (fun k => [(4, .int .i64 k.1)]) (fun k => gs.length - k.1) (0, ()) ⟨Nat.zero_le _, fun j hj => absurd hj (Nat.not_lt_zero _)⟩ l9z ?_
  intro k hk
  refine TC.lit [(1, _), (3, _), (4, _)] l9z ?_
  refine TC.seq (zr (zm rfl (zm rfl (zq (PV.lss rfl rfl) rfl (zn (TC.cd rfl (fun hlt => ?_) (fun hlt => ?_)))))))
  refine TC.skip (TQ.thenC (TC.seq (TC.block (TC.seq ?_))))
  obtain ⟨q1, hq1p, p1, c1, hq1, hi1⟩ := hr k.1 (by omega)
  obtain ⟨q2, hq2p, hq2⟩ := hg k.1 (by omega)
  refine TC.region (zq (PV.fieldAddr rfl Tb.fo_27_0) rfl (zq (PV.load rfl Tb.one_22 m9z rfl) rfl ?_))
  refine zm rfl (zq (PV.indexA rfl hq1p rfl Tb.elm_22 rfl om) rfl (zq (PV.loadOld rfl Tb.one_25 hq1) rfl (zq (PV.len rfl Tb.sl_25) rfl (zm rfl (zq (PV.neq rfl rfl) rfl (zm rfl (TL.sp 38 rfl (fun a3 => ?_) (fun a3 => ?_))))))))
  refine zx rfl (zx rfl (zx rfl (zx rfl (zx rfl (zx rfl (zx rfl (zq (PV.pickT rfl rfl) rfl (zn (TC.condT rfl (zr (za rfl (zt (TQ.blkR (TQ.thenR (TQ.thenR (TQ.blkR (TQ.thenR (TQ.retE1 rfl rfl ?_))))))))))))))))))
  exact ⟨(), by rw [valid_1 (fun h => by have h1 := h.rowl (k := k.1) (by omega); omega)], trivial, nils⟩
  refine zq (PV.fieldAddr rfl Tb.fo_27_1) rfl (zq (PV.load rfl Tb.one_25 m9z rfl) rfl ?_)
  refine zm rfl (zq (PV.indexA rfl hq2p rfl Tb.elm_25 rfl om) rfl (zq (PV.loadOld rfl Tb.one_3 hq2) rfl (TL.call rfl Tb.gofn_127 (fun a w hs => within_ok w _ _ _) rfl dc (fun _ _ => ?_))))
  refine zq ((by first | exact PV.notD rfl | exact PV.not rfl)) rfl ?_
  refine zq (PV.pickF rfl rfl) rfl (zn (TC.cd rfl (fun a4 => ?_) (fun a4 => ?_)))
  refine zr (za rfl (zt (TQ.blkR (TQ.thenR (TQ.thenR (TQ.blkR (TQ.thenR (TQ.retE1 rfl rfl ?_))))))))
  exact ⟨(), by rw [valid_1 (fun h => by have h1 := h.gat k.1; omega)], trivial, nils⟩
  refine TC.skip (TQ.blkN (TQ.thenC (TC.region (zm rfl (zq (PV.add rfl rfl om) rfl (za rfl (TL.nil (TQ.thenN (TQ.backK (k.1 + 1, ()) l9z l9z s9z ⟨by simp only; omega, fun j hj => if e : j < k.1 then hk.2 j e else (show k.1 = j by simp only at hj; omega) ▸ ⟨by omega, by omega⟩⟩ (by simp only; omega))))))))))
  refine TC.exit (TQ.thenE (TQ.thenE (TQ.blkS (TQ.thenC (TC.seq (zr (za rfl (zn (TC.block (TC.lit [(1, _), (3, _), (5, _)] l9z ?_))))))))))
  refine TC.loopG [1, 3] (X := Nat × Unit) (fun i => i.1 ≤ gs.length ∧ ∀ a, a < i.1 → ∀ j, j < gs.length → (0 ≤ getM ls a j ∧ getM ls a j ≤ 2) ∧ getM ls a j = getM ls j a ∧ (a = j → getM ls a j = 0)) (fun i => [(5, .int .i64 i.1)]) (fun i => gs.length - i.1) (0, ()) ⟨Nat.zero_le _, fun a ha => absurd ha (Nat.not_lt_zero _)⟩ l9z ?_
  intro i hi
  refine TC.lit [(1, _), (3, _), (5, _)] l9z ?_
  refine TC.seq (zr (zm rfl (zm rfl (zq (PV.lss rfl rfl) rfl (zn (TC.cd rfl (fun hlt2 => ?_) (fun hlt2 => ?_)))))))
  refine TC.skip (TQ.thenC (TC.seq (TC.block (zr (za rfl (zn (TC.block (TC.lit [(1, _), (3, _), (5, _), (6, _)] l9z ?_))))))))
  refine TC.loopG [1, 3, 5] (X := Nat × Unit) (fun u => u.1 ≤ gs.length ∧ ∀ j, j < u.1 → (0 ≤ getM ls i.1 j ∧ getM ls i.1 j ≤ 2) ∧ getM ls i.1 j = getM ls j i.1 ∧ (i.1 = j → getM ls i.1 j = 0)) (fun u => [(6, .int .i64 u.1)]) (fun u => gs.length - u.1) (0, ()) ⟨Nat.zero_le _, fun j hj => absurd hj (Nat.not_lt_zero _)⟩ l9z ?_
  intro u hu
  refine TC.lit [(1, _), (3, _), (5, _), (6, _)] l9z ?_
  refine TC.seq (zr (zm rfl (zm rfl (zq (PV.lss rfl rfl) rfl (zn (TC.cd rfl (fun hlt3 => ?_) (fun hlt3 => ?_)))))))
  refine TC.skip (TQ.thenC (TC.seq (TC.block (TC.seq ?_))))
  have hr1 := hk.2 i.1 (by omega)
  have hr2 := hk.2 u.1 (by omega)
  obtain ⟨q1, hq1p, p1, c1, hq1, hi1⟩ := hr i.1 (by omega)
  obtain ⟨q2, hq2p, hq2⟩ := hi1 u.1 (by omega)
  obtain ⟨q3, hq3p, p3, c3, hq3, hi3⟩ := hr u.1 (by omega)
  obtain ⟨q4, hq4p, hq4⟩ := hi3 i.1 (by omega)
  refine TC.any Tb.mixed rfl rfl ?_
  refine TA.op (OpOK.pure (PV.fieldAddr rfl Tb.fo_27_0) rfl dc) dc ?_
  refine TA.op (OpOK.pure (PV.load rfl Tb.one_22 m9z rfl) rfl dc) dc ?_
  refine TA.op (OpOK.pure (PV.move rfl) rfl dc) dc ?_
  refine TA.op (OpOK.pure (PV.indexA rfl hq1p rfl Tb.elm_22 rfl om) rfl dc) dc ?_
  refine TA.op (OpOK.pure (PV.loadOld rfl Tb.one_25 hq1) rfl dc) dc ?_
  refine TA.op (OpOK.pure (PV.move rfl) rfl dc) dc ?_
  refine TA.op (OpOK.pure (PV.indexA rfl hq2p rfl Tb.elm_25 rfl om) rfl dc) dc ?_
  refine TA.op (OpOK.pure (PV.loadOld rfl Tb.one_3 hq2) rfl dc) dc ?_
  refine TA.op (OpOK.call rfl Tb.gofn_127 (fun a w hs => within_ok w _ _ _) rfl dc) dc ?_
  refine TA.op (OpOK.pure ((by first | exact PV.notD rfl | exact PV.not rfl)) rfl (by decide)) (by decide) ?_
  refine TA.op (OpOK.pure (PV.move rfl) rfl dc) dc ?_
  first | refine TA.splitD 67 rfl (fun b1 => ?_) (fun b1 => ?_) | refine TA.split 67 rfl (fun b1 => ?_) (fun b1 => ?_)
  refine TA.op (OpOK.skip rfl) dc ?_
  refine TA.op (OpOK.skip rfl) dc ?_
  refine TA.op (OpOK.skip rfl) dc ?_
  refine TA.op (OpOK.skip rfl) dc ?_
  refine TA.op (OpOK.skip rfl) dc ?_
  refine TA.op (OpOK.skip rfl) dc ?_
  refine TA.op (OpOK.skip rfl) dc ?_
  refine TA.op (OpOK.skip rfl) dc ?_
  refine TA.op (OpOK.skip rfl) dc ?_
  refine TA.op (OpOK.skip rfl) dc ?_
  refine TA.op (OpOK.skip rfl) dc ?_
  refine TA.op (OpOK.skip rfl) dc ?_
  refine TA.op (OpOK.skip rfl) dc ?_
  refine TA.op (OpOK.skip rfl) dc ?_
  refine TA.op (OpOK.skip rfl) dc ?_
  refine TA.op (OpOK.skip rfl) dc ?_
  refine TA.op (OpOK.skip rfl) dc ?_
  refine TA.op (OpOK.pure (PV.pickT rfl rfl) rfl dc) dc ?_
  refine TA.op (OpOK.pure (PV.move rfl) rfl dc) dc ?_
  refine TA.op (OpOK.skip rfl) dc ?_
  refine TA.op (OpOK.skip rfl) dc ?_
  refine TA.op (OpOK.skip rfl) dc ?_
  refine TA.op (OpOK.skip rfl) dc ?_
  refine TA.op (OpOK.skipU rfl) dc ?_
  refine TA.op (OpOK.skipU rfl) dc ?_
  refine TA.op (OpOK.skipU rfl) dc ?_
  refine TA.op (OpOK.skipU rfl) dc ?_
  refine TA.op (OpOK.skipU rfl) dc ?_
  refine TA.op (OpOK.skipU rfl) dc ?_
  refine TA.op (OpOK.skipU rfl) dc ?_
  refine TA.op (OpOK.skipU rfl) dc ?_
  refine TA.op (OpOK.skipU rfl) dc ?_
  refine TA.op (OpOK.skip rfl) dc ?_
  refine TA.op (OpOK.pure (PV.pickT rfl rfl) rfl dc) dc ?_
  show TQ _ _ _ _ _
  refine TQ.thenC (TC.condT rfl (zr (za rfl (zt (TQ.blkR (TQ.thenR (TQ.thenR (TQ.blkR (TQ.blkR (TQ.thenR (TQ.thenR (TQ.blkR (TQ.thenR (TQ.retE1 rfl rfl ?_))))))))))))))
  exact ⟨(), by rw [valid_1 (fun h => by have h1 := shp_to h (i := i.1) (j := u.1) (by omega) (by omega); omega)], trivial, nils⟩
  refine TA.op (OpOK.pure (PV.fieldAddr rfl Tb.fo_27_0) rfl dc) dc ?_
  refine TA.op (OpOK.pure (PV.load rfl Tb.one_22 m9z rfl) rfl dc) dc ?_
  refine TA.op (OpOK.pure (PV.move rfl) rfl dc) dc ?_
  refine TA.op (OpOK.pure (PV.indexA rfl hq1p rfl Tb.elm_22 rfl om) rfl dc) dc ?_
  refine TA.op (OpOK.pure (PV.loadOld rfl Tb.one_25 hq1) rfl dc) dc ?_
  refine TA.op (OpOK.pure (PV.move rfl) rfl dc) dc ?_
  refine TA.op (OpOK.pure (PV.indexA rfl hq2p rfl Tb.elm_25 rfl om) rfl dc) dc ?_
  refine TA.op (OpOK.pure (PV.loadOld rfl Tb.one_3 hq2) rfl dc) dc ?_
  refine TA.op (OpOK.pure (PV.fieldAddr rfl Tb.fo_27_0) rfl dc) dc ?_
  refine TA.op (OpOK.pure (PV.load rfl Tb.one_22 m9z rfl) rfl dc) dc ?_
  refine TA.op (OpOK.pure (PV.move rfl) rfl dc) dc ?_
  refine TA.op (OpOK.pure (PV.indexA rfl hq3p rfl Tb.elm_22 rfl om) rfl dc) dc ?_
  refine TA.op (OpOK.pure (PV.loadOld rfl Tb.one_25 hq3) rfl dc) dc ?_
  refine TA.op (OpOK.pure (PV.move rfl) rfl dc) dc ?_
  refine TA.op (OpOK.pure (PV.indexA rfl hq4p rfl Tb.elm_25 rfl om) rfl dc) dc ?_
  refine TA.op (OpOK.pure (PV.loadOld rfl Tb.one_3 hq4) rfl dc) dc ?_
  refine TA.op (OpOK.pure (PV.neq rfl rfl) rfl dc) dc ?_
  refine TA.op (OpOK.pure (PV.pickF rfl rfl) rfl dc) dc ?_
  refine TA.op (OpOK.pure (PV.move rfl) rfl dc) dc ?_
  first | refine TA.splitD 86 rfl (fun b2 => ?_) (fun b2 => ?_) | refine TA.split 86 rfl (fun b2 => ?_) (fun b2 => ?_)
  refine TA.op (OpOK.skip rfl) dc ?_
  refine TA.op (OpOK.skip rfl) dc ?_
  refine TA.op (OpOK.skip rfl) dc ?_
  refine TA.op (OpOK.skip rfl) dc ?_
  refine TA.op (OpOK.skipU rfl) dc ?_
  refine TA.op (OpOK.skipU rfl) dc ?_
  refine TA.op (OpOK.skipU rfl) dc ?_
  refine TA.op (OpOK.skipU rfl) dc ?_
  refine TA.op (OpOK.skipU rfl) dc ?_
  refine TA.op (OpOK.skipU rfl) dc ?_
  refine TA.op (OpOK.skipU rfl) dc ?_
  refine TA.op (OpOK.skipU rfl) dc ?_
  refine TA.op (OpOK.skipU rfl) dc ?_
  refine TA.op (OpOK.skip rfl) dc ?_
  refine TA.op (OpOK.pure (PV.pickT rfl rfl) rfl dc) dc ?_
  show TQ _ _ _ _ _
  refine TQ.thenC (TC.condT rfl (zr (za rfl (zt (TQ.blkR (TQ.thenR (TQ.thenR (TQ.blkR (TQ.blkR (TQ.thenR (TQ.thenR (TQ.blkR (TQ.thenR (TQ.retE1 rfl rfl ?_))))))))))))))
  exact ⟨(), by rw [valid_1 (fun h => by have h1 := shp_to h (i := i.1) (j := u.1) (by omega) (by omega); omega)], trivial, nils⟩
  refine TA.op (OpOK.pure (PV.move rfl) rfl dc) dc ?_
  refine TA.op (OpOK.pure (PV.move rfl) rfl dc) dc ?_
  refine TA.op (OpOK.pure (PV.eql rfl rfl) rfl dc) dc ?_
  refine TA.op (OpOK.pure (PV.move rfl) rfl dc) dc ?_
  first | refine TA.splitD 90 rfl (fun b3 => ?_) (fun b3 => ?_) | refine TA.split 90 rfl (fun b3 => ?_) (fun b3 => ?_)
  refine TA.op (OpOK.pure (PV.fieldAddr rfl Tb.fo_27_0) rfl dc) dc ?_
  refine TA.op (OpOK.pure (PV.load rfl Tb.one_22 m9z rfl) rfl dc) dc ?_
  refine TA.op (OpOK.pure (PV.move rfl) rfl dc) dc ?_
  refine TA.op (OpOK.pure (PV.indexA rfl hq1p rfl Tb.elm_22 rfl om) rfl dc) dc ?_
  refine TA.op (OpOK.pure (PV.loadOld rfl Tb.one_25 hq1) rfl dc) dc ?_
  refine TA.op (OpOK.pure (PV.move rfl) rfl dc) dc ?_
  refine TA.op (OpOK.pure (PV.indexA rfl hq2p rfl Tb.elm_25 rfl om) rfl dc) dc ?_
  refine TA.op (OpOK.pure (PV.loadOld rfl Tb.one_3 hq2) rfl dc) dc ?_
  refine TA.op (OpOK.pure (PV.neq rfl rfl) rfl dc) dc ?_
  refine TA.op (OpOK.pure (PV.pickT rfl rfl) rfl dc) dc ?_
  refine TA.op (OpOK.pure (PV.pickF rfl rfl) rfl dc) dc ?_
  show TQ _ _ _ _ _
  refine TQ.thenC (TC.cd rfl (fun b4 => ?_) (fun b4 => ?_))
  refine zr (za rfl (zt (TQ.blkR (TQ.thenR (TQ.thenR (TQ.blkR (TQ.blkR (TQ.thenR (TQ.thenR (TQ.blkR (TQ.thenR (TQ.retE1 rfl rfl ?_))))))))))))
  exact ⟨(), by rw [valid_1 (fun h => by have h1 := shp_to h (i := i.1) (j := u.1) (by omega) (by omega); omega)], trivial, nils⟩
  refine TC.skip (TQ.blkN (TQ.thenC (TC.region (zm rfl (zq (PV.add rfl rfl om) rfl (za rfl (TL.nil (TQ.thenN (TQ.backK (u.1 + 1, ()) l9z l9z s9z ⟨by simp only; omega, fun j hj => if e : j < u.1 then hu.2 j e else (show u.1 = j by simp only at hj; omega) ▸ (by unfold getM; exact ⟨by omega, by omega, fun h => by omega⟩)⟩ (by simp only; omega))))))))))
  refine TA.op (OpOK.skip rfl) dc ?_
  refine TA.op (OpOK.skip rfl) dc ?_
  refine TA.op (OpOK.skip rfl) dc ?_
  refine TA.op (OpOK.skip rfl) dc ?_
  refine TA.op (OpOK.skip rfl) dc ?_
  refine TA.op (OpOK.skip rfl) dc ?_
  refine TA.op (OpOK.skip rfl) dc ?_
  refine TA.op (OpOK.skip rfl) dc ?_
  refine TA.op (OpOK.skip rfl) dc ?_
  refine TA.op (OpOK.pure (PV.pickF rfl rfl) rfl dc) dc ?_
  refine TA.op (OpOK.pure (PV.pickF rfl rfl) rfl dc) dc ?_
  show TQ _ _ _ _ _
  refine TQ.thenC (TC.condF rfl (TC.skip (TQ.blkN (TQ.thenC (TC.region (zm rfl (zq (PV.add rfl rfl om) rfl (za rfl (TL.nil (TQ.thenN (TQ.backK (u.1 + 1, ()) l9z l9z s9z ⟨by simp only; omega, fun j hj => if e : j < u.1 then hu.2 j e else (show u.1 = j by simp only at hj; omega) ▸ (by unfold getM; exact ⟨by omega, by omega, fun h => by omega⟩)⟩ (by simp only; omega))))))))))))
  refine TC.exit (TQ.thenE (TQ.thenE (TQ.blkS (TQ.blkN (TQ.thenC (TC.region (zm rfl (zq (PV.add rfl rfl om) rfl (za rfl (TL.nil (TQ.thenN (TQ.backK (i.1 + 1, ()) l9z l9z s9z ⟨by simp only; omega, fun a ha => if e : a < i.1 then hi.2 a e else (show i.1 = a by simp only at ha; omega) ▸ (fun j hj => hu.2 j om)⟩ (by simp only; omega)))))))))))))
  refine TC.exit (TQ.thenE (TQ.thenE (TQ.blkS (TQ.thenC (TC.seq ?_)))))
  have hn9 : 1 ≤ gs.length ∧ gs.length ≤ 5 := wi9
  have hS : Shp ls gs := shp_of hn9 (by omega) (fun j hj => hk.2 j (by omega)) (fun a j ha hj => hi.2 a (by omega) j hj)
  refine TC.region (zm rfl (TL.makeB (k := gs.length) rfl rfl Tb.sl_174 Tb.zi_4 rfl om om rfl dc (fun bJ hbJ => ?_)))
  refine za rfl (zn (TC.seq (zr (za rfl (zn (TC.block (TC.lit [(1, _), (3, _), (7, _), (8, _)] l9z ?_)))))))
  refine TC.loopK [1, 2, 3, 7] (X := Nat × List Bool) (fun x => x.1 ≤ gs.length + 1 ∧ JI ls gs x.1 0 0 x.2) (fun x => [(8, .int .i64 x.1)]) (fun x => [(bJ, Obj.cells (boolsA x.2) 4 (0, 0)), (b0, Obj.cells #[.slice p ls.length cp, .slice q gs.length cq] 27 (0, 0))]) (fun x => gs.length + 1 - x.1) (0, List.replicate gs.length false) ⟨Nat.zero_le _, JI.start _ _⟩ l9z s9z ?_
  intro x hx
  refine TC.lit [(1, _), (3, _), (7, _), (8, _)] l9z ?_
  refine TC.seq (zr (zm rfl (zm rfl (zq (PV.leq rfl rfl) rfl (zn (TC.cd rfl (fun hlt4 => ?_) (fun hlt4 => ?_)))))))
  refine TC.skip (TQ.thenC (TC.seq (TC.block (zr (za rfl (zn (TC.block (TC.lit [(1, _), (3, _), (7, _), (8, _), (9, _)] l9z ?_))))))))
  refine TC.loopK [1, 2, 3, 7, 8] (X := Nat × List Bool) (fun y => y.1 ≤ gs.length ∧ JI ls gs x.1 y.1 0 y.2) (fun y => [(9, .int .i64 y.1)]) (fun y => [(bJ, Obj.cells (boolsA y.2) 4 (0, 0)), (b0, Obj.cells #[.slice p ls.length cp, .slice q gs.length cq] 27 (0, 0))]) (fun y => gs.length - y.1) (0, x.2) ⟨Nat.zero_le _, hx.2⟩ l9z s9z ?_
  intro y hy
  refine TC.lit [(1, _), (3, _), (7, _), (8, _), (9, _)] l9z ?_
  refine TC.seq (zr (zm rfl (zm rfl (zq (PV.lss rfl rfl) rfl (zn (TC.cd rfl (fun hlt5 => ?_) (fun hlt5 => ?_)))))))
  refine TC.skip (TQ.thenC (TC.seq (TC.block (TC.seq ?_))))
  have hbl := hy.2.len
  obtain ⟨q3, hq3p, hq3⟩ := hg y.1 (by omega)
  refine TC.region (zm rfl (zm rfl (zm rfl (zm rfl (zq (PV.index1 (j := y.1) rfl rfl Tb.elm_174 rfl om) rfl (zq (PV.loadB rfl Tb.one_4 m9z om) rfl ?_))))))
  refine zm rfl (TL.sp 120 rfl (fun e1 => ?_) (fun e1 => ?_))
  refine zx rfl (zx rfl (zx rfl (zx rfl (zx rfl (zx rfl (zq (PV.pickT rfl rfl) rfl (zq (PV.index1 (j := y.1) rfl rfl Tb.elm_174 rfl (by omega)) rfl (TL.storeB (v := (y.2.getD y.1 false || decide (0 < gs.getD y.1 0))) rfl (show some (Value.bool _) = some (Value.bool _) from congrArg some (congrArg Value.bool (by first | (rw [e1] <;> rfl)))) Tb.cells_4 u9z (by omega) rfl rfl ?_))))))))
  refine zk (za rfl (zn (TC.block (TC.lit [(1, _), (3, _), (7, _), (8, _), (9, _), (10, _)] l9z ?_))))
  refine TC.loopK [1, 2, 3, 7, 8, 9] (X := Nat × List Bool) (fun z => z.1 ≤ gs.length ∧ JI ls gs x.1 y.1 z.1 z.2 ∧ (0 < gs.getD y.1 0 → z.2.getD y.1 false = true)) (fun z => [(10, .int .i64 z.1)]) (fun z => [(bJ, Obj.cells (boolsA z.2) 4 (0, 0)), (b0, Obj.cells #[.slice p ls.length cp, .slice q gs.length cq] 27 (0, 0))]) (fun z => gs.length - z.1) (0, y.2.set y.1 (y.2.getD y.1 false || decide (0 < gs.getD y.1 0))) ⟨Nat.zero_le _, hy.2.ground om⟩ l9z s9z ?_
  intro z hz
  refine TC.lit [(1, _), (3, _), (7, _), (8, _), (9, _), (10, _)] l9z ?_
  refine TC.seq (zr (zm rfl (zm rfl (zq (PV.lss rfl rfl) rfl (zn (TC.cd rfl (fun hlt6 => ?_) (fun hlt6 => ?_)))))))
  refine TC.skip (TQ.thenC (TC.seq (TC.block ?_)))
  have hbl := hz.2.1.len
  have hrk := hS.rowl (k := y.1) (by have := hS.len; omega)
  obtain ⟨q1, hq1p, p1, c1, hq1, hi1⟩ := hr y.1 (by have := hS.len; omega)
  obtain ⟨q2, hq2p, hq2⟩ := hi1 z.1 (by omega)
  refine TC.region (zm rfl (zm rfl (zm rfl (zm rfl (zq (PV.index1 (j := y.1) rfl rfl Tb.elm_174 rfl om) rfl (zq (PV.loadB rfl Tb.one_4 m9z om) rfl ?_))))))
  refine zm rfl (TL.sp 140 rfl (fun e1 => ?_) (fun e1 => ?_))
  refine zx rfl (zx rfl (zx rfl (zx rfl (zx rfl (TL.skipU rfl (fun k hk => by cases hk; decide) ?_)))))
  refine TL.skipU rfl (fun k hk => by cases hk; decide) ?_
  refine TL.skipU rfl (fun k hk => by cases hk; decide) ?_
  refine TL.skipU rfl (fun k hk => by cases hk; decide) ?_
  refine TL.skipU rfl (fun k hk => by cases hk; decide) ?_
  refine TL.skipU rfl (fun k hk => by cases hk; decide) ?_
  refine TL.skipU rfl (fun k hk => by cases hk; decide) ?_
  refine TL.skipU rfl (fun k hk => by cases hk; decide) ?_
  refine TL.skipU rfl (fun k hk => by cases hk; decide) ?_
  refine zx rfl (zq (PV.pickT rfl rfl) rfl (zq (PV.index1 (j := y.1) rfl rfl Tb.elm_174 rfl (by omega)) rfl (TL.storeB (v := (z.2.getD y.1 false || (z.2.getD z.1 false && decide (0 < (ls.getD y.1 []).getD z.1 0)))) rfl (show some (Value.bool _) = some (Value.bool _) from congrArg some (congrArg Value.bool (by first | (rw [e1] <;> rfl) | (rw [e1, e2] <;> rfl)))) Tb.cells_4 u9z (by omega) rfl rfl ?_)))
  refine TL.nil (TQ.blkN (TQ.thenC (TC.region (zm rfl (zq (PV.add rfl rfl om) rfl (za rfl (TL.nil (TQ.thenN (TQ.backK (z.1 + 1, z.2.set y.1 (z.2.getD y.1 false || (z.2.getD z.1 false && decide (0 < (ls.getD y.1 []).getD z.1 0)))) l9z l9z s9z ⟨by simp only; omega, JI.cell2 hz.2 om om⟩ (by simp only; omega))))))))))
  refine zm rfl (zm rfl (zq (PV.index1 (j := z.1) rfl rfl Tb.elm_174 rfl om) rfl (zq (PV.loadB rfl Tb.one_4 m9z om) rfl ?_)))
  refine zm rfl (TL.sp 145 rfl (fun e2 => ?_) (fun e2 => ?_))
  refine zq (PV.fieldAddr rfl Tb.fo_27_0) rfl (zq (PV.load rfl Tb.one_22 m9z rfl) rfl ?_)
  refine zm rfl (zq (PV.indexA rfl hq1p rfl Tb.elm_22 rfl (by omega)) rfl (zq (PV.loadOld rfl Tb.one_25 hq1) rfl (zm rfl (zq (PV.indexA rfl hq2p rfl Tb.elm_25 rfl (by omega)) rfl (zq (PV.loadOld rfl Tb.one_3 hq2) rfl (zq (PV.gtr rfl rfl) rfl (zq (PV.pickT rfl rfl) rfl (zq (PV.pickF rfl rfl) rfl (zq (PV.index1 (j := y.1) rfl rfl Tb.elm_174 rfl (by omega)) rfl (TL.storeB (v := (z.2.getD y.1 false || (z.2.getD z.1 false && decide (0 < (ls.getD y.1 []).getD z.1 0)))) rfl (show some (Value.bool _) = some (Value.bool _) from congrArg some (congrArg Value.bool (by first | (rw [e1] <;> rfl) | (rw [e1, e2] <;> rfl)))) Tb.cells_4 u9z (by omega) rfl rfl ?_))))))))))
  refine TL.nil (TQ.blkN (TQ.thenC (TC.region (zm rfl (zq (PV.add rfl rfl om) rfl (za rfl (TL.nil (TQ.thenN (TQ.backK (z.1 + 1, z.2.set y.1 (z.2.getD y.1 false || (z.2.getD z.1 false && decide (0 < (ls.getD y.1 []).getD z.1 0)))) l9z l9z s9z ⟨by simp only; omega, JI.cell2 hz.2 om om⟩ (by simp only; omega))))))))))
  refine zx rfl (zx rfl (zx rfl (zx rfl (zx rfl (zx rfl (zx rfl (zx rfl (zx rfl (zq (PV.pickF rfl rfl) rfl (zq (PV.pickF rfl rfl) rfl (zq (PV.index1 (j := y.1) rfl rfl Tb.elm_174 rfl (by omega)) rfl (TL.storeB (v := (z.2.getD y.1 false || (z.2.getD z.1 false && decide (0 < (ls.getD y.1 []).getD z.1 0)))) rfl (show some (Value.bool _) = some (Value.bool _) from congrArg some (congrArg Value.bool (by first | (rw [e1] <;> rfl) | (rw [e1, e2] <;> rfl)))) Tb.cells_4 u9z (by omega) rfl rfl ?_))))))))))))
  refine TL.nil (TQ.blkN (TQ.thenC (TC.region (zm rfl (zq (PV.add rfl rfl om) rfl (za rfl (TL.nil (TQ.thenN (TQ.backK (z.1 + 1, z.2.set y.1 (z.2.getD y.1 false || (z.2.getD z.1 false && decide (0 < (ls.getD y.1 []).getD z.1 0)))) l9z l9z s9z ⟨by simp only; omega, JI.cell2 hz.2 om om⟩ (by simp only; omega))))))))))
  refine TC.exit (TQ.thenE (TQ.thenE (TQ.blkS (TQ.blkN (TQ.thenC (TC.region (zm rfl (zq (PV.add rfl rfl om) rfl (za rfl (TL.nil (TQ.thenN (TQ.backK (y.1 + 1, z.2) l9z l9z s9z ⟨by simp only; omega, JI.nextRow0 hz.2 om hn9.1⟩ (by simp only; omega)))))))))))))
  refine zq (PV.fieldAddr rfl Tb.fo_27_1) rfl (zq (PV.load rfl Tb.one_25 m9z rfl) rfl ?_)
  refine zm rfl (zq (PV.indexA rfl hq3p rfl Tb.elm_25 rfl (by omega)) rfl (zq (PV.loadOld rfl Tb.one_3 hq3) rfl (zq (PV.gtr rfl rfl) rfl (zq (PV.pickF rfl rfl) rfl (zq (PV.index1 (j := y.1) rfl rfl Tb.elm_174 rfl (by omega)) rfl (TL.storeB (v := (y.2.getD y.1 false || decide (0 < gs.getD y.1 0))) rfl (show some (Value.bool _) = some (Value.bool _) from congrArg some (congrArg Value.bool (by first | (rw [e1] <;> rfl)))) Tb.cells_4 u9z (by omega) rfl rfl ?_))))))
  refine zk (za rfl (zn (TC.block (TC.lit [(1, _), (3, _), (7, _), (8, _), (9, _), (10, _)] l9z ?_))))
  refine TC.loopK [1, 2, 3, 7, 8, 9] (X := Nat × List Bool) (fun z => z.1 ≤ gs.length ∧ JI ls gs x.1 y.1 z.1 z.2 ∧ (0 < gs.getD y.1 0 → z.2.getD y.1 false = true)) (fun z => [(10, .int .i64 z.1)]) (fun z => [(bJ, Obj.cells (boolsA z.2) 4 (0, 0)), (b0, Obj.cells #[.slice p ls.length cp, .slice q gs.length cq] 27 (0, 0))]) (fun z => gs.length - z.1) (0, y.2.set y.1 (y.2.getD y.1 false || decide (0 < gs.getD y.1 0))) ⟨Nat.zero_le _, hy.2.ground om⟩ l9z s9z ?_
  intro z hz
  refine TC.lit [(1, _), (3, _), (7, _), (8, _), (9, _), (10, _)] l9z ?_
  refine TC.seq (zr (zm rfl (zm rfl (zq (PV.lss rfl rfl) rfl (zn (TC.cd rfl (fun hlt6 => ?_) (fun hlt6 => ?_)))))))
  refine TC.skip (TQ.thenC (TC.seq (TC.block ?_)))
  have hbl := hz.2.1.len
  have hrk := hS.rowl (k := y.1) (by have := hS.len; omega)
  obtain ⟨q1, hq1p, p1, c1, hq1, hi1⟩ := hr y.1 (by have := hS.len; omega)
  obtain ⟨q2, hq2p, hq2⟩ := hi1 z.1 (by omega)
  refine TC.region (zm rfl (zm rfl (zm rfl (zm rfl (zq (PV.index1 (j := y.1) rfl rfl Tb.elm_174 rfl om) rfl (zq (PV.loadB rfl Tb.one_4 m9z om) rfl ?_))))))
  refine zm rfl (TL.sp 140 rfl (fun e1 => ?_) (fun e1 => ?_))
  refine zx rfl (zx rfl (zx rfl (zx rfl (zx rfl (TL.skipU rfl (fun k hk => by cases hk; decide) ?_)))))
  refine TL.skipU rfl (fun k hk => by cases hk; decide) ?_
  refine TL.skipU rfl (fun k hk => by cases hk; decide) ?_
  refine TL.skipU rfl (fun k hk => by cases hk; decide) ?_
  refine TL.skipU rfl (fun k hk => by cases hk; decide) ?_
  refine TL.skipU rfl (fun k hk => by cases hk; decide) ?_
  refine TL.skipU rfl (fun k hk => by cases hk; decide) ?_
  refine TL.skipU rfl (fun k hk => by cases hk; decide) ?_
  refine TL.skipU rfl (fun k hk => by cases hk; decide) ?_
  refine zx rfl (zq (PV.pickT rfl rfl) rfl (zq (PV.index1 (j := y.1) rfl rfl Tb.elm_174 rfl (by omega)) rfl (TL.storeB (v := (z.2.getD y.1 false || (z.2.getD z.1 false && decide (0 < (ls.getD y.1 []).getD z.1 0)))) rfl (show some (Value.bool _) = some (Value.bool _) from congrArg some (congrArg Value.bool (by first | (rw [e1] <;> rfl) | (rw [e1, e2] <;> rfl)))) Tb.cells_4 u9z (by omega) rfl rfl ?_)))
  refine TL.nil (TQ.blkN (TQ.thenC (TC.region (zm rfl (zq (PV.add rfl rfl om) rfl (za rfl (TL.nil (TQ.thenN (TQ.backK (z.1 + 1, z.2.set y.1 (z.2.getD y.1 false || (z.2.getD z.1 false && decide (0 < (ls.getD y.1 []).getD z.1 0)))) l9z l9z s9z ⟨by simp only; omega, JI.cell2 hz.2 om om⟩ (by simp only; omega))))))))))
  refine zm rfl (zm rfl (zq (PV.index1 (j := z.1) rfl rfl Tb.elm_174 rfl om) rfl (zq (PV.loadB rfl Tb.one_4 m9z om) rfl ?_)))
  refine zm rfl (TL.sp 145 rfl (fun e2 => ?_) (fun e2 => ?_))
  refine zq (PV.fieldAddr rfl Tb.fo_27_0) rfl (zq (PV.load rfl Tb.one_22 m9z rfl) rfl ?_)
  refine zm rfl (zq (PV.indexA rfl hq1p rfl Tb.elm_22 rfl (by omega)) rfl (zq (PV.loadOld rfl Tb.one_25 hq1) rfl (zm rfl (zq (PV.indexA rfl hq2p rfl Tb.elm_25 rfl (by omega)) rfl (zq (PV.loadOld rfl Tb.one_3 hq2) rfl (zq (PV.gtr rfl rfl) rfl (zq (PV.pickT rfl rfl) rfl (zq (PV.pickF rfl rfl) rfl (zq (PV.index1 (j := y.1) rfl rfl Tb.elm_174 rfl (by omega)) rfl (TL.storeB (v := (z.2.getD y.1 false || (z.2.getD z.1 false && decide (0 < (ls.getD y.1 []).getD z.1 0)))) rfl (show some (Value.bool _) = some (Value.bool _) from congrArg some (congrArg Value.bool (by first | (rw [e1] <;> rfl) | (rw [e1, e2] <;> rfl)))) Tb.cells_4 u9z (by omega) rfl rfl ?_))))))))))
  refine TL.nil (TQ.blkN (TQ.thenC (TC.region (zm rfl (zq (PV.add rfl rfl om) rfl (za rfl (TL.nil (TQ.thenN (TQ.backK (z.1 + 1, z.2.set y.1 (z.2.getD y.1 false || (z.2.getD z.1 false && decide (0 < (ls.getD y.1 []).getD z.1 0)))) l9z l9z s9z ⟨by simp only; omega, JI.cell2 hz.2 om om⟩ (by simp only; omega))))))))))
  refine zx rfl (zx rfl (zx rfl (zx rfl (zx rfl (zx rfl (zx rfl (zx rfl (zx rfl (zq (PV.pickF rfl rfl) rfl (zq (PV.pickF rfl rfl) rfl (zq (PV.index1 (j := y.1) rfl rfl Tb.elm_174 rfl (by omega)) rfl (TL.storeB (v := (z.2.getD y.1 false || (z.2.getD z.1 false && decide (0 < (ls.getD y.1 []).getD z.1 0)))) rfl (show some (Value.bool _) = some (Value.bool _) from congrArg some (congrArg Value.bool (by first | (rw [e1] <;> rfl) | (rw [e1, e2] <;> rfl)))) Tb.cells_4 u9z (by omega) rfl rfl ?_))))))))))))
  refine TL.nil (TQ.blkN (TQ.thenC (TC.region (zm rfl (zq (PV.add rfl rfl om) rfl (za rfl (TL.nil (TQ.thenN (TQ.backK (z.1 + 1, z.2.set y.1 (z.2.getD y.1 false || (z.2.getD z.1 false && decide (0 < (ls.getD y.1 []).getD z.1 0)))) l9z l9z s9z ⟨by simp only; omega, JI.cell2 hz.2 om om⟩ (by simp only; omega))))))))))
  refine TC.exit (TQ.thenE (TQ.thenE (TQ.blkS (TQ.blkN (TQ.thenC (TC.region (zm rfl (zq (PV.add rfl rfl om) rfl (za rfl (TL.nil (TQ.thenN (TQ.backK (y.1 + 1, z.2) l9z l9z s9z ⟨by simp only; omega, JI.nextRow0 hz.2 om hn9.1⟩ (by simp only; omega)))))))))))))
  refine TC.exit (TQ.thenE (TQ.thenE (TQ.blkS (TQ.blkN (TQ.thenC (TC.region (zm rfl (zq (PV.add rfl rfl om) rfl (za rfl (TL.nil (TQ.thenN (TQ.backK (x.1 + 1, y.2) l9z l9z s9z ⟨by simp only; omega, hy.2.nextRound om⟩ (by simp only; omega)))))))))))))
  refine TC.exit (TQ.thenE (TQ.thenE (TQ.blkS (TQ.thenC (TC.seq (zr (za rfl (zn (TC.block (TC.lit [(3, _), (7, _), (11, _)] l9z ?_))))))))))
  refine TC.loopG [3, 7] (X := Nat × Unit) (fun v => v.1 ≤ gs.length ∧ ∀ j, j < v.1 → x.2.getD j false = true) (fun v => [(11, .int .i64 v.1)]) (fun v => gs.length - v.1) (0, ()) ⟨Nat.zero_le _, fun j hj => absurd hj (Nat.not_lt_zero _)⟩ l9z ?_
  intro v hv
  refine TC.lit [(3, _), (7, _), (11, _)] l9z ?_
  refine TC.seq (zr (zm rfl (zm rfl (zq (PV.lss rfl rfl) rfl (zn (TC.cd rfl (fun hlt7 => ?_) (fun hlt7 => ?_)))))))
  refine TC.skip (TQ.thenC (TC.seq (TC.block (TC.seq ?_))))
  have hbl := hx.2.len
  refine TC.region (zm rfl (zm rfl (zq (PV.index1 (j := v.1) rfl rfl Tb.elm_174 rfl om) rfl (zq (PV.loadB rfl Tb.one_4 m9z om) rfl ?_))))
  refine zq ((by first | exact PV.notD rfl | exact PV.not rfl)) rfl ?_
  refine zn (TC.cd rfl (fun hno => ?_) (fun hno => ?_))
  refine zr (za rfl (zt (TQ.blkR (TQ.thenR (TQ.thenR (TQ.blkR (TQ.thenR (TQ.retE1 rfl rfl ?_))))))))
  exact ⟨(), by rw [valid_9 hS (fun h => by have h1 := (hx.2.fin (by omega)).2 h v.1 (by omega); rw [h1] at hno; exact absurd hno (by decide))], trivial, nils⟩
  refine TC.skip (TQ.blkN (TQ.thenC (TC.region (zm rfl (zq (PV.add rfl rfl om) rfl (za rfl (TL.nil (TQ.thenN (TQ.backK (v.1 + 1, ()) l9z l9z s9z ⟨by simp only; omega, fun j hj => if e : j < v.1 then hv.2 j e else (show v.1 = j by simp only at hj; omega) ▸ (by simpa using hno)⟩ (by simp only; omega))))))))))
  refine TC.exit (TQ.thenE (TQ.thenE (TQ.blkS (TQ.thenC (zr (za rfl (zt (TQ.retE1 rfl rfl ?_))))))))
  exact ⟨(), by rw [valid_0 hS ((hx.2.fin (by omega)).1 (fun j hj => hv.2 j (by omega)))], trivial, nils⟩
end Go.Proofs.YtbnjmkidbfmomaaGreatDoor.H
