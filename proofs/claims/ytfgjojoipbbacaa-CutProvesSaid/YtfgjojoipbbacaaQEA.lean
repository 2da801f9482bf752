/- What a proof bounds, by the document: the reference's contract. -/
import Derived.Test.YtfgjojoipbbacaaQDZ
set_option linter.unusedVariables false
set_option linter.unusedSimpArgs false
namespace Go.Proofs.Ytfgjojoipbbacaa
open Go.Sx Go.RowKit

theorem Sh.shp {ls m : List (List Int)} {y : HD × List (HD × List Int)} {B : Int} (h : GrP ls y) (hv : VB ls) (hs : Sh ls.length (dep ls) B m) : Shp y.2 m := h.shp hs.len fun j hj => by rw [hs.row j hj, hv.c j hj]
theorem posR_bd {r : List Int} {B : Int} (hB : 0 ≤ B) (h : ∀ j, r.getD j 0 ≤ B) : ∀ k, k ≤ r.length → 0 ≤ posR (r.take k) ∧ posR (r.take k) ≤ B * (k : Int)
  | 0, _ => by simp [posR]
  | k + 1, hk => by
    have ih := posR_bd hB h k (by omega)
    have h9 := h k
    rw [List.take_add_one, show r[k]? = some (r.getD k 0) by simp [List.getD, show k < r.length by omega]]
    simp only [posR, Option.toList_some, List.map_append, List.map_cons, List.map_nil, sum_snoc] at ih ⊢
    rw [show B * ((k + 1 : Nat) : Int) = B * (k : Int) + B by rw [Int.natCast_add, Int.mul_add]; simp]
    omega
theorem posR_step {r : List Int} {k : Nat} (hk : k < r.length) : posR (r.take (k + 1)) = posR (r.take k) + max (r.getD k 0) 0 := by
  rw [List.take_add_one, show r[k]? = some (r.getD k 0) by simp [List.getD, hk]]
  simp [posR]
theorem posS_step {m : List (List Int)} {c : Nat} (hc : c < m.length) : posS (m.take (c + 1)) = posS (m.take c) + posR (m.getD c []) := by
  rw [List.take_add_one, show m[c]? = some (m.getD c []) by simp [List.getD, hc]]
  simp [posS]


set_option maxRecDepth 100000 in
set_option maxHeartbeats 4000000 in
theorem rCheckProof_ok (w0 : World) (p : Option Addr) (cap : Nat) (ls : List (List Int)) (hr : LsAt w0 p ls) (pp : Option Addr) (cp : Nat) (ps : List Ps) (hp : RecsAt rP w0 pp ps) :
    Calls Try.prog 58 #[bv p ls.length cap, .slice pp ps.length cp] w0 (Post (X := Unit) (fun _ => .tuple #[.int .i64 (prV ls ps), .int .i64 (prI ls ps)]) (fun _ => True) (fun _ => []) w0) := by
  refine calls Try.func58 rfl (n := 138) rfl (by simp) ?_
  refine TC.seq ?_
  refine TC.region ?_
  refine TL.box rfl rfl (by decide) (fun b0 hb0 => ?_)
  refine TL.pure (PV.assign rfl) rfl (by decide) ?_
  refine TL.pure (PV.assign rfl) rfl (by decide) ?_
  refine TL.nil ?_
  refine TQ.thenC ?_
  refine TC.seq ?_
  refine TC.region ?_
  refine TL.pure (PV.loadBox rfl Tb.agg_24 (by repeat (first | exact List.Mem.head _ | refine List.Mem.tail _ ?_ | refine List.mem_append_right _ ?_)) rfl) rfl (by decide) ?_
  refine TL.call rfl Tb.gofn_22 (fun a w hs => rvalidate_ok w _ _ _ (hr.new hs.new)) rfl (by decide) (fun _ _ => ?_)
  refine TL.pure (PV.assign rfl) rfl (by decide) ?_
  refine TL.nil ?_
  refine TQ.thenC ?_
  refine TC.seq ?_
  refine TC.seq ?_
  refine TC.region ?_
  refine TL.pure (PV.move rfl) rfl (by decide) ?_
  refine TL.pure (PV.neq rfl rfl) rfl (by decide) ?_
  refine TL.nil ?_
  refine TQ.thenC ?_
  first | refine TC.condD rfl (fun hbad => ?_) (fun hbad => ?_) | refine TC.cond rfl (fun hbad => ?_) (fun hbad => ?_)
  · skip
    refine TC.seq ?_
    refine TC.region ?_
    refine TL.pure (PV.move rfl) rfl (by decide) ?_
    refine TL.pure (PV.assign rfl) rfl (by decide) ?_
    refine TL.pure (PV.assign rfl) rfl (by decide) ?_
    refine TL.nil ?_
    refine TQ.thenC ?_
    refine TC.ret ?_
    refine TQ.thenR ?_
    refine TQ.retE2 rfl rfl rfl ?_
    exact ⟨(), by rw [(pr_bad hbad).1, (pr_bad hbad).2], trivial, List.nil_sublist _⟩
  · skip
    refine TC.skip ?_
    refine TQ.thenC ?_
    refine TC.seq ?_
    refine TC.seq ?_
    refine TC.region ?_
    refine TL.pure (PV.move rfl) rfl (by decide) ?_
    refine TL.pure (PV.len rfl Tb.sl_55) rfl (by decide) ?_
    refine TL.pure (PV.gtr rfl rfl) rfl (by decide) ?_
    refine TL.nil ?_
    refine TQ.thenC ?_
    first | refine TC.condD rfl (fun h60 => ?_) (fun h60 => ?_) | refine TC.cond rfl (fun h60 => ?_) (fun h60 => ?_)
    · skip
      refine TC.seq ?_
      refine TC.region ?_
      refine TL.pure (PV.assign rfl) rfl (by decide) ?_
      refine TL.pure (PV.assign rfl) rfl (by decide) ?_
      refine TL.nil ?_
      refine TQ.thenC ?_
      refine TC.ret ?_
      refine TQ.thenR ?_
      refine TQ.retE2 rfl rfl rfl ?_
      exact ⟨(), by rw [(pr_60 hbad (by omega)).1, (pr_60 hbad (by omega)).2], trivial, List.nil_sublist _⟩
    · skip
      refine TC.skip ?_
      refine TQ.thenC ?_
      refine TC.seq ?_
      have hv := vb_of hbad
      have hd9 := hv.d
      have hn9 := hv.n
      refine TC.region ?_
      refine TL.pure (PV.loadBox rfl Tb.agg_24 (by repeat (first | exact List.Mem.head _ | refine List.Mem.tail _ ?_ | refine List.mem_append_right _ ?_)) rfl) rfl (by decide) ?_
      refine TL.call rfl Tb.gofn_42 (fun a w hs => Copy_ok w _ _ _ (hr.new hs.new) (by omega) (fun j => Nat.le_trans (row_le hv j) (by omega))) rfl (by decide) (fun y9 hy9 => ?_)
      refine TL.alloc Tb.zero_24 rfl (by decide) (fun bT hbT => ?_)
      refine TL.storeAgg rfl rfl Tb.cells_24 (by repeat (first | exact Upd.head _ | apply Upd.tail | apply Upd.appR)) rfl rfl (gvP_all _) rfl rfl ?_
      refine TL.nil ?_
      refine TQ.thenC ?_
      refine TC.seq ?_
      have hyl := hy9.len
      refine TC.region ?_
      refine TL.pure (PV.fieldAddr rfl Tb.fo_24_0) rfl (by decide) ?_
      refine TL.pure (PV.load rfl Tb.one_22 (by repeat (first | exact List.Mem.head _ | refine List.Mem.tail _ ?_ | refine List.mem_append_right _ ?_)) rfl) rfl (by decide) ?_
      refine TL.pure (PV.len rfl Tb.sl_22) rfl (by decide) ?_
      refine TL.pure (PV.assign rfl) rfl (by decide) ?_
      refine TL.nil ?_
      refine TQ.thenC ?_
      refine TC.seq ?_
      refine TC.seq ?_
      refine TC.region ?_
      refine TL.pure (PV.assign rfl) rfl (by decide) ?_
      refine TL.nil ?_
      refine TQ.thenC ?_
      refine TC.block ?_
      -- live and written in the loop, not told: [4, 5]
      refine TC.loopK [1, 2, 7, 8] (X := Nat) (fun k => (k ≤ ps.length ∧ prE ls ps = prE ls (ps.drop k)) ∧ Sh ls.length (dep ls) (50 + 2000 * (k : Int)) (prM ls ps k)) (fun k => [(9, .int .i64 k)]) (fun k => (bT, Obj.cells #[gvP y9] 24 (0, 0)) :: (gbP y9 ++ (bl (mkR y9.2 (prM ls ps k)) ++ [(b0, Obj.cells #[.slice p ls.length cap] 24 (0, 0))]))) (fun k => ps.length - k) 0 ⟨⟨Nat.zero_le _, rfl⟩, by have := sh_start hv; simpa [prM] using this⟩ (by repeat (first | exact True.intro | refine And.intro rfl ?_)) (by rw [show prM ls ps 0 = ls from rfl, ← hy9.eq, mkR_self]; simp only [List.append_assoc]; exact List.Sublist.refl _) ?_
      intro k hk
      refine TC.seq ?_
      refine TC.seq ?_
      refine TC.region ?_
      refine TL.pure (PV.move rfl) rfl (by decide) ?_
      refine TL.pure (PV.move rfl) rfl (by decide) ?_
      refine TL.pure (PV.len rfl Tb.sl_55) rfl (by decide) ?_
      refine TL.pure (PV.lss rfl rfl) rfl (by decide) ?_
      refine TL.nil ?_
      refine TQ.thenC ?_
      first | refine TC.condD rfl (fun hlt => ?_) (fun hlt => ?_) | refine TC.cond rfl (fun hlt => ?_) (fun hlt => ?_)
      · skip
        refine TC.skip ?_
        refine TQ.thenC ?_
        refine TC.seq ?_
        refine TC.block ?_
        refine TC.seq ?_
        obtain ⟨q2, hq2p, hq2⟩ := hp k (by omega)
        have hpd := prE_drop (ls := ls) (ps := ps) (k := k) (by omega) hk.1.2
        have hsh := hk.2
        refine TC.region ?_
        refine TL.pure (PV.move rfl) rfl (by decide) ?_
        refine TL.pure (PV.move rfl) rfl (by decide) ?_
        refine TL.pure (PV.indexA rfl hq2p rfl Tb.elm_55 rfl (by omega)) rfl (by decide) ?_
        refine TL.pure (PV.loadAggA rfl Tb.agg_90 rfl hq2) rfl (by decide) ?_
        refine TL.alloc Tb.zero_90 rfl (by decide) (fun bQ hbQ => ?_)
        refine TL.storeAgg rfl rfl Tb.cells_90 (by repeat (first | exact Upd.head _ | apply Upd.tail | apply Upd.appR)) rfl rfl rfl rfl rfl ?_
        refine TL.nil ?_
        refine TQ.thenC ?_
        refine TC.seq ?_
        refine TC.seqK [1, 2, 4, 5, 7, 8, 9, 10] (X := Unit) (fun x => True) (fun x => [(77, .bool (!psB ls (ps.getD k default)))]) (fun x => (bQ, Obj.cells (rP.cells (ps.getD k default)).toArray 90 (0, 0)) :: ((bT, Obj.cells #[gvP y9] 24 (0, 0)) :: (gbP y9 ++ (bl (mkR y9.2 (prM ls ps k)) ++ [(b0, Obj.cells #[.slice p ls.length cap] 24 (0, 0))])))) ?_ ?_
        · skip
          refine TC.mixV [true, true, true, true, true, true, true, true, true, true, true, true, true, true, true, true, true, true, false, true, true, true, true, true, true, true, true, true, true, true, true, true, true, true, true, true, true, true, true, true, true] _ 41 Tb.mixed rfl (by kernel_rfl) (by kernel_rfl) (by kernel_rfl) (by kernel_rfl) (List.Sublist.refl _) ?_
          refine TV.virt 0 rfl rfl (by decide) rfl (by kernel_rfl) (SOK.pure (PV.fieldAddr rfl Tb.fo_90_0) rfl) ?_
          refine TV.virt 1 rfl rfl (by decide) rfl (by kernel_rfl) (SOK.pure (PV.load rfl Tb.one_3 (by repeat (first | exact List.Mem.head _ | refine List.Mem.tail _ ?_ | refine List.mem_append_right _ ?_)) rfl) rfl) ?_
          refine TV.virt 2 rfl rfl (by decide) rfl (by kernel_rfl) (SOK.pure (PV.lss rfl rfl) rfl) ?_
          refine TV.virt 3 rfl rfl (by decide) rfl (by kernel_rfl) (SOK.pure (PV.move rfl) rfl) ?_
          first | refine TV.splitD 40 rfl (fun h3 => ?_) (fun h3 => ?_) | refine TV.split 40 rfl (fun h3 => ?_) (fun h3 => ?_)
          · skip
            refine TV.virt 4 rfl rfl (by decide) rfl (by kernel_rfl) (SOK.skip rfl) ?_
            refine TV.virt 5 rfl rfl (by decide) rfl (by kernel_rfl) (SOK.skip rfl) ?_
            refine TV.virt 6 rfl rfl (by decide) rfl (by kernel_rfl) (SOK.skip rfl) ?_
            refine TV.virt 7 rfl rfl (by decide) rfl (by kernel_rfl) (SOK.skip rfl) ?_
            refine TV.virt 8 rfl rfl (by decide) rfl (by kernel_rfl) (SOK.pure (PV.pickT rfl rfl) rfl) ?_
            refine TV.virt 9 rfl rfl (by decide) rfl (by kernel_rfl) (SOK.pure (PV.move rfl) rfl) ?_
            refine TV.virt 10 rfl rfl (by decide) rfl (by kernel_rfl) (SOK.skip rfl) ?_
            refine TV.virt 11 rfl rfl (by decide) rfl (by kernel_rfl) (SOK.skip rfl) ?_
            refine TV.virt 12 rfl rfl (by decide) rfl (by kernel_rfl) (SOK.skip rfl) ?_
            refine TV.virt 13 rfl rfl (by decide) rfl (by kernel_rfl) (SOK.pure (PV.pickT rfl rfl) rfl) ?_
            refine TV.virt 14 rfl rfl (by decide) rfl (by kernel_rfl) (SOK.pure (PV.move rfl) rfl) ?_
            refine TV.virt 15 rfl rfl (by decide) rfl (by kernel_rfl) (SOK.skip rfl) ?_
            refine TV.virt 16 rfl rfl (by decide) rfl (by kernel_rfl) (SOK.skip rfl) ?_
            refine TV.virt 17 rfl rfl (by decide) rfl (by kernel_rfl) (SOK.skip rfl) ?_
            refine TV.step [18] (by kernel_rfl) (by decide) rfl ⟨⟨_, rfl, ?_⟩, trivial⟩
            refine TL.skip rfl (fun k hk => by cases hk; decide) ?_
            refine TL.nil ?_
            refine TV.next (.inl (by repeat (first | exact List.Sublist.slnil | exact List.nil_sublist _ | exact List.Sublist.refl _ | refine List.Sublist.cons_cons _ ?_ | refine List.Sublist.cons _ ?_ | refine List.Sublist.trans ?_ (List.sublist_append_right _ _)))) ?_
            refine TV.virt 19 rfl rfl (by decide) rfl (by kernel_rfl) (SOK.skip rfl) ?_
            refine TV.virt 20 rfl rfl (by decide) rfl (by kernel_rfl) (SOK.pure (PV.pickT rfl rfl) rfl) ?_
            refine TV.virt 21 rfl rfl (by decide) rfl (by kernel_rfl) (SOK.pure (PV.move rfl) rfl) ?_
            refine TV.virt 22 rfl rfl (by decide) rfl (by kernel_rfl) (SOK.skip rfl) ?_
            refine TV.virt 23 rfl rfl (by decide) rfl (by kernel_rfl) (SOK.skip rfl) ?_
            refine TV.virt 24 rfl rfl (by decide) rfl (by kernel_rfl) (SOK.skip rfl) ?_
            refine TV.virt 25 rfl rfl (by decide) rfl (by kernel_rfl) (SOK.skip rfl) ?_
            refine TV.virt 26 rfl rfl (by decide) rfl (by kernel_rfl) (SOK.skip rfl) ?_
            refine TV.virt 27 rfl rfl (by decide) rfl (by kernel_rfl) (SOK.skip rfl) ?_
            refine TV.virt 28 rfl rfl (by decide) rfl (by kernel_rfl) (SOK.skip rfl) ?_
            refine TV.virt 29 rfl rfl (by decide) rfl (by kernel_rfl) (SOK.pure (PV.pickT rfl rfl) rfl) ?_
            refine TV.virt 30 rfl rfl (by decide) rfl (by kernel_rfl) (SOK.pure (PV.move rfl) rfl) ?_
            refine TV.virt 31 rfl rfl (by decide) rfl (by kernel_rfl) (SOK.skip rfl) ?_
            refine TV.virt 32 rfl rfl (by decide) rfl (by kernel_rfl) (SOK.skip rfl) ?_
            refine TV.virt 33 rfl rfl (by decide) rfl (by kernel_rfl) (SOK.skip rfl) ?_
            refine TV.virt 34 rfl rfl (by decide) rfl (by kernel_rfl) (SOK.skip rfl) ?_
            refine TV.virt 35 rfl rfl (by decide) rfl (by kernel_rfl) (SOK.skip rfl) ?_
            refine TV.virt 36 rfl rfl (by decide) rfl (by kernel_rfl) (SOK.skip rfl) ?_
            refine TV.virt 37 rfl rfl (by decide) rfl (by kernel_rfl) (SOK.skip rfl) ?_
            refine TV.virt 38 rfl rfl (by decide) rfl (by kernel_rfl) (SOK.skip rfl) ?_
            refine TV.virt 39 rfl rfl (by decide) rfl (by kernel_rfl) (SOK.skip rfl) ?_
            refine TV.virt 40 rfl rfl (by decide) rfl (by kernel_rfl) (SOK.pure (PV.pickT rfl rfl) rfl) ?_
            refine TV.done (by kernel_rfl) ?_
            refine TQ.thenN ?_
            refine TQ.midK () (by refine ⟨?_, trivial⟩; first | (show _ = some (Value.bool (!psB ls (ps.getD k default))); rw [show psB ls (ps.getD k default) = false from decide_eq_false (by omega)]; rfl) | (show some (Value.bool (decide _)) = some (Value.bool (!psB ls (ps.getD k default))); unfold psB; rw [← decide_not]; exact congrArg (fun b => some (Value.bool b)) (decide_eq_decide.2 (by omega)))) (by repeat (first | exact True.intro | refine And.intro rfl ?_)) (by first | exact List.Sublist.refl _ | (simp only [List.nil_append]; exact List.Sublist.refl _)) (by first | trivial | omega)
          · skip
            refine TV.virt 4 rfl rfl (by decide) rfl (by kernel_rfl) (SOK.pure (PV.fieldAddr rfl Tb.fo_90_0) rfl) ?_
            refine TV.virt 5 rfl rfl (by decide) rfl (by kernel_rfl) (SOK.pure (PV.load rfl Tb.one_3 (by repeat (first | exact List.Mem.head _ | refine List.Mem.tail _ ?_ | refine List.mem_append_right _ ?_)) rfl) rfl) ?_
            refine TV.virt 6 rfl rfl (by decide) rfl (by kernel_rfl) (SOK.pure (PV.move rfl) rfl) ?_
            refine TV.virt 7 rfl rfl (by decide) rfl (by kernel_rfl) (SOK.pure (PV.geq rfl rfl) rfl) ?_
            refine TV.virt 8 rfl rfl (by decide) rfl (by kernel_rfl) (SOK.pure (PV.pickF rfl rfl) rfl) ?_
            refine TV.virt 9 rfl rfl (by decide) rfl (by kernel_rfl) (SOK.pure (PV.move rfl) rfl) ?_
            first | refine TV.splitD 46 rfl (fun h4 => ?_) (fun h4 => ?_) | refine TV.split 46 rfl (fun h4 => ?_) (fun h4 => ?_)
            · skip
              refine TV.virt 10 rfl rfl (by decide) rfl (by kernel_rfl) (SOK.skip rfl) ?_
              refine TV.virt 11 rfl rfl (by decide) rfl (by kernel_rfl) (SOK.skip rfl) ?_
              refine TV.virt 12 rfl rfl (by decide) rfl (by kernel_rfl) (SOK.skip rfl) ?_
              refine TV.virt 13 rfl rfl (by decide) rfl (by kernel_rfl) (SOK.pure (PV.pickT rfl rfl) rfl) ?_
              refine TV.virt 14 rfl rfl (by decide) rfl (by kernel_rfl) (SOK.pure (PV.move rfl) rfl) ?_
              refine TV.virt 15 rfl rfl (by decide) rfl (by kernel_rfl) (SOK.skip rfl) ?_
              refine TV.virt 16 rfl rfl (by decide) rfl (by kernel_rfl) (SOK.skip rfl) ?_
              refine TV.virt 17 rfl rfl (by decide) rfl (by kernel_rfl) (SOK.skip rfl) ?_
              refine TV.step [18] (by kernel_rfl) (by decide) rfl ⟨⟨_, rfl, ?_⟩, trivial⟩
              refine TL.skip rfl (fun k hk => by cases hk; decide) ?_
              refine TL.nil ?_
              refine TV.next (.inl (by repeat (first | exact List.Sublist.slnil | exact List.nil_sublist _ | exact List.Sublist.refl _ | refine List.Sublist.cons_cons _ ?_ | refine List.Sublist.cons _ ?_ | refine List.Sublist.trans ?_ (List.sublist_append_right _ _)))) ?_
              refine TV.virt 19 rfl rfl (by decide) rfl (by kernel_rfl) (SOK.skip rfl) ?_
              refine TV.virt 20 rfl rfl (by decide) rfl (by kernel_rfl) (SOK.pure (PV.pickT rfl rfl) rfl) ?_
              refine TV.virt 21 rfl rfl (by decide) rfl (by kernel_rfl) (SOK.pure (PV.move rfl) rfl) ?_
              refine TV.virt 22 rfl rfl (by decide) rfl (by kernel_rfl) (SOK.skip rfl) ?_
              refine TV.virt 23 rfl rfl (by decide) rfl (by kernel_rfl) (SOK.skip rfl) ?_
              refine TV.virt 24 rfl rfl (by decide) rfl (by kernel_rfl) (SOK.skip rfl) ?_
              refine TV.virt 25 rfl rfl (by decide) rfl (by kernel_rfl) (SOK.skip rfl) ?_
              refine TV.virt 26 rfl rfl (by decide) rfl (by kernel_rfl) (SOK.skip rfl) ?_
              refine TV.virt 27 rfl rfl (by decide) rfl (by kernel_rfl) (SOK.skip rfl) ?_
              refine TV.virt 28 rfl rfl (by decide) rfl (by kernel_rfl) (SOK.skip rfl) ?_
              refine TV.virt 29 rfl rfl (by decide) rfl (by kernel_rfl) (SOK.pure (PV.pickT rfl rfl) rfl) ?_
              refine TV.virt 30 rfl rfl (by decide) rfl (by kernel_rfl) (SOK.pure (PV.move rfl) rfl) ?_
              refine TV.virt 31 rfl rfl (by decide) rfl (by kernel_rfl) (SOK.skip rfl) ?_
              refine TV.virt 32 rfl rfl (by decide) rfl (by kernel_rfl) (SOK.skip rfl) ?_
              refine TV.virt 33 rfl rfl (by decide) rfl (by kernel_rfl) (SOK.skip rfl) ?_
              refine TV.virt 34 rfl rfl (by decide) rfl (by kernel_rfl) (SOK.skip rfl) ?_
              refine TV.virt 35 rfl rfl (by decide) rfl (by kernel_rfl) (SOK.skip rfl) ?_
              refine TV.virt 36 rfl rfl (by decide) rfl (by kernel_rfl) (SOK.skip rfl) ?_
              refine TV.virt 37 rfl rfl (by decide) rfl (by kernel_rfl) (SOK.skip rfl) ?_
              refine TV.virt 38 rfl rfl (by decide) rfl (by kernel_rfl) (SOK.skip rfl) ?_
              refine TV.virt 39 rfl rfl (by decide) rfl (by kernel_rfl) (SOK.skip rfl) ?_
              refine TV.virt 40 rfl rfl (by decide) rfl (by kernel_rfl) (SOK.pure (PV.pickT rfl rfl) rfl) ?_
              refine TV.done (by kernel_rfl) ?_
              refine TQ.thenN ?_
              refine TQ.midK () (by refine ⟨?_, trivial⟩; first | (show _ = some (Value.bool (!psB ls (ps.getD k default))); rw [show psB ls (ps.getD k default) = false from decide_eq_false (by omega)]; rfl) | (show some (Value.bool (decide _)) = some (Value.bool (!psB ls (ps.getD k default))); unfold psB; rw [← decide_not]; exact congrArg (fun b => some (Value.bool b)) (decide_eq_decide.2 (by omega)))) (by repeat (first | exact True.intro | refine And.intro rfl ?_)) (by first | exact List.Sublist.refl _ | (simp only [List.nil_append]; exact List.Sublist.refl _)) (by first | trivial | omega)
            · skip
              refine TV.virt 10 rfl rfl (by decide) rfl (by kernel_rfl) (SOK.pure (PV.fieldAddr rfl Tb.fo_90_1) rfl) ?_
              refine TV.virt 11 rfl rfl (by decide) rfl (by kernel_rfl) (SOK.pure (PV.load rfl Tb.one_3 (by repeat (first | exact List.Mem.head _ | refine List.Mem.tail _ ?_ | refine List.mem_append_right _ ?_)) rfl) rfl) ?_
              refine TV.virt 12 rfl rfl (by decide) rfl (by kernel_rfl) (SOK.pure (PV.lss rfl rfl) rfl) ?_
              refine TV.virt 13 rfl rfl (by decide) rfl (by kernel_rfl) (SOK.pure (PV.pickF rfl rfl) rfl) ?_
              refine TV.virt 14 rfl rfl (by decide) rfl (by kernel_rfl) (SOK.pure (PV.move rfl) rfl) ?_
              first | refine TV.splitD 51 rfl (fun h5 => ?_) (fun h5 => ?_) | refine TV.split 51 rfl (fun h5 => ?_) (fun h5 => ?_)
              · skip
                refine TV.virt 15 rfl rfl (by decide) rfl (by kernel_rfl) (SOK.skip rfl) ?_
                refine TV.virt 16 rfl rfl (by decide) rfl (by kernel_rfl) (SOK.skip rfl) ?_
                refine TV.virt 17 rfl rfl (by decide) rfl (by kernel_rfl) (SOK.skip rfl) ?_
                refine TV.step [18] (by kernel_rfl) (by decide) rfl ⟨⟨_, rfl, ?_⟩, trivial⟩
                refine TL.skip rfl (fun k hk => by cases hk; decide) ?_
                refine TL.nil ?_
                refine TV.next (.inl (by repeat (first | exact List.Sublist.slnil | exact List.nil_sublist _ | exact List.Sublist.refl _ | refine List.Sublist.cons_cons _ ?_ | refine List.Sublist.cons _ ?_ | refine List.Sublist.trans ?_ (List.sublist_append_right _ _)))) ?_
                refine TV.virt 19 rfl rfl (by decide) rfl (by kernel_rfl) (SOK.skip rfl) ?_
                refine TV.virt 20 rfl rfl (by decide) rfl (by kernel_rfl) (SOK.pure (PV.pickT rfl rfl) rfl) ?_
                refine TV.virt 21 rfl rfl (by decide) rfl (by kernel_rfl) (SOK.pure (PV.move rfl) rfl) ?_
                refine TV.virt 22 rfl rfl (by decide) rfl (by kernel_rfl) (SOK.skip rfl) ?_
                refine TV.virt 23 rfl rfl (by decide) rfl (by kernel_rfl) (SOK.skip rfl) ?_
                refine TV.virt 24 rfl rfl (by decide) rfl (by kernel_rfl) (SOK.skip rfl) ?_
                refine TV.virt 25 rfl rfl (by decide) rfl (by kernel_rfl) (SOK.skip rfl) ?_
                refine TV.virt 26 rfl rfl (by decide) rfl (by kernel_rfl) (SOK.skip rfl) ?_
                refine TV.virt 27 rfl rfl (by decide) rfl (by kernel_rfl) (SOK.skip rfl) ?_
                refine TV.virt 28 rfl rfl (by decide) rfl (by kernel_rfl) (SOK.skip rfl) ?_
                refine TV.virt 29 rfl rfl (by decide) rfl (by kernel_rfl) (SOK.pure (PV.pickT rfl rfl) rfl) ?_
                refine TV.virt 30 rfl rfl (by decide) rfl (by kernel_rfl) (SOK.pure (PV.move rfl) rfl) ?_
                refine TV.virt 31 rfl rfl (by decide) rfl (by kernel_rfl) (SOK.skip rfl) ?_
                refine TV.virt 32 rfl rfl (by decide) rfl (by kernel_rfl) (SOK.skip rfl) ?_
                refine TV.virt 33 rfl rfl (by decide) rfl (by kernel_rfl) (SOK.skip rfl) ?_
                refine TV.virt 34 rfl rfl (by decide) rfl (by kernel_rfl) (SOK.skip rfl) ?_
                refine TV.virt 35 rfl rfl (by decide) rfl (by kernel_rfl) (SOK.skip rfl) ?_
                refine TV.virt 36 rfl rfl (by decide) rfl (by kernel_rfl) (SOK.skip rfl) ?_
                refine TV.virt 37 rfl rfl (by decide) rfl (by kernel_rfl) (SOK.skip rfl) ?_
                refine TV.virt 38 rfl rfl (by decide) rfl (by kernel_rfl) (SOK.skip rfl) ?_
                refine TV.virt 39 rfl rfl (by decide) rfl (by kernel_rfl) (SOK.skip rfl) ?_
                refine TV.virt 40 rfl rfl (by decide) rfl (by kernel_rfl) (SOK.pure (PV.pickT rfl rfl) rfl) ?_
                refine TV.done (by kernel_rfl) ?_
                refine TQ.thenN ?_
                refine TQ.midK () (by refine ⟨?_, trivial⟩; first | (show _ = some (Value.bool (!psB ls (ps.getD k default))); rw [show psB ls (ps.getD k default) = false from decide_eq_false (by omega)]; rfl) | (show some (Value.bool (decide _)) = some (Value.bool (!psB ls (ps.getD k default))); unfold psB; rw [← decide_not]; exact congrArg (fun b => some (Value.bool b)) (decide_eq_decide.2 (by omega)))) (by repeat (first | exact True.intro | refine And.intro rfl ?_)) (by first | exact List.Sublist.refl _ | (simp only [List.nil_append]; exact List.Sublist.refl _)) (by first | trivial | omega)
              · skip
                refine TV.virt 15 rfl rfl (by decide) rfl (by kernel_rfl) (SOK.pure (PV.fieldAddr rfl Tb.fo_90_1) rfl) ?_
                refine TV.virt 16 rfl rfl (by decide) rfl (by kernel_rfl) (SOK.pure (PV.load rfl Tb.one_3 (by repeat (first | exact List.Mem.head _ | refine List.Mem.tail _ ?_ | refine List.mem_append_right _ ?_)) rfl) rfl) ?_
                refine TV.virt 17 rfl rfl (by decide) rfl (by kernel_rfl) (SOK.pure (PV.loadBox rfl Tb.agg_24 (by repeat (first | exact List.Mem.head _ | refine List.Mem.tail _ ?_ | refine List.mem_append_right _ ?_)) rfl) rfl) ?_
                refine TV.step [18] (by kernel_rfl) (by decide) rfl ⟨⟨_, rfl, ?_⟩, trivial⟩
                refine TL.call rfl Tb.gofn_96 (fun a w hs => rdepth_ok w _ _ _ (hr.new hs.new) (by omega)) rfl (by decide) (fun _ _ => ?_)
                refine TL.nil ?_
                refine TV.next (.inl (by repeat (first | exact List.Sublist.slnil | exact List.nil_sublist _ | exact List.Sublist.refl _ | refine List.Sublist.cons_cons _ ?_ | refine List.Sublist.cons _ ?_ | refine List.Sublist.trans ?_ (List.sublist_append_right _ _)))) ?_
                refine TV.virt 19 rfl rfl (by decide) rfl (by kernel_rfl) (SOK.pure (PV.geq rfl rfl) rfl) ?_
                refine TV.virt 20 rfl rfl (by decide) rfl (by kernel_rfl) (SOK.pure (PV.pickF rfl rfl) rfl) ?_
                refine TV.virt 21 rfl rfl (by decide) rfl (by kernel_rfl) (SOK.pure (PV.move rfl) rfl) ?_
                first | refine TV.splitD 58 rfl (fun h6 => ?_) (fun h6 => ?_) | refine TV.split 58 rfl (fun h6 => ?_) (fun h6 => ?_)
                · skip
                  refine TV.virt 22 rfl rfl (by decide) rfl (by kernel_rfl) (SOK.skip rfl) ?_
                  refine TV.virt 23 rfl rfl (by decide) rfl (by kernel_rfl) (SOK.skip rfl) ?_
                  refine TV.virt 24 rfl rfl (by decide) rfl (by kernel_rfl) (SOK.skip rfl) ?_
                  refine TV.virt 25 rfl rfl (by decide) rfl (by kernel_rfl) (SOK.skip rfl) ?_
                  refine TV.virt 26 rfl rfl (by decide) rfl (by kernel_rfl) (SOK.skip rfl) ?_
                  refine TV.virt 27 rfl rfl (by decide) rfl (by kernel_rfl) (SOK.skip rfl) ?_
                  refine TV.virt 28 rfl rfl (by decide) rfl (by kernel_rfl) (SOK.skip rfl) ?_
                  refine TV.virt 29 rfl rfl (by decide) rfl (by kernel_rfl) (SOK.pure (PV.pickT rfl rfl) rfl) ?_
                  refine TV.virt 30 rfl rfl (by decide) rfl (by kernel_rfl) (SOK.pure (PV.move rfl) rfl) ?_
                  refine TV.virt 31 rfl rfl (by decide) rfl (by kernel_rfl) (SOK.skip rfl) ?_
                  refine TV.virt 32 rfl rfl (by decide) rfl (by kernel_rfl) (SOK.skip rfl) ?_
                  refine TV.virt 33 rfl rfl (by decide) rfl (by kernel_rfl) (SOK.skip rfl) ?_
                  refine TV.virt 34 rfl rfl (by decide) rfl (by kernel_rfl) (SOK.skip rfl) ?_
                  refine TV.virt 35 rfl rfl (by decide) rfl (by kernel_rfl) (SOK.skip rfl) ?_
                  refine TV.virt 36 rfl rfl (by decide) rfl (by kernel_rfl) (SOK.skip rfl) ?_
                  refine TV.virt 37 rfl rfl (by decide) rfl (by kernel_rfl) (SOK.skip rfl) ?_
                  refine TV.virt 38 rfl rfl (by decide) rfl (by kernel_rfl) (SOK.skip rfl) ?_
                  refine TV.virt 39 rfl rfl (by decide) rfl (by kernel_rfl) (SOK.skip rfl) ?_
                  refine TV.virt 40 rfl rfl (by decide) rfl (by kernel_rfl) (SOK.pure (PV.pickT rfl rfl) rfl) ?_
                  refine TV.done (by kernel_rfl) ?_
                  refine TQ.thenN ?_
                  refine TQ.midK () (by refine ⟨?_, trivial⟩; first | (show _ = some (Value.bool (!psB ls (ps.getD k default))); rw [show psB ls (ps.getD k default) = false from decide_eq_false (by omega)]; rfl) | (show some (Value.bool (decide _)) = some (Value.bool (!psB ls (ps.getD k default))); unfold psB; rw [← decide_not]; exact congrArg (fun b => some (Value.bool b)) (decide_eq_decide.2 (by omega)))) (by repeat (first | exact True.intro | refine And.intro rfl ?_)) (by first | exact List.Sublist.refl _ | (simp only [List.nil_append]; exact List.Sublist.refl _)) (by first | trivial | omega)
                · skip
                  refine TV.virt 22 rfl rfl (by decide) rfl (by kernel_rfl) (SOK.pure (PV.fieldAddr rfl Tb.fo_90_2) rfl) ?_
                  refine TV.virt 23 rfl rfl (by decide) rfl (by kernel_rfl) (SOK.pure (PV.load rfl Tb.one_3 (by repeat (first | exact List.Mem.head _ | refine List.Mem.tail _ ?_ | refine List.mem_append_right _ ?_)) rfl) rfl) ?_
                  refine TV.virt 24 rfl rfl (by decide) rfl (by kernel_rfl) (SOK.pure (PV.fieldAddr rfl Tb.fo_90_0) rfl) ?_
                  refine TV.virt 25 rfl rfl (by decide) rfl (by kernel_rfl) (SOK.pure (PV.load rfl Tb.one_3 (by repeat (first | exact List.Mem.head _ | refine List.Mem.tail _ ?_ | refine List.mem_append_right _ ?_)) rfl) rfl) ?_
                  refine TV.virt 26 rfl rfl (by decide) rfl (by kernel_rfl) (SOK.pure (PV.sub rfl rfl (by omega)) rfl) ?_
                  refine TV.virt 27 rfl rfl (by decide) rfl (by kernel_rfl) (SOK.pure (PV.max rfl rfl Tb.int_3) rfl) ?_
                  refine TV.virt 28 rfl rfl (by decide) rfl (by kernel_rfl) (SOK.pure (PV.lss rfl rfl) rfl) ?_
                  refine TV.virt 29 rfl rfl (by decide) rfl (by kernel_rfl) (SOK.pure (PV.pickF rfl rfl) rfl) ?_
                  refine TV.virt 30 rfl rfl (by decide) rfl (by kernel_rfl) (SOK.pure (PV.move rfl) rfl) ?_
                  first | refine TV.splitD 67 rfl (fun h7 => ?_) (fun h7 => ?_) | refine TV.split 67 rfl (fun h7 => ?_) (fun h7 => ?_)
                  · skip
                    refine TV.virt 31 rfl rfl (by decide) rfl (by kernel_rfl) (SOK.skip rfl) ?_
                    refine TV.virt 32 rfl rfl (by decide) rfl (by kernel_rfl) (SOK.skip rfl) ?_
                    refine TV.virt 33 rfl rfl (by decide) rfl (by kernel_rfl) (SOK.skip rfl) ?_
                    refine TV.virt 34 rfl rfl (by decide) rfl (by kernel_rfl) (SOK.skip rfl) ?_
                    refine TV.virt 35 rfl rfl (by decide) rfl (by kernel_rfl) (SOK.skip rfl) ?_
                    refine TV.virt 36 rfl rfl (by decide) rfl (by kernel_rfl) (SOK.skip rfl) ?_
                    refine TV.virt 37 rfl rfl (by decide) rfl (by kernel_rfl) (SOK.skip rfl) ?_
                    refine TV.virt 38 rfl rfl (by decide) rfl (by kernel_rfl) (SOK.skip rfl) ?_
                    refine TV.virt 39 rfl rfl (by decide) rfl (by kernel_rfl) (SOK.skip rfl) ?_
                    refine TV.virt 40 rfl rfl (by decide) rfl (by kernel_rfl) (SOK.pure (PV.pickT rfl rfl) rfl) ?_
                    refine TV.done (by kernel_rfl) ?_
                    refine TQ.thenN ?_
                    refine TQ.midK () (by refine ⟨?_, trivial⟩; first | (show _ = some (Value.bool (!psB ls (ps.getD k default))); rw [show psB ls (ps.getD k default) = false from decide_eq_false (by omega)]; rfl) | (show some (Value.bool (decide _)) = some (Value.bool (!psB ls (ps.getD k default))); unfold psB; rw [← decide_not]; exact congrArg (fun b => some (Value.bool b)) (decide_eq_decide.2 (by omega)))) (by repeat (first | exact True.intro | refine And.intro rfl ?_)) (by first | exact List.Sublist.refl _ | (simp only [List.nil_append]; exact List.Sublist.refl _)) (by first | trivial | omega)
                  · skip
                    refine TV.virt 31 rfl rfl (by decide) rfl (by kernel_rfl) (SOK.pure (PV.fieldAddr rfl Tb.fo_90_2) rfl) ?_
                    refine TV.virt 32 rfl rfl (by decide) rfl (by kernel_rfl) (SOK.pure (PV.load rfl Tb.one_3 (by repeat (first | exact List.Mem.head _ | refine List.Mem.tail _ ?_ | refine List.mem_append_right _ ?_)) rfl) rfl) ?_
                    refine TV.virt 33 rfl rfl (by decide) rfl (by kernel_rfl) (SOK.pure (PV.move rfl) rfl) ?_
                    refine TV.virt 34 rfl rfl (by decide) rfl (by kernel_rfl) (SOK.pure (PV.sub rfl rfl (by omega)) rfl) ?_
                    refine TV.virt 35 rfl rfl (by decide) rfl (by kernel_rfl) (SOK.pure (PV.fieldAddr rfl Tb.fo_90_0) rfl) ?_
                    refine TV.virt 36 rfl rfl (by decide) rfl (by kernel_rfl) (SOK.pure (PV.load rfl Tb.one_3 (by repeat (first | exact List.Mem.head _ | refine List.Mem.tail _ ?_ | refine List.mem_append_right _ ?_)) rfl) rfl) ?_
                    refine TV.virt 37 rfl rfl (by decide) rfl (by kernel_rfl) (SOK.pure (PV.add rfl rfl (by omega)) rfl) ?_
                    refine TV.virt 38 rfl rfl (by decide) rfl (by kernel_rfl) (SOK.pure (PV.min rfl rfl Tb.int_3) rfl) ?_
                    refine TV.virt 39 rfl rfl (by decide) rfl (by kernel_rfl) (SOK.pure (PV.gtr rfl rfl) rfl) ?_
                    refine TV.virt 40 rfl rfl (by decide) rfl (by kernel_rfl) (SOK.pure (PV.pickF rfl rfl) rfl) ?_
                    refine TV.done (by kernel_rfl) ?_
                    refine TQ.thenN ?_
                    refine TQ.midK () (by refine ⟨?_, trivial⟩; first | (show _ = some (Value.bool (!psB ls (ps.getD k default))); rw [show psB ls (ps.getD k default) = false from decide_eq_false (by omega)]; rfl) | (show some (Value.bool (decide _)) = some (Value.bool (!psB ls (ps.getD k default))); unfold psB; rw [← decide_not]; exact congrArg (fun b => some (Value.bool b)) (decide_eq_decide.2 (by omega)))) (by repeat (first | exact True.intro | refine And.intro rfl ?_)) (by first | exact List.Sublist.refl _ | (simp only [List.nil_append]; exact List.Sublist.refl _)) (by first | trivial | omega)
        · skip
          intro _ _
          first | refine TC.condD rfl (fun hps => ?_) (fun hps => ?_) | refine TC.cond rfl (fun hps => ?_) (fun hps => ?_)
          · skip
            refine TC.seq ?_
            refine TC.region ?_
            refine TL.pure (PV.assign rfl) rfl (by decide) ?_
            refine TL.pure (PV.assign rfl) rfl (by decide) ?_
            refine TL.nil ?_
            refine TQ.thenC ?_
            refine TC.ret ?_
            refine TQ.thenR ?_
            refine TQ.blkR ?_
            refine TQ.thenR ?_
            refine TQ.thenR ?_
            refine TQ.blkR ?_
            refine TQ.thenR ?_
            refine TQ.retE2 rfl rfl rfl ?_
            have hq9 : psB ls (ps.getD k default) = false := by simpa using hps
            exact ⟨(), by rw [(pr_e hbad (by omega) (hpd.1 hq9) (by decide)).1, (pr_e hbad (by omega) (hpd.1 hq9) (by decide)).2], trivial, List.nil_sublist _⟩
          · skip
            refine TC.skip ?_
            refine TQ.thenC ?_
            refine TC.seq ?_
            refine TC.seqK [1, 2, 4, 5, 7, 8, 9, 10] (X := Unit) (fun x => True) (fun x => [(85, .bool (!amB (ps.getD k default)))]) (fun x => (bQ, Obj.cells (rP.cells (ps.getD k default)).toArray 90 (0, 0)) :: ((bT, Obj.cells #[gvP y9] 24 (0, 0)) :: (gbP y9 ++ (bl (mkR y9.2 (prM ls ps k)) ++ [(b0, Obj.cells #[.slice p ls.length cap] 24 (0, 0))])))) ?_ ?_
            · skip
              refine TC.region ?_
              refine TL.pure (PV.fieldAddr rfl Tb.fo_90_3) rfl (by decide) ?_
              refine TL.pure (PV.load rfl Tb.one_3 (by repeat (first | exact List.Mem.head _ | refine List.Mem.tail _ ?_ | refine List.mem_append_right _ ?_)) rfl) rfl (by decide) ?_
              refine TL.pure (PV.lss rfl rfl) rfl (by decide) ?_
              refine TL.pure (PV.move rfl) rfl (by decide) ?_
              first | refine TL.splitD 81 rfl (fun h9 => ?_) (fun h9 => ?_) | refine TL.split 81 rfl (fun h9 => ?_) (fun h9 => ?_)
              · skip
                refine TL.skip rfl (fun k hk => by cases hk; decide) ?_
                refine TL.skip rfl (fun k hk => by cases hk; decide) ?_
                refine TL.skip rfl (fun k hk => by cases hk; decide) ?_
                refine TL.pure (PV.pickT rfl rfl) rfl (by decide) ?_
                refine TL.nil ?_
                refine TQ.thenN ?_
                refine TQ.midK () (by refine ⟨?_, trivial⟩; first | (show _ = some (Value.bool (!amB (ps.getD k default))); rw [show amB (ps.getD k default) = false from decide_eq_false (by omega)]; rfl) | (show some (Value.bool (decide _)) = some (Value.bool (!amB (ps.getD k default))); unfold amB; rw [← decide_not]; exact congrArg (fun b => some (Value.bool b)) (decide_eq_decide.2 (by omega)))) (by repeat (first | exact True.intro | refine And.intro rfl ?_)) (List.Sublist.refl _) (by first | trivial | omega)
              · skip
                refine TL.pure (PV.fieldAddr rfl Tb.fo_90_3) rfl (by decide) ?_
                refine TL.pure (PV.load rfl Tb.one_3 (by repeat (first | exact List.Mem.head _ | refine List.Mem.tail _ ?_ | refine List.mem_append_right _ ?_)) rfl) rfl (by decide) ?_
                refine TL.pure (PV.gtr rfl rfl) rfl (by decide) ?_
                refine TL.pure (PV.pickF rfl rfl) rfl (by decide) ?_
                refine TL.nil ?_
                refine TQ.thenN ?_
                refine TQ.midK () (by refine ⟨?_, trivial⟩; first | (show _ = some (Value.bool (!amB (ps.getD k default))); rw [show amB (ps.getD k default) = false from decide_eq_false (by omega)]; rfl) | (show some (Value.bool (decide _)) = some (Value.bool (!amB (ps.getD k default))); unfold amB; rw [← decide_not]; exact congrArg (fun b => some (Value.bool b)) (decide_eq_decide.2 (by omega)))) (by repeat (first | exact True.intro | refine And.intro rfl ?_)) (List.Sublist.refl _) (by first | trivial | omega)
            · skip
              intro _ _
              first | refine TC.condD rfl (fun ham => ?_) (fun ham => ?_) | refine TC.cond rfl (fun ham => ?_) (fun ham => ?_)
              · skip
                refine TC.seq ?_
                refine TC.region ?_
                refine TL.pure (PV.assign rfl) rfl (by decide) ?_
                refine TL.pure (PV.assign rfl) rfl (by decide) ?_
                refine TL.nil ?_
                refine TQ.thenC ?_
                refine TC.ret ?_
                refine TQ.thenR ?_
                refine TQ.blkR ?_
                refine TQ.thenR ?_
                refine TQ.thenR ?_
                refine TQ.blkR ?_
                refine TQ.thenR ?_
                refine TQ.retE2 rfl rfl rfl ?_
                have hpq : psB ls (ps.getD k default) = true := by simpa using hps
                have hq3 := of_decide_eq_true hpq
                have hq9 : amB (ps.getD k default) = false := by simpa using ham
                exact ⟨(), by rw [(pr_e hbad (by omega) (hpd.2.1 hpq hq9) (by decide)).1, (pr_e hbad (by omega) (hpd.2.1 hpq hq9) (by decide)).2], trivial, List.nil_sublist _⟩
              · skip
                refine TC.skip ?_
                refine TQ.thenC ?_
                refine TC.seq ?_
                have hpq : psB ls (ps.getD k default) = true := by simpa using hps
                have hq3 := of_decide_eq_true hpq
                have haq : amB (ps.getD k default) = true := by simpa using ham
                have hq4 := of_decide_eq_true haq
                have hs1 := hsh.add (c := (ps.getD k default).c.toNat) (j := (ps.getD k default).h.toNat) (v := -(ps.getD k default).a) (by omega)
                have hp0 := Sh.shp hy9 hv hsh
                have hp1 := Sh.shp hy9 hv hs1
                obtain ⟨hg7, hm7⟩ := cellP hy9 hp0 (c := (ps.getD k default).c.toNat) (by omega)
                obtain ⟨hro, hrl⟩ := row_at hy9 (show (ps.getD k default).c.toNat < ls.length by omega)
                have hrc := hv.c (ps.getD k default).c.toNat (by omega)
                have hb1 := hsh.bd (ps.getD k default).c.toNat (ps.getD k default).h.toNat
                refine TC.mixV [true, true, true, true, true, true, true, true, true, true, true, true, true, true, false] _ 15 Tb.mixed rfl (by kernel_rfl) (by kernel_rfl) (by kernel_rfl) (by kernel_rfl) (List.Sublist.refl _) ?_
                refine TV.virt 0 rfl rfl (by decide) rfl (by kernel_rfl) (SOK.pure (PV.fieldAddr rfl Tb.fo_24_0) rfl) ?_
                refine TV.virt 1 rfl rfl (by decide) rfl (by kernel_rfl) (SOK.pure (PV.load rfl Tb.one_22 (by repeat (first | exact List.Mem.head _ | refine List.Mem.tail _ ?_ | refine List.mem_append_right _ ?_)) rfl) rfl) ?_
                refine TV.virt 2 rfl rfl (by decide) rfl (by kernel_rfl) (SOK.pure (PV.fieldAddr rfl Tb.fo_90_0) rfl) ?_
                refine TV.virt 3 rfl rfl (by decide) rfl (by kernel_rfl) (SOK.pure (PV.load rfl Tb.one_3 (by repeat (first | exact List.Mem.head _ | refine List.Mem.tail _ ?_ | refine List.mem_append_right _ ?_)) rfl) rfl) ?_
                refine TV.virt 4 rfl rfl (by decide) rfl (by kernel_rfl) (SOK.pure (PV.indexG (j := (ps.getD k default).c.toNat) rfl rfl hy9.ok Tb.elm_22 (by omega) (by omega)) rfl) ?_
                refine TV.virt 5 rfl rfl (by decide) rfl (by kernel_rfl) (SOK.pure (PV.loadGP (y := y9) (j := (ps.getD k default).c.toNat) (v := gvI (y9.2.getD (ps.getD k default).c.toNat (none, []))) rfl Tb.one_25 (fun yy hyy => by simp only [List.mem_append, List.mem_cons]; simp [hyy]) hy9.ok (by omega) rfl) rfl) ?_
                refine TV.virt 6 rfl rfl (by decide) rfl (by kernel_rfl) (SOK.pure (PV.fieldAddr rfl Tb.fo_90_1) rfl) ?_
                refine TV.virt 7 rfl rfl (by decide) rfl (by kernel_rfl) (SOK.pure (PV.load rfl Tb.one_3 (by repeat (first | exact List.Mem.head _ | refine List.Mem.tail _ ?_ | refine List.mem_append_right _ ?_)) rfl) rfl) ?_
                refine TV.virt 8 rfl rfl (by decide) rfl (by kernel_rfl) (SOK.pure (PV.indexG (j := (ps.getD k default).h.toNat) rfl rfl hro Tb.elm_25 (by omega) (by omega)) rfl) ?_
                refine TV.virt 9 rfl rfl (by decide) rfl (by kernel_rfl) (SOK.pure (PV.loadGI (y := ((y9.2.getD (ps.getD k default).c.toNat (none, [])).1, (prM ls ps k).getD (ps.getD k default).c.toNat [])) (j := (ps.getD k default).h.toNat) (v := ((prM ls ps k).getD (ps.getD k default).c.toNat []).getD (ps.getD k default).h.toNat 0) rfl Tb.one_3 (fun yy hyy => by have := bl_mem hm7 yy hyy; simp only [List.mem_append, List.mem_cons]; simp only [this, true_or, or_true]) hg7 (by show (ps.getD k default).h.toNat < ((prM ls ps k).getD (ps.getD k default).c.toNat []).length; rw [hsh.row _ (by omega)]; omega) rfl) rfl) ?_
                refine TV.virt 10 rfl rfl (by decide) rfl (by kernel_rfl) (SOK.pure (PV.fieldAddr rfl Tb.fo_90_3) rfl) ?_
                refine TV.virt 11 rfl rfl (by decide) rfl (by kernel_rfl) (SOK.pure (PV.load rfl Tb.one_3 (by repeat (first | exact List.Mem.head _ | refine List.Mem.tail _ ?_ | refine List.mem_append_right _ ?_)) rfl) rfl) ?_
                refine TV.virt 12 rfl rfl (by decide) rfl (by kernel_rfl) (SOK.pure (PV.sub rfl rfl (by omega)) rfl) ?_
                refine TV.virt 13 rfl rfl (by decide) rfl (by kernel_rfl) (SOK.pure (PV.indexG (j := (ps.getD k default).h.toNat) rfl rfl hro Tb.elm_25 (by omega) (by omega)) rfl) ?_
                refine TV.step [14] (by kernel_rfl) (by decide) rfl ⟨⟨_, rfl, ?_⟩, trivial⟩
                refine TL.putL (l0 := ls) (yy := y9) (m := (prM ls ps k)) (m' := (addAt (prM ls ps k) (ps.getD k default).c.toNat (ps.getD k default).h.toNat (-(ps.getD k default).a))) (c := (ps.getD k default).c.toNat) (j := (ps.getD k default).h.toNat) rfl rfl Tb.cells_3 hy9 hp0 (by omega) (by rw [hsh.row _ (by omega)]; omega) (by unfold addAt; rw [Int.sub_eq_add_neg]) (by repeat (first | exact PutL.here _ | apply PutL.tail | apply PutL.app)) rfl rfl ?_
                refine TL.nil ?_
                refine TV.next (.inr (by kernel_rfl)) ?_
                refine TV.done (by kernel_rfl) ?_
                refine TQ.thenC ?_
                obtain ⟨hg8, hm8⟩ := cellP hy9 hp1 (c := (ps.getD k default).t.toNat) (by omega)
                obtain ⟨hro2, hrl2⟩ := row_at hy9 (show (ps.getD k default).t.toNat < ls.length by omega)
                have hrt := hv.c (ps.getD k default).t.toNat (by omega)
                have hb2 := hs1.bd (ps.getD k default).t.toNat ((ps.getD k default).h - 1).toNat
                refine TC.mixV [true, true, true, true, true, true, true, true, true, true, true, true, true, true, true, false] _ 16 Tb.mixed rfl (by kernel_rfl) (by kernel_rfl) (by kernel_rfl) (by kernel_rfl) (List.Sublist.refl _) ?_
                refine TV.virt 0 rfl rfl (by decide) rfl (by kernel_rfl) (SOK.pure (PV.fieldAddr rfl Tb.fo_24_0) rfl) ?_
                refine TV.virt 1 rfl rfl (by decide) rfl (by kernel_rfl) (SOK.pure (PV.load rfl Tb.one_22 (by repeat (first | exact List.Mem.head _ | refine List.Mem.tail _ ?_ | refine List.mem_append_right _ ?_)) rfl) rfl) ?_
                refine TV.virt 2 rfl rfl (by decide) rfl (by kernel_rfl) (SOK.pure (PV.fieldAddr rfl Tb.fo_90_2) rfl) ?_
                refine TV.virt 3 rfl rfl (by decide) rfl (by kernel_rfl) (SOK.pure (PV.load rfl Tb.one_3 (by repeat (first | exact List.Mem.head _ | refine List.Mem.tail _ ?_ | refine List.mem_append_right _ ?_)) rfl) rfl) ?_
                refine TV.virt 4 rfl rfl (by decide) rfl (by kernel_rfl) (SOK.pure (PV.indexG (j := (ps.getD k default).t.toNat) rfl rfl hy9.ok Tb.elm_22 (by omega) (by omega)) rfl) ?_
                refine TV.virt 5 rfl rfl (by decide) rfl (by kernel_rfl) (SOK.pure (PV.loadGP (y := y9) (j := (ps.getD k default).t.toNat) (v := gvI (y9.2.getD (ps.getD k default).t.toNat (none, []))) rfl Tb.one_25 (fun yy hyy => by simp only [List.mem_append, List.mem_cons]; simp [hyy]) hy9.ok (by omega) rfl) rfl) ?_
                refine TV.virt 6 rfl rfl (by decide) rfl (by kernel_rfl) (SOK.pure (PV.fieldAddr rfl Tb.fo_90_1) rfl) ?_
                refine TV.virt 7 rfl rfl (by decide) rfl (by kernel_rfl) (SOK.pure (PV.load rfl Tb.one_3 (by repeat (first | exact List.Mem.head _ | refine List.Mem.tail _ ?_ | refine List.mem_append_right _ ?_)) rfl) rfl) ?_
                refine TV.virt 8 rfl rfl (by decide) rfl (by kernel_rfl) (SOK.pure (PV.sub rfl rfl (by omega)) rfl) ?_
                refine TV.virt 9 rfl rfl (by decide) rfl (by kernel_rfl) (SOK.pure (PV.indexG (j := ((ps.getD k default).h - 1).toNat) rfl rfl hro2 Tb.elm_25 (by omega) (by omega)) rfl) ?_
                refine TV.virt 10 rfl rfl (by decide) rfl (by kernel_rfl) (SOK.pure (PV.loadGI (y := ((y9.2.getD (ps.getD k default).t.toNat (none, [])).1, (addAt (prM ls ps k) (ps.getD k default).c.toNat (ps.getD k default).h.toNat (-(ps.getD k default).a)).getD (ps.getD k default).t.toNat [])) (j := ((ps.getD k default).h - 1).toNat) (v := ((addAt (prM ls ps k) (ps.getD k default).c.toNat (ps.getD k default).h.toNat (-(ps.getD k default).a)).getD (ps.getD k default).t.toNat []).getD ((ps.getD k default).h - 1).toNat 0) rfl Tb.one_3 (fun yy hyy => by have := bl_mem hm8 yy hyy; simp only [List.mem_append, List.mem_cons]; simp only [this, true_or, or_true]) hg8 (by show ((ps.getD k default).h - 1).toNat < ((addAt (prM ls ps k) (ps.getD k default).c.toNat (ps.getD k default).h.toNat (-(ps.getD k default).a)).getD (ps.getD k default).t.toNat []).length; rw [hs1.row _ (by omega)]; omega) rfl) rfl) ?_
                refine TV.virt 11 rfl rfl (by decide) rfl (by kernel_rfl) (SOK.pure (PV.fieldAddr rfl Tb.fo_90_3) rfl) ?_
                refine TV.virt 12 rfl rfl (by decide) rfl (by kernel_rfl) (SOK.pure (PV.load rfl Tb.one_3 (by repeat (first | exact List.Mem.head _ | refine List.Mem.tail _ ?_ | refine List.mem_append_right _ ?_)) rfl) rfl) ?_
                refine TV.virt 13 rfl rfl (by decide) rfl (by kernel_rfl) (SOK.pure (PV.add rfl rfl (by omega)) rfl) ?_
                refine TV.virt 14 rfl rfl (by decide) rfl (by kernel_rfl) (SOK.pure (PV.indexG (j := ((ps.getD k default).h - 1).toNat) rfl rfl hro2 Tb.elm_25 (by omega) (by omega)) rfl) ?_
                refine TV.step [15] (by kernel_rfl) (by decide) rfl ⟨⟨_, rfl, ?_⟩, trivial⟩
                refine TL.putL (l0 := ls) (yy := y9) (m := (addAt (prM ls ps k) (ps.getD k default).c.toNat (ps.getD k default).h.toNat (-(ps.getD k default).a))) (m' := sendP (prM ls ps k) (ps.getD k default)) (c := (ps.getD k default).t.toNat) (j := ((ps.getD k default).h - 1).toNat) rfl rfl Tb.cells_3 hy9 hp1 (by omega) (by rw [hs1.row _ (by omega)]; omega) rfl (by repeat (first | exact PutL.here _ | apply PutL.tail | apply PutL.app)) rfl rfl ?_
                refine TL.nil ?_
                refine TV.next (.inr (by kernel_rfl)) ?_
                refine TV.done (by kernel_rfl) ?_
                refine TQ.blkN ?_
                refine TQ.thenC ?_
                refine TC.region ?_
                refine TL.pure (PV.move rfl) rfl (by decide) ?_
                refine TL.pure (PV.add rfl rfl (by omega)) rfl (by decide) ?_
                refine TL.pure (PV.assign rfl) rfl (by decide) ?_
                refine TL.nil ?_
                refine TQ.thenN ?_
                refine TQ.backK (k + 1) (by repeat (first | exact True.intro | refine And.intro rfl ?_)) (by repeat (first | exact True.intro | refine And.intro rfl ?_)) (by rw [prM_next (by omega)]; exact List.Sublist.cons _ (List.Sublist.refl _)) ⟨⟨by omega, hpd.2.2 hpq haq⟩, by rw [prM_next (by omega), show (50 : Int) + 2000 * ((k + 1 : Nat) : Int) = 50 + 2000 * (k : Int) + 2000 by omega]; exact hsh.send haq⟩ (by omega)
      · skip
        refine TC.exit ?_
        refine TQ.thenE ?_
        refine TQ.thenE ?_
        refine TQ.blkS ?_
        refine TQ.thenC ?_
        refine TC.seq ?_
        have hkl : k = ps.length := by omega
        have hez : prE ls ps = 0 := by rw [hk.1.2, List.drop_eq_nil_of_le (by omega)]; rfl
        have hsh := hk.2
        rw [hkl] at hsh
        rw [hkl]
        have hpf := Sh.shp hy9 hv hsh
        refine TC.region ?_
        refine TL.pure (PV.assign rfl) rfl (by decide) ?_
        refine TL.nil ?_
        refine TQ.thenC ?_
        refine TC.seq ?_
        refine TC.seq ?_
        refine TC.region ?_
        refine TL.pure (PV.assign rfl) rfl (by decide) ?_
        refine TL.nil ?_
        refine TQ.thenC ?_
        refine TC.block ?_
        refine TC.loopK [2, 4, 5, 7, 8] (X := Nat) (fun c => c ≤ ls.length ∧ 0 ≤ posS ((prM ls ps ps.length).take c) ∧ posS ((prM ls ps ps.length).take c) ≤ 1000000 * (c : Int)) (fun c => [(12, .int .i64 c), (11, .int .i64 (posS ((prM ls ps ps.length).take c)))]) (fun c => (bT, Obj.cells #[gvP y9] 24 (0, 0)) :: (gbP y9 ++ (bl (mkR y9.2 (prM ls ps ps.length)) ++ [(b0, Obj.cells #[.slice p ls.length cap] 24 (0, 0))]))) (fun c => ls.length - c) 0 ⟨Nat.zero_le _, by simp [posS], by simp [posS]⟩ (by repeat (first | exact True.intro | refine And.intro rfl ?_)) (List.Sublist.refl _) ?_
        intro c hc
        have hml := hsh.len
        refine TC.seq ?_
        refine TC.seq ?_
        refine TC.region ?_
        refine TL.pure (PV.move rfl) rfl (by decide) ?_
        refine TL.pure (PV.move rfl) rfl (by decide) ?_
        refine TL.pure (PV.lss rfl rfl) rfl (by decide) ?_
        refine TL.nil ?_
        refine TQ.thenC ?_
        first | refine TC.condD rfl (fun hlt2 => ?_) (fun hlt2 => ?_) | refine TC.cond rfl (fun hlt2 => ?_) (fun hlt2 => ?_)
        · skip
          refine TC.skip ?_
          refine TQ.thenC ?_
          refine TC.seq ?_
          refine TC.block ?_
          refine TC.seq ?_
          refine TC.region ?_
          refine TL.pure (PV.assign rfl) rfl (by decide) ?_
          refine TL.nil ?_
          refine TQ.thenC ?_
          refine TC.block ?_
          refine TC.loopK [2, 4, 5, 7, 8, 12] (X := Nat) (fun r => r ≤ dep ls) (fun r => [(13, .int .i64 r), (11, .int .i64 (posS ((prM ls ps ps.length).take c) + posR (((prM ls ps ps.length).getD c []).take r)))]) (fun r => (bT, Obj.cells #[gvP y9] 24 (0, 0)) :: (gbP y9 ++ (bl (mkR y9.2 (prM ls ps ps.length)) ++ [(b0, Obj.cells #[.slice p ls.length cap] 24 (0, 0))]))) (fun r => dep ls - r) 0 (Nat.zero_le _) (by refine ⟨rfl, ?_, trivial⟩; simp [posR]; rfl) (List.Sublist.refl _) ?_
          intro r hr9
          have hrw := hsh.row c (by omega)
          have hpb := posR_bd (r := (prM ls ps ps.length).getD c []) (B := 200000) (by omega) (fun j => by have := hsh.bd c j; omega) r (by omega)
          refine TC.seq ?_
          refine TC.seq ?_
          refine TC.region ?_
          refine TL.pure (PV.move rfl) rfl (by decide) ?_
          refine TL.pure (PV.loadBox rfl Tb.agg_24 (by repeat (first | exact List.Mem.head _ | refine List.Mem.tail _ ?_ | refine List.mem_append_right _ ?_)) rfl) rfl (by decide) ?_
          refine TL.call rfl Tb.gofn_96 (fun a w hs => rdepth_ok w _ _ _ (hr.new hs.new) (by omega)) rfl (by decide) (fun _ _ => ?_)
          refine TL.pure (PV.lss rfl rfl) rfl (by decide) ?_
          refine TL.nil ?_
          refine TQ.thenC ?_
          first | refine TC.condD rfl (fun hlt3 => ?_) (fun hlt3 => ?_) | refine TC.cond rfl (fun hlt3 => ?_) (fun hlt3 => ?_)
          · skip
            refine TC.skip ?_
            refine TQ.thenC ?_
            refine TC.seq ?_
            refine TC.block ?_
            obtain ⟨hg9, hm9⟩ := cellP hy9 hpf (c := c) (by omega)
            obtain ⟨hro9, hrl9⟩ := row_at hy9 (show c < ls.length by omega)
            have hrr := hv.c c (by omega)
            have hb9 := hsh.bd c r
            refine TC.region ?_
            refine TL.pure (PV.move rfl) rfl (by decide) ?_
            refine TL.pure (PV.fieldAddr rfl Tb.fo_24_0) rfl (by decide) ?_
            refine TL.pure (PV.load rfl Tb.one_22 (by repeat (first | exact List.Mem.head _ | refine List.Mem.tail _ ?_ | refine List.mem_append_right _ ?_)) rfl) rfl (by decide) ?_
            refine TL.pure (PV.move rfl) rfl (by decide) ?_
            refine TL.pure (PV.indexG (j := c) rfl rfl hy9.ok Tb.elm_22 (by omega) (by omega)) rfl (by decide) ?_
            refine TL.pure (PV.loadGP (y := y9) (j := c) (v := gvI (y9.2.getD c (none, []))) rfl Tb.one_25 (fun yy hyy => by simp only [List.mem_append, List.mem_cons]; simp [hyy]) hy9.ok (by omega) rfl) rfl (by decide) ?_
            refine TL.pure (PV.move rfl) rfl (by decide) ?_
            refine TL.pure (PV.indexG (j := r) rfl rfl hro9 Tb.elm_25 (by omega) (by omega)) rfl (by decide) ?_
            refine TL.pure (PV.loadGI (y := ((y9.2.getD c (none, [])).1, (prM ls ps ps.length).getD c [])) (j := r) (v := ((prM ls ps ps.length).getD c []).getD r 0) rfl Tb.one_3 (fun yy hyy => by have := bl_mem hm9 yy hyy; simp only [List.mem_append, List.mem_cons]; simp only [this, true_or, or_true]) hg9 (by show r < ((prM ls ps ps.length).getD c []).length; rw [hsh.row _ (by omega)]; omega) rfl) rfl (by decide) ?_
            refine TL.pure (PV.max rfl rfl Tb.int_3) rfl (by decide) ?_
            refine TL.pure (PV.add rfl rfl (by omega)) rfl (by decide) ?_
            refine TL.pure (PV.assign rfl) rfl (by decide) ?_
            refine TL.nil ?_
            refine TQ.blkN ?_
            refine TQ.thenC ?_
            refine TC.region ?_
            refine TL.pure (PV.move rfl) rfl (by decide) ?_
            refine TL.pure (PV.add rfl rfl (by omega)) rfl (by decide) ?_
            refine TL.pure (PV.assign rfl) rfl (by decide) ?_
            refine TL.nil ?_
            refine TQ.thenN ?_
            refine TQ.backK (r + 1) (by refine ⟨rfl, ?_, trivial⟩; rw [posR_step (by omega), Int.max_comm, ← Int.add_assoc]; rfl) (by repeat (first | exact True.intro | refine And.intro rfl ?_)) (List.Sublist.refl _) (by omega) (by omega)
          · skip
            refine TC.exit ?_
            refine TQ.thenE ?_
            refine TQ.thenE ?_
            refine TQ.blkS ?_
            refine TQ.blkN ?_
            refine TQ.thenC ?_
            refine TC.region ?_
            refine TL.pure (PV.move rfl) rfl (by decide) ?_
            refine TL.pure (PV.add rfl rfl (by omega)) rfl (by decide) ?_
            refine TL.pure (PV.assign rfl) rfl (by decide) ?_
            refine TL.nil ?_
            refine TQ.thenN ?_
            have hrw := hsh.row c (by omega)
            have hpb := posR_bd (r := (prM ls ps ps.length).getD c []) (B := 200000) (by omega) (fun j => by have := hsh.bd c j; omega) r (by omega)
            have hrow9 : ((prM ls ps ps.length).getD c []).take r = (prM ls ps ps.length).getD c [] := List.take_of_length_le (by omega)
            have hstep := posS_step (m := (prM ls ps ps.length)) (c := c) (by omega)
            rw [hrow9] at hpb
            refine TQ.backK (c + 1) (by refine ⟨rfl, ?_, trivial⟩; rw [hstep]; show some (Value.int .i64 (posS ((prM ls ps ps.length).take c) + posR (((prM ls ps ps.length).getD c []).take r))) = _; rw [hrow9]) (by repeat (first | exact True.intro | refine And.intro rfl ?_)) (List.Sublist.refl _) ⟨by omega, by rw [hstep]; omega, by rw [hstep]; omega⟩ (by omega)
        · skip
          refine TC.exit ?_
          refine TQ.thenE ?_
          refine TQ.thenE ?_
          refine TQ.blkS ?_
          refine TQ.thenC ?_
          refine TC.seq ?_
          refine TC.region ?_
          refine TL.pure (PV.move rfl) rfl (by decide) ?_
          refine TL.pure (PV.assign rfl) rfl (by decide) ?_
          refine TL.pure (PV.assign rfl) rfl (by decide) ?_
          refine TL.nil ?_
          refine TQ.thenC ?_
          refine TC.ret ?_
          refine TQ.retE2 rfl rfl rfl ?_
          have h9 := pr_0 hbad (by omega) hez
          have hcl : c = ls.length := by omega
          have htk : (prM ls ps ps.length).take c = (prM ls ps ps.length) := List.take_of_length_le (by have := hsh.len; omega)
          exact ⟨(), by rw [h9.1, h9.2, htk], trivial, List.nil_sublist _⟩

end Go.Proofs.Ytfgjojoipbbacaa
