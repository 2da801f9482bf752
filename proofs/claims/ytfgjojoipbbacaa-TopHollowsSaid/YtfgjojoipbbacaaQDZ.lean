/- What a proof bounds: the function's contract. -/
import Derived.Test.YtfgjojoipbbacaaQDY
import Derived.Test.YtfgjojoipbbacaaQSv
set_option linter.unusedVariables false
set_option linter.unusedSimpArgs false
namespace Go.Proofs.Ytfgjojoipbbacaa
open Go.Sx Go.RowKit

theorem pr_bad {ls : List (List Int)} {ps : List Ps} (h : validI ls ≠ 0) : prV ls ps = 0 ∧ prI ls ps = validI ls := by
  have e : prI ls ps = validI ls := if_pos h
  exact ⟨by unfold prV; rw [e, if_neg h], e⟩
theorem pr_60 {ls : List (List Int)} {ps : List Ps} (h : ¬ validI ls ≠ 0) (h2 : 60 < ps.length) : prV ls ps = 0 ∧ prI ls ps = 3 := by
  have e : prI ls ps = 3 := by unfold prI; rw [if_neg h, if_pos h2]
  exact ⟨by unfold prV; rw [e, if_neg (by decide)], e⟩
theorem pr_e {ls : List (List Int)} {ps : List Ps} {e : Int} (h : ¬ validI ls ≠ 0) (h2 : ¬ 60 < ps.length) (he : prE ls ps = e) (hn : e ≠ 0) : prV ls ps = 0 ∧ prI ls ps = e := by
  have e1 : prI ls ps = e := by unfold prI; rw [if_neg h, if_neg h2, he]
  exact ⟨by unfold prV; rw [e1, if_neg hn], e1⟩
theorem pr_0 {ls : List (List Int)} {ps : List Ps} (h : ¬ validI ls ≠ 0) (h2 : ¬ 60 < ps.length) (he : prE ls ps = 0) : prV ls ps = posS (prM ls ps ps.length) ∧ prI ls ps = 0 := by
  have e1 : prI ls ps = 0 := by unfold prI; rw [if_neg h, if_neg h2, he]
  exact ⟨by unfold prV; rw [if_pos e1, prM_all], e1⟩
def sumS (es : List Ent) (y : List Nat) : Int := (y.map fun j => max (es.getD j default).2 0).sum
theorem sumS_snoc (es : List Ent) (y : List Nat) (j : Nat) : sumS es (y ++ [j]) = sumS es y + max (es.getD j default).2 0 := by simp [sumS]
theorem perm_sumI {l m : List Int} (h : l.Perm m) : l.sum = m.sum := by
  induction h with
  | nil => rfl
  | cons x _ ih => simp only [List.sum_cons, ih]
  | swap x y l => simp only [List.sum_cons]; omega
  | trans _ _ h1 h2 => exact h1.trans h2
theorem sumS_all {es : List Ent} {y : List Nat} (hy : Ord es.length y) (ha : ∀ j, j < es.length → j ∈ y) : sumS es y = (es.map fun e => max e.2 0).sum := by
  have hp : y.Perm (List.range es.length) := (List.perm_ext_iff_of_nodup hy.nd List.nodup_range).2 fun a => ⟨fun h => List.mem_range.2 (hy.lt a h), fun h => ha a (List.mem_range.1 h)⟩
  have e : (List.range es.length).map (fun j => max (es.getD j default).2 0) = es.map fun e => max e.2 0 := by
    apply List.ext_getElem (by simp)
    intro i h1 h2
    simp at h1
    simp [List.getD, h1]
  unfold sumS
  rw [perm_sumI (hp.map _), e]
theorem entK_bd {n D : Nat} {B : Int} {m : List (List Int)} (h : Sh n D B m) {k j : Nat} (hj : j < k) : -B ≤ ((entK D m k).getD j default).2 ∧ ((entK D m k).getD j default).2 ≤ B := by
  have e : (entK D m k).getD j default = (keyI D j, (m.getD (j / D) []).getD (j % D) 0) := by
    rw [List.getD, entK_get hj]; rfl
  rw [e]
  exact h.bd _ _


set_option maxRecDepth 100000 in
set_option maxHeartbeats 4000000 in
theorem CheckProof_ok (w0 : World) (p : Option Addr) (cap : Nat) (ls : List (List Int)) (hr : LsAt w0 p ls) (pp : Option Addr) (cp : Nat) (ps : List Ps) (hp : RecsAt rP w0 pp ps) :
    Calls Try.prog 57 #[bv p ls.length cap, .slice pp ps.length cp] w0 (Post (X := Unit) (fun _ => .tuple #[.int .i64 (prV ls ps), .int .i64 (prI ls ps)]) (fun _ => True) (fun _ => []) w0) := by
  refine calls Try.func57 rfl (n := 76) rfl (by simp) ?_
  refine TC.seq ?_
  refine TC.region ?_
  refine TL.box rfl rfl (by decide) (fun b0 hb0 => ?_)
  refine TL.pure (PV.assign rfl) rfl (by decide) ?_
  refine TL.pure (PV.assign rfl) rfl (by decide) ?_
  refine TL.nil ?_
  refine TQ.thenC ?_
  refine TC.seq ?_
  refine TC.seq ?_
  refine TC.region ?_
  refine TL.pure (PV.loadBox rfl Tb.agg_24 (by repeat (first | exact List.Mem.head _ | refine List.Mem.tail _ ?_ | refine List.mem_append_right _ ?_)) rfl) rfl (by decide) ?_
  refine TL.call rfl Tb.gofn_21 (fun a w hs => validate_ok w _ _ _ (hr.new hs.new)) rfl (by decide) (fun _ _ => ?_)
  refine TL.pure (PV.assign rfl) rfl (by decide) ?_
  refine TL.nil ?_
  refine TQ.thenC ?_
  refine TC.seq ?_
  refine TC.region ?_
  refine TL.pure (PV.move rfl) rfl (by decide) ?_
  refine TL.pure (PV.neq rfl rfl) rfl (by decide) ?_
  refine TL.nil ?_
  refine TQ.thenC ?_
  first | refine TC.condD rfl (fun hbad => ?_) (fun hbad => ?_) | refine TC.cond rfl (fun hbad => ?_) (fun hbad => ?_)
  · skip
    refine TC.seq ?_
    refine TC.region ?_
    refine TL.pure (PV.move rfl) rfl (by decide) ?_
    refine TL.pure (PV.assign rfl) rfl (by decide) ?_
    refine TL.pure (PV.assign rfl) rfl (by decide) ?_
    refine TL.nil ?_
    refine TQ.thenC ?_
    refine TC.ret ?_
    refine TQ.thenR ?_
    refine TQ.retE2 rfl rfl rfl ?_
    exact ⟨(), by rw [(pr_bad hbad).1, (pr_bad hbad).2], trivial, List.nil_sublist _⟩
  · skip
    refine TC.skip ?_
    refine TQ.thenC ?_
    refine TC.seq ?_
    refine TC.seq ?_
    have hv := vb_of hbad
    have hd9 := hv.d
    have hn9 := hv.n
    refine TC.region ?_
    refine TL.pure (PV.move rfl) rfl (by decide) ?_
    refine TL.pure (PV.len rfl Tb.sl_55) rfl (by decide) ?_
    refine TL.pure (PV.gtr rfl rfl) rfl (by decide) ?_
    refine TL.nil ?_
    refine TQ.thenC ?_
    first | refine TC.condD rfl (fun h60 => ?_) (fun h60 => ?_) | refine TC.cond rfl (fun h60 => ?_) (fun h60 => ?_)
    · skip
      refine TC.seq ?_
      refine TC.region ?_
      refine TL.pure (PV.assign rfl) rfl (by decide) ?_
      refine TL.pure (PV.assign rfl) rfl (by decide) ?_
      refine TL.nil ?_
      refine TQ.thenC ?_
      refine TC.ret ?_
      refine TQ.thenR ?_
      refine TQ.retE2 rfl rfl rfl ?_
      exact ⟨(), by rw [(pr_60 hbad (by omega)).1, (pr_60 hbad (by omega)).2], trivial, List.nil_sublist _⟩
    · skip
      refine TC.skip ?_
      refine TQ.thenC ?_
      refine TC.seq ?_
      refine TC.seq ?_
      refine TC.region ?_
      refine TL.pure (PV.move rfl) rfl (by decide) ?_
      refine TL.pure (PV.len rfl Tb.sl_55) rfl (by decide) ?_
      refine TL.pure (PV.move rfl) rfl (by decide) ?_
      refine TL.nil ?_
      refine TQ.thenC ?_
      refine TC.block ?_
      -- live and written in the loop, not told: [4, 5]
      refine TC.loopK [1, 2, 23, 24] (X := Nat) (fun k => k ≤ ps.length ∧ prE ls ps = prE ls (ps.drop k)) (fun k => [(25, .int .i64 k)]) (fun k => [(b0, Obj.cells #[.slice p ls.length cap] 24 (0, 0))]) (fun k => ps.length - k) 0 ⟨Nat.zero_le _, rfl⟩ (by repeat (first | exact True.intro | refine And.intro rfl ?_)) (by repeat (first | exact List.Sublist.slnil | exact List.nil_sublist _ | exact List.Sublist.refl _ | refine List.Sublist.cons_cons _ ?_ | refine List.Sublist.cons _ ?_ | refine List.Sublist.trans ?_ (List.sublist_append_right _ _))) ?_
      intro k hk
      refine TC.seq ?_
      refine TC.region ?_
      refine TL.pure (PV.lss rfl rfl) rfl (by decide) ?_
      refine TL.nil ?_
      refine TQ.thenC ?_
      refine TC.seq ?_
      first | refine TC.condD rfl (fun hlt => ?_) (fun hlt => ?_) | refine TC.cond rfl (fun hlt => ?_) (fun hlt => ?_)
      · skip
        refine TC.skip ?_
        refine TQ.thenC ?_
        refine TC.seq ?_
        refine TC.block ?_
        refine TC.seq ?_
        obtain ⟨q2, hq2p, hq2⟩ := hp k (by omega)
        have hpd := prE_drop (ls := ls) (ps := ps) (k := k) (by omega) hk.2
        refine TC.region ?_
        refine TL.pure (PV.indexA rfl hq2p rfl Tb.elm_55 rfl (by omega)) rfl (by decide) ?_
        refine TL.pure (PV.loadAggA rfl Tb.agg_90 rfl hq2) rfl (by decide) ?_
        refine TL.alloc Tb.zero_90 rfl (by decide) (fun b1 hb1 => ?_)
        refine TL.storeAgg rfl rfl Tb.cells_90 (by repeat (first | exact Upd.head _ | apply Upd.tail | apply Upd.appR)) rfl rfl rfl rfl rfl ?_
        refine TL.nil ?_
        refine TQ.thenC ?_
        refine TC.seq ?_
        refine TC.seq ?_
        refine TC.region ?_
        refine TL.pure (PV.loadBox rfl Tb.agg_24 (by repeat (first | exact List.Mem.head _ | refine List.Mem.tail _ ?_ | refine List.mem_append_right _ ?_)) rfl) rfl (by decide) ?_
        refine TL.pure (PV.loadBox rfl Tb.agg_90 (by repeat (first | exact List.Mem.head _ | refine List.Mem.tail _ ?_ | refine List.mem_append_right _ ?_)) rfl) rfl (by decide) ?_
        refine TL.call rfl Tb.gofn_92 (fun a w hs => isPass_ok w _ _ _ (hr.new hs.new) hv (ps.getD k default)) rfl (by decide) (fun _ _ => ?_)
        refine TL.pure ((by first | exact PV.notD rfl | exact PV.not rfl)) rfl (by decide) ?_
        refine TL.nil ?_
        refine TQ.thenC ?_
        first | refine TC.condD rfl (fun hps => ?_) (fun hps => ?_) | refine TC.cond rfl (fun hps => ?_) (fun hps => ?_)
        · skip
          refine TC.seq ?_
          refine TC.region ?_
          refine TL.pure (PV.assign rfl) rfl (by decide) ?_
          refine TL.pure (PV.assign rfl) rfl (by decide) ?_
          refine TL.nil ?_
          refine TQ.thenC ?_
          refine TC.ret ?_
          refine TQ.thenR ?_
          refine TQ.blkR ?_
          refine TQ.thenR ?_
          refine TQ.thenR ?_
          refine TQ.blkR ?_
          refine TQ.thenR ?_
          refine TQ.retE2 rfl rfl rfl ?_
          have hq9 : psB ls (ps.getD k default) = false := by first | exact decide_eq_false hps | simpa using hps
          exact ⟨(), by rw [(pr_e hbad (by omega) (hpd.1 hq9) (by decide)).1, (pr_e hbad (by omega) (hpd.1 hq9) (by decide)).2], trivial, List.nil_sublist _⟩
        · skip
          refine TC.skip ?_
          refine TQ.thenC ?_
          refine TC.seq ?_
          have hpq : psB ls (ps.getD k default) = true := by first | exact decide_eq_true (Decidable.of_not_not hps) | exact decide_eq_true hps | simpa using hps
          refine TC.region ?_
          refine TL.pure (PV.fieldAddr rfl Tb.fo_90_3) rfl (by decide) ?_
          refine TL.pure (PV.load rfl Tb.one_3 (by repeat (first | exact List.Mem.head _ | refine List.Mem.tail _ ?_ | refine List.mem_append_right _ ?_)) rfl) rfl (by decide) ?_
          refine TL.call rfl Tb.gofn_65 (fun a w hs => isWithin_ok w _ _ _) rfl (by decide) (fun _ _ => ?_)
          refine TL.pure ((by first | exact PV.notD rfl | exact PV.not rfl)) rfl (by decide) ?_
          refine TL.nil ?_
          refine TQ.thenC ?_
          first | refine TC.condD rfl (fun ham => ?_) (fun ham => ?_) | refine TC.cond rfl (fun ham => ?_) (fun ham => ?_)
          · skip
            refine TC.seq ?_
            refine TC.region ?_
            refine TL.pure (PV.assign rfl) rfl (by decide) ?_
            refine TL.pure (PV.assign rfl) rfl (by decide) ?_
            refine TL.nil ?_
            refine TQ.thenC ?_
            refine TC.ret ?_
            refine TQ.blkR ?_
            refine TQ.thenR ?_
            refine TQ.thenR ?_
            refine TQ.blkR ?_
            refine TQ.thenR ?_
            refine TQ.retE2 rfl rfl rfl ?_
            have hq9 : amB (ps.getD k default) = false := by first | exact decide_eq_false ham | simpa using ham
            exact ⟨(), by rw [(pr_e hbad (by omega) (hpd.2.1 hpq hq9) (by decide)).1, (pr_e hbad (by omega) (hpd.2.1 hpq hq9) (by decide)).2], trivial, List.nil_sublist _⟩
          · skip
            refine TC.skip ?_
            refine TQ.blkN ?_
            refine TQ.thenC ?_
            have haq : amB (ps.getD k default) = true := by first | exact decide_eq_true (Decidable.of_not_not ham) | exact decide_eq_true ham | simpa using ham
            refine TC.region ?_
            refine TL.pure (PV.add rfl rfl (by omega)) rfl (by decide) ?_
            refine TL.pure (PV.move rfl) rfl (by decide) ?_
            refine TL.nil ?_
            refine TQ.thenN ?_
            refine TQ.backK (k + 1) (by repeat (first | exact True.intro | refine And.intro rfl ?_)) (by repeat (first | exact True.intro | refine And.intro rfl ?_)) (by repeat (first | exact List.Sublist.slnil | exact List.nil_sublist _ | exact List.Sublist.refl _ | refine List.Sublist.cons_cons _ ?_ | refine List.Sublist.cons _ ?_ | refine List.Sublist.trans ?_ (List.sublist_append_right _ _))) ⟨by omega, hpd.2.2 hpq haq⟩ (by omega)
      · skip
        refine TC.exit ?_
        refine TQ.thenE ?_
        refine TQ.thenE ?_
        refine TQ.blkS ?_
        refine TQ.thenC ?_
        refine TC.seq ?_
        have hez : prE ls ps = 0 := by rw [hk.2, List.drop_eq_nil_of_le (by omega)]; rfl
        have hall := prE_all hez
        refine TC.region ?_
        refine TL.pure (PV.loadBox rfl Tb.agg_24 (by repeat (first | exact List.Mem.head _ | refine List.Mem.tail _ ?_ | refine List.mem_append_right _ ?_)) rfl) rfl (by decide) ?_
        refine TL.call rfl Tb.gofn_93 (fun a w hs => worthOfBlocks_ok w _ _ _ (hr.new hs.new) hv) rfl (by decide) (fun bM _ => ?_)
        refine TL.pure (PV.assign rfl) rfl (by decide) ?_
        refine TL.nil ?_
        refine TQ.thenC ?_
        refine TC.seq ?_
        refine TC.seq ?_
        refine TC.region ?_
        refine TL.pure (PV.move rfl) rfl (by decide) ?_
        refine TL.pure (PV.len rfl Tb.sl_55) rfl (by decide) ?_
        refine TL.pure (PV.move rfl) rfl (by decide) ?_
        refine TL.nil ?_
        refine TQ.thenC ?_
        refine TC.block ?_
        refine TC.loopK [4, 5, 9, 40, 41] (X := Nat) (fun k => k ≤ ps.length) (fun k => [(42, .int .i64 k)]) (fun k => (bM, mobj (entK (dep ls) ((prM ls ps k)) (ls.length * dep ls))) :: [(b0, Obj.cells #[.slice p ls.length cap] 24 (0, 0))]) (fun k => ps.length - k) 0 (Nat.zero_le _) (by repeat (first | exact True.intro | refine And.intro rfl ?_)) (by repeat (first | exact List.Sublist.slnil | exact List.nil_sublist _ | exact List.Sublist.refl _ | refine List.Sublist.cons_cons _ ?_ | refine List.Sublist.cons _ ?_ | refine List.Sublist.trans ?_ (List.sublist_append_right _ _))) ?_
        intro k hk2
        refine TC.seq ?_
        refine TC.region ?_
        refine TL.pure (PV.lss rfl rfl) rfl (by decide) ?_
        refine TL.nil ?_
        refine TQ.thenC ?_
        refine TC.seq ?_
        first | refine TC.condD rfl (fun hlt2 => ?_) (fun hlt2 => ?_) | refine TC.cond rfl (fun hlt2 => ?_) (fun hlt2 => ?_)
        · skip
          refine TC.skip ?_
          refine TQ.thenC ?_
          refine TC.seq ?_
          refine TC.block ?_
          refine TC.seq ?_
          obtain ⟨q2, hq2p, hq2⟩ := hp k (by omega)
          have hqq := hall (ps.getD k default) (by simp [List.getD, show k < ps.length by omega])
          have hq3 := of_decide_eq_true hqq.1
          have hq4 := of_decide_eq_true hqq.2
          have hsh := sh_all hv hall k (by omega)
          have hs1 := hsh.add (c := (ps.getD k default).c.toNat) (j := (ps.getD k default).h.toNat) (v := -(ps.getD k default).a) (by omega)
          have hl1 := cell_look (D := dep ls) (n := ls.length) (m := (prM ls ps k)) (a := (ps.getD k default).c) (b := (ps.getD k default).h) (by omega) (by omega)
          have hl2 := cell_look (D := dep ls) (n := ls.length) (m := (addAt (prM ls ps k) (ps.getD k default).c.toNat (ps.getD k default).h.toNat (-(ps.getD k default).a))) (a := (ps.getD k default).t) (b := (ps.getD k default).h - 1) (by omega) (by omega)
          have hb1 := hsh.bd (ps.getD k default).c.toNat (ps.getD k default).h.toNat
          have hb2 := hs1.bd (ps.getD k default).t.toNat ((ps.getD k default).h - 1).toNat
          have hc1 := cell_set hsh (a := (ps.getD k default).c) (b := (ps.getD k default).h) (v := -(ps.getD k default).a) (by omega) (by omega)
          have hc2 := cell_set hs1 (a := (ps.getD k default).t) (b := (ps.getD k default).h - 1) (v := (ps.getD k default).a) (by omega) (by omega)
          refine TC.region ?_
          refine TL.pure (PV.indexA rfl hq2p rfl Tb.elm_55 rfl (by omega)) rfl (by decide) ?_
          refine TL.pure (PV.loadAggA rfl Tb.agg_90 rfl hq2) rfl (by decide) ?_
          refine TL.alloc Tb.zero_90 rfl (by decide) (fun bQ hbQ => ?_)
          refine TL.storeAgg rfl rfl Tb.cells_90 (by repeat (first | exact Upd.head _ | apply Upd.tail | apply Upd.appR)) rfl rfl rfl rfl rfl ?_
          refine TL.nil ?_
          refine TQ.thenC ?_
          refine TC.seq ?_
          refine TC.mixV [true, true, false, true, true, true, true, false, true, false] [(bQ, Obj.cells (rP.cells (ps.getD k default)).toArray 90 (0, 0)), (bM, mobj (entK (dep ls) ((prM ls ps k)) (ls.length * dep ls)))] 10 Tb.mixed rfl (by kernel_rfl) (by kernel_rfl) (by kernel_rfl) (by kernel_rfl) (by repeat (first | exact List.Sublist.slnil | exact List.nil_sublist _ | exact List.Sublist.refl _ | refine List.Sublist.cons_cons _ ?_ | refine List.Sublist.cons _ ?_ | refine List.Sublist.trans ?_ (List.sublist_append_right _ _))) ?_
          refine TV.virt 0 rfl rfl (by decide) rfl (by kernel_rfl) (SOK.pure (PV.move rfl) rfl) ?_
          refine TV.virt 1 rfl rfl (by decide) rfl (by kernel_rfl) (SOK.pure (PV.loadBox rfl Tb.agg_90 (by repeat (first | exact List.Mem.head _ | refine List.Mem.tail _ ?_ | refine List.mem_append_right _ ?_)) rfl) rfl) ?_
          refine TV.virt 4 rfl rfl (by decide) rfl (by kernel_rfl) (SOK.pure (PV.fieldAddr rfl Tb.fo_90_3) rfl) ?_
          refine TV.virt 5 rfl rfl (by decide) rfl (by kernel_rfl) (SOK.pure (PV.load rfl Tb.one_3 (by repeat (first | exact List.Mem.head _ | refine List.Mem.tail _ ?_ | refine List.mem_append_right _ ?_)) rfl) rfl) ?_
          refine TV.step [2] (by kernel_rfl) (by decide) rfl ⟨⟨_, rfl, ?_⟩, trivial⟩
          refine TL.call rfl Tb.gofn_94 (fun a w hs => below_ok w (ps.getD k default)) rfl (by decide) (fun _ _ => ?_)
          refine TL.nil ?_
          refine TV.next (.inl (by repeat (first | exact List.Sublist.slnil | exact List.nil_sublist _ | exact List.Sublist.refl _ | refine List.Sublist.cons_cons _ ?_ | refine List.Sublist.cons _ ?_ | refine List.Sublist.trans ?_ (List.sublist_append_right _ _)))) ?_
          refine TV.virt 3 rfl rfl (by decide) rfl (by kernel_rfl) (SOK.pure (PV.lookupV hl1 key_95 mt_92 zo_3 rfl rfl rfl entK_two (by repeat (first | exact List.Mem.head _ | refine List.Mem.tail _ ?_ | refine List.mem_append_right _ ?_))) rfl) ?_
          refine TV.virt 6 rfl rfl (by decide) rfl (by kernel_rfl) (SOK.pure (PV.sub rfl rfl (by omega)) rfl) ?_
          refine TV.step [7] (by kernel_rfl) (by decide) rfl ⟨⟨_, rfl, ?_⟩, trivial⟩
          refine TL.entryS key_95 mt_92 rfl rfl rfl entK_two hl1 (by repeat (first | exact Upd.head _ | apply Upd.tail | apply Upd.appR)) rfl (by decide) ?_
          refine TL.nil ?_
          refine TV.next (.inl (by repeat (first | exact List.Sublist.slnil | exact List.nil_sublist _ | exact List.Sublist.refl _ | refine List.Sublist.cons_cons _ ?_ | refine List.Sublist.cons _ ?_ | refine List.Sublist.trans ?_ (List.sublist_append_right _ _)))) ?_
          refine TV.virt 8 rfl rfl (by decide) rfl (by kernel_rfl) (SOK.pure (PV.extract rfl rfl) rfl) ?_
          refine TV.step [9] (by kernel_rfl) (by decide) rfl ⟨⟨_, rfl, ?_⟩, trivial⟩
          refine TL.entryStoreS rfl rfl rfl (by have := (lookE_some hl1).2.2; rwa [Nat.sub_zero] at this) (by repeat (first | exact Upd.head _ | apply Upd.tail | apply Upd.appR)) rfl rfl ?_
          rw [Int.sub_eq_add_neg, hc1]
          refine TL.nil ?_
          refine TV.next (.inr (by kernel_rfl)) ?_
          refine TV.done (by kernel_rfl) ?_
          refine TQ.thenC ?_
          refine TC.mixV [true, true, false, true, true, true, true, false, true, false] [(bQ, Obj.cells (rP.cells (ps.getD k default)).toArray 90 (0, 0)), (bM, mobj (entK (dep ls) ((addAt (prM ls ps k) (ps.getD k default).c.toNat (ps.getD k default).h.toNat (-(ps.getD k default).a))) (ls.length * dep ls)))] 10 Tb.mixed rfl (by kernel_rfl) (by kernel_rfl) (by kernel_rfl) (by kernel_rfl) (by repeat (first | exact List.Sublist.slnil | exact List.nil_sublist _ | exact List.Sublist.refl _ | refine List.Sublist.cons_cons _ ?_ | refine List.Sublist.cons _ ?_ | refine List.Sublist.trans ?_ (List.sublist_append_right _ _))) ?_
          refine TV.virt 0 rfl rfl (by decide) rfl (by kernel_rfl) (SOK.pure (PV.move rfl) rfl) ?_
          refine TV.virt 1 rfl rfl (by decide) rfl (by kernel_rfl) (SOK.pure (PV.loadBox rfl Tb.agg_90 (by repeat (first | exact List.Mem.head _ | refine List.Mem.tail _ ?_ | refine List.mem_append_right _ ?_)) rfl) rfl) ?_
          refine TV.virt 4 rfl rfl (by decide) rfl (by kernel_rfl) (SOK.pure (PV.fieldAddr rfl Tb.fo_90_3) rfl) ?_
          refine TV.virt 5 rfl rfl (by decide) rfl (by kernel_rfl) (SOK.pure (PV.load rfl Tb.one_3 (by repeat (first | exact List.Mem.head _ | refine List.Mem.tail _ ?_ | refine List.mem_append_right _ ?_)) rfl) rfl) ?_
          refine TV.step [2] (by kernel_rfl) (by decide) rfl ⟨⟨_, rfl, ?_⟩, trivial⟩
          refine TL.call rfl Tb.gofn_95 (fun a w hs => above_ok w (ps.getD k default) (by omega)) rfl (by decide) (fun _ _ => ?_)
          refine TL.nil ?_
          refine TV.next (.inl (by repeat (first | exact List.Sublist.slnil | exact List.nil_sublist _ | exact List.Sublist.refl _ | refine List.Sublist.cons_cons _ ?_ | refine List.Sublist.cons _ ?_ | refine List.Sublist.trans ?_ (List.sublist_append_right _ _)))) ?_
          refine TV.virt 3 rfl rfl (by decide) rfl (by kernel_rfl) (SOK.pure (PV.lookupV hl2 key_95 mt_92 zo_3 rfl rfl rfl entK_two (by repeat (first | exact List.Mem.head _ | refine List.Mem.tail _ ?_ | refine List.mem_append_right _ ?_))) rfl) ?_
          refine TV.virt 6 rfl rfl (by decide) rfl (by kernel_rfl) (SOK.pure (PV.add rfl rfl (by omega)) rfl) ?_
          refine TV.step [7] (by kernel_rfl) (by decide) rfl ⟨⟨_, rfl, ?_⟩, trivial⟩
          refine TL.entryS key_95 mt_92 rfl rfl rfl entK_two hl2 (by repeat (first | exact Upd.head _ | apply Upd.tail | apply Upd.appR)) rfl (by decide) ?_
          refine TL.nil ?_
          refine TV.next (.inl (by repeat (first | exact List.Sublist.slnil | exact List.nil_sublist _ | exact List.Sublist.refl _ | refine List.Sublist.cons_cons _ ?_ | refine List.Sublist.cons _ ?_ | refine List.Sublist.trans ?_ (List.sublist_append_right _ _)))) ?_
          refine TV.virt 8 rfl rfl (by decide) rfl (by kernel_rfl) (SOK.pure (PV.extract rfl rfl) rfl) ?_
          refine TV.step [9] (by kernel_rfl) (by decide) rfl ⟨⟨_, rfl, ?_⟩, trivial⟩
          refine TL.entryStoreS rfl rfl rfl (by have := (lookE_some hl2).2.2; rwa [Nat.sub_zero] at this) (by repeat (first | exact Upd.head _ | apply Upd.tail | apply Upd.appR)) rfl rfl ?_
          rw [hc2]
          refine TL.nil ?_
          refine TV.next (.inr (by kernel_rfl)) ?_
          refine TV.done (by kernel_rfl) ?_
          refine TQ.blkN ?_
          refine TQ.thenC ?_
          refine TC.region ?_
          refine TL.pure (PV.add rfl rfl (by omega)) rfl (by decide) ?_
          refine TL.pure (PV.move rfl) rfl (by decide) ?_
          refine TL.nil ?_
          refine TQ.thenN ?_
          refine TQ.backK (k + 1) (by repeat (first | exact True.intro | refine And.intro rfl ?_)) (by repeat (first | exact True.intro | refine And.intro rfl ?_)) (by rw [prM_next (by omega)]; exact List.Sublist.cons _ (List.Sublist.refl _)) (by omega) (by omega)
        · skip
          refine TC.exit ?_
          refine TQ.thenE ?_
          refine TQ.thenE ?_
          refine TQ.blkS ?_
          refine TQ.thenC ?_
          refine TC.seq ?_
          have hsh := sh_all hv hall ps.length (Nat.le_refl _)
          have hkl : k = ps.length := by omega
          rw [hkl]
          have hel := entK_len (dep ls) (prM ls ps ps.length) (ls.length * dep ls)
          have h24 : ls.length * dep ls ≤ 6 * 4 := Nat.mul_le_mul (by omega) (by omega)
          refine TC.region ?_
          refine TL.pure (PV.assign rfl) rfl (by decide) ?_
          refine TL.nil ?_
          refine TQ.thenC ?_
          refine TC.seq ?_
          refine TC.seq ?_
          refine TC.region ?_
          refine TL.pure (PV.move rfl) rfl (by decide) ?_
          refine TL.rangeM (es := (entK (dep ls) (prM ls ps ps.length) (ls.length * dep ls))) rfl mt_92 (by repeat (first | exact List.Mem.head _ | refine List.Mem.tail _ ?_ | refine List.mem_append_right _ ?_)) rfl (by decide) (fun r hr9 => ?_)
          refine TL.nil ?_
          refine TQ.thenC ?_
          refine TC.block ?_
          refine TC.loopK [4, 5, 66] (X := List Nat) (fun y => (Ord (entK (dep ls) (prM ls ps ps.length) (ls.length * dep ls)).length y) ∧ (0 ≤ sumS (entK (dep ls) (prM ls ps ps.length) (ls.length * dep ls)) y ∧ sumS (entK (dep ls) (prM ls ps ps.length) (ls.length * dep ls)) y ≤ 200000 * (y.length : Int))) (fun y => [(12, .int .i64 (sumS (entK (dep ls) (prM ls ps ps.length) (ls.length * dep ls)) y))]) (fun y => (r, iobj bM (entK (dep ls) (prM ls ps ps.length) (ls.length * dep ls)) y) :: [(bM, mobj (entK (dep ls) (prM ls ps ps.length) (ls.length * dep ls))), (b0, Obj.cells #[.slice p ls.length cap] 24 (0, 0))]) (fun y => (entK (dep ls) (prM ls ps ps.length) (ls.length * dep ls)).length - y.length) [] ⟨⟨List.nodup_nil, fun j hj => by cases hj⟩, by simp [sumS], by simp [sumS]⟩ (by repeat (first | exact True.intro | refine And.intro rfl ?_)) (List.Sublist.refl _) ?_
          intro y hy1
          have hy : (Ord (entK (dep ls) (prM ls ps ps.length) (ls.length * dep ls)).length y) ∧ (0 ≤ sumS (entK (dep ls) (prM ls ps ps.length) (ls.length * dep ls)) y ∧ sumS (entK (dep ls) (prM ls ps ps.length) (ls.length * dep ls)) y ≤ 200000 * (y.length : Int)) := hy1
          refine TC.seq ?_
          refine TC.region ?_
          refine TL.nextM (es := (entK (dep ls) (prM ls ps ps.length) (ls.length * dep ls))) (seen := y) (fun o => (r, iobj bM (entK (dep ls) (prM ls ps ps.length) (ls.length * dep ls)) (y ++ o.toList)) :: [(bM, mobj (entK (dep ls) (prM ls ps ps.length) (ls.length * dep ls))), (b0, Obj.cells #[.slice p ls.length cap] 24 (0, 0))]) rfl (by repeat (first | exact List.Mem.head _ | refine List.Mem.tail _ ?_ | refine List.mem_append_right _ ?_)) (fun o => Upd.head _) rfl (by decide) (fun o ho => ?_)
          refine TL.pure (PV.nextB rfl) rfl (by decide) ?_
          refine TL.nil ?_
          refine TQ.thenC ?_
          refine TC.seq ?_
          first | refine TC.condD rfl (fun hsome => ?_) (fun hsome => ?_) | refine TC.cond rfl (fun hsome => ?_) (fun hsome => ?_)
          · skip
            obtain ⟨j, rfl⟩ := Option.isSome_iff_exists.1 hsome
            obtain ⟨hj, hjv⟩ := ho
            have hnx := hy.1.snoc hj hjv
            have hnl := hnx.len
            have hsn := sumS_snoc (entK (dep ls) (prM ls ps ps.length) (ls.length * dep ls)) y j
            have hbd := entK_bd hsh (k := ls.length * dep ls) (j := j) (by omega)
            have hyl := hy.1.len
            rw [List.length_append, List.length_singleton] at hnl
            refine TC.skip ?_
            refine TQ.thenC ?_
            refine TC.block ?_
            refine TC.seq ?_
            refine TC.region ?_
            refine TL.pure (PV.entryM (es := (entK (dep ls) (prM ls ps ps.length) (ls.length * dep ls))) (seen := y) (j := j) rfl (by repeat (first | exact List.Mem.head _ | refine List.Mem.tail _ ?_ | refine List.mem_append_right _ ?_)) (List.Mem.head _) hj) rfl (by decide) ?_
            refine TL.pure (PV.extract rfl rfl) rfl (by decide) ?_
            refine TL.pure (PV.assign rfl) rfl (by decide) ?_
            refine TL.nil ?_
            refine TQ.thenC ?_
            refine TC.region ?_
            refine TL.pure (PV.move rfl) rfl (by decide) ?_
            refine TL.pure (PV.move rfl) rfl (by decide) ?_
            refine TL.pure (PV.max rfl rfl Tb.int_3) rfl (by decide) ?_
            refine TL.pure (PV.add rfl rfl (by omega)) rfl (by decide) ?_
            refine TL.pure (PV.assign rfl) rfl (by decide) ?_
            refine TL.nil ?_
            refine TQ.blkN ?_
            refine TQ.thenN ?_
            refine TQ.backK (y ++ [j]) (by refine ⟨?_, trivial⟩; rw [hsn]; rfl) (by repeat (first | exact True.intro | refine And.intro rfl ?_)) (List.Sublist.refl _) ⟨hnx, by rw [hsn]; omega, by rw [hsn, List.length_append, List.length_singleton]; omega⟩ (by rw [List.length_append, List.length_singleton]; omega)
          · skip
            obtain rfl : o = none := by simpa using hsome
            refine TC.exit ?_
            refine TQ.thenE ?_
            refine TQ.thenE ?_
            refine TQ.blkS ?_
            refine TQ.thenC ?_
            refine TC.seq ?_
            refine TC.region ?_
            refine TL.pure (PV.move rfl) rfl (by decide) ?_
            refine TL.pure (PV.assign rfl) rfl (by decide) ?_
            refine TL.pure (PV.assign rfl) rfl (by decide) ?_
            refine TL.nil ?_
            refine TQ.thenC ?_
            refine TC.ret ?_
            refine TQ.retE2 rfl rfl rfl ?_
            have h9 := pr_0 hbad (by omega) hez
            have h8 := sumS_all hy.1 ho
            rw [ent_all hsh] at h8
            exact ⟨(), by rw [h9.1, h9.2, h8], trivial, List.nil_sublist _⟩

end Go.Proofs.Ytfgjojoipbbacaa
