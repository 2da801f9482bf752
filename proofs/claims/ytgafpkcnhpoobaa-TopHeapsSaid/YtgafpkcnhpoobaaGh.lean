/- Behind any list of topples a heaping settles where it settles without it: the law's contract. -/
import Derived.Test.YtgafpkcnhpoobaaGm
set_option linter.unusedVariables false
set_option linter.unusedSimpArgs false
namespace Go.Proofs.Ytgafpkcnhpoobaa
open Go.Sx Go.RowKit Go.Sand

/-- How often each heap is in the list so far. -/
def oftL (n : Nat) (zs : List Int) : Nat → List Int
  | 0 => List.replicate n 0
  | k + 1 => (oftL n zs k).set (zs.getD k 0).toNat ((oftL n zs k).getD (zs.getD k 0).toNat 0 + 1)
theorem oft_len (n : Nat) (zs : List Int) : ∀ k, (oftL n zs k).length = n
  | 0 => by simp [oftL]
  | k + 1 => by simp [oftL, oft_len n zs k]
theorem oft_bd (n : Nat) (zs : List Int) : ∀ (k j : Nat), 0 ≤ (oftL n zs k).getD j 0 ∧ (oftL n zs k).getD j 0 ≤ k
  | 0, j => by show 0 ≤ (List.replicate n (0 : Int)).getD j 0 ∧ _ ≤ _; rw [show (oftL n zs 0).getD j 0 = 0 from rep_at n j, rep_at]; omega
  | k + 1, j => by
    have h1 := oft_bd n zs k j
    have h2 := oft_bd n zs k (zs.getD k 0).toNat
    show 0 ≤ ((oftL n zs k).set (zs.getD k 0).toNat ((oftL n zs k).getD (zs.getD k 0).toNat 0 + 1)).getD j 0 ∧ ((oftL n zs k).set (zs.getD k 0).toNat ((oftL n zs k).getD (zs.getD k 0).toNat 0 + 1)).getD j 0 ≤ _
    by_cases hl : (zs.getD k 0).toNat < n
    · rw [set_at (by rw [oft_len]; exact hl)]
      split <;> omega
    · rw [List.set_eq_of_length_le (by rw [oft_len]; omega)]; omega
theorem list_run {ls : List (List Int)} {gs xs zs : List Int} (hB : HB ls gs) (hl : xs.length = gs.length) (h0 : ∀ k, 0 ≤ xs.getD k 0) (hz : ∀ j, j < zs.length → 0 ≤ zs.getD j 0 ∧ zs.getD j 0 < gs.length) (ho : ∀ j, j < zs.length → okA ls gs xs zs j = true) : ∀ k, k ≤ zs.length → RunL ls gs xs (tpL ls gs xs zs k) (oftL gs.length zs k)
  | 0, _ => RunL.start hl h0
  | k + 1, h => (list_run hB hl h0 hz ho k (by omega)).step hB (by have := hz k (by omega); omega) (k := 1) (by omega) (by have h3 := of_decide_eq_true (ho k (by omega)); rw [Int.one_mul]; exact h3)
theorem giv_one {ls : List (List Int)} {gs : List Int} {xss : List (List Int)} (hv : ¬ validI ls gs ≠ 0) (h : givI ls gs xss ≠ 0) : givI ls gs xss = 1 := by
  unfold givI at h ⊢
  rw [if_neg hv] at h ⊢
  split
  · rename_i h2; rw [if_pos h2] at h; exact absurd rfl h
  · rfl
theorem any_le {ls : List (List Int)} {gs xs c m zs : List Int} (h : (clR ls gs xs zs).e = 0) (hs : SetP ls gs xs c m) : (c.length = xs.length ∧ m.length = xs.length ∧ xs.length = gs.length ∧ gs.length ≤ 5 ∧ zs.length ≤ 200) ∧ (∀ j, j < zs.length → 0 ≤ zs.getD j 0 ∧ zs.getD j 0 < gs.length) ∧ (∀ j, j < gs.length → (oftL gs.length zs zs.length).getD j 0 ≤ m.getD j 0) ∧ ¬ givI ls gs [xs] ≠ 0 := by
  obtain ⟨h1, h2, h3, h4, h5⟩ := cl_ok h
  have hB := (giv_hb h1).1
  obtain ⟨hxl, hx0⟩ := giv_ne h1
  have hst := hs.ok h1
  have hr := list_run hB hxl (fun k => (hx0 k).1) h3 h4 zs.length (Nat.le_refl _)
  have hn := hB.n
  refine ⟨⟨by rw [hst.1, hxl], by rw [hst.2.1, hxl], hxl, hn.2, h2⟩, h3, fun j hj => ?_, h1⟩
  exact hr.r.min (gd m) (fun i hi => hst.2.2.m0 i hi) (fun i hi => by rw [← hst.2.2.eq i hi]; exact hst.2.2.calm i hi) j hj
theorem any_eq {ls : List (List Int)} {gs xs c m zs d k : List Int} (h : (clR ls gs xs zs).e = 0) (hs : SetP ls gs xs c m) (hl : SetP ls gs (clR ls gs xs zs).l d k) (hg : ¬ givI ls gs [(clR ls gs xs zs).l] ≠ 0) : d = c ∧ k.length = gs.length ∧ ∀ j, j < gs.length → (oftL gs.length zs zs.length).getD j 0 + k.getD j 0 = m.getD j 0 := by
  obtain ⟨h1, h2, h3, h4, h5⟩ := cl_ok h
  have hB := (giv_hb h1).1
  obtain ⟨hxl, hx0⟩ := giv_ne h1
  have hst := hs.ok h1
  have hr := list_run hB hxl (fun k => (hx0 k).1) h3 h4 zs.length (Nat.le_refl _)
  have hlt := hl.ok hg
  rw [h5] at hlt
  have hc := hr.r.comp (r := fun _ => 0) (fun _ _ => Int.le_refl _) (hlt.2.2.congr (t' := fun i => gd (tpL ls gs xs zs zs.length) i + 0) (fun i _ => by omega) (fun _ _ => rfl) (fun _ _ => rfl))
  have hc2 : Stb gs.length (lk ls) (gd gs) (gd xs) (gd d) (fun i => gd (oftL gs.length zs zs.length) i + gd k i) := hc.congr (fun i _ => by omega) (fun _ _ => rfl) (fun _ _ => rfl)
  obtain ⟨e1, e2⟩ := hc2.unique hst.2.2
  exact ⟨ints_ext (by rw [hlt.1, hst.1]) fun j hj => e2 j (by rw [← hlt.1]; exact hj), hlt.2.1, fun j hj => e1 j hj⟩


set_option maxRecDepth 100000 in
set_option maxHeartbeats 4000000 in
theorem heapAnyOrder_ok (w0 : World) (p : Option Addr) (cp : Nat) (ls : List (List Int)) (hr : LsAt w0 p ls) (q : Option Addr) (cq : Nat) (gs : List Int) (hg : IntsAt w0 q gs) (hln : ls.length ≤ 9223372036854775807) (pl : Option Addr) (cl : Nat) (xs : List Int) (hx : IntsAt w0 pl xs) (p2 : Option Addr) (c2 : Nat) (ys : List Int) (hy : IntsAt w0 p2 ys) :
    Calls Try.prog 7 #[hv p ls.length cp q gs.length cq, .slice pl xs.length cl, .slice p2 ys.length c2] w0 (Post (X := Unit) (fun _ => .bool true) (fun _ => True) (fun _ => []) w0) := by
  refine calls Try.func7 rfl (n := 156) rfl (by simp) ?_
  refine TC.seq ?_
  refine TC.region ?_
  refine TL.box rfl rfl (by decide) (fun b0 hb0 => ?_)
  refine TL.pure (PV.assign rfl) rfl (by decide) ?_
  refine TL.nil ?_
  refine TQ.thenC ?_
  refine TC.seq ?_
  refine TC.seq ?_
  refine TC.region ?_
  refine TL.pure (PV.loadBox rfl Tb.agg_25 (by repeat (first | exact List.Mem.head _ | refine List.Mem.tail _ ?_ | refine List.mem_append_right _ ?_)) rfl) rfl (by decide) ?_
  refine TL.pure (PV.move rfl) rfl (by decide) ?_
  refine TL.pure (PV.move rfl) rfl (by decide) ?_
  refine TL.buildSlice (cs := #[.slice pl xs.length cl, .slice p2 ys.length c2]) rfl Tb.sl_22 Tb.zi_23 (by decide) (fill_oo _ _ _ _ _ _) (by decide) rfl (by decide) (fun bS hbS => ?_)
  refine TL.call rfl Tb.gofn_20 (fun a w hs => long_ok w _ _ _ (hr.new hs.new) _ _ _ (hg.new hs.new) _ 2 [xs, ys] (LsAt.two hs.new (by repeat (first | exact List.Mem.head _ | refine List.Mem.tail _ ?_ | refine List.mem_append_right _ ?_)) (hx.new hs.new) (hy.new hs.new)) hln (by simp)) rfl (by decide) (fun bl hbl => ?_)
  refine TL.nil ?_
  refine TQ.thenC ?_
  first | refine TC.condD rfl (fun hlong => ?_) (fun hlong => ?_) | refine TC.cond rfl (fun hlong => ?_) (fun hlong => ?_)
  · skip
    refine TC.seq ?_
    refine TC.region ?_
    refine TL.call rfl Tb.gofn_21 (fun a w hs => sane_ok w) rfl (by decide) (fun _ _ => ?_)
    refine TL.pure (PV.assign rfl) rfl (by decide) ?_
    refine TL.nil ?_
    refine TQ.thenC ?_
    refine TC.ret ?_
    refine TQ.thenR ?_
    refine TQ.retE1 rfl rfl ?_
    first | exact ⟨(), rfl, trivial, List.nil_sublist _⟩ | (exfalso; simp_all; done) | (exfalso; omega) | (exfalso; simp_all; omega)
  · skip
    refine TC.skip ?_
    refine TQ.thenC ?_
    refine TC.seq ?_
    have hS := hbl hlong
    have hxo : xs.length ≤ 1000000 := by have := hS.x0; omega
    have hyo : ys.length ≤ 1000000 := by have := hS.x1; omega
    refine TC.region ?_
    refine TL.pure (PV.loadBox rfl Tb.agg_25 (by repeat (first | exact List.Mem.head _ | refine List.Mem.tail _ ?_ | refine List.mem_append_right _ ?_)) rfl) rfl (by decide) ?_
    refine TL.pure (PV.move rfl) rfl (by decide) ?_
    refine TL.pure (PV.move rfl) rfl (by decide) ?_
    refine TL.call rfl Tb.gofn_35 (fun a w hs => CheckList_ok w _ _ _ (hr.new hs.new) _ _ _ (hg.new hs.new) hS.lo _ _ _ (hx.new hs.new) hxo _ _ _ (hy.new hs.new) hyo) rfl (by decide) (fun hC hhC => ?_)
    refine TL.pure (PV.move rfl) rfl (by decide) ?_
    refine TL.pure (PV.extract rfl rfl) rfl (by decide) ?_
    refine TL.pure (PV.extract rfl rfl) rfl (by decide) ?_
    refine TL.pure (PV.extract rfl rfl) rfl (by decide) ?_
    refine TL.pure (PV.assign rfl) rfl (by decide) ?_
    refine TL.pure (PV.assign rfl) rfl (by decide) ?_
    refine TL.pure (PV.assign rfl) rfl (by decide) ?_
    refine TL.nil ?_
    refine TQ.thenC ?_
    refine TC.seq ?_
    refine TC.region ?_
    refine TL.pure (PV.loadBox rfl Tb.agg_25 (by repeat (first | exact List.Mem.head _ | refine List.Mem.tail _ ?_ | refine List.mem_append_right _ ?_)) rfl) rfl (by decide) ?_
    refine TL.pure (PV.move rfl) rfl (by decide) ?_
    refine TL.call rfl Tb.gofn_31 (fun a w hs => Settle_ok w _ _ _ (hr.new hs.new) _ _ _ (hg.new hs.new) hS.lo _ _ _ (hx.new hs.new) hxo) rfl (by decide) (fun y9 hy9 => ?_)
    refine TL.pure (PV.move rfl) rfl (by decide) ?_
    refine TL.pure (PV.extract rfl rfl) rfl (by decide) ?_
    refine TL.pure (PV.extract rfl rfl) rfl (by decide) ?_
    refine TL.pure (PV.extract rfl rfl) rfl (by decide) ?_
    refine TL.pure (PV.extract rfl rfl) rfl (by decide) ?_
    refine TL.pure (PV.assign rfl) rfl (by decide) ?_
    refine TL.pure (PV.assign rfl) rfl (by decide) ?_
    refine TL.pure (PV.assign rfl) rfl (by decide) ?_
    refine TL.pure (PV.assign rfl) rfl (by decide) ?_
    refine TL.nil ?_
    refine TQ.thenC ?_
    refine TC.seq ?_
    refine TC.seq ?_
    refine TC.region ?_
    refine TL.pure (PV.move rfl) rfl (by decide) ?_
    refine TL.pure (PV.neq rfl rfl) rfl (by decide) ?_
    refine TL.pure (PV.move rfl) rfl (by decide) ?_
    first | refine TL.splitD 46 rfl (fun g1 => ?_) (fun g1 => ?_) | refine TL.split 46 rfl (fun g1 => ?_) (fun g1 => ?_)
    · skip
      refine TL.skip rfl (fun k hk => by cases hk; decide) ?_
      refine TL.skip rfl (fun k hk => by cases hk; decide) ?_
      refine TL.pure (PV.pickT rfl rfl) rfl (by decide) ?_
      refine TL.nil ?_
      refine TQ.thenC ?_
      refine TC.condT rfl ?_
      refine TC.seq ?_
      refine TC.region ?_
      refine TL.call rfl Tb.gofn_21 (fun a w hs => sane_ok w) rfl (by decide) (fun _ _ => ?_)
      refine TL.pure (PV.assign rfl) rfl (by decide) ?_
      refine TL.nil ?_
      refine TQ.thenC ?_
      refine TC.ret ?_
      refine TQ.thenR ?_
      refine TQ.retE1 rfl rfl ?_
      first | exact ⟨(), rfl, trivial, List.nil_sublist _⟩ | (exfalso; simp_all; done) | (exfalso; omega) | (exfalso; simp_all; omega)
    · skip
      refine TL.pure (PV.move rfl) rfl (by decide) ?_
      refine TL.pure (PV.neq rfl rfl) rfl (by decide) ?_
      refine TL.pure (PV.pickF rfl rfl) rfl (by decide) ?_
      refine TL.nil ?_
      refine TQ.thenC ?_
      first | refine TC.condD rfl (fun g2 => ?_) (fun g2 => ?_) | refine TC.cond rfl (fun g2 => ?_) (fun g2 => ?_)
      · skip
        refine TC.seq ?_
        refine TC.region ?_
        refine TL.call rfl Tb.gofn_21 (fun a w hs => sane_ok w) rfl (by decide) (fun _ _ => ?_)
        refine TL.pure (PV.assign rfl) rfl (by decide) ?_
        refine TL.nil ?_
        refine TQ.thenC ?_
        refine TC.ret ?_
        refine TQ.thenR ?_
        refine TQ.retE1 rfl rfl ?_
        first | exact ⟨(), rfl, trivial, List.nil_sublist _⟩ | (exfalso; simp_all; done) | (exfalso; omega) | (exfalso; simp_all; omega)
      · skip
        refine TC.skip ?_
        refine TQ.thenC ?_
        refine TC.seq ?_
        refine TC.seq ?_
        have g1z : (clR ls gs xs ys).e = 0 := by first | exact Decidable.of_not_not g1 | simpa using g1
        obtain ⟨⟨ecl, eml, exl, e5, e200⟩, ez, eo, egv⟩ := any_le g1z hy9.1
        have hclo : (clR ls gs xs ys).l.length ≤ 1000000 := by rw [(cl_ok g1z).2.2.2.2, tpL_len]; exact hxo
        refine TC.region ?_
        refine TL.pure (PV.move rfl) rfl (by decide) ?_
        refine TL.pure (PV.lenG rfl hy9.2.2 Tb.sl_23) rfl (by decide) ?_
        refine TL.pure (PV.move rfl) rfl (by decide) ?_
        refine TL.pure (PV.len rfl Tb.sl_23) rfl (by decide) ?_
        refine TL.pure (PV.neq rfl rfl) rfl (by decide) ?_
        refine TL.pure (PV.move rfl) rfl (by decide) ?_
        first | refine TL.splitD 56 rfl (fun h3 => ?_) (fun h3 => ?_) | refine TL.split 56 rfl (fun h3 => ?_) (fun h3 => ?_)
        · skip
          refine TL.skip rfl (fun k hk => by cases hk; decide) ?_
          refine TL.skip rfl (fun k hk => by cases hk; decide) ?_
          refine TL.skip rfl (fun k hk => by cases hk; decide) ?_
          refine TL.skip rfl (fun k hk => by cases hk; decide) ?_
          refine TL.skip rfl (fun k hk => by cases hk; decide) ?_
          refine TL.pure (PV.pickT rfl rfl) rfl (by decide) ?_
          refine TL.nil ?_
          refine TQ.thenC ?_
          refine TC.condT rfl ?_
          refine TC.seq ?_
          refine TC.region ?_
          refine TL.pure (PV.assign rfl) rfl (by decide) ?_
          refine TL.nil ?_
          refine TQ.thenC ?_
          refine TC.ret ?_
          refine TQ.thenR ?_
          refine TQ.retE1 rfl rfl ?_
          first | exact ⟨(), rfl, trivial, List.nil_sublist _⟩ | (exfalso; simp_all; done) | (exfalso; omega) | (exfalso; simp_all; omega)
        · skip
          refine TL.pure (PV.move rfl) rfl (by decide) ?_
          refine TL.pure (PV.lenG rfl hy9.2.1 Tb.sl_23) rfl (by decide) ?_
          refine TL.pure (PV.move rfl) rfl (by decide) ?_
          refine TL.pure (PV.len rfl Tb.sl_23) rfl (by decide) ?_
          refine TL.pure (PV.neq rfl rfl) rfl (by decide) ?_
          refine TL.pure (PV.pickF rfl rfl) rfl (by decide) ?_
          refine TL.nil ?_
          refine TQ.thenC ?_
          first | refine TC.condD rfl (fun h4 => ?_) (fun h4 => ?_) | refine TC.cond rfl (fun h4 => ?_) (fun h4 => ?_)
          · skip
            refine TC.seq ?_
            refine TC.region ?_
            refine TL.pure (PV.assign rfl) rfl (by decide) ?_
            refine TL.nil ?_
            refine TQ.thenC ?_
            refine TC.ret ?_
            refine TQ.thenR ?_
            refine TQ.retE1 rfl rfl ?_
            first | exact ⟨(), rfl, trivial, List.nil_sublist _⟩ | (exfalso; simp_all; done) | (exfalso; omega) | (exfalso; simp_all; omega)
          · skip
            refine TC.skip ?_
            refine TQ.thenC ?_
            refine TC.seq ?_
            refine TC.region ?_
            refine TL.pure (PV.move rfl) rfl (by decide) ?_
            refine TL.pure (PV.len rfl Tb.sl_23) rfl (by decide) ?_
            refine TL.makeI (k := xs.length) rfl rfl Tb.sl_23 Tb.zi_3 rfl (by omega) (by omega) rfl (by decide) (fun b1 hb1 => ?_)
            refine TL.pure (PV.assign rfl) rfl (by decide) ?_
            refine TL.nil ?_
            refine TQ.thenC ?_
            refine TC.seq ?_
            refine TC.seq ?_
            refine TC.region ?_
            refine TL.pure (PV.assign rfl) rfl (by decide) ?_
            refine TL.nil ?_
            refine TQ.thenC ?_
            refine TC.block ?_
            -- live and written in the loop, not told: [6]
            refine TC.lit [(2, _), (3, _), (7, _), (10, _), (11, _), (14, _), (15, _)] (by repeat (first | exact True.intro | refine And.intro rfl ?_)) ?_
            refine TC.loopK [2, 3, 7, 10, 11, 14] (X := Nat) (fun k => k ≤ ys.length) (fun k => [(15, .int .i64 k)]) (fun k => (b1, Obj.cells (intsA (oftL gs.length ys k)) 3 (0, 0)) :: ((gbI (y9.2.1, y9.2.2.2) ++ gbI (y9.1, y9.2.2.1)) ++ (gbI (hC, (clR ls gs xs ys).l) ++ [(bS, Obj.cells #[.slice pl xs.length cl, .slice p2 ys.length c2] 23 (0, 0)), (b0, Obj.cells #[.slice p ls.length cp, .slice q gs.length cq] 25 (0, 0))]))) (fun k => ys.length - k) 0 (Nat.zero_le _) (by repeat (first | exact True.intro | refine And.intro rfl ?_)) (by rw [show oftL gs.length ys 0 = List.replicate xs.length 0 by show List.replicate gs.length 0 = _; rw [exl]]; exact List.Sublist.refl _) ?_
            intro k hk
            refine TC.lit [(2, _), (3, _), (7, _), (10, _), (11, _), (14, _), (15, _)] (by repeat (first | exact True.intro | refine And.intro rfl ?_)) ?_
            refine TC.seq ?_
            refine TC.seq ?_
            refine TC.region ?_
            refine TL.pure (PV.move rfl) rfl (by decide) ?_
            refine TL.pure (PV.move rfl) rfl (by decide) ?_
            refine TL.pure (PV.len rfl Tb.sl_23) rfl (by decide) ?_
            refine TL.pure (PV.lss rfl rfl) rfl (by decide) ?_
            refine TL.nil ?_
            refine TQ.thenC ?_
            first | refine TC.condD rfl (fun hlt => ?_) (fun hlt => ?_) | refine TC.cond rfl (fun hlt => ?_) (fun hlt => ?_)
            · skip
              refine TC.skip ?_
              refine TQ.thenC ?_
              refine TC.seq ?_
              refine TC.block ?_
              refine TC.seq ?_
              refine TC.seq ?_
              obtain ⟨q2, hq2p, hq2⟩ := hy k (by omega)
              have hzk := ez k (by omega)
              refine TC.region ?_
              refine TL.pure (PV.move rfl) rfl (by decide) ?_
              refine TL.pure (PV.move rfl) rfl (by decide) ?_
              refine TL.pure (PV.indexA rfl hq2p rfl Tb.elm_23 rfl (by omega)) rfl (by decide) ?_
              refine TL.pure (PV.loadOld rfl Tb.one_3 hq2) rfl (by decide) ?_
              refine TL.pure (PV.lss rfl rfl) rfl (by decide) ?_
              refine TL.pure (PV.move rfl) rfl (by decide) ?_
              first | refine TL.splitD 77 rfl (fun h6 => ?_) (fun h6 => ?_) | refine TL.split 77 rfl (fun h6 => ?_) (fun h6 => ?_)
              · skip
                refine TL.skip rfl (fun k hk => by cases hk; decide) ?_
                refine TL.skip rfl (fun k hk => by cases hk; decide) ?_
                refine TL.skip rfl (fun k hk => by cases hk; decide) ?_
                refine TL.skip rfl (fun k hk => by cases hk; decide) ?_
                refine TL.skip rfl (fun k hk => by cases hk; decide) ?_
                refine TL.skip rfl (fun k hk => by cases hk; decide) ?_
                refine TL.skip rfl (fun k hk => by cases hk; decide) ?_
                refine TL.pure (PV.pickT rfl rfl) rfl (by decide) ?_
                refine TL.nil ?_
                refine TQ.thenC ?_
                refine TC.condT rfl ?_
                refine TC.seq ?_
                refine TC.region ?_
                refine TL.pure (PV.assign rfl) rfl (by decide) ?_
                refine TL.nil ?_
                refine TQ.thenC ?_
                refine TC.ret ?_
                refine TQ.thenR ?_
                refine TQ.blkR ?_
                refine TQ.thenR ?_
                refine TQ.thenR ?_
                refine TQ.blkR ?_
                refine TQ.thenR ?_
                refine TQ.retE1 rfl rfl ?_
                first | exact ⟨(), rfl, trivial, List.nil_sublist _⟩ | (exfalso; simp_all; done) | (exfalso; omega) | (exfalso; simp_all; omega)
              · skip
                refine TL.pure (PV.move rfl) rfl (by decide) ?_
                refine TL.pure (PV.move rfl) rfl (by decide) ?_
                refine TL.pure (PV.indexA rfl hq2p rfl Tb.elm_23 rfl (by omega)) rfl (by decide) ?_
                refine TL.pure (PV.loadOld rfl Tb.one_3 hq2) rfl (by decide) ?_
                refine TL.pure (PV.move rfl) rfl (by decide) ?_
                refine TL.pure (PV.len rfl Tb.sl_23) rfl (by decide) ?_
                refine TL.pure (PV.geq rfl rfl) rfl (by decide) ?_
                refine TL.pure (PV.pickF rfl rfl) rfl (by decide) ?_
                refine TL.nil ?_
                refine TQ.thenC ?_
                first | refine TC.condD rfl (fun hr => ?_) (fun hr => ?_) | refine TC.cond rfl (fun hr => ?_) (fun hr => ?_)
                · skip
                  refine TC.seq ?_
                  refine TC.region ?_
                  refine TL.pure (PV.assign rfl) rfl (by decide) ?_
                  refine TL.nil ?_
                  refine TQ.thenC ?_
                  refine TC.ret ?_
                  refine TQ.thenR ?_
                  refine TQ.blkR ?_
                  refine TQ.thenR ?_
                  refine TQ.thenR ?_
                  refine TQ.blkR ?_
                  refine TQ.thenR ?_
                  refine TQ.retE1 rfl rfl ?_
                  first | exact ⟨(), rfl, trivial, List.nil_sublist _⟩ | (exfalso; simp_all; done) | (exfalso; omega) | (exfalso; simp_all; omega)
                · skip
                  refine TC.skip ?_
                  refine TQ.thenC ?_
                  obtain ⟨q2, hq2p, hq2⟩ := hy k (by omega)
                  have hzk := ez k (by omega)
                  have hob := oft_bd gs.length ys k (ys.getD k 0).toNat
                  refine TC.region ?_
                  refine TL.pure (PV.move rfl) rfl (by decide) ?_
                  refine TL.pure (PV.move rfl) rfl (by decide) ?_
                  refine TL.pure (PV.move rfl) rfl (by decide) ?_
                  refine TL.pure (PV.indexA rfl hq2p rfl Tb.elm_23 rfl (by omega)) rfl (by decide) ?_
                  refine TL.pure (PV.loadOld rfl Tb.one_3 hq2) rfl (by decide) ?_
                  refine TL.pure (PV.index1 (j := (ys.getD k 0).toNat) rfl rfl Tb.elm_23 (by omega) (by omega)) rfl (by decide) ?_
                  refine TL.pure (PV.loadIv (xs := oftL gs.length ys k) (j := (ys.getD k 0).toNat) (v := (oftL gs.length ys k).getD (ys.getD k 0).toNat 0) rfl Tb.one_3 (by repeat (first | exact List.Mem.head _ | refine List.Mem.tail _ ?_ | refine List.mem_append_right _ ?_)) (by rw [oft_len]; omega) rfl) rfl (by decide) ?_
                  refine TL.pure (PV.add rfl rfl (by omega)) rfl (by decide) ?_
                  refine TL.pure (PV.index1 (j := (ys.getD k 0).toNat) rfl rfl Tb.elm_23 (by omega) (by omega)) rfl (by decide) ?_
                  refine TL.storeIv (j := (ys.getD k 0).toNat) (xs' := oftL gs.length ys (k + 1)) rfl rfl Tb.cells_3 rfl (by repeat (first | exact Upd.head _ | apply Upd.tail | apply Upd.appR)) (by rw [oft_len]; omega) rfl rfl ?_
                  refine TL.nil ?_
                  refine TQ.blkN ?_
                  refine TQ.thenC ?_
                  refine TC.region ?_
                  refine TL.pure (PV.move rfl) rfl (by decide) ?_
                  refine TL.pure (PV.add rfl rfl (by omega)) rfl (by decide) ?_
                  refine TL.pure (PV.assign rfl) rfl (by decide) ?_
                  refine TL.nil ?_
                  refine TQ.thenN ?_
                  refine TQ.backK (k + 1) (by repeat (first | exact True.intro | refine And.intro rfl ?_)) (by repeat (first | exact True.intro | refine And.intro rfl ?_)) (List.Sublist.refl _) (by omega) (by omega)
            · skip
              refine TC.exit ?_
              refine TQ.thenE ?_
              refine TQ.thenE ?_
              refine TQ.blkS ?_
              refine TQ.thenC ?_
              refine TC.seq ?_
              refine TC.seq ?_
              have hke : k = ys.length := by omega
              refine TC.region ?_
              refine TL.pure (PV.assign rfl) rfl (by decide) ?_
              refine TL.nil ?_
              refine TQ.thenC ?_
              refine TC.block ?_
              -- live and written in the loop, not told: [6]
              refine TC.lit [(3, _), (7, _), (10, _), (11, _), (14, _), (16, _)] (by repeat (first | exact True.intro | refine And.intro rfl ?_)) ?_
              refine TC.loopK [3, 7, 10, 11, 14] (X := Nat) (fun i => i ≤ gs.length) (fun i => [(16, .int .i64 i)]) (fun i => (b1, Obj.cells (intsA (oftL gs.length ys k)) 3 (0, 0)) :: ((gbI (y9.2.1, y9.2.2.2) ++ gbI (y9.1, y9.2.2.1)) ++ (gbI (hC, (clR ls gs xs ys).l) ++ [(bS, Obj.cells #[.slice pl xs.length cl, .slice p2 ys.length c2] 23 (0, 0)), (b0, Obj.cells #[.slice p ls.length cp, .slice q gs.length cq] 25 (0, 0))]))) (fun i => gs.length - i) 0 (Nat.zero_le _) (by repeat (first | exact True.intro | refine And.intro rfl ?_)) (List.Sublist.refl _) ?_
              intro i hi
              refine TC.lit [(3, _), (7, _), (10, _), (11, _), (14, _), (16, _)] (by repeat (first | exact True.intro | refine And.intro rfl ?_)) ?_
              refine TC.seq ?_
              refine TC.seq ?_
              refine TC.region ?_
              refine TL.pure (PV.move rfl) rfl (by decide) ?_
              refine TL.pure (PV.move rfl) rfl (by decide) ?_
              refine TL.pure (PV.len rfl Tb.sl_23) rfl (by decide) ?_
              refine TL.pure (PV.lss rfl rfl) rfl (by decide) ?_
              refine TL.nil ?_
              refine TQ.thenC ?_
              first | refine TC.condD rfl (fun hlt2 => ?_) (fun hlt2 => ?_) | refine TC.cond rfl (fun hlt2 => ?_) (fun hlt2 => ?_)
              · skip
                refine TC.skip ?_
                refine TQ.thenC ?_
                refine TC.seq ?_
                refine TC.block ?_
                refine TC.seq ?_
                have hoi := eo i (by omega)
                rw [← hke] at hoi
                refine TC.any Tb.mixed rfl rfl ?_
                refine TA.op (OpOK.pure (PV.move rfl) rfl (by decide)) (by decide) ?_
                refine TA.op (OpOK.pure (PV.move rfl) rfl (by decide)) (by decide) ?_
                refine TA.op (OpOK.pure (PV.index1 (j := i) rfl rfl Tb.elm_23 rfl (by omega)) rfl (by decide)) (by decide) ?_
                refine TA.op (OpOK.pure (PV.loadIv (xs := oftL gs.length ys k) (j := i) (v := (oftL gs.length ys k).getD i 0) rfl Tb.one_3 (by repeat (first | exact List.Mem.head _ | refine List.Mem.tail _ ?_ | refine List.mem_append_right _ ?_)) (by rw [oft_len]; omega) rfl) rfl (by decide)) (by decide) ?_
                refine TA.op (OpOK.pure (PV.move rfl) rfl (by decide)) (by decide) ?_
                refine TA.op (OpOK.pure (PV.move rfl) rfl (by decide)) (by decide) ?_
                refine TA.op (OpOK.pure (PV.indexG (j := i) rfl rfl hy9.2.2 Tb.elm_23 rfl (by omega)) rfl (by decide)) (by decide) ?_
                refine TA.op (OpOK.pure (PV.loadGI (y := (y9.2.1, y9.2.2.2)) (j := i) (v := y9.2.2.2.getD i 0) rfl Tb.one_3 (fun yy hyy => by repeat (first | exact List.mem_append_left _ hyy | exact List.mem_append_left _ (List.mem_append_right _ hyy) | exact List.mem_append_left _ (List.mem_append_left _ hyy) | refine List.mem_append_right _ ?_ | refine List.Mem.tail _ ?_)) hy9.2.2 (by show i < y9.2.2.2.length; omega) rfl) rfl (by decide)) (by decide) ?_
                refine TA.op (OpOK.pure (PV.gtr rfl rfl) rfl (by decide)) (by decide) ?_
                show TQ _ _ _ _ _
                refine TQ.thenC ?_
                first | refine TC.condD rfl (fun hgt => ?_) (fun hgt => ?_) | refine TC.cond rfl (fun hgt => ?_) (fun hgt => ?_)
                · skip
                  refine TC.seq ?_
                  refine TC.region ?_
                  refine TL.pure (PV.assign rfl) rfl (by decide) ?_
                  refine TL.nil ?_
                  refine TQ.thenC ?_
                  refine TC.ret ?_
                  refine TQ.blkR ?_
                  refine TQ.thenR ?_
                  refine TQ.thenR ?_
                  refine TQ.blkR ?_
                  refine TQ.thenR ?_
                  refine TQ.retE1 rfl rfl ?_
                  first | exact ⟨(), rfl, trivial, List.nil_sublist _⟩ | (exfalso; simp_all; done) | (exfalso; omega) | (exfalso; simp_all; omega)
                · skip
                  refine TC.skip ?_
                  refine TQ.blkN ?_
                  refine TQ.thenC ?_
                  refine TC.region ?_
                  refine TL.pure (PV.move rfl) rfl (by decide) ?_
                  refine TL.pure (PV.add rfl rfl (by omega)) rfl (by decide) ?_
                  refine TL.pure (PV.assign rfl) rfl (by decide) ?_
                  refine TL.nil ?_
                  refine TQ.thenN ?_
                  refine TQ.backK (i + 1) (by repeat (first | exact True.intro | refine And.intro rfl ?_)) (by repeat (first | exact True.intro | refine And.intro rfl ?_)) (List.Sublist.refl _) (by omega) (by omega)
              · skip
                refine TC.exit ?_
                refine TQ.thenE ?_
                refine TQ.thenE ?_
                refine TQ.blkS ?_
                refine TQ.thenC ?_
                refine TC.seq ?_
                refine TC.region ?_
                refine TL.pure (PV.loadBox rfl Tb.agg_25 (by repeat (first | exact List.Mem.head _ | refine List.Mem.tail _ ?_ | refine List.mem_append_right _ ?_)) rfl) rfl (by decide) ?_
                refine TL.pure (PV.move rfl) rfl (by decide) ?_
                refine TL.call rfl Tb.gofn_31 (fun a w hs => (by rw [gval_eq hhC]; exact Settle_ok w _ _ _ (hr.new hs.new) _ _ _ (hg.new hs.new) hS.lo _ _ (clR ls gs xs ys).l (IntsAt.g (x := (hC, (clR ls gs xs ys).l)) hs.new (fun yy hyy => by repeat (first | exact List.mem_append_left _ hyy | exact List.mem_append_left _ (List.mem_append_right _ hyy) | exact List.mem_append_left _ (List.mem_append_left _ hyy) | refine List.mem_append_right _ ?_ | refine List.Mem.tail _ ?_)) hhC) hclo)) rfl (by decide) (fun z9 hz9 => ?_)
                refine TL.pure (PV.move rfl) rfl (by decide) ?_
                refine TL.pure (PV.extract rfl rfl) rfl (by decide) ?_
                refine TL.pure (PV.extract rfl rfl) rfl (by decide) ?_
                refine TL.pure (PV.extract rfl rfl) rfl (by decide) ?_
                refine TL.pure (PV.extract rfl rfl) rfl (by decide) ?_
                refine TL.pure (PV.assign rfl) rfl (by decide) ?_
                refine TL.pure (PV.assign rfl) rfl (by decide) ?_
                refine TL.pure (PV.assign rfl) rfl (by decide) ?_
                refine TL.pure (PV.assign rfl) rfl (by decide) ?_
                refine TL.nil ?_
                refine TQ.thenC ?_
                refine TC.seq ?_
                refine TC.seq ?_
                refine TC.region ?_
                refine TL.pure (PV.move rfl) rfl (by decide) ?_
                refine TL.pure (PV.neq rfl rfl) rfl (by decide) ?_
                refine TL.nil ?_
                refine TQ.thenC ?_
                first | refine TC.condD rfl (fun g3 => ?_) (fun g3 => ?_) | refine TC.cond rfl (fun g3 => ?_) (fun g3 => ?_)
                · skip
                  refine TC.seq ?_
                  have hg1 := giv_one (giv_val egv) g3
                  refine TC.region ?_
                  refine TL.pure (PV.move rfl) rfl (by decide) ?_
                  refine TL.pure (PV.eql rfl rfl) rfl (by decide) ?_
                  refine TL.pure (PV.move rfl) rfl (by decide) ?_
                  first | refine TL.splitD 122 rfl (fun h11 => ?_) (fun h11 => ?_) | refine TL.split 122 rfl (fun h11 => ?_) (fun h11 => ?_)
                  · skip
                    refine TL.call rfl Tb.gofn_21 (fun a w hs => sane_ok w) rfl (by decide) (fun _ _ => ?_)
                    refine TL.pure (PV.pickT rfl rfl) rfl (by decide) ?_
                    refine TL.pure (PV.assign rfl) rfl (by decide) ?_
                    refine TL.nil ?_
                    refine TQ.thenC ?_
                    refine TC.ret ?_
                    refine TQ.thenR ?_
                    refine TQ.retE1 rfl rfl ?_
                    first | exact ⟨(), rfl, trivial, List.nil_sublist _⟩ | (exfalso; simp_all; done) | (exfalso; omega) | (exfalso; simp_all; omega)
                  · skip
                    refine TL.skip rfl (fun k hk => by cases hk; decide) ?_
                    refine TL.pure (PV.pickF rfl rfl) rfl (by decide) ?_
                    refine TL.pure (PV.assign rfl) rfl (by decide) ?_
                    refine TL.nil ?_
                    refine TQ.thenC ?_
                    refine TC.ret ?_
                    refine TQ.thenR ?_
                    refine TQ.retE1 rfl rfl ?_
                    first | exact ⟨(), rfl, trivial, List.nil_sublist _⟩ | (exfalso; simp_all; done) | (exfalso; omega) | (exfalso; simp_all; omega)
                · skip
                  refine TC.skip ?_
                  refine TQ.thenC ?_
                  refine TC.seq ?_
                  refine TC.seq ?_
                  have hA := any_eq g1z hy9.1 hz9.1 g3
                  have hAl := hA.2.1
                  refine TC.region ?_
                  refine TL.pure (PV.move rfl) rfl (by decide) ?_
                  refine TL.pure (PV.lenG rfl hz9.2.2 Tb.sl_23) rfl (by decide) ?_
                  refine TL.pure (PV.move rfl) rfl (by decide) ?_
                  refine TL.pure (PV.len rfl Tb.sl_23) rfl (by decide) ?_
                  refine TL.pure (PV.neq rfl rfl) rfl (by decide) ?_
                  refine TL.nil ?_
                  refine TQ.thenC ?_
                  first | refine TC.condD rfl (fun h12 => ?_) (fun h12 => ?_) | refine TC.cond rfl (fun h12 => ?_) (fun h12 => ?_)
                  · skip
                    refine TC.seq ?_
                    refine TC.region ?_
                    refine TL.pure (PV.assign rfl) rfl (by decide) ?_
                    refine TL.nil ?_
                    refine TQ.thenC ?_
                    refine TC.ret ?_
                    refine TQ.thenR ?_
                    refine TQ.retE1 rfl rfl ?_
                    first | exact ⟨(), rfl, trivial, List.nil_sublist _⟩ | (exfalso; simp_all; done) | (exfalso; omega) | (exfalso; simp_all; omega)
                  · skip
                    refine TC.skip ?_
                    refine TQ.thenC ?_
                    refine TC.seq ?_
                    refine TC.seq ?_
                    refine TC.region ?_
                    refine TL.pure (PV.assign rfl) rfl (by decide) ?_
                    refine TL.nil ?_
                    refine TQ.thenC ?_
                    refine TC.block ?_
                    -- live and written in the loop, not told: [6]
                    refine TC.lit [(10, _), (11, _), (14, _), (17, _), (18, _), (21, _)] (by repeat (first | exact True.intro | refine And.intro rfl ?_)) ?_
                    refine TC.loopK [10, 11, 14, 17, 18] (X := Nat) (fun u => u ≤ gs.length) (fun u => [(21, .int .i64 u)]) (fun u => (gbI (z9.2.1, z9.2.2.2) ++ gbI (z9.1, z9.2.2.1)) ++ ((b1, Obj.cells (intsA (oftL gs.length ys k)) 3 (0, 0)) :: ((gbI (y9.2.1, y9.2.2.2) ++ gbI (y9.1, y9.2.2.1)) ++ (gbI (hC, (clR ls gs xs ys).l) ++ [(bS, Obj.cells #[.slice pl xs.length cl, .slice p2 ys.length c2] 23 (0, 0)), (b0, Obj.cells #[.slice p ls.length cp, .slice q gs.length cq] 25 (0, 0))])))) (fun u => gs.length - u) 0 (Nat.zero_le _) (by repeat (first | exact True.intro | refine And.intro rfl ?_)) (List.Sublist.refl _) ?_
                    intro u hu
                    refine TC.lit [(10, _), (11, _), (14, _), (17, _), (18, _), (21, _)] (by repeat (first | exact True.intro | refine And.intro rfl ?_)) ?_
                    refine TC.seq ?_
                    refine TC.seq ?_
                    refine TC.region ?_
                    refine TL.pure (PV.move rfl) rfl (by decide) ?_
                    refine TL.pure (PV.move rfl) rfl (by decide) ?_
                    refine TL.pure (PV.len rfl Tb.sl_23) rfl (by decide) ?_
                    refine TL.pure (PV.lss rfl rfl) rfl (by decide) ?_
                    refine TL.nil ?_
                    refine TQ.thenC ?_
                    first | refine TC.condD rfl (fun hlt3 => ?_) (fun hlt3 => ?_) | refine TC.cond rfl (fun hlt3 => ?_) (fun hlt3 => ?_)
                    · skip
                      refine TC.skip ?_
                      refine TQ.thenC ?_
                      refine TC.seq ?_
                      refine TC.block ?_
                      refine TC.seq ?_
                      have hai := hA.2.2 u (by omega)
                      rw [← hke] at hai
                      have hob := oft_bd gs.length ys k u
                      have hsb := stb_m (giv_hb egv).1 (hy9.1.ok egv) (fun k => by have := (giv_ne egv).2 k; omega)
                      have hmb := hsb.1 u (by omega)
                      refine TC.any Tb.mixed rfl rfl ?_
                      refine TA.op (OpOK.pure (PV.move rfl) rfl (by decide)) (by decide) ?_
                      refine TA.op (OpOK.pure (PV.move rfl) rfl (by decide)) (by decide) ?_
                      refine TA.op (OpOK.pure (PV.index1 (j := u) rfl rfl Tb.elm_23 rfl (by omega)) rfl (by decide)) (by decide) ?_
                      refine TA.op (OpOK.pure (PV.loadIv (xs := oftL gs.length ys k) (j := u) (v := (oftL gs.length ys k).getD u 0) rfl Tb.one_3 (by repeat (first | exact List.Mem.head _ | refine List.Mem.tail _ ?_ | refine List.mem_append_right _ ?_)) (by rw [oft_len]; omega) rfl) rfl (by decide)) (by decide) ?_
                      refine TA.op (OpOK.pure (PV.move rfl) rfl (by decide)) (by decide) ?_
                      refine TA.op (OpOK.pure (PV.move rfl) rfl (by decide)) (by decide) ?_
                      refine TA.op (OpOK.pure (PV.indexG (j := u) rfl rfl hz9.2.2 Tb.elm_23 rfl (by omega)) rfl (by decide)) (by decide) ?_
                      refine TA.op (OpOK.pure (PV.loadGI (y := (z9.2.1, z9.2.2.2)) (j := u) (v := z9.2.2.2.getD u 0) rfl Tb.one_3 (fun yy hyy => by repeat (first | exact List.mem_append_left _ hyy | exact List.mem_append_left _ (List.mem_append_right _ hyy) | exact List.mem_append_left _ (List.mem_append_left _ hyy) | refine List.mem_append_right _ ?_ | refine List.Mem.tail _ ?_)) hz9.2.2 (by show u < z9.2.2.2.length; omega) rfl) rfl (by decide)) (by decide) ?_
                      refine TA.op (OpOK.pure (PV.add rfl rfl (by omega)) rfl (by decide)) (by decide) ?_
                      refine TA.op (OpOK.pure (PV.move rfl) rfl (by decide)) (by decide) ?_
                      refine TA.op (OpOK.pure (PV.move rfl) rfl (by decide)) (by decide) ?_
                      refine TA.op (OpOK.pure (PV.indexG (j := u) rfl rfl hy9.2.2 Tb.elm_23 rfl (by omega)) rfl (by decide)) (by decide) ?_
                      refine TA.op (OpOK.pure (PV.loadGI (y := (y9.2.1, y9.2.2.2)) (j := u) (v := y9.2.2.2.getD u 0) rfl Tb.one_3 (fun yy hyy => by repeat (first | exact List.mem_append_left _ hyy | exact List.mem_append_left _ (List.mem_append_right _ hyy) | exact List.mem_append_left _ (List.mem_append_left _ hyy) | refine List.mem_append_right _ ?_ | refine List.Mem.tail _ ?_)) hy9.2.2 (by show u < y9.2.2.2.length; omega) rfl) rfl (by decide)) (by decide) ?_
                      refine TA.op (OpOK.pure (PV.neq rfl rfl) rfl (by decide)) (by decide) ?_
                      show TQ _ _ _ _ _
                      refine TQ.thenC ?_
                      first | refine TC.condD rfl (fun hne => ?_) (fun hne => ?_) | refine TC.cond rfl (fun hne => ?_) (fun hne => ?_)
                      · skip
                        refine TC.seq ?_
                        refine TC.region ?_
                        refine TL.pure (PV.assign rfl) rfl (by decide) ?_
                        refine TL.nil ?_
                        refine TQ.thenC ?_
                        refine TC.ret ?_
                        refine TQ.blkR ?_
                        refine TQ.thenR ?_
                        refine TQ.thenR ?_
                        refine TQ.blkR ?_
                        refine TQ.thenR ?_
                        refine TQ.retE1 rfl rfl ?_
                        first | exact ⟨(), rfl, trivial, List.nil_sublist _⟩ | (exfalso; simp_all; done) | (exfalso; omega) | (exfalso; simp_all; omega)
                      · skip
                        refine TC.skip ?_
                        refine TQ.blkN ?_
                        refine TQ.thenC ?_
                        refine TC.region ?_
                        refine TL.pure (PV.move rfl) rfl (by decide) ?_
                        refine TL.pure (PV.add rfl rfl (by omega)) rfl (by decide) ?_
                        refine TL.pure (PV.assign rfl) rfl (by decide) ?_
                        refine TL.nil ?_
                        refine TQ.thenN ?_
                        refine TQ.backK (u + 1) (by repeat (first | exact True.intro | refine And.intro rfl ?_)) (by repeat (first | exact True.intro | refine And.intro rfl ?_)) (List.Sublist.refl _) (by omega) (by omega)
                    · skip
                      refine TC.exit ?_
                      refine TQ.thenE ?_
                      refine TQ.thenE ?_
                      refine TQ.blkS ?_
                      refine TQ.thenC ?_
                      refine TC.seq ?_
                      have hA1 := hA.1
                      refine TC.region ?_
                      refine TL.pure (PV.move rfl) rfl (by decide) ?_
                      refine TL.pure (PV.move rfl) rfl (by decide) ?_
                      refine TL.call rfl Tb.gofn_30 (fun a w hs => sameGG w z9.1 z9.2.2.1 hz9.2.1 (IntsAt.g (x := (z9.1, z9.2.2.1)) hs.new (fun yy hyy => by repeat (first | exact List.mem_append_left _ hyy | exact List.mem_append_left _ (List.mem_append_right _ hyy) | exact List.mem_append_left _ (List.mem_append_left _ hyy) | refine List.mem_append_right _ ?_ | refine List.Mem.tail _ ?_)) hz9.2.1) y9.1 y9.2.2.1 hy9.2.1 (IntsAt.g (x := (y9.1, y9.2.2.1)) hs.new (fun yy hyy => by repeat (first | exact List.mem_append_left _ hyy | exact List.mem_append_left _ (List.mem_append_right _ hyy) | exact List.mem_append_left _ (List.mem_append_left _ hyy) | refine List.mem_append_right _ ?_ | refine List.Mem.tail _ ?_)) hy9.2.1) hz9.1.len.1 hy9.1.len.1) rfl (by decide) (fun _ _ => ?_)
                      refine TL.pure (PV.move rfl) rfl (by decide) ?_
                      first | refine TL.splitD 153 rfl (fun h15 => ?_) (fun h15 => ?_) | refine TL.split 153 rfl (fun h15 => ?_) (fun h15 => ?_)
                      · skip
                        refine TL.call rfl Tb.gofn_21 (fun a w hs => sane_ok w) rfl (by decide) (fun _ _ => ?_)
                        refine TL.pure (PV.pickT rfl rfl) rfl (by decide) ?_
                        refine TL.pure (PV.assign rfl) rfl (by decide) ?_
                        refine TL.nil ?_
                        refine TQ.thenC ?_
                        refine TC.ret ?_
                        refine TQ.retE1 rfl rfl ?_
                        first | exact ⟨(), rfl, trivial, List.nil_sublist _⟩ | (exfalso; simp_all; done) | (exfalso; omega) | (exfalso; simp_all; omega)
                      · skip
                        refine TL.skip rfl (fun k hk => by cases hk; decide) ?_
                        refine TL.pure (PV.pickF rfl rfl) rfl (by decide) ?_
                        refine TL.pure (PV.assign rfl) rfl (by decide) ?_
                        refine TL.nil ?_
                        refine TQ.thenC ?_
                        refine TC.ret ?_
                        refine TQ.retE1 rfl rfl ?_
                        first | exact ⟨(), rfl, trivial, List.nil_sublist _⟩ | (exfalso; simp_all; done) | (exfalso; omega) | (exfalso; simp_all; omega)

end Go.Proofs.Ytgafpkcnhpoobaa
