/- CheckList: contracts. -/
import Derived.Test.YtgafpkcnhpoobaaEm
set_option linter.unusedVariables false
set_option linter.unusedSimpArgs false
namespace Go.Proofs.Ytgafpkcnhpoobaa
open Go.Sx Go.RowKit Go.Sand

theorem okA_t {ls : List (List Int)} {gs xs zs : List Int} {k : Nat} (h : limI ls gs (zs.getD k 0).toNat ≤ (tpL ls gs xs zs k).getD (zs.getD k 0).toNat 0) : okA ls gs xs zs k = true := decide_eq_true h
theorem okA_f {ls : List (List Int)} {gs xs zs : List Int} {k : Nat} (h : ¬ limI ls gs (zs.getD k 0).toNat ≤ (tpL ls gs xs zs k).getD (zs.getD k 0).toNat 0) : okA ls gs xs zs k = false := decide_eq_false h
theorem two_cells {w : World} {a : Addr} {x y : Value} (h0 : w.cell? a = some x) (h1 : w.cell? (a.add 1) = some y) : ∀ (j : Nat) (v : Value), [x, y][j]? = some v → w.cell? (a.add j) = some v := by
  intro j v hv
  have hj := (List.getElem?_eq_some_iff.1 hv).1
  match j, hj with
  | 0, _ =>
    rw [show a.add 0 = a by cases a; simp [Addr.add]]
    rw [← hv]; exact h0
  | 1, _ => rw [← hv]; exact h1


set_option maxRecDepth 100000 in
theorem listF_ok (w0 : World) (p : Option Addr) (cp : Nat) (ls : List (List Int)) (hr : LsAt w0 p ls) (q : Option Addr) (cq : Nat) (gs : List Int) (hg : IntsAt w0 q gs) (a : Addr) (ha0 : w0.cell? a = some (.slice p ls.length cp)) (ha1 : w0.cell? (a.add 1) = some (.slice q gs.length cq)) (x : Int) :
    Calls Try.prog 81 #[.int .i64 x, .pointer (some a)] w0 (Post (X := Unit) (fun _ => .bool (!decide (0 ≤ x ∧ x < gs.length))) (fun _ => True) (fun _ => []) w0) := by
  refine calls Try.func81 rfl (n := 8) rfl (by simp) ?_
  refine TC.seq ?_
  refine TC.region ?_
  refine TL.pure (PV.assign rfl) rfl (by decide) ?_
  refine TL.nil ?_
  refine TQ.thenC ?_
  refine TC.seq ?_
  refine TC.region ?_
  refine TL.pure (PV.loadAggA (vs := [.slice p ls.length cp, .slice q gs.length cq]) rfl Tb.agg_25 rfl (two_cells ha0 ha1)) rfl (by decide) ?_
  refine TL.pure (PV.move rfl) rfl (by decide) ?_
  refine TL.call rfl Tb.gofn_60 (fun a w hs => isHeap_ok w _ _ _ (hr.new hs.new) _ _ _ (hg.new hs.new) _) rfl (by decide) (fun _ _ => ?_)
  refine TL.pure ((by first | exact PV.notD rfl | exact PV.not rfl)) rfl (by decide) ?_
  refine TL.pure (PV.assign rfl) rfl (by decide) ?_
  refine TL.nil ?_
  refine TQ.thenC ?_
  refine TC.ret ?_
  refine TQ.retE1 rfl rfl ?_
  exact ⟨(), by rw [decide_not], trivial, List.nil_sublist _⟩

set_option maxRecDepth 100000 in
set_option maxHeartbeats 2000000 in
theorem CheckList_ok (w0 : World) (p : Option Addr) (cp : Nat) (ls : List (List Int)) (hr : LsAt w0 p ls) (q : Option Addr) (cq : Nat) (gs : List Int) (hg : IntsAt w0 q gs) (hlo : ∀ k, (ls.getD k []).length ≤ 1000000) (pl : Option Addr) (cl : Nat) (xs : List Int) (hx : IntsAt w0 pl xs) (hxo : xs.length ≤ 1000000) (p3 : Option Addr) (c3 : Nat) (zs : List Int) (hz : IntsAt w0 p3 zs) (hzo : zs.length ≤ 1000000) :
    Calls Try.prog 35 #[hv p ls.length cp q gs.length cq, .slice pl xs.length cl, .slice p3 zs.length c3] w0 (Post (X := HD) (fun h => .tuple #[gval h (clR ls gs xs zs).l.length, .int .i64 (clR ls gs xs zs).n, .int .i64 (clR ls gs xs zs).e]) (fun h => goI (h, (clR ls gs xs zs).l)) (fun h => gbI (h, (clR ls gs xs zs).l)) w0) := by
  refine calls Try.func35 rfl (n := 49) rfl (by simp) ?_
  refine TC.seq ?_
  refine TC.region ?_
  refine TL.box rfl rfl (by decide) (fun b0 hb0 => ?_)
  refine TL.pure (PV.assign rfl) rfl (by decide) ?_
  refine TL.pure (PV.assign rfl) rfl (by decide) ?_
  refine TL.pure (PV.assign rfl) rfl (by decide) ?_
  refine TL.nil ?_
  refine TQ.thenC ?_
  refine TC.seq ?_
  refine TC.seq ?_
  refine TC.region ?_
  refine TL.pure (PV.loadBox rfl Tb.agg_25 (by repeat (first | exact List.Mem.head _ | refine List.Mem.tail _ ?_ | refine List.mem_append_right _ ?_)) rfl) rfl (by decide) ?_
  refine TL.pure (PV.move rfl) rfl (by decide) ?_
  refine TL.buildSlice (cs := #[.slice pl xs.length cl]) rfl Tb.sl_22 Tb.zi_23 (by decide) (fill_o _ _ _) (by decide) rfl (by decide) (fun bS hbS => ?_)
  refine TL.call rfl Tb.gofn_67 (fun a w hs => validateHeapings_ok w _ _ _ (hr.new hs.new) _ _ _ (hg.new hs.new) hlo _ 1 [xs] (LsAt.one hs.new (by repeat (first | exact List.Mem.head _ | refine List.Mem.tail _ ?_ | refine List.mem_append_right _ ?_)) (hx.new hs.new)) (by simp) (one_len hxo)) rfl (by decide) (fun _ _ => ?_)
  refine TL.pure (PV.assign rfl) rfl (by decide) ?_
  refine TL.nil ?_
  refine TQ.thenC ?_
  refine TC.seq ?_
  refine TC.region ?_
  refine TL.pure (PV.move rfl) rfl (by decide) ?_
  refine TL.pure (PV.neq rfl rfl) rfl (by decide) ?_
  refine TL.nil ?_
  refine TQ.thenC ?_
  first | refine TC.condD rfl (fun hbad => ?_) (fun hbad => ?_) | refine TC.cond rfl (fun hbad => ?_) (fun hbad => ?_)
  · skip
    refine TC.seq ?_
    refine TC.region ?_
    refine TL.pure (PV.move rfl) rfl (by decide) ?_
    refine TL.pure (PV.assign rfl) rfl (by decide) ?_
    refine TL.pure (PV.assign rfl) rfl (by decide) ?_
    refine TL.pure (PV.assign rfl) rfl (by decide) ?_
    refine TL.nil ?_
    refine TQ.thenC ?_
    refine TC.ret ?_
    refine TQ.thenR ?_
    refine TQ.retE3 rfl rfl rfl rfl ?_
    exact ⟨none, by rw [cl_bad hbad]; rfl, by rw [cl_bad hbad]; exact goI_nil, by rw [cl_bad hbad]; exact List.nil_sublist _⟩
  · skip
    refine TC.skip ?_
    refine TQ.thenC ?_
    refine TC.seq ?_
    refine TC.seq ?_
    have hB := (giv_hb hbad).1
    have hn9 := hB.n
    obtain ⟨hxl, hx0⟩ := giv_ne hbad
    refine TC.region ?_
    refine TL.pure (PV.move rfl) rfl (by decide) ?_
    refine TL.pure (PV.len rfl Tb.sl_23) rfl (by decide) ?_
    refine TL.pure (PV.gtr rfl rfl) rfl (by decide) ?_
    refine TL.nil ?_
    refine TQ.thenC ?_
    first | refine TC.condD rfl (fun hlong => ?_) (fun hlong => ?_) | refine TC.cond rfl (fun hlong => ?_) (fun hlong => ?_)
    · skip
      refine TC.seq ?_
      refine TC.region ?_
      refine TL.pure (PV.assign rfl) rfl (by decide) ?_
      refine TL.pure (PV.assign rfl) rfl (by decide) ?_
      refine TL.pure (PV.assign rfl) rfl (by decide) ?_
      refine TL.nil ?_
      refine TQ.thenC ?_
      refine TC.ret ?_
      refine TQ.thenR ?_
      refine TQ.retE3 rfl rfl rfl rfl ?_
      exact ⟨none, by rw [cl_3 hbad (by omega)]; rfl, by rw [cl_3 hbad (by omega)]; exact goI_nil, by rw [cl_3 hbad (by omega)]; exact List.nil_sublist _⟩
    · skip
      refine TC.skip ?_
      refine TQ.thenC ?_
      refine TC.seq ?_
      refine TC.seq ?_
      refine TC.region ?_
      refine TL.pure (PV.move rfl) rfl (by decide) ?_
      refine TL.pure (PV.makeFunc rfl) rfl (by decide) ?_
      refine TL.call rfl Tb.gofn_80 (fun a w hs => containsFunc_ok w _ _ zs (hz.new hs.new) hzo 81 [.pointer (some ⟨b0, 0, none⟩)] (fun x => !decide (0 ≤ x ∧ x < gs.length)) Tb.gofn_81 (fun w2 G2 hn2 x => listF_ok w2 _ _ _ (hr.new (hs.new.trans hn2)) _ _ _ (hg.new (hs.new.trans hn2)) ⟨b0, 0, none⟩ ((hs.new.trans hn2).cell (by repeat (first | exact List.Mem.head _ | refine List.Mem.tail _ ?_ | refine List.mem_append_right _ ?_)) rfl) (by rw [add_off]; exact (hs.new.trans hn2).cell (by repeat (first | exact List.Mem.head _ | refine List.Mem.tail _ ?_ | refine List.mem_append_right _ ?_)) rfl) x)) rfl (by decide) (fun _ _ => ?_)
      refine TL.nil ?_
      refine TQ.thenC ?_
      first | refine TC.condD rfl (fun hany => ?_) (fun hany => ?_) | refine TC.cond rfl (fun hany => ?_) (fun hany => ?_)
      · skip
        refine TC.seq ?_
        refine TC.region ?_
        refine TL.pure (PV.assign rfl) rfl (by decide) ?_
        refine TL.pure (PV.assign rfl) rfl (by decide) ?_
        refine TL.pure (PV.assign rfl) rfl (by decide) ?_
        refine TL.nil ?_
        refine TQ.thenC ?_
        refine TC.ret ?_
        refine TQ.thenR ?_
        refine TQ.retE3 rfl rfl rfl rfl ?_
        have hhe : heB gs zs = false := by have h9 := he_any gs zs; rw [hany] at h9; simpa using h9.symm
        exact ⟨none, by rw [cl_4 hbad (by omega) hhe]; rfl, by rw [cl_4 hbad (by omega) hhe]; exact goI_nil, by rw [cl_4 hbad (by omega) hhe]; exact List.nil_sublist _⟩
      · skip
        refine TC.skip ?_
        refine TQ.thenC ?_
        refine TC.seq ?_
        have hhe : heB gs zs = true := by have h9 := he_any gs zs; rw [hany] at h9; simpa using h9.symm
        refine TC.region ?_
        refine TL.pure (PV.move rfl) rfl (by decide) ?_
        refine TL.call rfl Tb.gofn_73 (fun a w hs => copied_ok w _ _ _ (hx.new hs.new) _ rfl hxo) rfl (by decide) (fun b9 _ => ?_)
        refine TL.pure (PV.assign rfl) rfl (by decide) ?_
        refine TL.nil ?_
        refine TQ.thenC ?_
        refine TC.seq ?_
        refine TC.seq ?_
        refine TC.region ?_
        refine TL.pure (PV.move rfl) rfl (by decide) ?_
        refine TL.pure (PV.len rfl Tb.sl_23) rfl (by decide) ?_
        refine TL.pure (PV.move rfl) rfl (by decide) ?_
        refine TL.nil ?_
        refine TQ.thenC ?_
        refine TC.block ?_
        -- live and written in the loop, not told: [6, 7, 8]
        refine TC.loopK [2, 3, 10, 28, 29] (X := Nat) (fun k => k ≤ zs.length ∧ ∀ j, j < k → okA ls gs xs zs j = true) (fun k => [(30, .int .i64 k)]) (fun k => (b9, Obj.cells (intsA (tpL ls gs xs zs k)) 3 (0, 0)) :: [(b0, Obj.cells #[.slice p ls.length cp, .slice q gs.length cq] 25 (0, 0))]) (fun k => zs.length - k) 0 ⟨Nat.zero_le _, fun j hj => absurd hj (Nat.not_lt_zero _)⟩ (by repeat (first | exact True.intro | refine And.intro rfl ?_)) (List.Sublist.cons_cons _ (List.sublist_append_right [_] _)) ?_
        intro k hk
        refine TC.seq ?_
        refine TC.region ?_
        refine TL.pure (PV.lss rfl rfl) rfl (by decide) ?_
        refine TL.nil ?_
        refine TQ.thenC ?_
        refine TC.seq ?_
        first | refine TC.condD rfl (fun hlt => ?_) (fun hlt => ?_) | refine TC.cond rfl (fun hlt => ?_) (fun hlt => ?_)
        · skip
          refine TC.skip ?_
          refine TQ.thenC ?_
          refine TC.seq ?_
          refine TC.block ?_
          refine TC.seq ?_
          obtain ⟨q2, hq2p, hq2⟩ := hz k (by omega)
          have hzk : 0 ≤ zs.getD k 0 ∧ zs.getD k 0 < gs.length := by have h9 := all_at' (f := fun (x : Int) => decide (0 ≤ x ∧ x < gs.length)) (d := 0) hhe (show k < zs.length by omega); exact of_decide_eq_true h9
          have hzt : zs.getD k 0 = ((zs.getD k 0).toNat : Int) := by omega
          refine TC.region ?_
          refine TL.pure (PV.move rfl) rfl (by decide) ?_
          refine TL.pure (PV.indexA rfl hq2p rfl Tb.elm_23 rfl (by omega)) rfl (by decide) ?_
          refine TL.pure (PV.loadOld rfl Tb.one_3 hq2) rfl (by decide) ?_
          refine TL.pure (PV.assign rfl) rfl (by decide) ?_
          refine TL.pure (PV.assign rfl) rfl (by decide) ?_
          refine TL.nil ?_
          refine TQ.thenC ?_
          refine TC.seq ?_
          refine TC.seq ?_
          refine TC.region ?_
          refine TL.pure (PV.loadBox rfl Tb.agg_25 (by repeat (first | exact List.Mem.head _ | refine List.Mem.tail _ ?_ | refine List.mem_append_right _ ?_)) rfl) rfl (by decide) ?_
          refine TL.pure (PV.move rfl) rfl (by decide) ?_
          refine TL.pure (PV.move rfl) rfl (by decide) ?_
          refine TL.call rfl Tb.gofn_72 (fun a w hs => (by rw [hzt]; exact canTopple_ok w _ _ _ (hr.new hs.new) _ _ _ (hg.new hs.new) hB _ _ (tpL ls gs xs zs k) (IntsAt.arr hs.new (by repeat (first | exact List.Mem.head _ | refine List.Mem.tail _ ?_ | refine List.mem_append_right _ ?_))) _ (tpL_len _ _ _ _ _) ((tpL_len _ _ _ _ _).trans hxl) (zs.getD k 0).toNat (by omega))) rfl (by decide) (fun _ _ => ?_)
          refine TL.pure ((by first | exact PV.notD rfl | exact PV.not rfl)) rfl (by decide) ?_
          refine TL.nil ?_
          refine TQ.thenC ?_
          first | refine TC.condD rfl (fun hno => ?_) (fun hno => ?_) | refine TC.cond rfl (fun hno => ?_) (fun hno => ?_)
          · skip
            refine TC.seq ?_
            refine TC.region ?_
            refine TL.pure (PV.move rfl) rfl (by decide) ?_
            refine TL.pure (PV.assign rfl) rfl (by decide) ?_
            refine TL.pure (PV.assign rfl) rfl (by decide) ?_
            refine TL.pure (PV.assign rfl) rfl (by decide) ?_
            refine TL.nil ?_
            refine TQ.thenC ?_
            refine TC.ret ?_
            refine TQ.thenR ?_
            refine TQ.blkR ?_
            refine TQ.thenR ?_
            refine TQ.thenR ?_
            refine TQ.blkR ?_
            refine TQ.thenR ?_
            refine TQ.retE3 rfl rfl rfl rfl ?_
            exact ⟨none, by rw [cl_6 (k := k) hbad (by omega) hhe (by omega) hk.2 (okA_f (by omega))]; rfl, by rw [cl_6 (k := k) hbad (by omega) hhe (by omega) hk.2 (okA_f (by omega))]; exact goI_nil, by rw [cl_6 (k := k) hbad (by omega) hhe (by omega) hk.2 (okA_f (by omega))]; exact List.nil_sublist _⟩
          · skip
            refine TC.skip ?_
            refine TQ.thenC ?_
            have htb := tpL_bd (zs := zs) hB hx0 k (fun j hj => by have h9 := all_at' (f := fun (x : Int) => decide (0 ≤ x ∧ x < gs.length)) (d := 0) hhe (show j < zs.length by omega); exact of_decide_eq_true h9)
            refine TC.region ?_
            refine TL.pure (PV.loadBox rfl Tb.agg_25 (by repeat (first | exact List.Mem.head _ | refine List.Mem.tail _ ?_ | refine List.mem_append_right _ ?_)) rfl) rfl (by decide) ?_
            refine TL.pure (PV.move rfl) rfl (by decide) ?_
            refine TL.pure (PV.move rfl) rfl (by decide) ?_
            refine TL.callW (X := Unit) (fun _ => .tuple #[]) (fun _ => True) (fun _ => (b9, Obj.cells (intsA (tpL ls gs xs zs (k + 1))) 3 (0, 0)) :: [(b0, Obj.cells #[.slice p ls.length cp, .slice q gs.length cq] 25 (0, 0))]) rfl Tb.gofn_74 (fun a w hs => (by rw [hzt]; exact topple_ok (R := [(b0, Obj.cells #[.slice p ls.length cp, .slice q gs.length cq] 25 (0, 0))]) hs.new p cp ls hr q cq gs hg hB _ (tpL_len _ _ _ _ _) ((tpL_len _ _ _ _ _).trans hxl) (zs.getD k 0).toNat (by omega) 1 (by omega) (fun j => by have := htb j; omega))) rfl (by decide) (fun _ _ => ?_)
            refine TL.nil ?_
            refine TQ.blkN ?_
            refine TQ.thenC ?_
            refine TC.region ?_
            refine TL.pure (PV.add rfl rfl (by omega)) rfl (by decide) ?_
            refine TL.pure (PV.move rfl) rfl (by decide) ?_
            refine TL.nil ?_
            refine TQ.thenN ?_
            refine TQ.backK (k + 1) (by repeat (first | exact True.intro | refine And.intro rfl ?_)) (by repeat (first | exact True.intro | refine And.intro rfl ?_)) (List.Sublist.refl _) ⟨by omega, fun j hj => if e : j < k then hk.2 j e else (show k = j by omega) ▸ okA_t (by omega)⟩ (by omega)
        · skip
          refine TC.exit ?_
          refine TQ.thenE ?_
          refine TQ.thenE ?_
          refine TQ.blkS ?_
          refine TQ.thenC ?_
          refine TC.seq ?_
          refine TC.region ?_
          refine TL.pure (PV.move rfl) rfl (by decide) ?_
          refine TL.pure (PV.move rfl) rfl (by decide) ?_
          refine TL.pure (PV.len rfl Tb.sl_23) rfl (by decide) ?_
          refine TL.pure (PV.assign rfl) rfl (by decide) ?_
          refine TL.pure (PV.assign rfl) rfl (by decide) ?_
          refine TL.pure (PV.assign rfl) rfl (by decide) ?_
          refine TL.nil ?_
          refine TQ.thenC ?_
          refine TC.ret ?_
          refine TQ.retE3 rfl rfl rfl rfl ?_
          obtain rfl : k = zs.length := by omega
          have h7 := cl_0 hbad (by omega) hhe hk.2
          exact ⟨some (b9, xs.length, []), by rw [h7]; dsimp only; rw [tpL_len]; rfl, by rw [h7]; exact goI_arr (tpL_len _ _ _ _ _), by rw [h7, gbI_blk]; exact List.Sublist.cons_cons _ (List.nil_sublist _)⟩

set_option maxRecDepth 100000 in
set_option maxHeartbeats 2000000 in
theorem rCheckList_ok (w0 : World) (p : Option Addr) (cp : Nat) (ls : List (List Int)) (hr : LsAt w0 p ls) (q : Option Addr) (cq : Nat) (gs : List Int) (hg : IntsAt w0 q gs) (hlo : ∀ k, (ls.getD k []).length ≤ 1000000) (pl : Option Addr) (cl : Nat) (xs : List Int) (hx : IntsAt w0 pl xs) (hxo : xs.length ≤ 1000000) (p3 : Option Addr) (c3 : Nat) (zs : List Int) (hz : IntsAt w0 p3 zs) (hzo : zs.length ≤ 1000000) :
    Calls Try.prog 36 #[hv p ls.length cp q gs.length cq, .slice pl xs.length cl, .slice p3 zs.length c3] w0 (Post (X := HD) (fun h => .tuple #[gval h (clR ls gs xs zs).l.length, .int .i64 (clR ls gs xs zs).n, .int .i64 (clR ls gs xs zs).e]) (fun h => goI (h, (clR ls gs xs zs).l)) (fun h => gbI (h, (clR ls gs xs zs).l)) w0) := by
  refine calls Try.func36 rfl (n := 72) rfl (by simp) ?_
  refine TC.seq ?_
  refine TC.region ?_
  refine TL.box rfl rfl (by decide) (fun b0 hb0 => ?_)
  refine TL.pure (PV.assign rfl) rfl (by decide) ?_
  refine TL.pure (PV.assign rfl) rfl (by decide) ?_
  refine TL.pure (PV.assign rfl) rfl (by decide) ?_
  refine TL.nil ?_
  refine TQ.thenC ?_
  refine TC.seq ?_
  refine TC.region ?_
  refine TL.pure (PV.loadBox rfl Tb.agg_25 (by repeat (first | exact List.Mem.head _ | refine List.Mem.tail _ ?_ | refine List.mem_append_right _ ?_)) rfl) rfl (by decide) ?_
  refine TL.pure (PV.move rfl) rfl (by decide) ?_
  refine TL.buildSlice (cs := #[.slice pl xs.length cl]) rfl Tb.sl_22 Tb.zi_23 (by decide) (fill_o _ _ _) (by decide) rfl (by decide) (fun bS hbS => ?_)
  refine TL.call rfl Tb.gofn_69 (fun a w hs => given_ok w _ _ _ (hr.new hs.new) _ _ _ (hg.new hs.new) hlo _ 1 [xs] (LsAt.one hs.new (by repeat (first | exact List.Mem.head _ | refine List.Mem.tail _ ?_ | refine List.mem_append_right _ ?_)) (hx.new hs.new)) (by simp) (one_len hxo)) rfl (by decide) (fun _ _ => ?_)
  refine TL.pure (PV.assign rfl) rfl (by decide) ?_
  refine TL.nil ?_
  refine TQ.thenC ?_
  refine TC.seq ?_
  refine TC.seq ?_
  refine TC.region ?_
  refine TL.pure (PV.move rfl) rfl (by decide) ?_
  refine TL.pure (PV.neq rfl rfl) rfl (by decide) ?_
  refine TL.nil ?_
  refine TQ.thenC ?_
  first | refine TC.condD rfl (fun hbad => ?_) (fun hbad => ?_) | refine TC.cond rfl (fun hbad => ?_) (fun hbad => ?_)
  · skip
    refine TC.seq ?_
    refine TC.region ?_
    refine TL.pure (PV.move rfl) rfl (by decide) ?_
    refine TL.pure (PV.assign rfl) rfl (by decide) ?_
    refine TL.pure (PV.assign rfl) rfl (by decide) ?_
    refine TL.pure (PV.assign rfl) rfl (by decide) ?_
    refine TL.nil ?_
    refine TQ.thenC ?_
    refine TC.ret ?_
    refine TQ.thenR ?_
    refine TQ.retE3 rfl rfl rfl rfl ?_
    exact ⟨none, by rw [cl_bad hbad]; rfl, by rw [cl_bad hbad]; exact goI_nil, by rw [cl_bad hbad]; exact List.nil_sublist _⟩
  · skip
    refine TC.skip ?_
    refine TQ.thenC ?_
    refine TC.seq ?_
    refine TC.seq ?_
    have hB := (giv_hb hbad).1
    have hn9 := hB.n
    obtain ⟨hxl, hx0⟩ := giv_ne hbad
    refine TC.region ?_
    refine TL.pure (PV.move rfl) rfl (by decide) ?_
    refine TL.pure (PV.len rfl Tb.sl_23) rfl (by decide) ?_
    refine TL.pure (PV.gtr rfl rfl) rfl (by decide) ?_
    refine TL.nil ?_
    refine TQ.thenC ?_
    first | refine TC.condD rfl (fun hlong => ?_) (fun hlong => ?_) | refine TC.cond rfl (fun hlong => ?_) (fun hlong => ?_)
    · skip
      refine TC.seq ?_
      refine TC.region ?_
      refine TL.pure (PV.assign rfl) rfl (by decide) ?_
      refine TL.pure (PV.assign rfl) rfl (by decide) ?_
      refine TL.pure (PV.assign rfl) rfl (by decide) ?_
      refine TL.nil ?_
      refine TQ.thenC ?_
      refine TC.ret ?_
      refine TQ.thenR ?_
      refine TQ.retE3 rfl rfl rfl rfl ?_
      exact ⟨none, by rw [cl_3 hbad (by omega)]; rfl, by rw [cl_3 hbad (by omega)]; exact goI_nil, by rw [cl_3 hbad (by omega)]; exact List.nil_sublist _⟩
    · skip
      refine TC.skip ?_
      refine TQ.thenC ?_
      refine TC.seq ?_
      refine TC.seq ?_
      refine TC.region ?_
      refine TL.pure (PV.assign rfl) rfl (by decide) ?_
      refine TL.nil ?_
      refine TQ.thenC ?_
      refine TC.block ?_
      -- live and written in the loop, not told: [6, 7, 8]
      refine TC.loopG [1, 2, 3] (X := Nat) (fun u => u ≤ zs.length ∧ ∀ j, j < u → 0 ≤ zs.getD j 0 ∧ zs.getD j 0 < gs.length) (fun u => [(10, .int .i64 u)]) (fun u => zs.length - u) 0 ⟨Nat.zero_le _, fun j hj => absurd hj (Nat.not_lt_zero _)⟩ (by repeat (first | exact True.intro | refine And.intro rfl ?_)) ?_
      intro u hu
      refine TC.seq ?_
      refine TC.seq ?_
      refine TC.region ?_
      refine TL.pure (PV.move rfl) rfl (by decide) ?_
      refine TL.pure (PV.move rfl) rfl (by decide) ?_
      refine TL.pure (PV.len rfl Tb.sl_23) rfl (by decide) ?_
      refine TL.pure (PV.lss rfl rfl) rfl (by decide) ?_
      refine TL.nil ?_
      refine TQ.thenC ?_
      first | refine TC.condD rfl (fun hlt => ?_) (fun hlt => ?_) | refine TC.cond rfl (fun hlt => ?_) (fun hlt => ?_)
      · skip
        refine TC.skip ?_
        refine TQ.thenC ?_
        refine TC.seq ?_
        refine TC.block ?_
        refine TC.seq ?_
        obtain ⟨q2, hq2p, hq2⟩ := hz u (by omega)
        refine TC.region ?_
        refine TL.pure (PV.move rfl) rfl (by decide) ?_
        refine TL.pure (PV.move rfl) rfl (by decide) ?_
        refine TL.pure (PV.indexA rfl hq2p rfl Tb.elm_23 rfl (by omega)) rfl (by decide) ?_
        refine TL.pure (PV.loadOld rfl Tb.one_3 hq2) rfl (by decide) ?_
        refine TL.pure (PV.move rfl) rfl (by decide) ?_
        refine TL.pure (PV.len rfl Tb.sl_23) rfl (by decide) ?_
        refine TL.pure (PV.sub rfl rfl (by omega)) rfl (by decide) ?_
        refine TL.call rfl Tb.gofn_62 (fun a w hs => within_ok w _ _ _) rfl (by decide) (fun _ _ => ?_)
        refine TL.pure ((by first | exact PV.notD rfl | exact PV.not rfl)) rfl (by decide) ?_
        refine TL.nil ?_
        refine TQ.thenC ?_
        first | refine TC.condD rfl (fun hnh => ?_) (fun hnh => ?_) | refine TC.cond rfl (fun hnh => ?_) (fun hnh => ?_)
        · skip
          refine TC.seq ?_
          refine TC.region ?_
          refine TL.pure (PV.assign rfl) rfl (by decide) ?_
          refine TL.pure (PV.assign rfl) rfl (by decide) ?_
          refine TL.pure (PV.assign rfl) rfl (by decide) ?_
          refine TL.nil ?_
          refine TQ.thenC ?_
          refine TC.ret ?_
          refine TQ.blkR ?_
          refine TQ.thenR ?_
          refine TQ.thenR ?_
          refine TQ.blkR ?_
          refine TQ.thenR ?_
          refine TQ.retE3 rfl rfl rfl rfl ?_
          exact ⟨none, by rw [cl_4 hbad (by omega) (he_no (k := u) (by omega) (by omega))]; rfl, by rw [cl_4 hbad (by omega) (he_no (k := u) (by omega) (by omega))]; exact goI_nil, by rw [cl_4 hbad (by omega) (he_no (k := u) (by omega) (by omega))]; exact List.nil_sublist _⟩
        · skip
          refine TC.skip ?_
          refine TQ.blkN ?_
          refine TQ.thenC ?_
          refine TC.region ?_
          refine TL.pure (PV.move rfl) rfl (by decide) ?_
          refine TL.pure (PV.add rfl rfl (by omega)) rfl (by decide) ?_
          refine TL.pure (PV.assign rfl) rfl (by decide) ?_
          refine TL.nil ?_
          refine TQ.thenN ?_
          refine TQ.backK (u + 1) (by repeat (first | exact True.intro | refine And.intro rfl ?_)) (by repeat (first | exact True.intro | refine And.intro rfl ?_)) (by repeat (first | exact List.Sublist.slnil | exact List.nil_sublist _ | exact List.Sublist.refl _ | refine List.Sublist.cons_cons _ ?_ | refine List.Sublist.cons _ ?_ | refine List.Sublist.trans ?_ (List.sublist_append_right _ _))) ⟨by omega, fun j hj => if e : j < u then hu.2 j e else (show u = j by omega) ▸ (by omega)⟩ (by omega)
      · skip
        refine TC.exit ?_
        refine TQ.thenE ?_
        refine TQ.thenE ?_
        refine TQ.blkS ?_
        refine TQ.thenC ?_
        refine TC.seq ?_
        have hhz : ∀ j, j < zs.length → 0 ≤ zs.getD j 0 ∧ zs.getD j 0 < gs.length := fun j hj => hu.2 j (by omega)
        have hhe := he_yes hhz
        refine TC.region ?_
        refine TL.buildSlice0 Tb.sl_23 Tb.zi_3 rfl (by decide) (fun bA hbA => ?_)
        refine TL.pure (PV.move rfl) rfl (by decide) ?_
        refine TL.append0 (m := xs.length) (news := ival xs) (bA := bA) rfl rfl Tb.sl_23 Tb.zi_3 rfl (by repeat (first | exact Take.head _ | apply Take.tail | apply Take.appR)) (fun w' hN2 => ints_src Tb.sl_23 rfl (hx.new hN2)) (by omega) (by omega) rfl (by decide) (fun h9 ho9 => ?_)
        refine TL.pure (PV.assign rfl) rfl (by decide) ?_
        refine TL.nil ?_
        refine TQ.thenC ?_
        refine TC.seq ?_
        refine TC.seq ?_
        refine TC.region ?_
        refine TL.pure (PV.assign rfl) rfl (by decide) ?_
        refine TL.nil ?_
        refine TQ.thenC ?_
        refine TC.block ?_
        -- live and written in the loop, not told: [6, 7, 8]
        refine TC.loopK [2, 3] (X := Nat × HD) (fun k => k.1 ≤ zs.length ∧ gok k.2 xs.length 1 (ival (tpL ls gs xs zs k.1)) ∧ ∀ j, j < k.1 → okA ls gs xs zs j = true) (fun k => [(12, .int .i64 k.1), (11, gval k.2 xs.length)]) (fun k => gbI (k.2, tpL ls gs xs zs k.1) ++ [(b0, Obj.cells #[.slice p ls.length cp, .slice q gs.length cq] 25 (0, 0))]) (fun k => zs.length - k.1) (0, h9) ⟨Nat.zero_le _, ho9, fun j hj => absurd hj (Nat.not_lt_zero _)⟩ (by repeat (first | exact True.intro | refine And.intro rfl ?_)) (List.Sublist.append_left (List.sublist_append_right [_] _) _) ?_
        intro k hk
        refine TC.seq ?_
        refine TC.seq ?_
        refine TC.region ?_
        refine TL.pure (PV.move rfl) rfl (by decide) ?_
        refine TL.pure (PV.move rfl) rfl (by decide) ?_
        refine TL.pure (PV.len rfl Tb.sl_23) rfl (by decide) ?_
        refine TL.pure (PV.lss rfl rfl) rfl (by decide) ?_
        refine TL.nil ?_
        refine TQ.thenC ?_
        first | refine TC.condD rfl (fun hlt2 => ?_) (fun hlt2 => ?_) | refine TC.cond rfl (fun hlt2 => ?_) (fun hlt2 => ?_)
        · skip
          refine TC.skip ?_
          refine TQ.thenC ?_
          refine TC.seq ?_
          refine TC.block ?_
          refine TC.seq ?_
          refine TC.seq ?_
          obtain ⟨q2, hq2p, hq2⟩ := hz k.1 (by omega)
          have hzk := hhz k.1 (by omega)
          have hzt : zs.getD k.1 0 = ((zs.getD k.1 0).toNat : Int) := by omega
          refine TC.any Tb.mixed rfl rfl ?_
          refine TA.op (OpOK.pure (PV.move rfl) rfl (by decide)) (by decide) ?_
          refine TA.op (OpOK.pure (PV.move rfl) rfl (by decide)) (by decide) ?_
          refine TA.op (OpOK.pure (PV.move rfl) rfl (by decide)) (by decide) ?_
          refine TA.op (OpOK.pure (PV.indexA rfl hq2p rfl Tb.elm_23 rfl (by omega)) rfl (by decide)) (by decide) ?_
          refine TA.op (OpOK.pure (PV.loadOld rfl Tb.one_3 hq2) rfl (by decide)) (by decide) ?_
          refine TA.op (OpOK.pure (PV.indexG (j := (zs.getD k.1 0).toNat) rfl rfl hk.2.1 Tb.elm_23 (by omega) (by omega)) rfl (by decide)) (by decide) ?_
          refine TA.op (OpOK.pure (PV.loadGI (y := (k.2, tpL ls gs xs zs k.1)) (j := (zs.getD k.1 0).toNat) (v := (tpL ls gs xs zs k.1).getD (zs.getD k.1 0).toNat 0) rfl Tb.one_3 (fun yy hyy => by repeat (first | exact List.mem_append_left _ hyy | exact List.mem_append_left _ (List.mem_append_right _ hyy) | exact List.mem_append_left _ (List.mem_append_left _ hyy) | refine List.mem_append_right _ ?_ | refine List.Mem.tail _ ?_)) (go_lenI hk.2.1 (tpL_len _ _ _ _ _)) (by show _ < (tpL ls gs xs zs k.1).length; rw [tpL_len]; omega) rfl) rfl (by decide)) (by decide) ?_
          refine TA.op (OpOK.pure (PV.loadBox rfl Tb.agg_25 (by repeat (first | exact List.Mem.head _ | refine List.Mem.tail _ ?_ | refine List.mem_append_right _ ?_)) rfl) rfl (by decide)) (by decide) ?_
          refine TA.op (OpOK.pure (PV.move rfl) rfl (by decide)) (by decide) ?_
          refine TA.op (OpOK.pure (PV.move rfl) rfl (by decide)) (by decide) ?_
          refine TA.op (OpOK.pure (PV.indexA rfl hq2p rfl Tb.elm_23 rfl (by omega)) rfl (by decide)) (by decide) ?_
          refine TA.op (OpOK.pure (PV.loadOld rfl Tb.one_3 hq2) rfl (by decide)) (by decide) ?_
          refine TA.op (OpOK.call rfl Tb.gofn_63 (fun a w hs => (by rw [hzt]; exact rlimit_ok w _ _ _ (hr.new hs.new) _ _ _ (hg.new hs.new) hB (zs.getD k.1 0).toNat (by omega))) rfl (by decide)) (by decide) ?_
          refine TA.op (OpOK.pure (PV.lss rfl rfl) rfl (by decide)) (by decide) ?_
          show TQ _ _ _ _ _
          refine TQ.thenC ?_
          first | refine TC.condD rfl (fun hno => ?_) (fun hno => ?_) | refine TC.cond rfl (fun hno => ?_) (fun hno => ?_)
          · skip
            refine TC.seq ?_
            refine TC.region ?_
            refine TL.pure (PV.move rfl) rfl (by decide) ?_
            refine TL.pure (PV.assign rfl) rfl (by decide) ?_
            refine TL.pure (PV.assign rfl) rfl (by decide) ?_
            refine TL.pure (PV.assign rfl) rfl (by decide) ?_
            refine TL.nil ?_
            refine TQ.thenC ?_
            refine TC.ret ?_
            refine TQ.thenR ?_
            refine TQ.blkR ?_
            refine TQ.thenR ?_
            refine TQ.thenR ?_
            refine TQ.blkR ?_
            refine TQ.thenR ?_
            refine TQ.retE3 rfl rfl rfl rfl ?_
            exact ⟨none, by rw [cl_6 (k := k.1) hbad (by omega) hhe (by omega) hk.2.2 (okA_f (by omega))]; rfl, by rw [cl_6 (k := k.1) hbad (by omega) hhe (by omega) hk.2.2 (okA_f (by omega))]; exact goI_nil, by rw [cl_6 (k := k.1) hbad (by omega) hhe (by omega) hk.2.2 (okA_f (by omega))]; exact List.nil_sublist _⟩
          · skip
            refine TC.skip ?_
            refine TQ.thenC ?_
            have htb := tpL_bd (zs := zs) hB hx0 k.1 (fun j hj => hhz j (by omega))
            refine TC.mixE [true, false, true, true, true, true, false, false] _ 3 Tb.mixed rfl (by kernel_rfl) (by kernel_rfl) (by kernel_rfl) (by kernel_rfl) (List.Sublist.refl _) ?_
            refine TY.op (SOK.pure (PV.loadBox rfl Tb.agg_25 (by repeat (first | exact List.Mem.head _ | refine List.Mem.tail _ ?_ | refine List.mem_append_right _ ?_)) rfl) rfl) (by decide) ?_
            refine TY.no ?_
            refine TY.op (SOK.pure (PV.move rfl) rfl) (by decide) ?_
            refine TY.op (SOK.pure (PV.move rfl) rfl) (by decide) ?_
            refine TY.op (SOK.pure (PV.indexA rfl hq2p rfl Tb.elm_23 rfl (by omega)) rfl) (by decide) ?_
            refine TY.op (SOK.pure (PV.loadOld rfl Tb.one_3 hq2) rfl) (by decide) ?_
            refine TY.no ?_
            refine TY.no ?_
            refine TY.fin ?_
            refine TX.step [1] (by kernel_rfl) (by decide) ⟨⟨_, rfl, ?_⟩, trivial⟩
            refine TL.pure (PV.move rfl) rfl (by decide) ?_
            refine TL.nil ?_
            refine TX.next (.inl (by repeat (first | exact List.Sublist.slnil | exact List.nil_sublist _ | exact List.Sublist.refl _ | refine List.Sublist.cons_cons _ ?_ | refine List.Sublist.cons _ ?_ | refine List.Sublist.trans ?_ (List.sublist_append_right _ _)))) ?_
            refine TX.step [6] (by kernel_rfl) (by decide) ⟨⟨_, rfl, ?_⟩, trivial⟩
            refine TL.call rfl Tb.gofn_75 (fun a w hs => (by rw [gval_eq hk.2.1, hzt]; exact rtopple_ok w _ _ _ (hr.new hs.new) _ _ _ (hg.new hs.new) hB _ _ (tpL ls gs xs zs k.1) (IntsAt.g (x := (k.2, tpL ls gs xs zs k.1)) hs.new (fun yy hyy => by repeat (first | exact List.mem_append_left _ hyy | exact List.mem_append_left _ (List.mem_append_right _ hyy) | exact List.mem_append_left _ (List.mem_append_left _ hyy) | refine List.mem_append_right _ ?_ | refine List.Mem.tail _ ?_)) (go_lenI hk.2.1 (tpL_len _ _ _ _ _))) _ (tpL_len _ _ _ _ _) ((tpL_len _ _ _ _ _).trans hxl) (zs.getD k.1 0).toNat (by omega) 1 (by omega) (fun j => by have := htb j; omega))) rfl (by decide) (fun h8 hh8 => ?_)
            refine TL.nil ?_
            refine TX.next (.inl (by repeat (first | exact List.Sublist.slnil | exact List.nil_sublist _ | exact List.Sublist.refl _ | refine List.Sublist.cons_cons _ ?_ | refine List.Sublist.cons _ ?_ | refine List.Sublist.trans ?_ (List.sublist_append_right _ _)))) ?_
            refine TX.step [7] (by kernel_rfl) (by decide) ⟨⟨_, rfl, ?_⟩, trivial⟩
            refine TL.pure (PV.assign rfl) rfl (by decide) ?_
            refine TL.nil ?_
            refine TX.next (.inr (by kernel_rfl)) ?_
            refine TX.done (by kernel_rfl) ?_
            refine TQ.blkN ?_
            refine TQ.thenC ?_
            refine TC.region ?_
            refine TL.pure (PV.move rfl) rfl (by decide) ?_
            refine TL.pure (PV.add rfl rfl (by omega)) rfl (by decide) ?_
            refine TL.pure (PV.assign rfl) rfl (by decide) ?_
            refine TL.nil ?_
            refine TQ.thenN ?_
            refine TQ.backK (k.1 + 1, h8) (by repeat (first | exact True.intro | refine And.intro rfl ?_)) (by repeat (first | exact True.intro | refine And.intro rfl ?_)) (List.Sublist.append_left (List.sublist_append_right _ _) _) ⟨by simp only; omega, hh8, fun j hj => if e : j < k.1 then hk.2.2 j e else (show k.1 = j by simp only at hj; omega) ▸ (okA_t (by omega))⟩ (by simp only; omega)
        · skip
          refine TC.exit ?_
          refine TQ.thenE ?_
          refine TQ.thenE ?_
          refine TQ.blkS ?_
          refine TQ.thenC ?_
          refine TC.seq ?_
          refine TC.region ?_
          refine TL.pure (PV.move rfl) rfl (by decide) ?_
          refine TL.pure (PV.move rfl) rfl (by decide) ?_
          refine TL.pure (PV.len rfl Tb.sl_23) rfl (by decide) ?_
          refine TL.pure (PV.assign rfl) rfl (by decide) ?_
          refine TL.pure (PV.assign rfl) rfl (by decide) ?_
          refine TL.pure (PV.assign rfl) rfl (by decide) ?_
          refine TL.nil ?_
          refine TQ.thenC ?_
          refine TC.ret ?_
          refine TQ.retE3 rfl rfl rfl rfl ?_
          obtain ⟨k, hk9⟩ := k
          obtain rfl : k = zs.length := by simp only at hk hlt2; omega
          have h7 := cl_0 hbad (by omega) hhe hk.2.2
          exact ⟨hk9, by rw [h7]; dsimp only; rw [tpL_len], by rw [h7]; exact go_lenI hk.2.1 (tpL_len _ _ _ _ _), by rw [h7]; exact List.sublist_append_left _ _⟩

end Go.Proofs.Ytgafpkcnhpoobaa
