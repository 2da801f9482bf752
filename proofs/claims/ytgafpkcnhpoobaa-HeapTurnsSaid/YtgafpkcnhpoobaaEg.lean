/- Heapings settle, by the reference: contract. -/
import Derived.Test.YtgafpkcnhpoobaaEf
set_option linter.unusedVariables false
set_option linter.unusedSimpArgs false
namespace Go.Proofs.Ytgafpkcnhpoobaa
open Go.Sx Go.RowKit Go.Sand

theorem not_calm {ls : List (List Int)} {gs xs : List Int} (h : (!calmB ls gs xs) = true) (hl : xs.length = gs.length) : ∃ j, j < gs.length ∧ limI ls gs j ≤ xs.getD j 0 :=
  Classical.byContradiction fun hno => by
    rw [calm_yes (fun k hk => Classical.byContradiction fun h2 => hno ⟨k, by omega, by omega⟩)] at h
    cases h
/-- A round of the reference, from the last heap to the first. -/
structure RI (ls : List (List Int)) (gs xs m0 : List Int) (u : Nat) (c m : List Int) : Prop where
  le : u ≤ gs.length
  r : RunL ls gs xs c m
  up : sm gs.length (gd m0) ≤ sm gs.length (gd m)
  go : sm gs.length (gd m0) < sm gs.length (gd m) ∨ ∃ j, j < u ∧ limI ls gs j ≤ c.getD j 0
theorem tp_zero (ls : List (List Int)) (gs xs : List Int) (i : Nat) : tpN ls gs xs i 0 = xs := by
  refine (mk_eq rfl fun j hj => ?_).symm
  simp
theorem RI.step {ls : List (List Int)} {gs xs m0 c m : List Int} {u : Nat} (hB : HB ls gs) (h : RI ls gs xs m0 u c m) (hu : 0 < u) {k : Int} (hk : 0 ≤ k) (hle : k * limI ls gs (u - 1) ≤ c.getD (u - 1) 0) (hz : k = 0 → c.getD (u - 1) 0 < limI ls gs (u - 1)) :
    RI ls gs xs m0 (u - 1) (tpN ls gs c (u - 1) k) (m.set (u - 1) (m.getD (u - 1) 0 + k)) := by
  have h1 := h.le
  have h2 := sum_put (m := m) (i := u - 1) h.r.ml (by omega) k
  have h3 := h.up
  refine ⟨by omega, h.r.step hB (by omega) hk hle, by omega, ?_⟩
  rcases h.go with h4 | ⟨j, hj, h4⟩
  · exact .inl (by omega)
  · by_cases e : k = 0
    · refine .inr ⟨j, ?_, by rw [e, tp_zero]; exact h4⟩
      have h5 := hz e
      have : j ≠ u - 1 := fun h6 => by rw [h6] at h4; omega
      omega
    · exact .inl (by omega)


set_option maxRecDepth 100000 in
set_option maxHeartbeats 2000000 in
theorem rsettle_ok (w0 : World) (p : Option Addr) (cp : Nat) (ls : List (List Int)) (hr : LsAt w0 p ls) (q : Option Addr) (cq : Nat) (gs : List Int) (hg : IntsAt w0 q gs) (hB : HB ls gs) (pl : Option Addr) (cl : Nat) (xs : List Int) (hx : IntsAt w0 pl xs) (N : Nat) (hN : xs.length = N) (hxl : xs.length = gs.length) (hx0 : ∀ k, 0 ≤ xs.getD k 0 ∧ xs.getD k 0 ≤ 1000) :
    Calls Try.prog 77 #[hv p ls.length cp q gs.length cq, .slice pl N cl] w0 (Post (X := HD × Nat × List Int × List Int) (fun y => .tuple #[gval y.1 gs.length, .slice (some ⟨y.2.1, 0, none⟩) gs.length gs.length, .int .i64 (grI gs y.2.2.2)]) (fun y => StbL ls gs xs y.2.2.1 y.2.2.2 ∧ gok y.1 gs.length 1 (ival y.2.2.1)) (fun y => gbI (y.1, y.2.2.1) ++ [(y.2.1, Obj.cells (intsA y.2.2.2) 3 (0, 0))]) w0) := by
  have hn9 := hB.n
  obtain rfl : N = gs.length := by omega
  refine calls Try.func77 rfl (n := 62) rfl (by simp) ?_
  refine TC.seq ?_
  refine TC.region ?_
  refine TL.box rfl rfl (by decide) (fun b0 hb0 => ?_)
  refine TL.pure (PV.assign rfl) rfl (by decide) ?_
  refine TL.pure (PV.assign rfl) rfl (by decide) ?_
  refine TL.pure (PV.assign rfl) rfl (by decide) ?_
  refine TL.nil ?_
  refine TQ.thenC ?_
  refine TC.seq ?_
  refine TC.region ?_
  refine TL.buildSlice0 Tb.sl_23 Tb.zi_3 rfl (by decide) (fun bA hbA => ?_)
  refine TL.pure (PV.move rfl) rfl (by decide) ?_
  refine TL.append0 (m := gs.length) (news := ival xs) (bA := bA) rfl rfl Tb.sl_23 Tb.zi_3 rfl (by repeat (first | exact Take.head _ | apply Take.tail | apply Take.appR)) (fun w' hN2 => ints_src Tb.sl_23 hxl (hx.new hN2)) (by omega) (by omega) rfl (by decide) (fun h9 ho9 => ?_)
  refine TL.pure (PV.assign rfl) rfl (by decide) ?_
  refine TL.nil ?_
  refine TQ.thenC ?_
  refine TC.seq ?_
  refine TC.region ?_
  refine TL.pure (PV.move rfl) rfl (by decide) ?_
  refine TL.pure (PV.lenG rfl ho9 Tb.sl_23) rfl (by decide) ?_
  refine TL.makeI (k := gs.length) rfl rfl Tb.sl_23 Tb.zi_3 rfl (by omega) (by omega) rfl (by decide) (fun bT hbT => ?_)
  refine TL.pure (PV.assign rfl) rfl (by decide) ?_
  refine TL.nil ?_
  refine TQ.thenC ?_
  refine TC.seq ?_
  refine TC.region ?_
  refine TL.pure (PV.assign rfl) rfl (by decide) ?_
  refine TL.nil ?_
  refine TQ.thenC ?_
  refine TC.seq ?_
  refine TC.block ?_
  refine TC.lit [(2, _), (4, _), (5, _), (6, _), (7, _), (8, _), (9, _)] (by repeat (first | exact True.intro | refine And.intro rfl ?_)) ?_
  refine TC.perm (G' := gbI (h9, xs) ++ ((bT, Obj.cells (intsA (List.replicate gs.length 0)) 3 (0, 0)) :: [(b0, Obj.cells #[.slice p ls.length cp, .slice q gs.length cq] 25 (0, 0))])) List.perm_middle ?_
  refine TC.loopK [2, 4, 5, 6, 8] (X := HD × List Int × List Int) (fun x => RunL ls gs xs x.2.1 x.2.2 ∧ gok x.1 gs.length 1 (ival x.2.1)) (fun x => [(7, gval x.1 gs.length), (9, .int .i64 (grI gs x.2.2))]) (fun x => gbI (x.1, x.2.1) ++ ((bT, Obj.cells (intsA (x.2.2)) 3 (0, 0)) :: [(b0, Obj.cells #[.slice p ls.length cp, .slice q gs.length cq] 25 (0, 0))])) (fun x => (130000 - sm gs.length (gd x.2.2)).toNat) (h9, xs, List.replicate gs.length 0) ⟨RunL.start hxl fun k => (hx0 k).1, ho9⟩ (by refine And.intro rfl (And.intro ?_ True.intro); show some (Value.int .i64 _) = some (Value.int .i64 _); rw [gr_zero]) (by repeat (first | exact List.Sublist.slnil | exact List.nil_sublist _ | exact List.Sublist.refl _ | refine List.Sublist.cons_cons _ ?_ | refine List.Sublist.cons _ ?_ | refine List.Sublist.trans ?_ (List.sublist_append_right _ _))) ?_
  intro x hx9
  have hcl := hx9.1.cl
  refine TC.lit [(2, _), (4, _), (5, _), (6, _), (7, _), (8, _), (9, _)] (by repeat (first | exact True.intro | refine And.intro rfl ?_)) ?_
  refine TC.seq ?_
  refine TC.seq ?_
  refine TC.region ?_
  refine TL.pure (PV.loadBox rfl Tb.agg_25 (by repeat (first | exact List.Mem.head _ | refine List.Mem.tail _ ?_ | refine List.mem_append_right _ ?_)) rfl) rfl (by decide) ?_
  refine TL.pure (PV.move rfl) rfl (by decide) ?_
  refine TL.call rfl Tb.gofn_70 (fun a w hs => (by rw [gval_eq hx9.2]; exact calm_ok w _ _ _ (hr.new hs.new) _ _ _ (hg.new hs.new) hB _ _ _ (IntsAt.g (x := (x.1, x.2.1)) hs.new (fun yy hyy => by repeat (first | exact List.mem_append_left _ hyy | refine List.mem_append_right _ ?_ | refine List.Mem.tail _ ?_)) (go_lenI hx9.2 hcl)) _ hcl hcl)) rfl (by decide) (fun _ _ => ?_)
  refine TL.pure ((by first | exact PV.notD rfl | exact PV.not rfl)) rfl (by decide) ?_
  refine TL.nil ?_
  refine TQ.thenC ?_
  first | refine TC.condD rfl (fun hcalm => ?_) (fun hcalm => ?_) | refine TC.cond rfl (fun hcalm => ?_) (fun hcalm => ?_)
  · skip
    refine TC.skip ?_
    refine TQ.thenC ?_
    refine TC.block ?_
    refine TC.seq ?_
    refine TC.region ?_
    refine TL.pure (PV.move rfl) rfl (by decide) ?_
    refine TL.pure (PV.lenG rfl hx9.2 Tb.sl_23) rfl (by decide) ?_
    refine TL.pure (PV.sub rfl rfl (by omega)) rfl (by decide) ?_
    refine TL.pure (PV.assign rfl) rfl (by decide) ?_
    refine TL.nil ?_
    refine TQ.thenC ?_
    refine TC.block ?_
    refine TC.lit [(2, _), (4, _), (5, _), (6, _), (7, _), (8, _), (9, _), (10, _)] (by repeat (first | exact True.intro | refine And.intro rfl ?_)) ?_
    refine TC.loopK [2, 4, 5, 6, 8] (X := Nat × HD × List Int × List Int) (fun y => RI ls gs xs x.2.2 y.1 y.2.2.1 y.2.2.2 ∧ gok y.2.1 gs.length 1 (ival y.2.2.1)) (fun y => [(10, .int .i64 ((y.1 : Int) - 1)), (7, gval y.2.1 gs.length), (9, .int .i64 (grI gs y.2.2.2))]) (fun y => gbI (y.2.1, y.2.2.1) ++ ((bT, Obj.cells (intsA (y.2.2.2)) 3 (0, 0)) :: [(b0, Obj.cells #[.slice p ls.length cp, .slice q gs.length cq] 25 (0, 0))])) (fun y => y.1) (gs.length, x.1, x.2.1, x.2.2) ⟨⟨Nat.le_refl _, hx9.1, Int.le_refl _, .inr (not_calm hcalm hcl)⟩, hx9.2⟩ (by repeat (first | exact True.intro | refine And.intro rfl ?_)) (by repeat (first | exact List.Sublist.slnil | exact List.nil_sublist _ | exact List.Sublist.refl _ | refine List.Sublist.cons_cons _ ?_ | refine List.Sublist.cons _ ?_ | refine List.Sublist.trans ?_ (List.sublist_append_right _ _))) ?_
    intro y hy
    have hyle := hy.1.le
    have hycl := hy.1.r.cl
    have hyml := hy.1.r.ml
    have hbd := hy.1.r.bd hB hx0
    have hgb := gr_bd hB hy.1.r hx0
    refine TC.lit [(2, _), (4, _), (5, _), (6, _), (7, _), (8, _), (9, _), (10, _)] (by repeat (first | exact True.intro | refine And.intro rfl ?_)) ?_
    refine TC.seq ?_
    refine TC.seq ?_
    refine TC.region ?_
    refine TL.pure (PV.move rfl) rfl (by decide) ?_
    refine TL.pure (PV.geq rfl rfl) rfl (by decide) ?_
    refine TL.nil ?_
    refine TQ.thenC ?_
    first | refine TC.condD rfl (fun hge => ?_) (fun hge => ?_) | refine TC.cond rfl (fun hge => ?_) (fun hge => ?_)
    · skip
      refine TC.skip ?_
      refine TQ.thenC ?_
      refine TC.seq ?_
      refine TC.block ?_
      refine TC.seq ?_
      have hui : ((y.1 : Int) - 1) = ((y.1 - 1 : Nat) : Int) := by omega
      have hck := hbd.2.1 (y.1 - 1) (by omega)
      have hlk := hB.lim (i := y.1 - 1) (by omega)
      have hqb := quo_bd (a := max (y.2.2.1.getD (y.1 - 1) 0) 0) (by omega) hlk.1
      have hmk := hbd.1 (y.1 - 1) (by omega)
      have hnx := hy.1.step hB (by omega) (k := ((max (y.2.2.1.getD (y.1 - 1) 0) 0).tdiv (limI ls gs (y.1 - 1)))) hqb.1 (by omega) (fun e => by have := hqb.2.2.2 e; omega)
      refine TC.any Tb.mixed rfl rfl ?_
      refine TA.op (OpOK.pure (PV.move rfl) rfl (by decide)) (by decide) ?_
      refine TA.op (OpOK.pure (PV.move rfl) rfl (by decide)) (by decide) ?_
      refine TA.op (OpOK.pure (PV.indexG (j := y.1 - 1) rfl rfl hy.2 Tb.elm_23 (by omega) (by omega)) rfl (by decide)) (by decide) ?_
      refine TA.op (OpOK.pure (PV.loadGI (y := (y.2.1, y.2.2.1)) (j := y.1 - 1) (v := y.2.2.1.getD (y.1 - 1) 0) rfl Tb.one_3 (fun yy hyy => by repeat (first | exact List.mem_append_left _ hyy | refine List.mem_append_right _ ?_ | refine List.Mem.tail _ ?_)) (go_lenI hy.2 hycl) (by show y.1 - 1 < y.2.2.1.length; omega) rfl) rfl (by decide)) (by decide) ?_
      refine TA.op (OpOK.pure (PV.max rfl rfl Tb.int_3) rfl (by decide)) (by decide) ?_
      refine TA.op (OpOK.pure (PV.loadBox rfl Tb.agg_25 (by repeat (first | exact List.Mem.head _ | refine List.Mem.tail _ ?_ | refine List.mem_append_right _ ?_)) rfl) rfl (by decide)) (by decide) ?_
      refine TA.op (OpOK.pure (PV.move rfl) rfl (by decide)) (by decide) ?_
      refine TA.op (OpOK.call rfl Tb.gofn_63 (fun a w hs => (by rw [hui]; exact rlimit_ok w _ _ _ (hr.new hs.new) _ _ _ (hg.new hs.new) hB (y.1 - 1) (by omega))) rfl (by decide)) (by decide) ?_
      refine TA.op (OpOK.pure (PV.quo rfl rfl (by omega) (by omega)) rfl (by decide)) (by decide) ?_
      refine TA.op (OpOK.pure (PV.assign rfl) rfl (by decide)) (by decide) ?_
      show TQ _ _ _ _ _
      refine TQ.thenC ?_
      refine TC.seq ?_
      refine TC.region ?_
      refine TL.pure (PV.loadBox rfl Tb.agg_25 (by repeat (first | exact List.Mem.head _ | refine List.Mem.tail _ ?_ | refine List.mem_append_right _ ?_)) rfl) rfl (by decide) ?_
      refine TL.pure (PV.move rfl) rfl (by decide) ?_
      refine TL.pure (PV.move rfl) rfl (by decide) ?_
      refine TL.pure (PV.move rfl) rfl (by decide) ?_
      refine TL.call rfl Tb.gofn_75 (fun a w hs => (by rw [gval_eq hy.2, hui]; exact rtopple_ok w _ _ _ (hr.new hs.new) _ _ _ (hg.new hs.new) hB _ _ _ (IntsAt.g (x := (y.2.1, y.2.2.1)) hs.new (fun yy hyy => by repeat (first | exact List.mem_append_left _ hyy | refine List.mem_append_right _ ?_ | refine List.Mem.tail _ ?_)) (go_lenI hy.2 hycl)) _ hycl hycl (y.1 - 1) (by omega) ((max (y.2.2.1.getD (y.1 - 1) 0) 0).tdiv (limI ls gs (y.1 - 1))) (by omega) (big_of hycl hbd.2.1))) rfl (by decide) (fun h2 hh2 => ?_)
      refine TL.pure (PV.assign rfl) rfl (by decide) ?_
      refine TL.nil ?_
      refine TQ.thenC ?_
      refine TC.seq ?_
      refine TC.region ?_
      refine TL.pure (PV.move rfl) rfl (by decide) ?_
      refine TL.pure (PV.move rfl) rfl (by decide) ?_
      refine TL.pure (PV.index1 (j := y.1 - 1) rfl rfl Tb.elm_23 (by omega) (by omega)) rfl (by decide) ?_
      refine TL.pure (PV.loadI rfl Tb.one_3 (by repeat (first | exact List.Mem.head _ | refine List.Mem.tail _ ?_ | refine List.mem_append_right _ ?_)) (by omega)) rfl (by decide) ?_
      refine TL.pure (PV.move rfl) rfl (by decide) ?_
      refine TL.pure (PV.add rfl rfl (by omega)) rfl (by decide) ?_
      refine TL.pure (PV.index1 (j := y.1 - 1) rfl rfl Tb.elm_23 (by omega) (by omega)) rfl (by decide) ?_
      refine TL.storeIv (j := y.1 - 1) (xs' := (y.2.2.2.set (y.1 - 1) (y.2.2.2.getD (y.1 - 1) 0 + ((max (y.2.2.1.getD (y.1 - 1) 0) 0).tdiv (limI ls gs (y.1 - 1)))))) rfl rfl Tb.cells_3 rfl (by repeat (first | exact Upd.head _ | apply Upd.tail | apply Upd.appR)) (by omega) rfl rfl ?_
      refine TL.nil ?_
      refine TQ.thenC ?_
      obtain ⟨q3, hq3p, hq3⟩ := hg (y.1 - 1) (by omega)
      have hkg := mul_bd (t := ((max (y.2.2.1.getD (y.1 - 1) 0) 0).tdiv (limI ls gs (y.1 - 1)))) (T := 1000000) (by omega) (hB.gat (y.1 - 1))
      refine TC.region ?_
      refine TL.pure (PV.move rfl) rfl (by decide) ?_
      refine TL.pure (PV.move rfl) rfl (by decide) ?_
      refine TL.pure (PV.fieldAddr rfl Tb.fo_25_1) rfl (by decide) ?_
      refine TL.pure (PV.load rfl Tb.one_23 (by repeat (first | exact List.Mem.head _ | refine List.Mem.tail _ ?_ | refine List.mem_append_right _ ?_)) rfl) rfl (by decide) ?_
      refine TL.pure (PV.move rfl) rfl (by decide) ?_
      refine TL.pure (PV.indexA (j := y.1 - 1) rfl hq3p rfl Tb.elm_23 (by omega) (by omega)) rfl (by decide) ?_
      refine TL.pure (PV.loadOld rfl Tb.one_3 hq3) rfl (by decide) ?_
      refine TL.pure (PV.mul rfl rfl (by omega)) rfl (by decide) ?_
      refine TL.pure (PV.add rfl rfl (by omega)) rfl (by decide) ?_
      refine TL.pure (PV.assign rfl) rfl (by decide) ?_
      refine TL.nil ?_
      refine TQ.blkN ?_
      refine TQ.thenC ?_
      refine TC.region ?_
      refine TL.pure (PV.move rfl) rfl (by decide) ?_
      refine TL.pure (PV.sub rfl rfl (by omega)) rfl (by decide) ?_
      refine TL.pure (PV.assign rfl) rfl (by decide) ?_
      refine TL.nil ?_
      refine TQ.thenN ?_
      refine TQ.backK (y.1 - 1, h2, (tpN ls gs y.2.2.1 (y.1 - 1) ((max (y.2.2.1.getD (y.1 - 1) 0) 0).tdiv (limI ls gs (y.1 - 1)))), (y.2.2.2.set (y.1 - 1) (y.2.2.2.getD (y.1 - 1) 0 + ((max (y.2.2.1.getD (y.1 - 1) 0) 0).tdiv (limI ls gs (y.1 - 1)))))) (by refine And.intro ?_ (And.intro rfl (And.intro ?_ True.intro)); (show some (Value.int .i64 _) = some (Value.int .i64 _); congr 2; (try simp only); omega); (show some (Value.int .i64 _) = some (Value.int .i64 _); congr 2; exact (gr_put hyml (by omega) _).symm)) (by repeat (first | exact True.intro | refine And.intro rfl ?_)) (List.Sublist.append_left (List.sublist_append_right _ _) _) ⟨hnx, hh2⟩ (by simp only; omega)
    · skip
      refine TC.exit ?_
      refine TQ.thenE ?_
      refine TQ.thenE ?_
      refine TQ.blkS ?_
      refine TQ.blkN ?_
      refine TQ.thenN ?_
      refine TQ.backK (y.2.1, y.2.2.1, y.2.2.2) (by refine And.intro rfl (And.intro rfl True.intro)) (by repeat (first | exact True.intro | refine And.intro rfl ?_)) (by repeat (first | exact List.Sublist.slnil | exact List.nil_sublist _ | exact List.Sublist.refl _ | refine List.Sublist.cons_cons _ ?_ | refine List.Sublist.cons _ ?_ | refine List.Sublist.trans ?_ (List.sublist_append_right _ _))) ⟨hy.1.r, hy.2⟩ (by have h8 := (hy.1.r.bd hB hx0).2.2; rcases hy.1.go with h7 | ⟨j, hj, _⟩; (simp only at h7 h8 ⊢; omega); omega)
  · skip
    refine TC.exit ?_
    refine TQ.thenE ?_
    refine TQ.thenE ?_
    refine TQ.blkS ?_
    refine TQ.thenC ?_
    refine TC.seq ?_
    refine TC.region ?_
    refine TL.pure (PV.move rfl) rfl (by decide) ?_
    refine TL.pure (PV.move rfl) rfl (by decide) ?_
    refine TL.pure (PV.move rfl) rfl (by decide) ?_
    refine TL.pure (PV.assign rfl) rfl (by decide) ?_
    refine TL.pure (PV.assign rfl) rfl (by decide) ?_
    refine TL.pure (PV.assign rfl) rfl (by decide) ?_
    refine TL.nil ?_
    refine TQ.thenC ?_
    refine TC.ret ?_
    refine TQ.retE3 rfl rfl rfl rfl ?_
    exact ⟨(x.1, bT, x.2.1, x.2.2), rfl, ⟨hx9.1.stb (fun j hj => calm_at (by simpa using hcalm) (by rw [hcl]; exact hj)), hx9.2⟩, List.Sublist.append_left (List.Sublist.cons_cons _ (List.nil_sublist _)) _⟩

end Go.Proofs.Ytgafpkcnhpoobaa
