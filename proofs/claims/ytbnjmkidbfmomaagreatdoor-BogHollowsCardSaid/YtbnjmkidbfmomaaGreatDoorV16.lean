/- Hh Hk Hi Hd -/
import Derived.Test.YtbnjmkidbfmomaaGreatDoorV06
import Derived.Test.YtbnjmkidbfmomaaGreatDoorV15
set_option linter.unusedVariables false
set_option linter.unusedSimpArgs false
set_option maxRecDepth 100000
namespace Go.Proofs.YtbnjmkidbfmomaaGreatDoor.H
open Go.Sx Go.RowKit Go.Sand
theorem not_calm {ls : List (List Int)} {gs xs : List Int} (h : (!calmB ls gs xs) = true) (hl : xs.length = gs.length) : ∃ j, j < gs.length ∧ limI ls gs j ≤ xs.getD j 0 :=
  Classical.byContradiction fun hno => by
    rw [calm_yes (fun k hk => Classical.byContradiction fun h2 => hno ⟨k, by omega, by omega⟩)] at h
    cases h
structure RI (ls : List (List Int)) (gs xs m0 : List Int) (u : Nat) (c m : List Int) : Prop where
  le : u ≤ gs.length
  r : RunL ls gs xs c m
  up : sm gs.length (gd m0) ≤ sm gs.length (gd m)
  go : sm gs.length (gd m0) < sm gs.length (gd m) ∨ ∃ j, j < u ∧ limI ls gs j ≤ c.getD j 0
theorem tp_zero (ls : List (List Int)) (gs xs : List Int) (i : Nat) : tpN ls gs xs i 0 = xs := by
  refine (mk_eq rfl fun j hj => ?_).symm
  simp
theorem RI.step {ls : List (List Int)} {gs xs m0 c m : List Int} {u : Nat} (hB : HB ls gs) (h : RI ls gs xs m0 u c m) (hu : 0 < u) {k : Int} (hk : 0 ≤ k) (hle : k * limI ls gs (u - 1) ≤ c.getD (u - 1) 0) (hz : k = 0 → c.getD (u - 1) 0 < limI ls gs (u - 1)) :
    RI ls gs xs m0 (u - 1) (tpN ls gs c (u - 1) k) (m.set (u - 1) (m.getD (u - 1) 0 + k)) := by
  have h1 := h.le
  have h2 := sum_put (m := m) (i := u - 1) h.r.ml (by omega) k
  have h3 := h.up
  refine ⟨by omega, h.r.step hB (by omega) hk hle, by omega, ?_⟩
  rcases h.go with h4 | ⟨j, hj, h4⟩
  · exact .inl (by omega)
  · by_cases e : k = 0
    · refine .inr ⟨j, ?_, by rw [e, tp_zero]; exact h4⟩
      have h5 := hz e
      have : j ≠ u - 1 := fun h6 => by rw [h6] at h4; omega
      omega
    · exact .inl (by omega)
set_option maxHeartbeats 2000000 in
theorem rsettle_ok (w0 : World) (p : Option Addr) (cp : Nat) (ls : List (List Int)) (hr : LsAt w0 p ls) (q : Option Addr) (cq : Nat) (gs : List Int) (hg : IntsAt w0 q gs) (hB : HB ls gs) (pl : Option Addr) (cl : Nat) (xs : List Int) (hx : IntsAt w0 pl xs) (N : Nat) (hN : xs.length = N) (hxl : xs.length = gs.length) (hx0 : ∀ k, 0 ≤ xs.getD k 0 ∧ xs.getD k 0 ≤ 1000) :
    Calls Tryz.prog 164 #[hv p ls.length cp q gs.length cq, .slice pl N cl] w0 (Post (X := HD × Nat × List Int × List Int) (fun y => .tuple #[gval y.1 gs.length, .slice (some ⟨y.2.1, 0, none⟩) gs.length gs.length, .int .i64 (grI gs y.2.2.2)]) (fun y => StbL ls gs xs y.2.2.1 y.2.2.2 ∧ gok y.1 gs.length 1 (ival y.2.2.1)) (fun y => gbI (y.1, y.2.2.1) ++ [(y.2.1, Obj.cells (intsA y.2.2.2) 3 (0, 0))]) w0) := by
  have hn9 := hB.n
  obtain rfl : N = gs.length := by omega
  refine calls Tryz.func164 rfl (n := 62) rfl (by simp) ?_
  refine zr (TL.box rfl rfl dc (fun b0 hb0 => ?_))
  refine za rfl (za rfl (za rfl (zk (TL.buildSlice0 Tb.sl_25 Tb.zi_3 rfl dc (fun bA hbA => ?_)))))
  refine zm rfl (TL.append0 (m := gs.length) (news := ival xs) (bA := bA) rfl rfl Tb.sl_25 Tb.zi_3 rfl t9z (fun w' hN2 => ints_src Tb.sl_25 hxl (hx.new hN2)) om om rfl dc (fun h9 ho9 => ?_))
  refine za rfl (zk (zm rfl (zq (PV.lenG rfl ho9 Tb.sl_25) rfl (TL.makeI (k := gs.length) rfl rfl Tb.sl_25 Tb.zi_3 rfl om om rfl dc (fun bT hbT => ?_)))))
  refine za rfl (zk (za rfl (zn (TC.seq (TC.block (TC.lit [(2, _), (4, _), (5, _), (6, _), (7, _), (8, _), (9, _)] l9z ?_))))))
  refine TC.perm (G' := gbI (h9, xs) ++ ((bT, Obj.cells (intsA (List.replicate gs.length 0)) 3 (0, 0)) :: [(b0, Obj.cells #[.slice p ls.length cp, .slice q gs.length cq] 27 (0, 0))])) List.perm_middle ?_
  refine TC.loopK [2, 4, 5, 6, 8] (X := HD × List Int × List Int) (fun x => RunL ls gs xs x.2.1 x.2.2 ∧ gok x.1 gs.length 1 (ival x.2.1)) (fun x => [(7, gval x.1 gs.length), (9, .int .i64 (grI gs x.2.2))]) (fun x => gbI (x.1, x.2.1) ++ ((bT, Obj.cells (intsA (x.2.2)) 3 (0, 0)) :: [(b0, Obj.cells #[.slice p ls.length cp, .slice q gs.length cq] 27 (0, 0))])) (fun x => (130000 - sm gs.length (gd x.2.2)).toNat) (h9, xs, List.replicate gs.length 0) ⟨RunL.start hxl fun k => (hx0 k).1, ho9⟩ (by refine And.intro rfl (And.intro ?_ True.intro); show some (Value.int .i64 _) = some (Value.int .i64 _); rw [gr_zero]) s9z ?_
  intro x hx9
  have hcl := hx9.1.cl
  refine TC.lit [(2, _), (4, _), (5, _), (6, _), (7, _), (8, _), (9, _)] l9z ?_
  refine TC.seq (zr (zq (PV.loadBox rfl Tb.agg_27 m9z rfl) rfl ?_))
  refine zm rfl (TL.call rfl Tb.gofn_91 (fun a w hs => (by rw [gval_eq hx9.2]; exact calm_ok w _ _ _ (hr.new hs.new) _ _ _ (hg.new hs.new) hB _ _ _ (IntsAt.g (x := (x.1, x.2.1)) hs.new (fun yy hyy => by repeat (first | exact List.mem_append_left _ hyy | refine List.mem_append_right _ ?_ | refine List.Mem.tail _ ?_)) (go_lenI hx9.2 hcl)) _ hcl hcl)) rfl (by decide) (fun _ _ => ?_))
  refine zq ((by first | exact PV.notD rfl | exact PV.not rfl)) rfl ?_
  refine zn (TC.cd rfl (fun hcalm => ?_) (fun hcalm => ?_))
  refine TC.skip (TQ.thenC (TC.block (zr (zm rfl (zq (PV.lenG rfl hx9.2 Tb.sl_25) rfl (zq (PV.sub rfl rfl om) rfl (za rfl (zn (TC.block (TC.lit [(2, _), (4, _), (5, _), (6, _), (7, _), (8, _), (9, _), (10, _)] l9z ?_))))))))))
  refine TC.loopK [2, 4, 5, 6, 8] (X := Nat × HD × List Int × List Int) (fun y => RI ls gs xs x.2.2 y.1 y.2.2.1 y.2.2.2 ∧ gok y.2.1 gs.length 1 (ival y.2.2.1)) (fun y => [(10, .int .i64 ((y.1 : Int) - 1)), (7, gval y.2.1 gs.length), (9, .int .i64 (grI gs y.2.2.2))]) (fun y => gbI (y.2.1, y.2.2.1) ++ ((bT, Obj.cells (intsA (y.2.2.2)) 3 (0, 0)) :: [(b0, Obj.cells #[.slice p ls.length cp, .slice q gs.length cq] 27 (0, 0))])) (fun y => y.1) (gs.length, x.1, x.2.1, x.2.2) ⟨⟨Nat.le_refl _, hx9.1, Int.le_refl _, .inr (not_calm hcalm hcl)⟩, hx9.2⟩ l9z s9z ?_
  intro y hy
  have hyle := hy.1.le
  have hycl := hy.1.r.cl
  have hyml := hy.1.r.ml
  have hbd := hy.1.r.bd hB hx0
  have hgb := gr_bd hB hy.1.r hx0
  refine TC.lit [(2, _), (4, _), (5, _), (6, _), (7, _), (8, _), (9, _), (10, _)] l9z ?_
  refine TC.seq (zr (zm rfl (zq (PV.geq rfl rfl) rfl (zn (TC.cd rfl (fun hge => ?_) (fun hge => ?_))))))
  refine TC.skip (TQ.thenC (TC.seq (TC.block (TC.seq ?_))))
  have hui : ((y.1 : Int) - 1) = ((y.1 - 1 : Nat) : Int) := by omega
  have hck := hbd.2.1 (y.1 - 1) (by omega)
  have hlk := hB.lim (i := y.1 - 1) (by omega)
  have hqb := quo_bd (a := max (y.2.2.1.getD (y.1 - 1) 0) 0) (by omega) hlk.1
  have hmk := hbd.1 (y.1 - 1) (by omega)
  have hnx := hy.1.step hB (by omega) (k := ((max (y.2.2.1.getD (y.1 - 1) 0) 0).tdiv (limI ls gs (y.1 - 1)))) hqb.1 (by omega) (fun e => by have := hqb.2.2.2 e; omega)
  refine TC.any Tb.mixed rfl rfl ?_
  refine TA.op (OpOK.pure (PV.move rfl) rfl dc) dc ?_
  refine TA.op (OpOK.pure (PV.move rfl) rfl dc) dc ?_
  refine TA.op (OpOK.pure (PV.indexG (j := y.1 - 1) rfl rfl hy.2 Tb.elm_25 om om) rfl dc) dc ?_
  refine TA.op (OpOK.pure (PV.loadGI (y := (y.2.1, y.2.2.1)) (j := y.1 - 1) (v := y.2.2.1.getD (y.1 - 1) 0) rfl Tb.one_3 (fun yy hyy => by repeat (first | exact List.mem_append_left _ hyy | refine List.mem_append_right _ ?_ | refine List.Mem.tail _ ?_)) (go_lenI hy.2 hycl) (by show y.1 - 1 < y.2.2.1.length; omega) rfl) rfl (by decide)) (by decide) ?_
  refine TA.op (OpOK.pure (PV.max rfl rfl Tb.int_3) rfl dc) dc ?_
  refine TA.op (OpOK.pure (PV.loadBox rfl Tb.agg_27 m9z rfl) rfl dc) dc ?_
  refine TA.op (OpOK.pure (PV.move rfl) rfl dc) dc ?_
  refine TA.op (OpOK.call rfl Tb.gofn_130 (fun a w hs => (by rw [hui]; exact rlimit_ok w _ _ _ (hr.new hs.new) _ _ _ (hg.new hs.new) hB (y.1 - 1) om)) rfl dc) dc ?_
  refine TA.op (OpOK.pure (PV.quo rfl rfl om om) rfl dc) dc ?_
  refine TA.op (OpOK.pure (PV.assign rfl) rfl dc) dc ?_
  show TQ _ _ _ _ _
  refine TQ.thenC (zr (zq (PV.loadBox rfl Tb.agg_27 m9z rfl) rfl ?_))
  refine zm rfl (zm rfl (zm rfl (TL.call rfl Tb.gofn_193 (fun a w hs => (by rw [gval_eq hy.2, hui]; exact rtopple_ok w _ _ _ (hr.new hs.new) _ _ _ (hg.new hs.new) hB _ _ _ (IntsAt.g (x := (y.2.1, y.2.2.1)) hs.new (fun yy hyy => by repeat (first | exact List.mem_append_left _ hyy | refine List.mem_append_right _ ?_ | refine List.Mem.tail _ ?_)) (go_lenI hy.2 hycl)) _ hycl hycl (y.1 - 1) (by omega) ((max (y.2.2.1.getD (y.1 - 1) 0) 0).tdiv (limI ls gs (y.1 - 1))) (by omega) (big_of hycl hbd.2.1))) rfl (by decide) (fun h2 hh2 => ?_))))
  refine za rfl (zk (zm rfl (zm rfl (zq (PV.index1 (j := y.1 - 1) rfl rfl Tb.elm_25 om om) rfl (zq (PV.loadI rfl Tb.one_3 m9z om) rfl ?_)))))
  refine zm rfl (zq (PV.add rfl rfl om) rfl (zq (PV.index1 (j := y.1 - 1) rfl rfl Tb.elm_25 om om) rfl (TL.storeIv (j := y.1 - 1) (xs' := (y.2.2.2.set (y.1 - 1) (y.2.2.2.getD (y.1 - 1) 0 + ((max (y.2.2.1.getD (y.1 - 1) 0) 0).tdiv (limI ls gs (y.1 - 1)))))) rfl rfl Tb.cells_3 rfl u9z om rfl rfl ?_)))
  refine zn ?_
  obtain ⟨q3, hq3p, hq3⟩ := hg (y.1 - 1) (by omega)
  have hkg := mul_bd (t := ((max (y.2.2.1.getD (y.1 - 1) 0) 0).tdiv (limI ls gs (y.1 - 1)))) (T := 1000000) (by omega) (hB.gat (y.1 - 1))
  refine TC.region (zm rfl (zm rfl (zq (PV.fieldAddr rfl Tb.fo_27_1) rfl (zq (PV.load rfl Tb.one_25 m9z rfl) rfl ?_))))
  refine zm rfl (zq (PV.indexA (j := y.1 - 1) rfl hq3p rfl Tb.elm_25 om om) rfl (zq (PV.loadOld rfl Tb.one_3 hq3) rfl (zq (PV.mul rfl rfl om) rfl (zq (PV.add rfl rfl om) rfl (za rfl (TL.nil (TQ.blkN (TQ.thenC (TC.region (zm rfl (zq (PV.sub rfl rfl om) rfl (za rfl (TL.nil (TQ.thenN (TQ.backK (y.1 - 1, h2, (tpN ls gs y.2.2.1 (y.1 - 1) ((max (y.2.2.1.getD (y.1 - 1) 0) 0).tdiv (limI ls gs (y.1 - 1)))), (y.2.2.2.set (y.1 - 1) (y.2.2.2.getD (y.1 - 1) 0 + ((max (y.2.2.1.getD (y.1 - 1) 0) 0).tdiv (limI ls gs (y.1 - 1)))))) (by refine And.intro ?_ (And.intro rfl (And.intro ?_ True.intro)); (show some (Value.int .i64 _) = some (Value.int .i64 _); congr 2; (try simp only); omega); (show some (Value.int .i64 _) = some (Value.int .i64 _); congr 2; exact (gr_put hyml om _).symm)) l9z (List.Sublist.append_left (List.sublist_append_right _ _) _) ⟨hnx, hh2⟩ (by simp only; omega))))))))))))))))
  refine TC.exit (TQ.thenE (TQ.thenE (TQ.blkS (TQ.blkN (TQ.thenN (TQ.backK (y.2.1, y.2.2.1, y.2.2.2) (by refine And.intro rfl (And.intro rfl True.intro)) l9z s9z ⟨hy.1.r, hy.2⟩ (by have h8 := (hy.1.r.bd hB hx0).2.2; rcases hy.1.go with h7 | ⟨j, hj, _⟩; (simp only at h7 h8 ⊢; omega); omega)))))))
  refine TC.exit (TQ.thenE (TQ.thenE (TQ.blkS (TQ.thenC (zr (zm rfl (zm rfl (zm rfl (za rfl (za rfl (za rfl (zt (TQ.retE3 rfl rfl rfl rfl ?_)))))))))))))
  exact ⟨(x.1, bT, x.2.1, x.2.2), rfl, ⟨hx9.1.stb (fun j hj => calm_at (by simpa using hcalm) (by rw [hcl]; exact hj)), hx9.2⟩, List.Sublist.append_left (List.Sublist.cons_cons _ (List.nil_sublist _)) _⟩
end Go.Proofs.YtbnjmkidbfmomaaGreatDoor.H
namespace Go.Proofs.YtbnjmkidbfmomaaGreatDoor.H
open Go.Sx Go.RowKit Go.Sand
theorem StbL.unique {ls : List (List Int)} {gs xs c m c2 m2 : List Int} (h : StbL ls gs xs c m) (h2 : StbL ls gs xs c2 m2) : c = c2 ∧ m = m2 := by
  have h3 := h.2.2.unique h2.2.2
  exact ⟨ints_ext (by rw [h.1, h2.1]) fun j hj => h3.2 j (by rw [← h.1]; exact hj), ints_ext (by rw [h.2.1, h2.2.1]) fun j hj => h3.1 j (by rw [← h.2.1]; exact hj)⟩
end Go.Proofs.YtbnjmkidbfmomaaGreatDoor.H
namespace Go.Proofs.YtbnjmkidbfmomaaGreatDoor.H
open Go.Sx Go.RowKit Go.Sand
theorem one_len {xs : List Int} (h : xs.length ≤ 1000000) (k : Nat) : ([xs].getD k []).length ≤ 1000000 := by
  match k with
  | 0 => exact h
  | k + 1 => simp [List.getD]
noncomputable def icB (ls : List (List Int)) (gs xs : List Int) : Bool := if givI ls gs [xs] ≠ 0 then false else calmB ls gs xs
theorem icB_bad {ls : List (List Int)} {gs xs : List Int} (h : givI ls gs [xs] ≠ 0) : icB ls gs xs = false := if_pos h
theorem icB_0 {ls : List (List Int)} {gs xs : List Int} (h : ¬ givI ls gs [xs] ≠ 0) : icB ls gs xs = calmB ls gs xs := if_neg h
noncomputable def vhI (ls : List (List Int)) (gs xs : List Int) (i : Int) : Int := if givI ls gs [xs] ≠ 0 then givI ls gs [xs] else if 0 ≤ i ∧ i < gs.length then 0 else 4
theorem vh_bad {ls : List (List Int)} {gs xs : List Int} {i : Int} (h : givI ls gs [xs] ≠ 0) : vhI ls gs xs i = givI ls gs [xs] := if_pos h
theorem vh_4 {ls : List (List Int)} {gs xs : List Int} {i : Int} (h : ¬ givI ls gs [xs] ≠ 0) (h2 : ¬ (0 ≤ i ∧ i < gs.length)) : vhI ls gs xs i = 4 := by unfold vhI; rw [if_neg h, if_neg h2]
theorem vh_0 {ls : List (List Int)} {gs xs : List Int} {i : Int} (h : ¬ givI ls gs [xs] ≠ 0) (h2 : 0 ≤ i ∧ i < gs.length) : vhI ls gs xs i = 0 := by unfold vhI; rw [if_neg h, if_pos h2]
theorem vh_of {ls : List (List Int)} {gs xs : List Int} {i : Int} (h : ¬ vhI ls gs xs i ≠ 0) : ¬ givI ls gs [xs] ≠ 0 ∧ 0 ≤ i ∧ i < gs.length := by
  by_cases h1 : givI ls gs [xs] ≠ 0
  · rw [vh_bad h1] at h; exact absurd h1 h
  · by_cases h2 : 0 ≤ i ∧ i < gs.length
    · exact ⟨h1, h2⟩
    · rw [vh_4 h1 h2] at h; exact absurd (by decide) h
theorem goI_nil : goI (none, []) := ⟨rfl, rfl⟩
theorem goI_arr {b n : Nat} {l : List Int} (h : l.length = n) : goI (some (b, n, []), l) := by subst h; exact goI_blk b l
structure SetP (ls : List (List Int)) (gs xs c m : List Int) : Prop where
  bad : givI ls gs [xs] ≠ 0 → c = [] ∧ m = []
  ok : ¬ givI ls gs [xs] ≠ 0 → StbL ls gs xs c m
noncomputable def setG (ls : List (List Int)) (gs xs m : List Int) : Int := if givI ls gs [xs] ≠ 0 then 0 else grI gs m
theorem stb_m {ls : List (List Int)} {gs xs c m : List Int} (hB : HB ls gs) (h : StbL ls gs xs c m) (h0 : ∀ k, 0 ≤ xs.getD k 0 ∧ xs.getD k 0 ≤ 1000) : (∀ j, j < gs.length → 0 ≤ m.getD j 0 ∧ m.getD j 0 ≤ 25000) ∧ 0 ≤ grI gs m ∧ grI gs m ≤ 250000 :=
  have hr : RunL ls gs xs c m := ⟨h.1, h.2.1, h.2.2.toRun⟩
  ⟨(hr.bd hB h0).1, gr_bd hB hr h0⟩
theorem IsCalm_ok (w0 : World) (p : Option Addr) (cp : Nat) (ls : List (List Int)) (hr : LsAt w0 p ls) (q : Option Addr) (cq : Nat) (gs : List Int) (hg : IntsAt w0 q gs) (hlo : ∀ k, (ls.getD k []).length ≤ 1000000) (pl : Option Addr) (cl : Nat) (xs : List Int) (hx : IntsAt w0 pl xs) (hxo : xs.length ≤ 1000000) :
    Calls Tryz.prog 109 #[hv p ls.length cp q gs.length cq, .slice pl xs.length cl] w0 (Post (X := Unit) (fun _ => .tuple #[.bool (icB ls gs xs), .int .i64 (givI ls gs [xs])]) (fun _ => True) (fun _ => []) w0) := by
  refine calls Tryz.func109 rfl (n := 17) rfl (by simp) ?_
  refine zr (TL.box rfl rfl dc (fun b0 hb0 => ?_))
  refine za rfl (za rfl (zn (TC.seq (zr (zq (PV.loadBox rfl Tb.agg_27 m9z rfl) rfl ?_)))))
  refine zm rfl (TL.buildSlice (cs := #[.slice pl xs.length cl]) rfl Tb.sl_22 Tb.zi_25 dc (fill_o _ _ _) dc rfl dc (fun bS hbS => ?_))
  refine TL.call rfl Tb.gofn_158 (fun a w hs => validateHeapings_ok w _ _ _ (hr.new hs.new) _ _ _ (hg.new hs.new) hlo _ 1 [xs] (LsAt.one hs.new m9z (hx.new hs.new)) (by simp) (one_len hxo)) rfl dc (fun _ _ => ?_)
  refine za rfl (zk (zm rfl (zq (PV.neq rfl rfl) rfl (zn (TC.cd rfl (fun hbad => ?_) (fun hbad => ?_))))))
  refine zr (zm rfl (za rfl (za rfl (zt (TQ.thenR (TQ.retE2 rfl rfl rfl ?_))))))
  exact ⟨(), by rw [icB_bad hbad], trivial, nils⟩
  refine TC.skip (TQ.thenC (zr (zq (PV.loadBox rfl Tb.agg_27 m9z rfl) rfl ?_)))
  refine zm rfl (TL.call rfl Tb.gofn_159 (fun a w hs => isCalm_ok w _ _ _ (hr.new hs.new) _ _ _ (hg.new hs.new) (giv_hb hbad).1 _ _ _ (hx.new hs.new) _ rfl (giv_ne hbad).1) rfl dc (fun _ _ => ?_))
  refine za rfl (za rfl (zt (TQ.retE2 rfl rfl rfl ?_)))
  exact ⟨(), by rw [icB_0 hbad, Decidable.of_not_not hbad], trivial, nils⟩
theorem rIsCalm_ok (w0 : World) (p : Option Addr) (cp : Nat) (ls : List (List Int)) (hr : LsAt w0 p ls) (q : Option Addr) (cq : Nat) (gs : List Int) (hg : IntsAt w0 q gs) (hlo : ∀ k, (ls.getD k []).length ≤ 1000000) (pl : Option Addr) (cl : Nat) (xs : List Int) (hx : IntsAt w0 pl xs) (hxo : xs.length ≤ 1000000) :
    Calls Tryz.prog 54 #[hv p ls.length cp q gs.length cq, .slice pl xs.length cl] w0 (Post (X := Unit) (fun _ => .tuple #[.bool (icB ls gs xs), .int .i64 (givI ls gs [xs])]) (fun _ => True) (fun _ => []) w0) := by
  refine calls Tryz.func54 rfl (n := 17) rfl (by simp) ?_
  refine zr (TL.box rfl rfl dc (fun b0 hb0 => ?_))
  refine za rfl (za rfl (zk (zq (PV.loadBox rfl Tb.agg_27 m9z rfl) rfl ?_)))
  refine zm rfl (TL.buildSlice (cs := #[.slice pl xs.length cl]) rfl Tb.sl_22 Tb.zi_25 dc (fill_o _ _ _) dc rfl dc (fun bS hbS => ?_))
  refine TL.call rfl Tb.gofn_90 (fun a w hs => given_ok w _ _ _ (hr.new hs.new) _ _ _ (hg.new hs.new) hlo _ 1 [xs] (LsAt.one hs.new m9z (hx.new hs.new)) (by simp) (one_len hxo)) rfl dc (fun _ _ => ?_)
  refine za rfl (zn (TC.seq (zr (zm rfl (zq (PV.neq rfl rfl) rfl (zn (TC.cd rfl (fun hbad => ?_) (fun hbad => ?_))))))))
  refine zr (zm rfl (za rfl (za rfl (zt (TQ.thenR (TQ.retE2 rfl rfl rfl ?_))))))
  exact ⟨(), by rw [icB_bad hbad], trivial, nils⟩
  refine TC.skip (TQ.thenC (zr (zq (PV.loadBox rfl Tb.agg_27 m9z rfl) rfl ?_)))
  refine zm rfl (TL.call rfl Tb.gofn_91 (fun a w hs => calm_ok w _ _ _ (hr.new hs.new) _ _ _ (hg.new hs.new) (giv_hb hbad).1 _ _ _ (hx.new hs.new) _ rfl (giv_ne hbad).1) rfl dc (fun _ _ => ?_))
  refine za rfl (za rfl (zt (TQ.retE2 rfl rfl rfl ?_)))
  exact ⟨(), by rw [icB_0 hbad, Decidable.of_not_not hbad], trivial, nils⟩
theorem validateHeap_ok (w0 : World) (p : Option Addr) (cp : Nat) (ls : List (List Int)) (hr : LsAt w0 p ls) (q : Option Addr) (cq : Nat) (gs : List Int) (hg : IntsAt w0 q gs) (hlo : ∀ k, (ls.getD k []).length ≤ 1000000) (pl : Option Addr) (cl : Nat) (xs : List Int) (hx : IntsAt w0 pl xs) (hxo : xs.length ≤ 1000000) (i : Int) :
    Calls Tryz.prog 216 #[hv p ls.length cp q gs.length cq, .slice pl xs.length cl, .int .i64 i] w0 (Post (X := Unit) (fun _ => .int .i64 (vhI ls gs xs i)) (fun _ => True) (fun _ => []) w0) := by
  refine calls Tryz.func216 rfl (n := 19) rfl (by simp) ?_
  refine zr (TL.box rfl rfl dc (fun b0 hb0 => ?_))
  refine za rfl (zn (TC.seq (zr (zq (PV.loadBox rfl Tb.agg_27 m9z rfl) rfl ?_))))
  refine zm rfl (TL.buildSlice (cs := #[.slice pl xs.length cl]) rfl Tb.sl_22 Tb.zi_25 dc (fill_o _ _ _) dc rfl dc (fun bS hbS => ?_))
  refine TL.call rfl Tb.gofn_158 (fun a w hs => validateHeapings_ok w _ _ _ (hr.new hs.new) _ _ _ (hg.new hs.new) hlo _ 1 [xs] (LsAt.one hs.new m9z (hx.new hs.new)) (by simp) (one_len hxo)) rfl dc (fun _ _ => ?_)
  refine za rfl (zk (zm rfl (zq (PV.neq rfl rfl) rfl (zn (TC.cd rfl (fun hbad => ?_) (fun hbad => ?_))))))
  refine zr (zm rfl (za rfl (zt (TQ.thenR (TQ.retE1 rfl rfl ?_)))))
  exact ⟨(), by rw [vh_bad hbad], trivial, nils⟩
  refine TC.skip (TQ.thenC (TC.seq (zr (zq (PV.loadBox rfl Tb.agg_27 m9z rfl) rfl ?_))))
  refine zm rfl (TL.call rfl Tb.gofn_239 (fun a w hs => isHeap_ok w _ _ _ (hr.new hs.new) _ _ _ (hg.new hs.new) _) rfl dc (fun _ _ => ?_))
  refine zq ((by first | exact PV.notD rfl | exact PV.not rfl)) rfl ?_
  refine zn (TC.cd rfl (fun hne => ?_) (fun hne => ?_))
  refine zr (za rfl (zt (TQ.thenR (TQ.retE1 rfl rfl ?_))))
  exact ⟨(), by rw [vh_4 hbad (by omega)], trivial, nils⟩
  refine TC.skip (TQ.thenC (zr (za rfl (zt (TQ.retE1 rfl rfl ?_)))))
  exact ⟨(), by rw [vh_0 hbad (by omega)], trivial, nils⟩
end Go.Proofs.YtbnjmkidbfmomaaGreatDoor.H
namespace Go.Proofs.YtbnjmkidbfmomaaGreatDoor.H
open Go.Sx Go.RowKit Go.Sand
abbrev drL (xs : List Int) (i : Nat) : List Int := xs.set i (xs.getD i 0 + 1)
structure DroP (ls : List (List Int)) (gs xs : List Int) (i : Int) (c : List Int) (n : Int) : Prop where
  bad : vhI ls gs xs i ≠ 0 → c = [] ∧ n = 0
  ok : ¬ vhI ls gs xs i ≠ 0 → ∃ m, StbL ls gs (drL xs i.toNat) c m ∧ n = sm gs.length (gd m)
theorem DroP.unique {ls : List (List Int)} {gs xs c d : List Int} {i n k : Int} (h : DroP ls gs xs i c n) (h2 : DroP ls gs xs i d k) : c = d ∧ n = k := by
  by_cases h0 : vhI ls gs xs i ≠ 0
  · rw [(h.bad h0).1, (h2.bad h0).1, (h.bad h0).2, (h2.bad h0).2]; exact ⟨rfl, rfl⟩
  · obtain ⟨m, s1, e1⟩ := h.ok h0
    obtain ⟨m2, s2, e2⟩ := h2.ok h0
    obtain ⟨e3, e4⟩ := StbL.unique s1 s2
    exact ⟨e3, by rw [e1, e2, e4]⟩
theorem drL_bd {xs : List Int} {i : Nat} (h : ∀ k, 0 ≤ xs.getD k 0 ∧ xs.getD k 0 ≤ 30) (k : Nat) : 0 ≤ (drL xs i).getD k 0 ∧ (drL xs i).getD k 0 ≤ 31 := by
  by_cases hi : i < xs.length
  · rw [set_at hi]
    have := h k
    have := h i
    split <;> omega
  · rw [drL, List.set_eq_of_length_le (by omega)]
    have := h k
    omega
theorem smk_bd {m : List Int} {n : Nat} (hm : ∀ j, j < n → 0 ≤ m.getD j 0 ∧ m.getD j 0 ≤ 25000) : ∀ k, k ≤ n → 0 ≤ sm k (gd m) ∧ sm k (gd m) ≤ 25000 * k
  | 0, _ => by simp [sm]
  | k + 1, h => by
    have h1 := smk_bd hm k (by omega)
    have h2 := hm k (by omega)
    have e : sm (k + 1) (gd m) = sm k (gd m) + m.getD k 0 := rfl
    omega
set_option maxHeartbeats 1000000 in
theorem Drop_ok (w0 : World) (p : Option Addr) (cp : Nat) (ls : List (List Int)) (hr : LsAt w0 p ls) (q : Option Addr) (cq : Nat) (gs : List Int) (hg : IntsAt w0 q gs) (hlo : ∀ k, (ls.getD k []).length ≤ 1000000) (pl : Option Addr) (cl : Nat) (xs : List Int) (hx : IntsAt w0 pl xs) (hxo : xs.length ≤ 1000000) (i : Int) :
    Calls Tryz.prog 187 #[hv p ls.length cp q gs.length cq, .slice pl xs.length cl, .int .i64 i] w0 (Post (X := HD × List Int × Int) (fun y => .tuple #[gval y.1 y.2.1.length, .int .i64 y.2.2, .int .i64 (vhI ls gs xs i)]) (fun y => DroP ls gs xs i y.2.1 y.2.2 ∧ goI (y.1, y.2.1)) (fun y => gbI (y.1, y.2.1)) w0) := by
  refine calls Tryz.func187 rfl (n := 47) rfl (by simp) ?_
  refine zr (TL.box rfl rfl dc (fun b0 hb0 => ?_))
  refine za rfl (za rfl (za rfl (zn (TC.seq (zr (zq (PV.loadBox rfl Tb.agg_27 m9z rfl) rfl ?_))))))
  refine zm rfl (zm rfl (TL.call rfl Tb.gofn_216 (fun a w hs => validateHeap_ok w _ _ _ (hr.new hs.new) _ _ _ (hg.new hs.new) hlo _ _ _ (hx.new hs.new) hxo _) rfl dc (fun _ _ => ?_)))
  refine za rfl (zk (zm rfl (zq (PV.neq rfl rfl) rfl (zn (TC.cd rfl (fun hbad => ?_) (fun hbad => ?_))))))
  refine zr (zm rfl (za rfl (za rfl (za rfl (zt (TQ.thenR (TQ.retE3 rfl rfl rfl rfl ?_)))))))
  exact ⟨(none, [], 0), rfl, ⟨⟨fun _ => ⟨rfl, rfl⟩, fun h2 => absurd hbad h2⟩, goI_nil⟩, nils⟩
  refine TC.skip (TQ.thenC (TC.seq ?_))
  obtain ⟨hgv, hi1, hi2⟩ := vh_of hbad
  have hB := (giv_hb hgv).1
  have hn9 := hB.n
  obtain ⟨hxl, hx0⟩ := giv_ne hgv
  obtain ⟨u, rfl⟩ : ∃ u : Nat, i = u := ⟨i.toNat, by omega⟩
  refine TC.region (zm rfl (TL.call rfl Tb.gofn_217 (fun a w hs => copied_ok w _ _ _ (hx.new hs.new) _ rfl hxo) rfl dc (fun b1 _ => ?_)))
  refine za rfl (zn (TC.seq ?_))
  have h7 := hx0 u
  refine TC.region (zm rfl (zm rfl (zq (PV.index1 (j := u) rfl rfl Tb.elm_25 rfl om) rfl (zq (PV.loadI rfl Tb.one_3 m9z om) rfl ?_))))
  refine zq (PV.add rfl rfl om) rfl (zq (PV.index1 (j := u) rfl rfl Tb.elm_25 rfl om) rfl (TL.storeIv (j := u) (xs' := drL xs u) rfl rfl Tb.cells_3 rfl u9z om rfl rfl ?_))
  refine zk (zq (PV.loadBox rfl Tb.agg_27 m9z rfl) rfl ?_)
  refine zm rfl (TL.call rfl Tb.gofn_218 (fun a w hs => settle_ok w _ _ _ (hr.new hs.new) _ _ _ (hg.new hs.new) hB _ _ (drL xs u) (IntsAt.arr hs.new m9z) _ (List.length_set ..) ((List.length_set ..).trans hxl) (fun k => by have := drL_bd (i := u) hx0 k; omega)) rfl dc (fun y9 hy9 => ?_))
  refine zm rfl (zq (PV.extract rfl rfl) rfl (zq (PV.extract rfl rfl) rfl (za rfl (za rfl (zn (TC.seq (TC.seq ?_)))))))
  have hsm := (stb_m hB hy9 (fun k => by have := drL_bd (i := u) hx0 k; omega)).1
  have hml := hy9.2.1
  refine TC.region (zm rfl (zq (PV.len rfl Tb.sl_25) rfl (zm rfl (zn (TC.block (TC.loopK [6, 8, 35, 36] (X := Nat) (fun k => k ≤ gs.length) (fun k => [(37, .int .i64 k), (7, .int .i64 (sm k (gd y9.2.2.2)))]) (fun k => [(y9.2.1, Obj.cells (intsA (y9.2.2.2)) 3 (0, 0)), (y9.1, Obj.cells (intsA (y9.2.2.1)) 3 (0, 0))]) (fun k => gs.length - k) 0 (Nat.zero_le _) l9z s9z ?_))))))
  intro k hk
  refine zr (zq (PV.lss rfl rfl) rfl (zn (TC.seq (TC.cd rfl (fun h1 => ?_) (fun h1 => ?_)))))
  refine TC.skip (TQ.thenC (TC.seq (TC.block (zr (zq (PV.index1 (j := k) rfl rfl Tb.elm_25 rfl om) rfl (zq (PV.loadI rfl Tb.one_3 m9z om) rfl ?_))))))
  refine za rfl (zn ?_)
  have h5 := smk_bd hsm k (by omega)
  have h6 := hsm k (by omega)
  refine TC.region (zm rfl (zm rfl (zq (PV.add rfl rfl om) rfl (za rfl (TL.nil (TQ.blkN (TQ.thenC (TC.region (zq (PV.add rfl rfl om) rfl (zm rfl (TL.nil (TQ.thenN (TQ.backK (k + 1) l9z l9z s9z om om)))))))))))))
  refine TC.exit (TQ.thenE (TQ.thenE (TQ.blkS (TQ.thenC (zr (zm rfl (zm rfl (za rfl (za rfl (za rfl (zt (TQ.retE3 rfl rfl rfl rfl ?_))))))))))))
  exact ⟨(some (y9.1, gs.length, []), y9.2.2.1, sm k (gd y9.2.2.2)), by rw [Decidable.of_not_not hbad, hy9.1]; rfl, ⟨⟨fun h2 => absurd h2 hbad, fun _ => ⟨_, by rw [Int.toNat_natCast]; exact hy9, by rw [show k = gs.length by omega]⟩⟩, goI_arr hy9.1⟩, by rw [gbI_blk]; exact List.Sublist.cons _ (List.Sublist.cons_cons _ (List.nil_sublist _))⟩
set_option maxHeartbeats 1000000 in
theorem rDrop_ok (w0 : World) (p : Option Addr) (cp : Nat) (ls : List (List Int)) (hr : LsAt w0 p ls) (q : Option Addr) (cq : Nat) (gs : List Int) (hg : IntsAt w0 q gs) (hlo : ∀ k, (ls.getD k []).length ≤ 1000000) (pl : Option Addr) (cl : Nat) (xs : List Int) (hx : IntsAt w0 pl xs) (hxo : xs.length ≤ 1000000) (i : Int) :
    Calls Tryz.prog 121 #[hv p ls.length cp q gs.length cq, .slice pl xs.length cl, .int .i64 i] w0 (Post (X := HD × List Int × Int) (fun y => .tuple #[gval y.1 y.2.1.length, .int .i64 y.2.2, .int .i64 (vhI ls gs xs i)]) (fun y => DroP ls gs xs i y.2.1 y.2.2 ∧ goI (y.1, y.2.1)) (fun y => gbI (y.1, y.2.1)) w0) := by
  refine calls Tryz.func121 rfl (n := 59) rfl (by simp) ?_
  refine zr (TL.box rfl rfl dc (fun b0 hb0 => ?_))
  refine za rfl (za rfl (za rfl (zk (zq (PV.loadBox rfl Tb.agg_27 m9z rfl) rfl ?_))))
  refine zm rfl (TL.buildSlice (cs := #[.slice pl xs.length cl]) rfl Tb.sl_22 Tb.zi_25 dc (fill_o _ _ _) dc rfl dc (fun bS hbS => ?_))
  refine TL.call rfl Tb.gofn_90 (fun a w hs => given_ok w _ _ _ (hr.new hs.new) _ _ _ (hg.new hs.new) hlo _ 1 [xs] (LsAt.one hs.new m9z (hx.new hs.new)) (by simp) (one_len hxo)) rfl dc (fun _ _ => ?_)
  refine za rfl (zn (TC.seq (zr (zm rfl (zq (PV.neq rfl rfl) rfl (zn (TC.cd rfl (fun hbad => ?_) (fun hbad => ?_))))))))
  refine zr (zm rfl (za rfl (za rfl (za rfl (zt (TQ.thenR (TQ.retE3 rfl rfl rfl rfl ?_)))))))
  have h7 := vh_bad (i := i) hbad
  exact ⟨(none, [], 0), by rw [h7]; rfl, ⟨⟨fun _ => ⟨rfl, rfl⟩, fun h2 => absurd (by rw [h7]; exact hbad) h2⟩, goI_nil⟩, nils⟩
  refine TC.skip (TQ.thenC (TC.seq (TC.seq ?_)))
  have hB := (giv_hb hbad).1
  have hn9 := hB.n
  obtain ⟨hxl, hx0⟩ := giv_ne hbad
  refine TC.region (zm rfl (zm rfl (zq (PV.len rfl Tb.sl_25) rfl (zq (PV.sub rfl rfl om) rfl (TL.call rfl Tb.gofn_127 (fun a w hs => within_ok w _ _ _) rfl dc (fun _ _ => ?_))))))
  refine zq ((by first | exact PV.notD rfl | exact PV.not rfl)) rfl ?_
  refine zn (TC.cd rfl (fun hne => ?_) (fun hne => ?_))
  refine zr (za rfl (za rfl (za rfl (zt (TQ.thenR (TQ.retE3 rfl rfl rfl rfl ?_))))))
  have h7 := vh_4 (i := i) hbad (by omega)
  exact ⟨(none, [], 0), by rw [h7]; rfl, ⟨⟨fun _ => ⟨rfl, rfl⟩, fun h2 => absurd (by rw [h7]; decide) h2⟩, goI_nil⟩, nils⟩
  refine TC.skip (TQ.thenC (TC.seq ?_))
  obtain ⟨u, rfl⟩ : ∃ u : Nat, i = u := ⟨i.toNat, by omega⟩
  have hvh := vh_0 (i := (u : Int)) hbad (by omega)
  refine TC.region (TL.buildSlice0 Tb.sl_25 Tb.zi_3 rfl dc (fun bA hbA => ?_))
  refine zm rfl (TL.append0 (m := xs.length) (news := ival xs) (bA := bA) rfl rfl Tb.sl_25 Tb.zi_3 rfl t9z (fun w' hN2 => ints_src Tb.sl_25 rfl (hx.new hN2)) om om rfl dc (fun h9 ho9 => ?_))
  refine za rfl (zn (TC.seq ?_))
  have h7 := hx0 u
  refine TC.region (zm rfl (zm rfl (zq (PV.indexG (j := u) rfl rfl ho9 Tb.elm_25 rfl (by omega)) rfl (zq (PV.loadGI (y := (h9, xs)) (v := xs.getD u 0) rfl Tb.one_3 (fun yy hyy => by repeat (first | exact List.mem_append_left _ hyy | exact List.mem_append_left _ (List.mem_append_right _ hyy) | exact List.mem_append_left _ (List.mem_append_left _ hyy) | refine List.mem_append_right _ ?_ | refine List.Mem.tail _ ?_)) (go_lenI ho9 rfl) (by show u < xs.length; omega) rfl) rfl ?_))))
  refine zq (PV.add rfl rfl om) rfl (zq (PV.indexG (j := u) rfl rfl ho9 Tb.elm_25 rfl om) rfl (TL.putI (h := h9) (xs := xs) (xs' := drL xs u) (j := u) rfl rfl Tb.cells_3 (go_lenI ho9 rfl) rfl p9z om rfl rfl ?_))
  refine zk (zq (PV.loadBox rfl Tb.agg_27 m9z rfl) rfl ?_)
  refine zm rfl (TL.call rfl Tb.gofn_164 (fun a w hs => (by rw [gval_eq ho9]; exact rsettle_ok w _ _ _ (hr.new hs.new) _ _ _ (hg.new hs.new) hB _ _ (drL xs u) (IntsAt.g (x := (h9, drL xs u)) hs.new (fun yy hyy => by repeat (first | exact List.mem_append_left _ hyy | exact List.mem_append_left _ (List.mem_append_right _ hyy) | exact List.mem_append_left _ (List.mem_append_left _ hyy) | refine List.mem_append_right _ ?_ | refine List.Mem.tail _ ?_)) (go_lenI ho9 (List.length_set ..))) _ (List.length_set ..) ((List.length_set ..).trans hxl) (fun k => by have := drL_bd (i := u) hx0 k; omega))) rfl (by decide) (fun y9 hy9 => ?_))
  refine zm rfl (zq (PV.extract rfl rfl) rfl (zq (PV.extract rfl rfl) rfl (zq (PV.extract rfl rfl) rfl (za rfl (za rfl (za rfl (zn (TC.seq ?_))))))))
  have hsm := (stb_m hB hy9.1 (fun k => by have := drL_bd (i := u) hx0 k; omega)).1
  have hml := hy9.1.2.1
  refine TC.region (za rfl (zn (TC.seq (zr (za rfl (zn (TC.block (TC.loopK [6, 7, 8, 11, 12] (X := Nat) (fun k => k ≤ gs.length) (fun k => [(15, .int .i64 k), (14, .int .i64 (sm k (gd y9.2.2.2)))]) (fun k => gbI (y9.1, y9.2.2.1) ++ [(y9.2.1, Obj.cells (intsA (y9.2.2.2)) 3 (0, 0))]) (fun k => gs.length - k) 0 (Nat.zero_le _) l9z (List.sublist_append_left _ _) ?_))))))))
  intro k hk
  refine TC.seq (zr (zm rfl (zm rfl (zq (PV.len rfl Tb.sl_25) rfl (zq (PV.lss rfl rfl) rfl (zn (TC.cd rfl (fun h2 => ?_) (fun h2 => ?_))))))))
  refine TC.skip (TQ.thenC (TC.seq (TC.block ?_)))
  have h5 := smk_bd hsm k (by omega)
  have h6 := hsm k (by omega)
  refine TC.region (zm rfl (zm rfl (zm rfl (zq (PV.index1 (j := k) rfl rfl Tb.elm_25 rfl om) rfl (zq (PV.loadI rfl Tb.one_3 m9z om) rfl ?_)))))
  refine zq (PV.add rfl rfl om) rfl (za rfl (TL.nil (TQ.blkN (TQ.thenC (TC.region (zm rfl (zq (PV.add rfl rfl om) rfl (za rfl (TL.nil (TQ.thenN (TQ.backK (k + 1) l9z l9z (List.Sublist.refl _) om om)))))))))))
  refine TC.exit (TQ.thenE (TQ.thenE (TQ.blkS (TQ.thenC (zr (zm rfl (zm rfl (za rfl (za rfl (za rfl (zt (TQ.retE3 rfl rfl rfl rfl ?_))))))))))))
  exact ⟨(y9.1, y9.2.2.1, sm k (gd y9.2.2.2)), by rw [hvh, hy9.1.1], ⟨⟨fun h2 => absurd hvh h2, fun _ => ⟨_, by rw [Int.toNat_natCast]; exact hy9.1, by rw [show k = gs.length by omega]⟩⟩, go_lenI hy9.2 hy9.1.1⟩, List.sublist_append_left _ _⟩
end Go.Proofs.YtbnjmkidbfmomaaGreatDoor.H
