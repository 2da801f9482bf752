/- Sums of trails, and the law of them: contracts. -/
import Derived.Test.YtnlbngbbddhgeaaQHa
set_option linter.unusedVariables false
set_option linter.unusedSimpArgs false
namespace Go.Proofs.Ytnlbngbbddhgeaa
open Go.Sx Go.RowKit


theorem gb_own (b cap : Nat) (l : List Int) : gbI (some (b, cap, []), l) = [(b, Obj.cells (intsA l) 3 (0, 0))] := by simp [gbI, gblk, intsA, ival]
theorem go_own (b : Nat) (l : List Int) : goI (some (b, l.length, []), l) := ⟨by simp, by simp, Nat.le_refl _⟩
def SJ (rs : List Bd) (ts : List TV) (j : Nat) : List Int := (ts.take j).foldl addT (List.replicate rs.length 0)
def IJ (rs : List Bd) (ts : List TV) (j i : Nat) : List Int := ((ts.getD j default).ks.take i).foldl (addK (ts.getD j default).am) (SJ rs ts j)
theorem SJ_all (rs : List Bd) (ts : List TV) : SJ rs ts ts.length = sumT rs ts := by unfold SJ; rw [List.take_length]; rfl
theorem IJ_zero (rs : List Bd) (ts : List TV) (j : Nat) : IJ rs ts j 0 = SJ rs ts j := rfl
theorem IJ_next {rs : List Bd} {ts : List TV} {j i : Nat} (hi : i < (ts.getD j default).ks.length) : IJ rs ts j (i + 1) = addK (ts.getD j default).am (IJ rs ts j i) ((ts.getD j default).ks.getD i 0) := fold_snoc _ _ hi 0
theorem IJ_all {rs : List Bd} {ts : List TV} {j : Nat} (hj : j < ts.length) : IJ rs ts j (ts.getD j default).ks.length = SJ rs ts (j + 1) := by
  unfold IJ SJ
  rw [List.take_length, fold_snoc _ _ hj default]; rfl
theorem trOK_am {s t : Int} {rs : List Bd} {tv : TV} (h : trOK s t rs tv = true) : 1 ≤ tv.am ∧ tv.am ≤ 20 := by
  unfold trOK at h; rw [Bool.and_eq_true] at h; exact (pth_is h.1).1.2
theorem trOK_at {s t : Int} {rs : List Bd} {tv : TV} (h : trOK s t rs tv = true) {i : Nat} (hi : i < tv.ks.length) : 0 ≤ tv.ks.getD i 0 ∧ tv.ks.getD i 0 < rs.length := by
  unfold trOK at h; rw [Bool.and_eq_true] at h; exact pth_at h.1 hi
theorem trOK_a {s t : Int} {rs : List Bd} {tv : TV} (h : pthB rs tv.ks tv.am = false) : trOK s t rs tv = false := by unfold trOK; rw [h]; rfl
theorem trOK_b {s t : Int} {rs : List Bd} {tv : TV} (h : wayB s t rs tv.ks = false) (h2 : rndB rs tv.ks = false) : trOK s t rs tv = false := by unfold trOK; rw [h, h2]; simp
theorem trOK_w {s t : Int} {rs : List Bd} {tv : TV} (h : pthB rs tv.ks tv.am = true) (h2 : wayB s t rs tv.ks = true) : trOK s t rs tv = true := by unfold trOK; rw [h, h2]; rfl
theorem trOK_r {s t : Int} {rs : List Bd} {tv : TV} (h : pthB rs tv.ks tv.am = true) (h2 : rndB rs tv.ks = true) : trOK s t rs tv = true := by unfold trOK; rw [h, h2]; simp
theorem nb_t {b : Bool} (h : (!b) = true) : b = false := by cases b <;> simp_all
theorem nb_f {b : Bool} (h : (!b) = false) : b = true := by cases b <;> simp_all
def anyLong (ts : List TV) : Bool := ts.any fun t => decide (100 < t.ks.length)
theorem addT_len (xs : List Int) (tv : TV) : (addT xs tv).length = xs.length := by
  unfold addT
  suffices h : ∀ (l : List Int) (xs : List Int), (l.foldl (addK tv.am) xs).length = xs.length from h _ _
  intro l
  induction l with
  | nil => intro xs; rfl
  | cons v l ih => intro xs; rw [List.foldl_cons, ih]; exact List.length_set
theorem sumT_len (rs : List Bd) (ts : List TV) : (sumT rs ts).length = rs.length := by
  unfold sumT
  suffices h : ∀ (l : List TV) (xs : List Int), (l.foldl addT xs).length = xs.length from (h _ _).trans List.length_replicate
  intro l
  induction l with
  | nil => intro xs; rfl
  | cons v l ih => intro xs; rw [List.foldl_cons, ih, addT_len]
set_option maxRecDepth 100000 in
set_option maxHeartbeats 2000000 in
theorem Sum_v (w0 : World) (n s t : Nat) (p : Option Addr) (cap : Nat) (rs : List Bd) (hr : BdsAt w0 p rs) (hv : Vd n s t rs) (hd0 : dI n s t rs = 0) (pt : Option Addr) (ct : Nat) (ts : List TV) (hT : TrsAt w0 pt ts) (hsm : ∀ tv ∈ ts, tv.ks.length ≤ 100) (htl : ts.length ≤ 1000000) :
    Calls Try.prog 51 #[dnV n s t p rs.length cap, .slice pt ts.length ct] w0 (Post (X := HD) (fun h => .tuple #[gval h (sumL s t rs ts).length, .int .i64 (sumE s t rs ts)]) (fun h => goI (h, sumL s t rs ts)) (fun h => gbI (h, sumL s t rs ts)) w0) := by
  have hw := hv.w1
  have hlen := hv.len
  have hn8 := hw.n8
  have hsn := hw.sn
  have htn := hw.tn
  have h256 := p2_256 hn8
  have hpos := Nat.two_pow_pos n
  refine calls Try.func51 rfl (n := 64) rfl (by simp) ?_
  refine TC.seq ?_
  refine TC.region ?_
  refine TL.box rfl rfl (by decide) (fun b0 hb0 => ?_)
  refine TL.pure (PV.assign rfl) rfl (by decide) ?_
  refine TL.pure (PV.assign rfl) rfl (by decide) ?_
  refine TL.nil ?_
  refine TQ.thenC ?_
  refine TC.seq ?_
  refine TC.seq ?_
  refine TC.region ?_
  refine TL.pure (PV.loadBox rfl Tb.agg_24 (by repeat (first | exact List.Mem.head _ | refine List.Mem.tail _ ?_ | refine List.mem_append_right _ ?_)) rfl) rfl (by decide) ?_
  refine TL.call rfl Tb.gofn_20 (fun a w hs => validate_ok w n s t p cap rs (hr.new hs.new)) rfl (by decide) (fun _ _ => ?_)
  refine TL.pure (PV.assign rfl) rfl (by decide) ?_
  refine TL.nil ?_
  refine TQ.thenC ?_
  refine TC.seq ?_
  refine TC.region ?_
  refine TL.pure (PV.move rfl) rfl (by decide) ?_
  refine TL.pure (PV.neq rfl rfl) rfl (by decide) ?_
  refine TL.nil ?_
  refine TQ.thenC ?_
  first | refine TC.condD rfl (fun hv9 => ?_) (fun hv9 => ?_) | refine TC.cond rfl (fun hv9 => ?_) (fun hv9 => ?_)
  · skip
    refine TC.seq ?_
    refine TC.region ?_
    refine TL.pure (PV.move rfl) rfl (by decide) ?_
    refine TL.pure (PV.assign rfl) rfl (by decide) ?_
    refine TL.pure (PV.assign rfl) rfl (by decide) ?_
    refine TL.nil ?_
    refine TQ.thenC ?_
    refine TC.ret ?_
    refine TQ.thenR ?_
    refine TQ.retE2 rfl rfl rfl ?_
    exact absurd hd0 hv9
  · skip
    refine TC.skip ?_
    refine TQ.thenC ?_
    refine TC.seq ?_
    refine TC.seq ?_
    refine TC.region ?_
    refine TL.pure (PV.move rfl) rfl (by decide) ?_
    refine TL.pure (PV.len rfl Tb.sl_52) rfl (by decide) ?_
    refine TL.pure (PV.gtr rfl rfl) rfl (by decide) ?_
    refine TL.nil ?_
    refine TQ.thenC ?_
    first | refine TC.condD rfl (fun h40 => ?_) (fun h40 => ?_) | refine TC.cond rfl (fun h40 => ?_) (fun h40 => ?_)
    · skip
      refine TC.seq ?_
      refine TC.region ?_
      refine TL.pure (PV.assign rfl) rfl (by decide) ?_
      refine TL.pure (PV.assign rfl) rfl (by decide) ?_
      refine TL.nil ?_
      refine TQ.thenC ?_
      refine TC.ret ?_
      refine TQ.thenR ?_
      refine TQ.retE2 rfl rfl rfl ?_
      exact ⟨none, by rw [sumL_no (by rw [sumE_3 (by omega)]; decide), sumE_3 (by omega)]; rfl, by rw [sumL_no (by rw [sumE_3 (by omega)]; decide)]; exact goI_nil, List.nil_sublist _⟩
    · skip
      refine TC.skip ?_
      refine TQ.thenC ?_
      refine TC.seq ?_
      refine TC.region ?_
      refine TL.pure (PV.fieldAddr rfl Tb.fo_24_3) rfl (by decide) ?_
      refine TL.pure (PV.load rfl Tb.one_22 (by repeat (first | exact List.Mem.head _ | refine List.Mem.tail _ ?_ | refine List.mem_append_right _ ?_)) rfl) rfl (by decide) ?_
      refine TL.pure (PV.len rfl Tb.sl_22) rfl (by decide) ?_
      refine TL.makeI (k := rs.length) rfl rfl Tb.sl_25 Tb.zi_3 rfl (by omega) (by omega) rfl (by decide) (fun bS hbS => ?_)
      refine TL.pure (PV.assign rfl) rfl (by decide) ?_
      refine TL.nil ?_
      refine TQ.thenC ?_
      refine TC.seq ?_
      refine TC.seq ?_
      refine TC.region ?_
      refine TL.pure (PV.move rfl) rfl (by decide) ?_
      refine TL.pure (PV.len rfl Tb.sl_52) rfl (by decide) ?_
      refine TL.pure (PV.move rfl) rfl (by decide) ?_
      refine TL.nil ?_
      refine TQ.thenC ?_
      refine TC.block ?_
      -- live and written in the loop, not told: [4, 5]
      refine TC.lit [(2, _), (7, _), (24, _), (25, _), (26, _)] (by repeat (first | exact True.intro | refine And.intro rfl ?_)) ?_
      refine TC.loopK [2, 7, 24, 25] (X := Nat) (fun j => j ≤ ts.length ∧ (ts.take j).all (trOK s t rs) = true ∧ Bnd rs.length (2000 * j) (SJ rs ts j)) (fun j => [(26, .int .i64 (j : Nat))]) (fun j => [(bS, Obj.cells (intsA (SJ rs ts j)) 3 (0, 0)), (b0, Obj.cells #[.int .i64 (n : Nat), .int .i64 (s : Nat), .int .i64 (t : Nat), .slice p rs.length cap] 24 (0, 0))]) (fun j => ts.length - j) 0 ⟨Nat.zero_le _, rfl, Bnd.zero _⟩ (by repeat (first | exact True.intro | refine And.intro rfl ?_)) (by repeat (first | exact List.Sublist.slnil | exact List.nil_sublist _ | exact List.Sublist.refl _ | refine List.Sublist.cons_cons _ ?_ | refine List.Sublist.cons _ ?_ | refine List.Sublist.trans ?_ (List.sublist_append_right _ _))) ?_
      intro j hj
      have hj1 := hj.1
      refine TC.lit [(2, _), (7, _), (24, _), (25, _), (26, _)] (by repeat (first | exact True.intro | refine And.intro rfl ?_)) ?_
      refine TC.seq ?_
      refine TC.region ?_
      refine TL.pure (PV.lss rfl rfl) rfl (by decide) ?_
      refine TL.nil ?_
      refine TQ.thenC ?_
      refine TC.seq ?_
      first | refine TC.condD rfl (fun hlt => ?_) (fun hlt => ?_) | refine TC.cond rfl (fun hlt => ?_) (fun hlt => ?_)
      · skip
        refine TC.skip ?_
        refine TQ.thenC ?_
        refine TC.seq ?_
        refine TC.block ?_
        refine TC.seq ?_
        have hjl : j < ts.length := by omega
        obtain ⟨⟨q, hqp, hq⟩, hI⟩ := hT.at hjl
        have hk100 := hsm _ (mem_getD (l := ts) hjl)
        refine TC.region ?_
        refine TL.pure (PV.indexA rfl hqp rfl Tb.elm_52 rfl (by omega)) rfl (by decide) ?_
        refine TL.pure (PV.loadAggA (vs := [.slice (ts.getD j default).p (ts.getD j default).ks.length (ts.getD j default).c, .int .i64 (ts.getD j default).am]) rfl Tb.agg_89 rfl hq) rfl (by decide) ?_
        refine TL.alloc Tb.zero_89 rfl (by decide) (fun bT hbT => ?_)
        refine TL.storeAgg (vs := [.slice (ts.getD j default).p (ts.getD j default).ks.length (ts.getD j default).c, .int .i64 (ts.getD j default).am]) rfl rfl Tb.cells_89 (by repeat (first | exact Upd.head _ | apply Upd.tail | apply Upd.appR)) rfl rfl rfl rfl rfl ?_
        refine TL.nil ?_
        refine TQ.thenC ?_
        refine TC.seqG [2, 4, 5, 7, 9, 24, 25, 26] (X := Unit) (fun x9 => trOK s t rs (ts.getD j default) = true) (fun x9 => []) ?_ ?_
        · skip
          refine TC.seq ?_
          refine TC.region ?_
          refine TL.pure (PV.loadBox rfl Tb.agg_24 (by repeat (first | exact List.Mem.head _ | refine List.Mem.tail _ ?_ | refine List.mem_append_right _ ?_)) rfl) rfl (by decide) ?_
          refine TL.pure (PV.loadBox rfl Tb.agg_89 (by repeat (first | exact List.Mem.head _ | refine List.Mem.tail _ ?_ | refine List.mem_append_right _ ?_)) rfl) rfl (by decide) ?_
          refine TL.call rfl Tb.gofn_80 (fun a w hs => isTrail_ok w n s t p cap rs (hr.new hs.new) (ts.getD j default).p (ts.getD j default).c (ts.getD j default).ks (ts.getD j default).am (hI.new hs.new) (by omega) (by omega)) rfl (by decide) (fun _ _ => ?_)
          refine TL.pure ((by first | exact PV.notD rfl | exact PV.not rfl)) rfl (by decide) ?_
          refine TL.pure (PV.move rfl) rfl (by decide) ?_
          first | refine TL.splitD 34 rfl (fun a1 => ?_) (fun a1 => ?_) | refine TL.split 34 rfl (fun a1 => ?_) (fun a1 => ?_)
          · skip
            refine TL.skip rfl (fun k hk => by cases hk; decide) ?_
            refine TL.skip rfl (fun k hk => by cases hk; decide) ?_
            refine TL.skip rfl (fun k hk => by cases hk; decide) ?_
            refine TL.skip rfl (fun k hk => by cases hk; decide) ?_
            refine TL.skip rfl (fun k hk => by cases hk; decide) ?_
            refine TL.skipU rfl (fun k hk => by cases hk; decide) ?_
            refine TL.skipU rfl (fun k hk => by cases hk; decide) ?_
            refine TL.skipU rfl (fun k hk => by cases hk; decide) ?_
            refine TL.skipU rfl (fun k hk => by cases hk; decide) ?_
            refine TL.skip rfl (fun k hk => by cases hk; decide) ?_
            refine TL.pure (PV.pickT rfl rfl) rfl (by decide) ?_
            refine TL.nil ?_
            refine TQ.thenC ?_
            refine TC.condT rfl ?_
            refine TC.seq ?_
            refine TC.region ?_
            refine TL.pure (PV.assign rfl) rfl (by decide) ?_
            refine TL.pure (PV.assign rfl) rfl (by decide) ?_
            refine TL.nil ?_
            refine TQ.thenC ?_
            refine TC.ret ?_
            refine TQ.thenR ?_
            refine TQ.blkR ?_
            refine TQ.thenR ?_
            refine TQ.thenR ?_
            refine TQ.blkR ?_
            refine TQ.thenR ?_
            refine TQ.retE2 rfl rfl rfl ?_
            exact ⟨none, by rw [sumL_no (by rw [sumE_1 (by omega) hjl (trOK_a (nb_t a1))]; decide), sumE_1 (by omega) hjl (trOK_a (nb_t a1))]; rfl, by rw [sumL_no (by rw [sumE_1 (by omega) hjl (trOK_a (nb_t a1))]; decide)]; exact goI_nil, List.nil_sublist _⟩
          · skip
            refine TL.pure (PV.loadBox rfl Tb.agg_24 (by repeat (first | exact List.Mem.head _ | refine List.Mem.tail _ ?_ | refine List.mem_append_right _ ?_)) rfl) rfl (by decide) ?_
            refine TL.pure (PV.loadBox rfl Tb.agg_89 (by repeat (first | exact List.Mem.head _ | refine List.Mem.tail _ ?_ | refine List.mem_append_right _ ?_)) rfl) rfl (by decide) ?_
            refine TL.call rfl Tb.gofn_81 (fun a w hs => isWay_ok w n s t p cap rs (hr.new hs.new) (ts.getD j default).p (ts.getD j default).c (ts.getD j default).ks (ts.getD j default).am (hI.new hs.new) (by omega) (by omega) (nb_f a1)) rfl (by decide) (fun _ _ => ?_)
            refine TL.pure ((by first | exact PV.notD rfl | exact PV.not rfl)) rfl (by decide) ?_
            refine TL.pure (PV.move rfl) rfl (by decide) ?_
            first | refine TL.splitD 39 rfl (fun a2 => ?_) (fun a2 => ?_) | refine TL.split 39 rfl (fun a2 => ?_) (fun a2 => ?_)
            · skip
              refine TL.pure (PV.loadBox rfl Tb.agg_24 (by repeat (first | exact List.Mem.head _ | refine List.Mem.tail _ ?_ | refine List.mem_append_right _ ?_)) rfl) rfl (by decide) ?_
              refine TL.pure (PV.loadBox rfl Tb.agg_89 (by repeat (first | exact List.Mem.head _ | refine List.Mem.tail _ ?_ | refine List.mem_append_right _ ?_)) rfl) rfl (by decide) ?_
              refine TL.call rfl Tb.gofn_82 (fun a w hs => isRound_ok w n s t p cap rs (hr.new hs.new) (ts.getD j default).p (ts.getD j default).c (ts.getD j default).ks (ts.getD j default).am (hI.new hs.new) (by omega) (by omega) (nb_f a1)) rfl (by decide) (fun _ _ => ?_)
              refine TL.pure ((by first | exact PV.notD rfl | exact PV.not rfl)) rfl (by decide) ?_
              refine TL.pure (PV.pickT rfl rfl) rfl (by decide) ?_
              refine TL.pure (PV.pickF rfl rfl) rfl (by decide) ?_
              refine TL.nil ?_
              refine TQ.thenC ?_
              first | refine TC.condD rfl (fun hno => ?_) (fun hno => ?_) | refine TC.cond rfl (fun hno => ?_) (fun hno => ?_)
              · skip
                refine TC.seq ?_
                refine TC.region ?_
                refine TL.pure (PV.assign rfl) rfl (by decide) ?_
                refine TL.pure (PV.assign rfl) rfl (by decide) ?_
                refine TL.nil ?_
                refine TQ.thenC ?_
                refine TC.ret ?_
                refine TQ.thenR ?_
                refine TQ.blkR ?_
                refine TQ.thenR ?_
                refine TQ.thenR ?_
                refine TQ.blkR ?_
                refine TQ.thenR ?_
                refine TQ.retE2 rfl rfl rfl ?_
                exact ⟨none, by rw [sumL_no (by rw [sumE_1 (by omega) hjl (trOK_b (decide_eq_false a2) (decide_eq_false hno))]; decide), sumE_1 (by omega) hjl (trOK_b (decide_eq_false a2) (decide_eq_false hno))]; rfl, by rw [sumL_no (by rw [sumE_1 (by omega) hjl (trOK_b (decide_eq_false a2) (decide_eq_false hno))]; decide)]; exact goI_nil, List.nil_sublist _⟩
              · skip
                have htok : trOK s t rs (ts.getD j default) = true := trOK_r (nb_f a1) (decide_eq_true (Decidable.not_not.1 hno))
                refine TC.skip ?_
                refine TQ.thenN ?_
                refine TQ.midK () (by repeat (first | exact True.intro | refine And.intro rfl ?_)) (by repeat (first | exact True.intro | refine And.intro rfl ?_)) (by repeat (first | exact List.Sublist.slnil | exact List.nil_sublist _ | exact List.Sublist.refl _ | refine List.Sublist.cons_cons _ ?_ | refine List.Sublist.cons _ ?_ | refine List.Sublist.trans ?_ (List.sublist_append_right _ _))) htok
            · skip
              refine TL.skip rfl (fun k hk => by cases hk; decide) ?_
              refine TL.skip rfl (fun k hk => by cases hk; decide) ?_
              refine TL.skip rfl (fun k hk => by cases hk; decide) ?_
              refine TL.skip rfl (fun k hk => by cases hk; decide) ?_
              refine TL.pure (PV.pickF rfl rfl) rfl (by decide) ?_
              refine TL.pure (PV.pickF rfl rfl) rfl (by decide) ?_
              refine TL.nil ?_
              refine TQ.thenC ?_
              refine TC.condF rfl ?_
              have htok : trOK s t rs (ts.getD j default) = true := trOK_w (nb_f a1) (decide_eq_true (Decidable.not_not.1 a2))
              refine TC.skip ?_
              refine TQ.thenN ?_
              refine TQ.midK () (by repeat (first | exact True.intro | refine And.intro rfl ?_)) (by repeat (first | exact True.intro | refine And.intro rfl ?_)) (by repeat (first | exact List.Sublist.slnil | exact List.nil_sublist _ | exact List.Sublist.refl _ | refine List.Sublist.cons_cons _ ?_ | refine List.Sublist.cons _ ?_ | refine List.Sublist.trans ?_ (List.sublist_append_right _ _))) htok
        · skip
          intro x9 htok
          refine TC.lit [(2, _), (7, _), (9, _), (24, _), (25, _), (26, _)] (by repeat (first | exact True.intro | refine And.intro rfl ?_)) ?_
          refine TC.seq ?_
          have ham := trOK_am htok
          refine TC.region ?_
          refine TL.pure (PV.fieldAddr rfl Tb.fo_89_0) rfl (by decide) ?_
          refine TL.pure (PV.load rfl Tb.one_25 (by repeat (first | exact List.Mem.head _ | refine List.Mem.tail _ ?_ | refine List.mem_append_right _ ?_)) rfl) rfl (by decide) ?_
          refine TL.pure (PV.len rfl Tb.sl_25) rfl (by decide) ?_
          refine TL.pure (PV.move rfl) rfl (by decide) ?_
          refine TL.nil ?_
          refine TQ.thenC ?_
          refine TC.block ?_
          refine TC.lit [(2, _), (7, _), (9, _), (24, _), (25, _), (26, _), (47, _), (48, _), (49, _)] (by repeat (first | exact True.intro | refine And.intro rfl ?_)) ?_
          refine TC.loopK [2, 4, 5, 7, 9, 24, 25, 26, 47, 48] (X := Nat) (fun i => i ≤ (ts.getD j default).ks.length ∧ Bnd rs.length (2000 * j + 20 * i) (IJ rs ts j i)) (fun i => [(49, .int .i64 (i : Nat))]) (fun i => [(bT, Obj.cells #[.slice (ts.getD j default).p (ts.getD j default).ks.length (ts.getD j default).c, .int .i64 (ts.getD j default).am] 89 (0, 0)), (bS, Obj.cells (intsA (IJ rs ts j i)) 3 (0, 0)), (b0, Obj.cells #[.int .i64 (n : Nat), .int .i64 (s : Nat), .int .i64 (t : Nat), .slice p rs.length cap] 24 (0, 0))]) (fun i => (ts.getD j default).ks.length - i) 0 ⟨Nat.zero_le _, by rw [IJ_zero]; exact hj.2.2.mono (by omega)⟩ (by repeat (first | exact True.intro | refine And.intro rfl ?_)) (by repeat (first | exact List.Sublist.slnil | exact List.nil_sublist _ | exact List.Sublist.refl _ | exact List.sublist_append_left _ _ | refine List.Sublist.cons_cons _ ?_ | refine (List.append_sublist_append_left _).2 ?_ | refine List.Sublist.cons _ ?_ | refine List.Sublist.trans ?_ (List.sublist_append_right _ _))) ?_
          intro i hi
          have hi1 := hi.1
          refine TC.lit [(2, _), (7, _), (9, _), (24, _), (25, _), (26, _), (47, _), (48, _), (49, _)] (by repeat (first | exact True.intro | refine And.intro rfl ?_)) ?_
          refine TC.seq ?_
          refine TC.region ?_
          refine TL.pure (PV.lss rfl rfl) rfl (by decide) ?_
          refine TL.nil ?_
          refine TQ.thenC ?_
          refine TC.seq ?_
          first | refine TC.condD rfl (fun hlt2 => ?_) (fun hlt2 => ?_) | refine TC.cond rfl (fun hlt2 => ?_) (fun hlt2 => ?_)
          · skip
            refine TC.skip ?_
            refine TQ.thenC ?_
            refine TC.seq ?_
            refine TC.block ?_
            refine TC.seq ?_
            have hil : i < (ts.getD j default).ks.length := by omega
            obtain ⟨q2, q2p, q2v⟩ := hI i hil
            have hvi := trOK_at htok hil
            have hbi := hi.2.bd ((ts.getD j default).ks.getD i 0).toNat
            refine TC.region ?_
            refine TL.pure (PV.indexA rfl q2p rfl Tb.elm_25 rfl (by omega)) rfl (by decide) ?_
            refine TL.pure (PV.loadOld rfl Tb.one_3 q2v) rfl (by decide) ?_
            refine TL.pure (PV.assign rfl) rfl (by decide) ?_
            refine TL.nil ?_
            refine TQ.thenC ?_
            refine TC.mixV [true, true, true, true, true, true, true, true, false] [(bT, Obj.cells #[.slice (ts.getD j default).p (ts.getD j default).ks.length (ts.getD j default).c, .int .i64 (ts.getD j default).am] 89 (0, 0)), (bS, Obj.cells (intsA (IJ rs ts j i)) 3 (0, 0)), (b0, Obj.cells #[.int .i64 (n : Nat), .int .i64 (s : Nat), .int .i64 (t : Nat), .slice p rs.length cap] 24 (0, 0))] 9 Tb.mixed rfl (by kernel_rfl) (by kernel_rfl) (by kernel_rfl) (by kernel_rfl) (by repeat (first | exact List.Sublist.slnil | exact List.nil_sublist _ | exact List.Sublist.refl _ | refine List.Sublist.cons_cons _ ?_ | refine List.Sublist.cons _ ?_ | refine List.Sublist.trans ?_ (List.sublist_append_right _ _))) ?_
            refine TV.virt 0 rfl rfl (by decide) rfl (by kernel_rfl) (SOK.pure (PV.move rfl) rfl) ?_
            refine TV.virt 1 rfl rfl (by decide) rfl (by kernel_rfl) (SOK.pure (PV.move rfl) rfl) ?_
            refine TV.virt 2 rfl rfl (by decide) rfl (by kernel_rfl) (SOK.pure (PV.index (j := ((ts.getD j default).ks.getD i 0).toNat) rfl rfl Tb.elm_25 (by omega) (by omega)) rfl) ?_
            refine TV.virt 3 rfl rfl (by decide) rfl (by kernel_rfl) (SOK.pure (PV.loadIo (xs := IJ rs ts j i) ((ts.getD j default).ks.getD i 0).toNat rfl (off1 _) Tb.one_3 (by repeat (first | exact List.Mem.head _ | refine List.Mem.tail _ ?_ | refine List.mem_append_right _ ?_)) (by have := hi.2.len; omega)) rfl) ?_
            refine TV.virt 4 rfl rfl (by decide) rfl (by kernel_rfl) (SOK.pure (PV.fieldAddr rfl Tb.fo_89_1) rfl) ?_
            refine TV.virt 5 rfl rfl (by decide) rfl (by kernel_rfl) (SOK.pure (PV.load rfl Tb.one_3 (by repeat (first | exact List.Mem.head _ | refine List.Mem.tail _ ?_ | refine List.mem_append_right _ ?_)) rfl) rfl) ?_
            refine TV.virt 6 rfl rfl (by decide) rfl (by kernel_rfl) (SOK.pure (PV.add rfl rfl (by omega)) rfl) ?_
            refine TV.virt 7 rfl rfl (by decide) rfl (by kernel_rfl) (SOK.pure (PV.index (j := ((ts.getD j default).ks.getD i 0).toNat) rfl rfl Tb.elm_25 (by omega) (by omega)) rfl) ?_
            refine TV.step [8] (by kernel_rfl) (by decide) rfl ⟨⟨_, rfl, ?_⟩, trivial⟩
            refine TL.storeIo (xs := IJ rs ts j i) ((ts.getD j default).ks.getD i 0).toNat (addK (ts.getD j default).am (IJ rs ts j i) ((ts.getD j default).ks.getD i 0)) rfl rfl (off1 _) rfl Tb.cells_3 (by repeat (first | exact Upd.head _ | apply Upd.tail | apply Upd.appR)) (by have := hi.2.len; omega) rfl rfl ?_
            refine TL.nil ?_
            refine TV.next (.inr (by kernel_rfl)) ?_
            refine TV.done (by kernel_rfl) ?_
            refine TQ.blkN ?_
            refine TQ.thenC ?_
            refine TC.region ?_
            refine TL.pure (PV.add rfl rfl (by omega)) rfl (by decide) ?_
            refine TL.pure (PV.move rfl) rfl (by decide) ?_
            refine TL.nil ?_
            refine TQ.thenN ?_
            refine TQ.backK (i + 1) (by repeat (first | exact True.intro | refine And.intro rfl ?_)) (by repeat (first | exact True.intro | refine And.intro rfl ?_)) (by rw [IJ_next hil]; exact (by repeat (first | exact List.Sublist.slnil | exact List.nil_sublist _ | exact List.Sublist.refl _ | exact List.sublist_append_left _ _ | refine List.Sublist.cons_cons _ ?_ | refine (List.append_sublist_append_left _).2 ?_ | refine List.Sublist.cons _ ?_ | refine List.Sublist.trans ?_ (List.sublist_append_right _ _)))) ⟨by omega, by rw [IJ_next hil]; exact (hi.2.add ham).mono (by omega)⟩ (by omega)
          · skip
            refine TC.exit ?_
            refine TQ.thenE ?_
            refine TQ.thenE ?_
            refine TQ.blkS ?_
            refine TQ.blkN ?_
            refine TQ.thenC ?_
            have hie : i = (ts.getD j default).ks.length := by omega
            have hnx9 : SJ rs ts (j + 1) = IJ rs ts j i := by rw [hie]; exact (IJ_all hjl).symm
            have hk100 := hsm _ (mem_getD (l := ts) hjl)
            have hnb : Bnd rs.length (2000 * (j + 1 : Nat)) (SJ rs ts (j + 1)) := by rw [hnx9]; exact hi.2.mono (by push_cast; omega)
            refine TC.region ?_
            refine TL.pure (PV.add rfl rfl (by omega)) rfl (by decide) ?_
            refine TL.pure (PV.move rfl) rfl (by decide) ?_
            refine TL.nil ?_
            refine TQ.thenN ?_
            refine TQ.backK (j + 1) (by repeat (first | exact True.intro | refine And.intro rfl ?_)) (by repeat (first | exact True.intro | refine And.intro rfl ?_)) (by rw [hnx9]; exact (by repeat (first | exact List.Sublist.slnil | exact List.nil_sublist _ | exact List.Sublist.refl _ | exact List.sublist_append_left _ _ | refine List.Sublist.cons_cons _ ?_ | refine (List.append_sublist_append_left _).2 ?_ | refine List.Sublist.cons _ ?_ | refine List.Sublist.trans ?_ (List.sublist_append_right _ _)))) ⟨by omega, all_take_next hj.2.1 hjl htok, hnb⟩ (by omega)
      · skip
        refine TC.exit ?_
        refine TQ.thenE ?_
        refine TQ.thenE ?_
        refine TQ.blkS ?_
        refine TQ.thenC ?_
        refine TC.seq ?_
        refine TC.region ?_
        refine TL.pure (PV.move rfl) rfl (by decide) ?_
        refine TL.pure (PV.assign rfl) rfl (by decide) ?_
        refine TL.pure (PV.assign rfl) rfl (by decide) ?_
        refine TL.nil ?_
        refine TQ.thenC ?_
        refine TC.ret ?_
        refine TQ.retE2 rfl rfl rfl ?_
        have hje : j = ts.length := by omega
        have hE := sumE_0 (s := (s : Int)) (t := (t : Int)) (rs := rs) (ts := ts) (by omega) (by have h9 := hj.2.1; rw [hje, List.take_length] at h9; exact h9)
        have hL := sumL_yes hE
        have hSl : (sumT rs ts).length = rs.length := by rw [← SJ_all, ← hje]; exact hj.2.2.len
        exact ⟨some (bS, rs.length, []), by rw [hL, hE, hSl]; rfl, by rw [hL, ← hSl]; exact go_own _ _, by rw [hL, gb_own, ← SJ_all, ← hje]; exact (by repeat (first | exact List.Sublist.slnil | exact List.nil_sublist _ | exact List.Sublist.refl _ | exact List.sublist_append_left _ _ | refine List.Sublist.cons_cons _ ?_ | refine (List.append_sublist_append_left _).2 ?_ | refine List.Sublist.cons _ ?_ | refine List.Sublist.trans ?_ (List.sublist_append_right _ _)))⟩

end Go.Proofs.Ytnlbngbbddhgeaa
