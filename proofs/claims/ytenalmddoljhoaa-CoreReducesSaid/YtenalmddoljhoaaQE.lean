/- A core without the bounds that follow from others: the law's contract. -/
import Derived.Test.YtenalmddoljhoaaQD
set_option linter.unusedVariables false
set_option linter.unusedSimpArgs false
namespace Go.Proofs.Ytenalmddoljhoaa
open Go.Sx Go.RowKit

theorem redK_len (N : Nat) (rs : List Bd) : ∀ j, (redK N rs j).length ≤ rs.length
  | 0 => Nat.le_refl _
  | j + 1 => by
    have ih := redK_len N rs j
    unfold redK
    split
    · unfold delB; simp only [List.length_append, List.length_take, List.length_drop]; omega
    · exact ih
theorem red_same {n : Int} {rs : List Bd} (h : pofI n rs [] = 0) : smI n (redK n.toNat rs rs.length) n rs = 0 ∧ smR n (redK n.toNat rs rs.length) n rs = true := by
  have hd := pof_dok h
  have hv : Valid n rs := (of_decide_eq_true hd).1
  have hk := redK_ok hv rs.length (Nat.le_refl _)
  have hv2 : validateI n (redK n.toNat rs rs.length) = 0 := hk.vd
  have hv1 : validateI n rs = 0 := hv
  have hp : pairI n (redK n.toNat rs rs.length) n rs = 0 := pairI_0 (by rw [hv2]; decide) (by rw [hv1]; decide) (by simp)
  obtain ⟨e1, e2⟩ := sm_3 (by rw [hp]; decide) (hk.dok hd) hd
  exact ⟨e1, e2.trans (decide_eq_true (hk.pl hd))⟩
theorem reduceS {w : World} {n : Int} {h : HD} {rs : List Bd} (ho : goB h rs) (hr : BdsAt w (gp h) rs) :
    Calls Try.prog 49 #[.agg #[.int .i64 n, gval h rs.length]] w (Post (X := Int × HD × List Bd) (fun x => .tuple #[.agg #[.int .i64 x.1, gval x.2.1 x.2.2.length], .int .i64 (pofI n rs [])]) (CF (pofI n rs []) n (redK n.toNat rs rs.length)) (fun x => gbB 42 x.2.1 x.2.2) w) := by
  have hc := Reduce_ok w n (gp h) (gc h) rs hr
  rw [gvB_eq ho rfl]
  exact hc
theorem sameS {w : World} {n1 n2 : Int} {h : HD} {r1 r2 : List Bd} {p : Option Addr} {cap : Nat} (ho : goB h r1) (hr : BdsAt w (gp h) r1) (hr2 : BdsAt w p r2) :
    Calls Try.prog 46 #[.agg #[.int .i64 n1, gval h r1.length], cv n2 p r2.length cap] w (Post (X := Unit) (fun _ => .tuple #[.bool (smR n1 r1 n2 r2), .int .i64 (smI n1 r1 n2 r2)]) (fun _ => True) (fun _ => []) w) := by
  have hc := Same_ok w n1 (gp h) (gc h) r1 hr n2 p cap r2 hr2
  rw [gvB_eq ho rfl]
  exact hc
def ngA (r : Bd) : Bd := setF r 0 (-1)
theorem ng_put {xs : List Bd} {k : Nat} (hk : k < xs.length) : (pm ngA xs k).set k (setF ((pm ngA xs k).getD k default) 0 (-1)) = pm ngA xs (k + 1) := by
  rw [pm_get ngA k hk, if_neg (by omega)]
  exact pm_set ngA hk
theorem goB_len2 {h : HD} {l m : List Bd} (ho : goB h l) (e : m.length = l.length) : goB h m := goB_len ho e


set_option maxRecDepth 100000 in
set_option maxHeartbeats 2000000 in
theorem coreReduces_ok (w0 : World) (n : Int) (p : Option Addr) (cap : Nat) (rs : List Bd) (hr : BdsAt w0 p rs) :
    Calls Try.prog 12 #[cv n p rs.length cap] w0 (Post (X := Unit) (fun _ => .bool true) (fun _ => True) (fun _ => []) w0) := by
  refine calls Try.func12 rfl (n := 72) rfl (by simp) ?_
  refine TC.seq ?_
  refine TC.region ?_
  refine TL.box rfl rfl (by decide) (fun b0 hb0 => ?_)
  refine TL.pure (PV.assign rfl) rfl (by decide) ?_
  refine TL.nil ?_
  refine TQ.thenC ?_
  refine TC.seq ?_
  refine TC.seq ?_
  refine TC.region ?_
  refine TL.pure (PV.loadBox rfl Tb.agg_24 (by repeat (first | exact List.Mem.head _ | refine List.Mem.tail _ ?_ | refine List.mem_append_right _ ?_)) rfl) rfl (by decide) ?_
  refine TL.call rfl Tb.gofn_17 (fun a w hs => long_ok w _ _ _ _ (hr.new hs.new)) rfl (by decide) (fun _ _ => ?_)
  refine TL.nil ?_
  refine TQ.thenC ?_
  first | refine TC.condD rfl (fun hlong => ?_) (fun hlong => ?_) | refine TC.cond rfl (fun hlong => ?_) (fun hlong => ?_)
  · skip
    refine TC.seq ?_
    refine TC.region ?_
    refine TL.call rfl Tb.gofn_18 (fun a w hs => knownOk w) rfl (by decide) (fun _ _ => ?_)
    refine TL.pure (PV.assign rfl) rfl (by decide) ?_
    refine TL.nil ?_
    refine TQ.thenC ?_
    refine TC.ret ?_
    refine TQ.thenR ?_
    refine TQ.retE1 rfl rfl ?_
    first | exact ⟨(), rfl, trivial, List.nil_sublist _⟩ | contradiction | (exfalso; omega) | (exfalso; obtain ⟨h8, h9⟩ := hsm (by omega); first | omega | contradiction | exact m1 h9 | exact m1 (of_decide_eq_true h9) | (rw [h9] at m1; cases m1) | (simp [h8, h9] at m1; done)) | (exfalso; simp_all [eqB]; done)
  · skip
    refine TC.skip ?_
    refine TQ.thenC ?_
    refine TC.seq ?_
    refine TC.region ?_
    refine TL.pure (PV.loadBox rfl Tb.agg_24 (by repeat (first | exact List.Mem.head _ | refine List.Mem.tail _ ?_ | refine List.mem_append_right _ ?_)) rfl) rfl (by decide) ?_
    refine TL.call rfl Tb.gofn_48 (fun a w hs => Copy_ok w n p cap rs.length rs rfl (hr.new hs.new) (by omega)) rfl (by decide) (fun h3 hh3 => ?_)
    refine TL.alloc Tb.zero_24 rfl (by decide) (fun b1 hb1 => ?_)
    refine TL.storeAgg rfl rfl Tb.cells_24 (by repeat (first | exact Upd.head _ | apply Upd.tail | apply Upd.appR)) rfl rfl (by first | rfl | exact sv_one _ _ _) rfl rfl ?_
    refine TL.nil ?_
    refine TQ.thenC ?_
    refine TC.seq ?_
    refine TC.region ?_
    refine TL.pure (PV.loadBox rfl Tb.agg_24 (by repeat (first | exact List.Mem.head _ | refine List.Mem.tail _ ?_ | refine List.mem_append_right _ ?_)) rfl) rfl (by decide) ?_
    refine TL.call rfl Tb.gofn_49 (fun a w hs => reduceS hh3 (BdsAt.s (e := 42) hs.new (fun yy hyy => by simp only [List.mem_append, List.mem_cons]; simp [hyy]) hh3)) rfl (by decide) (fun xa hxa => ?_)
    refine TL.pure (PV.move rfl) rfl (by decide) ?_
    refine TL.pure (PV.extract rfl rfl) rfl (by decide) ?_
    refine TL.pure (PV.extract rfl rfl) rfl (by decide) ?_
    refine TL.alloc Tb.zero_24 rfl (by decide) (fun b2 hb2 => ?_)
    refine TL.storeAgg rfl rfl Tb.cells_24 (by repeat (first | exact Upd.head _ | apply Upd.tail | apply Upd.appR)) rfl rfl (by first | rfl | exact sv_one _ _ _) rfl rfl ?_
    refine TL.pure (PV.assign rfl) rfl (by decide) ?_
    refine TL.nil ?_
    refine TQ.thenC ?_
    refine TC.seq ?_
    refine TC.region ?_
    refine TL.pure (PV.loadBox rfl Tb.agg_24 (by repeat (first | exact List.Mem.head _ | refine List.Mem.tail _ ?_ | refine List.mem_append_right _ ?_)) rfl) rfl (by decide) ?_
    refine TL.call rfl Tb.gofn_50 (fun a w hs => rReduce_ok w n p cap rs (hr.new hs.new)) rfl (by decide) (fun ya hya => ?_)
    refine TL.pure (PV.move rfl) rfl (by decide) ?_
    refine TL.pure (PV.extract rfl rfl) rfl (by decide) ?_
    refine TL.pure (PV.extract rfl rfl) rfl (by decide) ?_
    refine TL.alloc Tb.zero_24 rfl (by decide) (fun b3 hb3 => ?_)
    refine TL.storeAgg rfl rfl Tb.cells_24 (by repeat (first | exact Upd.head _ | apply Upd.tail | apply Upd.appR)) rfl rfl (by first | rfl | exact sv_one _ _ _) rfl rfl ?_
    refine TL.pure (PV.assign rfl) rfl (by decide) ?_
    refine TL.nil ?_
    refine TQ.thenC ?_
    refine TC.seq ?_
    refine TC.seq ?_
    have lx := hxa.len
    have ly := hya.len
    have lr := redK_len n.toNat rs rs.length
    have hsame := CF.same hxa hya
    refine TC.region ?_
    refine TL.pure (PV.loadBox rfl Tb.agg_24 (by repeat (first | exact List.Mem.head _ | refine List.Mem.tail _ ?_ | refine List.mem_append_right _ ?_)) rfl) rfl (by decide) ?_
    refine TL.pure (PV.loadBox rfl Tb.agg_24 (by repeat (first | exact List.Mem.head _ | refine List.Mem.tail _ ?_ | refine List.mem_append_right _ ?_)) rfl) rfl (by decide) ?_
    refine TL.call rfl Tb.gofn_51 (fun a w hs => equalS rfl rfl hxa.ok hya.ok (BdsAt.s (e := 42) hs.new (fun yy hyy => by simp only [List.mem_append, List.mem_cons]; simp [hyy]) hxa.ok) (BdsAt.s (e := 42) hs.new (fun yy hyy => by simp only [List.mem_append, List.mem_cons]; simp [hyy]) hya.ok) (by omega) (by omega)) rfl (by decide) (fun _ _ => ?_)
    refine TL.pure ((by first | exact PV.notD rfl | exact PV.not rfl)) rfl (by decide) ?_
    refine TL.pure (PV.move rfl) rfl (by decide) ?_
    first | refine TL.splitD 31 rfl (fun g0 => ?_) (fun g0 => ?_) | refine TL.split 31 rfl (fun g0 => ?_) (fun g0 => ?_)
    · skip
      refine TL.skip rfl (fun k hk => by cases hk; decide) ?_
      refine TL.skip rfl (fun k hk => by cases hk; decide) ?_
      refine TL.skip rfl (fun k hk => by cases hk; decide) ?_
      refine TL.pure (PV.pickT rfl rfl) rfl (by decide) ?_
      refine TL.nil ?_
      refine TQ.thenC ?_
      refine TC.condT rfl ?_
      refine TC.seq ?_
      refine TC.region ?_
      refine TL.pure (PV.assign rfl) rfl (by decide) ?_
      refine TL.nil ?_
      refine TQ.thenC ?_
      refine TC.ret ?_
      refine TQ.thenR ?_
      refine TQ.retE1 rfl rfl ?_
      first | exact ⟨(), rfl, trivial, List.nil_sublist _⟩ | contradiction | (exfalso; omega) | (exfalso; obtain ⟨h8, h9⟩ := hsm (by omega); first | omega | contradiction | exact m1 h9 | exact m1 (of_decide_eq_true h9) | (rw [h9] at m1; cases m1) | (simp [h8, h9] at m1; done)) | (exfalso; simp_all [eqB]; done)
    · skip
      refine TL.pure (PV.move rfl) rfl (by decide) ?_
      refine TL.pure (PV.move rfl) rfl (by decide) ?_
      refine TL.pure (PV.neq rfl rfl) rfl (by decide) ?_
      refine TL.pure (PV.pickF rfl rfl) rfl (by decide) ?_
      refine TL.nil ?_
      refine TQ.thenC ?_
      first | refine TC.condD rfl (fun g1 => ?_) (fun g1 => ?_) | refine TC.cond rfl (fun g1 => ?_) (fun g1 => ?_)
      · skip
        refine TC.seq ?_
        refine TC.region ?_
        refine TL.pure (PV.assign rfl) rfl (by decide) ?_
        refine TL.nil ?_
        refine TQ.thenC ?_
        refine TC.ret ?_
        refine TQ.thenR ?_
        refine TQ.retE1 rfl rfl ?_
        first | exact ⟨(), rfl, trivial, List.nil_sublist _⟩ | contradiction | (exfalso; omega) | (exfalso; obtain ⟨h8, h9⟩ := hsm (by omega); first | omega | contradiction | exact m1 h9 | exact m1 (of_decide_eq_true h9) | (rw [h9] at m1; cases m1) | (simp [h8, h9] at m1; done)) | (exfalso; simp_all [eqB]; done)
      · skip
        refine TC.skip ?_
        refine TQ.thenC ?_
        refine TC.seq ?_
        refine TC.region ?_
        refine TL.pure (PV.loadBox rfl Tb.agg_24 (by repeat (first | exact List.Mem.head _ | refine List.Mem.tail _ ?_ | refine List.mem_append_right _ ?_)) rfl) rfl (by decide) ?_
        refine TL.pure (PV.loadBox rfl Tb.agg_24 (by repeat (first | exact List.Mem.head _ | refine List.Mem.tail _ ?_ | refine List.mem_append_right _ ?_)) rfl) rfl (by decide) ?_
        refine TL.call rfl Tb.gofn_46 (fun a w hs => sameS hxa.ok (BdsAt.s (e := 42) hs.new (fun yy hyy => by simp only [List.mem_append, List.mem_cons]; simp [hyy]) hxa.ok) (hr.new hs.new)) rfl (by decide) (fun _ _ => ?_)
        refine TL.pure (PV.move rfl) rfl (by decide) ?_
        refine TL.pure (PV.extract rfl rfl) rfl (by decide) ?_
        refine TL.pure (PV.extract rfl rfl) rfl (by decide) ?_
        refine TL.pure (PV.assign rfl) rfl (by decide) ?_
        refine TL.pure (PV.assign rfl) rfl (by decide) ?_
        refine TL.nil ?_
        refine TQ.thenC ?_
        refine TC.seq ?_
        have hsm : pofI n rs [] = 0 → smI xa.1 xa.2.2 n rs = 0 ∧ smR xa.1 xa.2.2 n rs = true := fun h => by rw [hxa.num, hxa.eq, if_pos h, if_pos h]; exact red_same h
        refine TC.region ?_
        refine TL.pure (PV.move rfl) rfl (by decide) ?_
        refine TL.pure (PV.neq rfl rfl) rfl (by decide) ?_
        refine TL.pure (PV.move rfl) rfl (by decide) ?_
        first | refine TL.splitD 44 rfl (fun k1 => ?_) (fun k1 => ?_) | refine TL.split 44 rfl (fun k1 => ?_) (fun k1 => ?_)
        · skip
          refine TL.skip rfl (fun k hk => by cases hk; decide) ?_
          refine TL.skip rfl (fun k hk => by cases hk; decide) ?_
          refine TL.skip rfl (fun k hk => by cases hk; decide) ?_
          refine TL.skipU rfl (fun k hk => by cases hk; decide) ?_
          refine TL.skip rfl (fun k hk => by cases hk; decide) ?_
          refine TL.pure (PV.pickT rfl rfl) rfl (by decide) ?_
          refine TL.pure (PV.assign rfl) rfl (by decide) ?_
          refine TL.nil ?_
          refine TQ.thenC ?_
          refine TC.seq ?_
          refine TC.seq ?_
          refine TC.region ?_
          refine TL.pure (PV.assign rfl) rfl (by decide) ?_
          refine TL.nil ?_
          refine TQ.thenC ?_
          refine TC.block ?_
          refine TC.loopK [1, 2, 3, 4, 10] (X := Nat) (fun k => k ≤ xa.2.2.length) (fun k => [(11, .int .i64 k)]) (fun k => (b2, Obj.cells #[.int .i64 xa.1, gval xa.2.1 xa.2.2.length] 24 (0, 0)) :: (gbB 42 xa.2.1 (pm ngA xa.2.2 k) ++ ((b1, Obj.cells #[.int .i64 n, gval h3 rs.length] 24 (0, 0)) :: (gbB 42 h3 rs ++ [(b0, Obj.cells #[.int .i64 n, .slice p rs.length cap] 24 (0, 0))])))) (fun k => xa.2.2.length - k) 0 (Nat.zero_le _) (by repeat (first | exact True.intro | refine And.intro rfl ?_)) (by rw [pm_zero]; exact List.Sublist.cons _ (List.sublist_append_right _ _)) ?_
          intro k hk
          refine TC.seq ?_
          refine TC.seq ?_
          refine TC.region ?_
          refine TL.pure (PV.move rfl) rfl (by decide) ?_
          refine TL.pure (PV.fieldAddr rfl Tb.fo_24_1) rfl (by decide) ?_
          refine TL.pure (PV.load rfl Tb.one_22 (by repeat (first | exact List.Mem.head _ | refine List.Mem.tail _ ?_ | refine List.mem_append_right _ ?_)) rfl) rfl (by decide) ?_
          refine TL.pure (PV.lenG rfl hxa.ok Tb.sl_22) rfl (by decide) ?_
          refine TL.pure (PV.lss rfl rfl) rfl (by decide) ?_
          refine TL.nil ?_
          refine TQ.thenC ?_
          first | refine TC.condD rfl (fun hlt => ?_) (fun hlt => ?_) | refine TC.cond rfl (fun hlt => ?_) (fun hlt => ?_)
          · skip
            refine TC.skip ?_
            refine TQ.thenC ?_
            refine TC.seq ?_
            refine TC.block ?_
            refine TC.region ?_
            refine TL.pure (PV.fieldAddr rfl Tb.fo_24_1) rfl (by decide) ?_
            refine TL.pure (PV.load rfl Tb.one_22 (by repeat (first | exact List.Mem.head _ | refine List.Mem.tail _ ?_ | refine List.mem_append_right _ ?_)) rfl) rfl (by decide) ?_
            refine TL.pure (PV.move rfl) rfl (by decide) ?_
            refine TL.pure (PV.indexG (j := k) rfl rfl hxa.ok Tb.elm_22 rfl (by omega)) rfl (by decide) ?_
            refine TL.pure (PV.fieldAddr rfl Tb.fo_42_0) rfl (by decide) ?_
            refine TL.putF (h := xa.2.1) (l0 := pm ngA xa.2.2 k) (j := k) (f := 0) (v := -1) rfl rfl Tb.cells_3 (goB_len hxa.ok (pm_len _ _ _)) (by repeat (first | exact PutH.here _ _ _ _ | apply PutH.tail | apply PutH.app)) (by rw [pm_len]; omega) (by decide) rfl rfl ?_
            rw [ng_put (by omega)]
            refine TL.nil ?_
            refine TQ.blkN ?_
            refine TQ.thenC ?_
            refine TC.region ?_
            refine TL.pure (PV.move rfl) rfl (by decide) ?_
            refine TL.pure (PV.add rfl rfl (by omega)) rfl (by decide) ?_
            refine TL.pure (PV.assign rfl) rfl (by decide) ?_
            refine TL.nil ?_
            refine TQ.thenN ?_
            refine TQ.backK (k + 1) (by repeat (first | exact True.intro | refine And.intro rfl ?_)) (by repeat (first | exact True.intro | refine And.intro rfl ?_)) (List.Sublist.refl _) (by omega) (by omega)
          · skip
            refine TC.exit ?_
            refine TQ.thenE ?_
            refine TQ.thenE ?_
            refine TQ.blkS ?_
            refine TQ.thenC ?_
            refine TC.seq ?_
            refine TC.region ?_
            refine TL.pure (PV.move rfl) rfl (by decide) ?_
            refine TL.pure (PV.move rfl) rfl (by decide) ?_
            refine TL.pure (PV.loadBox rfl Tb.agg_24 (by repeat (first | exact List.Mem.head _ | refine List.Mem.tail _ ?_ | refine List.mem_append_right _ ?_)) rfl) rfl (by decide) ?_
            refine TL.pure (PV.loadBox rfl Tb.agg_24 (by repeat (first | exact List.Mem.head _ | refine List.Mem.tail _ ?_ | refine List.mem_append_right _ ?_)) rfl) rfl (by decide) ?_
            refine TL.call rfl Tb.gofn_51 (fun a w hs => equalM rfl hh3 (BdsAt.s (e := 42) hs.new (fun yy hyy => by simp only [List.mem_append, List.mem_cons]; simp [hyy]) hh3) (hr.new hs.new) (by omega) (by omega)) rfl (by decide) (fun _ _ => ?_)
            refine TL.pure (PV.pickT rfl rfl) rfl (by decide) ?_
            refine TL.pure (PV.move rfl) rfl (by decide) ?_
            first | refine TL.splitD 69 rfl (fun m2 => ?_) (fun m2 => ?_) | refine TL.split 69 rfl (fun m2 => ?_) (fun m2 => ?_)
            · skip
              refine TL.call rfl Tb.gofn_18 (fun a w hs => knownOk w) rfl (by decide) (fun _ _ => ?_)
              refine TL.pure (PV.pickT rfl rfl) rfl (by decide) ?_
              refine TL.pure (PV.assign rfl) rfl (by decide) ?_
              refine TL.nil ?_
              refine TQ.thenC ?_
              refine TC.ret ?_
              refine TQ.retE1 rfl rfl ?_
              first | exact ⟨(), rfl, trivial, List.nil_sublist _⟩ | contradiction | (exfalso; omega) | (exfalso; obtain ⟨h8, h9⟩ := hsm (by omega); first | omega | contradiction | exact m1 h9 | exact m1 (of_decide_eq_true h9) | (rw [h9] at m1; cases m1) | (simp [h8, h9] at m1; done)) | (exfalso; simp_all [eqB]; done)
            · skip
              refine TL.skip rfl (fun k hk => by cases hk; decide) ?_
              refine TL.pure (PV.pickF rfl rfl) rfl (by decide) ?_
              refine TL.pure (PV.assign rfl) rfl (by decide) ?_
              refine TL.nil ?_
              refine TQ.thenC ?_
              refine TC.ret ?_
              refine TQ.retE1 rfl rfl ?_
              first | exact ⟨(), rfl, trivial, List.nil_sublist _⟩ | contradiction | (exfalso; omega) | (exfalso; obtain ⟨h8, h9⟩ := hsm (by omega); first | omega | contradiction | exact m1 h9 | exact m1 (of_decide_eq_true h9) | (rw [h9] at m1; cases m1) | (simp [h8, h9] at m1; done)) | (exfalso; simp_all [eqB]; done)
        · skip
          refine TL.pure (PV.move rfl) rfl (by decide) ?_
          refine TL.pure (PV.eql rfl rfl) rfl (by decide) ?_
          refine TL.pure (PV.move rfl) rfl (by decide) ?_
          first | refine TL.splitD 47 rfl (fun k2 => ?_) (fun k2 => ?_) | refine TL.split 47 rfl (fun k2 => ?_) (fun k2 => ?_)
          · skip
            refine TL.pure (PV.move rfl) rfl (by decide) ?_
            refine TL.pure (PV.pickT rfl rfl) rfl (by decide) ?_
            refine TL.pure (PV.pickF rfl rfl) rfl (by decide) ?_
            refine TL.pure (PV.assign rfl) rfl (by decide) ?_
            refine TL.nil ?_
            refine TQ.thenC ?_
            refine TC.seq ?_
            refine TC.seq ?_
            refine TC.region ?_
            refine TL.pure (PV.assign rfl) rfl (by decide) ?_
            refine TL.nil ?_
            refine TQ.thenC ?_
            refine TC.block ?_
            refine TC.loopK [1, 2, 3, 4, 10] (X := Nat) (fun k => k ≤ xa.2.2.length) (fun k => [(11, .int .i64 k)]) (fun k => (b2, Obj.cells #[.int .i64 xa.1, gval xa.2.1 xa.2.2.length] 24 (0, 0)) :: (gbB 42 xa.2.1 (pm ngA xa.2.2 k) ++ ((b1, Obj.cells #[.int .i64 n, gval h3 rs.length] 24 (0, 0)) :: (gbB 42 h3 rs ++ [(b0, Obj.cells #[.int .i64 n, .slice p rs.length cap] 24 (0, 0))])))) (fun k => xa.2.2.length - k) 0 (Nat.zero_le _) (by repeat (first | exact True.intro | refine And.intro rfl ?_)) (by rw [pm_zero]; exact List.Sublist.cons _ (List.sublist_append_right _ _)) ?_
            intro k hk
            refine TC.seq ?_
            refine TC.seq ?_
            refine TC.region ?_
            refine TL.pure (PV.move rfl) rfl (by decide) ?_
            refine TL.pure (PV.fieldAddr rfl Tb.fo_24_1) rfl (by decide) ?_
            refine TL.pure (PV.load rfl Tb.one_22 (by repeat (first | exact List.Mem.head _ | refine List.Mem.tail _ ?_ | refine List.mem_append_right _ ?_)) rfl) rfl (by decide) ?_
            refine TL.pure (PV.lenG rfl hxa.ok Tb.sl_22) rfl (by decide) ?_
            refine TL.pure (PV.lss rfl rfl) rfl (by decide) ?_
            refine TL.nil ?_
            refine TQ.thenC ?_
            first | refine TC.condD rfl (fun hlt => ?_) (fun hlt => ?_) | refine TC.cond rfl (fun hlt => ?_) (fun hlt => ?_)
            · skip
              refine TC.skip ?_
              refine TQ.thenC ?_
              refine TC.seq ?_
              refine TC.block ?_
              refine TC.region ?_
              refine TL.pure (PV.fieldAddr rfl Tb.fo_24_1) rfl (by decide) ?_
              refine TL.pure (PV.load rfl Tb.one_22 (by repeat (first | exact List.Mem.head _ | refine List.Mem.tail _ ?_ | refine List.mem_append_right _ ?_)) rfl) rfl (by decide) ?_
              refine TL.pure (PV.move rfl) rfl (by decide) ?_
              refine TL.pure (PV.indexG (j := k) rfl rfl hxa.ok Tb.elm_22 rfl (by omega)) rfl (by decide) ?_
              refine TL.pure (PV.fieldAddr rfl Tb.fo_42_0) rfl (by decide) ?_
              refine TL.putF (h := xa.2.1) (l0 := pm ngA xa.2.2 k) (j := k) (f := 0) (v := -1) rfl rfl Tb.cells_3 (goB_len hxa.ok (pm_len _ _ _)) (by repeat (first | exact PutH.here _ _ _ _ | apply PutH.tail | apply PutH.app)) (by rw [pm_len]; omega) (by decide) rfl rfl ?_
              rw [ng_put (by omega)]
              refine TL.nil ?_
              refine TQ.blkN ?_
              refine TQ.thenC ?_
              refine TC.region ?_
              refine TL.pure (PV.move rfl) rfl (by decide) ?_
              refine TL.pure (PV.add rfl rfl (by omega)) rfl (by decide) ?_
              refine TL.pure (PV.assign rfl) rfl (by decide) ?_
              refine TL.nil ?_
              refine TQ.thenN ?_
              refine TQ.backK (k + 1) (by repeat (first | exact True.intro | refine And.intro rfl ?_)) (by repeat (first | exact True.intro | refine And.intro rfl ?_)) (List.Sublist.refl _) (by omega) (by omega)
            · skip
              refine TC.exit ?_
              refine TQ.thenE ?_
              refine TQ.thenE ?_
              refine TQ.blkS ?_
              refine TQ.thenC ?_
              refine TC.seq ?_
              refine TC.region ?_
              refine TL.pure (PV.move rfl) rfl (by decide) ?_
              refine TL.pure (PV.move rfl) rfl (by decide) ?_
              first | refine TL.splitD 64 rfl (fun m1 => ?_) (fun m1 => ?_) | refine TL.split 64 rfl (fun m1 => ?_) (fun m1 => ?_)
              · skip
                refine TL.pure (PV.loadBox rfl Tb.agg_24 (by repeat (first | exact List.Mem.head _ | refine List.Mem.tail _ ?_ | refine List.mem_append_right _ ?_)) rfl) rfl (by decide) ?_
                refine TL.pure (PV.loadBox rfl Tb.agg_24 (by repeat (first | exact List.Mem.head _ | refine List.Mem.tail _ ?_ | refine List.mem_append_right _ ?_)) rfl) rfl (by decide) ?_
                refine TL.call rfl Tb.gofn_51 (fun a w hs => equalM rfl hh3 (BdsAt.s (e := 42) hs.new (fun yy hyy => by simp only [List.mem_append, List.mem_cons]; simp [hyy]) hh3) (hr.new hs.new) (by omega) (by omega)) rfl (by decide) (fun _ _ => ?_)
                refine TL.pure (PV.pickT rfl rfl) rfl (by decide) ?_
                refine TL.pure (PV.move rfl) rfl (by decide) ?_
                first | refine TL.splitD 69 rfl (fun m2 => ?_) (fun m2 => ?_) | refine TL.split 69 rfl (fun m2 => ?_) (fun m2 => ?_)
                · skip
                  refine TL.call rfl Tb.gofn_18 (fun a w hs => knownOk w) rfl (by decide) (fun _ _ => ?_)
                  refine TL.pure (PV.pickT rfl rfl) rfl (by decide) ?_
                  refine TL.pure (PV.assign rfl) rfl (by decide) ?_
                  refine TL.nil ?_
                  refine TQ.thenC ?_
                  refine TC.ret ?_
                  refine TQ.retE1 rfl rfl ?_
                  first | exact ⟨(), rfl, trivial, List.nil_sublist _⟩ | contradiction | (exfalso; omega) | (exfalso; obtain ⟨h8, h9⟩ := hsm (by omega); first | omega | contradiction | exact m1 h9 | exact m1 (of_decide_eq_true h9) | (rw [h9] at m1; cases m1) | (simp [h8, h9] at m1; done)) | (exfalso; simp_all [eqB]; done)
                · skip
                  refine TL.skip rfl (fun k hk => by cases hk; decide) ?_
                  refine TL.pure (PV.pickF rfl rfl) rfl (by decide) ?_
                  refine TL.pure (PV.assign rfl) rfl (by decide) ?_
                  refine TL.nil ?_
                  refine TQ.thenC ?_
                  refine TC.ret ?_
                  refine TQ.retE1 rfl rfl ?_
                  first | exact ⟨(), rfl, trivial, List.nil_sublist _⟩ | contradiction | (exfalso; omega) | (exfalso; obtain ⟨h8, h9⟩ := hsm (by omega); first | omega | contradiction | exact m1 h9 | exact m1 (of_decide_eq_true h9) | (rw [h9] at m1; cases m1) | (simp [h8, h9] at m1; done)) | (exfalso; simp_all [eqB]; done)
              · skip
                refine TL.skip rfl (fun k hk => by cases hk; decide) ?_
                refine TL.skip rfl (fun k hk => by cases hk; decide) ?_
                refine TL.skip rfl (fun k hk => by cases hk; decide) ?_
                refine TL.pure (PV.pickF rfl rfl) rfl (by decide) ?_
                refine TL.pure (PV.move rfl) rfl (by decide) ?_
                refine TL.skip rfl (fun k hk => by cases hk; decide) ?_
                refine TL.pure (PV.pickF rfl rfl) rfl (by decide) ?_
                refine TL.pure (PV.assign rfl) rfl (by decide) ?_
                refine TL.nil ?_
                refine TQ.thenC ?_
                refine TC.ret ?_
                refine TQ.retE1 rfl rfl ?_
                first | exact ⟨(), rfl, trivial, List.nil_sublist _⟩ | contradiction | (exfalso; omega) | (exfalso; obtain ⟨h8, h9⟩ := hsm (by omega); first | omega | contradiction | exact m1 h9 | exact m1 (of_decide_eq_true h9) | (rw [h9] at m1; cases m1) | (simp [h8, h9] at m1; done)) | (exfalso; simp_all [eqB]; done)
          · skip
            refine TL.skip rfl (fun k hk => by cases hk; decide) ?_
            refine TL.pure (PV.pickF rfl rfl) rfl (by decide) ?_
            refine TL.pure (PV.pickF rfl rfl) rfl (by decide) ?_
            refine TL.pure (PV.assign rfl) rfl (by decide) ?_
            refine TL.nil ?_
            refine TQ.thenC ?_
            refine TC.seq ?_
            refine TC.seq ?_
            refine TC.region ?_
            refine TL.pure (PV.assign rfl) rfl (by decide) ?_
            refine TL.nil ?_
            refine TQ.thenC ?_
            refine TC.block ?_
            refine TC.loopK [1, 2, 3, 4, 10] (X := Nat) (fun k => k ≤ xa.2.2.length) (fun k => [(11, .int .i64 k)]) (fun k => (b2, Obj.cells #[.int .i64 xa.1, gval xa.2.1 xa.2.2.length] 24 (0, 0)) :: (gbB 42 xa.2.1 (pm ngA xa.2.2 k) ++ ((b1, Obj.cells #[.int .i64 n, gval h3 rs.length] 24 (0, 0)) :: (gbB 42 h3 rs ++ [(b0, Obj.cells #[.int .i64 n, .slice p rs.length cap] 24 (0, 0))])))) (fun k => xa.2.2.length - k) 0 (Nat.zero_le _) (by repeat (first | exact True.intro | refine And.intro rfl ?_)) (by rw [pm_zero]; exact List.Sublist.cons _ (List.sublist_append_right _ _)) ?_
            intro k hk
            refine TC.seq ?_
            refine TC.seq ?_
            refine TC.region ?_
            refine TL.pure (PV.move rfl) rfl (by decide) ?_
            refine TL.pure (PV.fieldAddr rfl Tb.fo_24_1) rfl (by decide) ?_
            refine TL.pure (PV.load rfl Tb.one_22 (by repeat (first | exact List.Mem.head _ | refine List.Mem.tail _ ?_ | refine List.mem_append_right _ ?_)) rfl) rfl (by decide) ?_
            refine TL.pure (PV.lenG rfl hxa.ok Tb.sl_22) rfl (by decide) ?_
            refine TL.pure (PV.lss rfl rfl) rfl (by decide) ?_
            refine TL.nil ?_
            refine TQ.thenC ?_
            first | refine TC.condD rfl (fun hlt => ?_) (fun hlt => ?_) | refine TC.cond rfl (fun hlt => ?_) (fun hlt => ?_)
            · skip
              refine TC.skip ?_
              refine TQ.thenC ?_
              refine TC.seq ?_
              refine TC.block ?_
              refine TC.region ?_
              refine TL.pure (PV.fieldAddr rfl Tb.fo_24_1) rfl (by decide) ?_
              refine TL.pure (PV.load rfl Tb.one_22 (by repeat (first | exact List.Mem.head _ | refine List.Mem.tail _ ?_ | refine List.mem_append_right _ ?_)) rfl) rfl (by decide) ?_
              refine TL.pure (PV.move rfl) rfl (by decide) ?_
              refine TL.pure (PV.indexG (j := k) rfl rfl hxa.ok Tb.elm_22 rfl (by omega)) rfl (by decide) ?_
              refine TL.pure (PV.fieldAddr rfl Tb.fo_42_0) rfl (by decide) ?_
              refine TL.putF (h := xa.2.1) (l0 := pm ngA xa.2.2 k) (j := k) (f := 0) (v := -1) rfl rfl Tb.cells_3 (goB_len hxa.ok (pm_len _ _ _)) (by repeat (first | exact PutH.here _ _ _ _ | apply PutH.tail | apply PutH.app)) (by rw [pm_len]; omega) (by decide) rfl rfl ?_
              rw [ng_put (by omega)]
              refine TL.nil ?_
              refine TQ.blkN ?_
              refine TQ.thenC ?_
              refine TC.region ?_
              refine TL.pure (PV.move rfl) rfl (by decide) ?_
              refine TL.pure (PV.add rfl rfl (by omega)) rfl (by decide) ?_
              refine TL.pure (PV.assign rfl) rfl (by decide) ?_
              refine TL.nil ?_
              refine TQ.thenN ?_
              refine TQ.backK (k + 1) (by repeat (first | exact True.intro | refine And.intro rfl ?_)) (by repeat (first | exact True.intro | refine And.intro rfl ?_)) (List.Sublist.refl _) (by omega) (by omega)
            · skip
              refine TC.exit ?_
              refine TQ.thenE ?_
              refine TQ.thenE ?_
              refine TQ.blkS ?_
              refine TQ.thenC ?_
              refine TC.seq ?_
              refine TC.region ?_
              refine TL.pure (PV.move rfl) rfl (by decide) ?_
              refine TL.pure (PV.move rfl) rfl (by decide) ?_
              refine TL.skip rfl (fun k hk => by cases hk; decide) ?_
              refine TL.skip rfl (fun k hk => by cases hk; decide) ?_
              refine TL.skip rfl (fun k hk => by cases hk; decide) ?_
              refine TL.pure (PV.pickF rfl rfl) rfl (by decide) ?_
              refine TL.pure (PV.move rfl) rfl (by decide) ?_
              refine TL.skip rfl (fun k hk => by cases hk; decide) ?_
              refine TL.pure (PV.pickF rfl rfl) rfl (by decide) ?_
              refine TL.pure (PV.assign rfl) rfl (by decide) ?_
              refine TL.nil ?_
              refine TQ.thenC ?_
              refine TC.ret ?_
              refine TQ.retE1 rfl rfl ?_
              first | exact ⟨(), rfl, trivial, List.nil_sublist _⟩ | contradiction | (exfalso; omega) | (exfalso; obtain ⟨h8, h9⟩ := hsm (by omega); first | omega | contradiction | exact m1 h9 | exact m1 (of_decide_eq_true h9) | (rw [h9] at m1; cases m1) | (simp [h8, h9] at m1; done)) | (exfalso; simp_all [eqB]; done)

theorem coreReduces_all (W : World) (n : Int) (p : Option Addr) (cap : Nat) (rs : List Bd) (hr : BdsAt W p rs) (_ : rs.length ≤ cap) (_ : I64 n) :
    Calls Try.prog 12 #[cv n p rs.length cap] W (Post (X := Unit) (fun _ => .bool true) (fun _ => True) (fun _ => []) W) := coreReduces_ok W n p cap rs hr

end Go.Proofs.Ytenalmddoljhoaa
