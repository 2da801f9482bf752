/- A core turned: the statement's own function. -/
import Derived.Test.YtenalmddoljhoaaVC
set_option linter.unusedVariables false
set_option linter.unusedSimpArgs false
namespace Go.Proofs.Ytenalmddoljhoaa
open Go.Sx Go.RowKit

theorem fill_i (v : Int) : Instr.fill (fun i => some (i * 1, 1)) ((Array.range (1 * 1)).map ((Value.int .i64 0).cells[· % (Value.int .i64 0).cells.size]!)) [(0, .int .i64 v)] = some #[.int .i64 v] := by kernel_rfl
def KnownOk : Prop := ∀ w : World, Calls Try.prog 18 #[] w (Post (X := Unit) (fun _ => .bool true) (fun _ => True) (fun _ => []) w)
def negL (ds : List Int) : List Int := ds.map fun d => -d
theorem negL_len (ds : List Int) : (negL ds).length = ds.length := by simp [negL]
theorem negL_get (ds : List Int) (j : Nat) : (negL ds).getD j 0 = -(ds.getD j 0) := by
  by_cases h : j < ds.length <;> simp [negL, List.getD, h]
structure NI (ds : List Int) (k : Nat) (y : HD × List Int) : Prop where
  le : k ≤ ds.length
  eq : y.2 = negL (ds.take k)
  ok : goI y
theorem NI.zero (ds : List Int) : NI ds 0 (none, []) := ⟨Nat.zero_le _, rfl, ⟨rfl, rfl⟩⟩
theorem NI.len {ds : List Int} {k : Nat} {y : HD × List Int} (h : NI ds k y) : y.2.length = k := by
  have := h.le
  rw [h.eq, negL_len, List.length_take]; omega
theorem NI.step {ds : List Int} {k : Nat} {y : HD × List Int} {h' : HD} (h : NI ds k y) (hk : k < ds.length) (ho : goI (h', y.2 ++ [-(ds.getD k 0)])) : NI ds (k + 1) (h', y.2 ++ [-(ds.getD k 0)]) :=
  ⟨hk, by
    show y.2 ++ [-(ds.getD k 0)] = _
    have e : ds.getD k 0 = ds[k] := by simp [List.getD, hk]
    rw [h.eq, List.take_succ_eq_append_getElem hk, e]
    unfold negL
    rw [List.map_append]
    rfl, ho⟩
theorem NI.all {ds : List Int} {y : HD × List Int} (h : NI ds ds.length y) : y.2 = negL ds := by rw [h.eq, List.take_length]
theorem val_vals (n : Int) (rs : List Bd) : validateI n rs = 0 ∨ validateI n rs = 1 ∨ validateI n rs = 3 := by
  unfold validateI
  split
  · exact .inr (.inl rfl)
  · split
    · exact .inr (.inr rfl)
    · split
      · exact .inl rfl
      · exact .inr (.inl rfl)
theorem vd_vals (n : Int) (rs : List Bd) (ds : List Int) : vdI n rs ds = 0 ∨ vdI n rs ds = 1 ∨ vdI n rs ds = 3 := by
  have := val_vals n rs
  unfold vdI
  split
  · exact this
  · split
    · exact .inl rfl
    · exact .inr (.inl rfl)
theorem check_vd {n : Int} {rs : List Bd} {ds : List Int} (h : checkI n rs ds = 0 ∨ checkI n rs ds = 7) : vdI n rs ds = 0 := by
  have hv := vd_vals n rs ds
  by_cases h1 : vdI n rs ds = 0
  · exact h1
  · rw [checkI_bad h1] at h
    omega
theorem neg_dates {n : Int} {ds : List Int} (h : datesOk n ds = true) : datesOk n (negL ds) = true := by
  have hs := datesOk_spec h
  refine datesOk_yes (by rw [negL_len]; exact hs.1) fun j _ => ?_
  rw [negL_get]
  have := hs.2 j
  exact decide_eq_true (by omega)
theorem keep_flip (ds : List Int) (r : Bd) : keepB (negL ds) (flipR r) = keepB ds r := by
  unfold keepB flipR
  simp only [negL_get]
  rw [decide_eq_decide]
  omega
theorem check_flip {n : Int} {rs : List Bd} {ds : List Int} (h : checkI n rs ds = 0 ∨ checkI n rs ds = 7) : checkI n (rs.map flipR) (negL ds) = checkI n rs ds := by
  have h1 := check_vd h
  obtain ⟨hv, hd⟩ := vdI_is h1
  have h2 : vdI n (rs.map flipR) (negL ds) = 0 := vdI_ok (not_not_intro (flip_valid hv)) (neg_dates hd)
  unfold checkI
  rw [h1, h2, List.all_map]
  have e : (keepB (negL ds) ∘ flipR) = keepB ds := funext fun r => keep_flip ds r
  rw [e]
theorem callsIS (w : World) (n : Int) (h : HD) (K : Nat) (rs : List Bd) (hK : rs.length = K) (ho : goB h rs) (hr : BdsAt w (gp h) rs) (y : HD × List Int) (Kd : Nat) (hKd : y.2.length = Kd) (hy : goI y) (hx : IntsAt w (gp y.1) y.2) (hb : Kd ≤ 1000000) :
    Calls Try.prog 23 #[.agg #[.int .i64 n, gval h K], gval y.1 Kd] w (Post (X := Unit) (fun _ => .int .i64 (checkI n rs y.2)) (fun _ => True) (fun _ => []) w) := by
  subst hKd
  have hc := checkS w n h K rs hK ho hr (gp y.1) (gc y.1) y.2.length y.2 rfl hx hb
  rw [← gval_eq hy] at hc
  exact hc


set_option maxRecDepth 100000 in
theorem long_ok (w0 : World) (n : Int) (p : Option Addr) (cap : Nat) (rs : List Bd) (hr : BdsAt w0 p rs) :
    Calls Try.prog 17 #[cv n p rs.length cap] w0 (Post (X := Unit) (fun _ => .bool (decide (100 < (rs.length : Int)))) (fun _ => True) (fun _ => []) w0) := by
  refine calls Try.func17 rfl (n := 7) rfl (by simp) ?_
  refine TC.seq ?_
  refine TC.region ?_
  refine TL.box rfl rfl (by decide) (fun b0 hb0 => ?_)
  refine TL.pure (PV.assign rfl) rfl (by decide) ?_
  refine TL.nil ?_
  refine TQ.thenC ?_
  refine TC.seq ?_
  refine TC.region ?_
  refine TL.pure (PV.fieldAddr rfl Tb.fo_24_1) rfl (by decide) ?_
  refine TL.pure (PV.load rfl Tb.one_22 (by repeat (first | exact List.Mem.head _ | refine List.Mem.tail _ ?_ | refine List.mem_append_right _ ?_)) rfl) rfl (by decide) ?_
  refine TL.pure (PV.len rfl Tb.sl_22) rfl (by decide) ?_
  refine TL.pure (PV.gtr rfl rfl) rfl (by decide) ?_
  refine TL.pure (PV.assign rfl) rfl (by decide) ?_
  refine TL.nil ?_
  refine TQ.thenC ?_
  refine TC.ret ?_
  refine TQ.retE1 rfl rfl ?_
  exact ⟨(), rfl, trivial, List.nil_sublist _⟩

set_option maxRecDepth 100000 in
set_option maxHeartbeats 2000000 in
theorem coreTurns_ok (hkn : KnownOk) (w0 : World) (n : Int) (p : Option Addr) (cap : Nat) (rs : List Bd) (hr : BdsAt w0 p rs) (pd : Option Addr) (cd : Nat) (ds : List Int) (hx : IntsAt w0 pd ds) (hi : ∀ x ∈ ds, -9223372036854775808 ≤ x ∧ x ≤ 9223372036854775807) :
    Calls Try.prog 14 #[cv n p rs.length cap, .slice pd ds.length cd] w0 (Post (X := Unit) (fun _ => .bool true) (fun _ => True) (fun _ => []) w0) := by
  refine calls Try.func14 rfl (n := 90) rfl (by simp) ?_
  refine TC.seq ?_
  refine TC.region ?_
  refine TL.box rfl rfl (by decide) (fun b0 hb0 => ?_)
  refine TL.pure (PV.assign rfl) rfl (by decide) ?_
  refine TL.nil ?_
  refine TQ.thenC ?_
  refine TC.seq ?_
  refine TC.seq ?_
  refine TC.region ?_
  refine TL.pure (PV.loadBox rfl Tb.agg_24 (by repeat (first | exact List.Mem.head _ | refine List.Mem.tail _ ?_ | refine List.mem_append_right _ ?_)) rfl) rfl (by decide) ?_
  refine TL.call rfl Tb.gofn_17 (fun a w hs => long_ok w _ _ _ _ (hr.new hs.new)) rfl (by decide) (fun _ _ => ?_)
  refine TL.pure (PV.move rfl) rfl (by decide) ?_
  first | refine TL.splitD 16 rfl (fun hlong1 => ?_) (fun hlong1 => ?_) | refine TL.split 16 rfl (fun hlong1 => ?_) (fun hlong1 => ?_)
  · skip
    refine TL.skip rfl (fun k hk => by cases hk; decide) ?_
    refine TL.skip rfl (fun k hk => by cases hk; decide) ?_
    refine TL.skip rfl (fun k hk => by cases hk; decide) ?_
    refine TL.pure (PV.pickT rfl rfl) rfl (by decide) ?_
    refine TL.nil ?_
    refine TQ.thenC ?_
    refine TC.condT rfl ?_
    refine TC.seq ?_
    refine TC.region ?_
    refine TL.call rfl Tb.gofn_18 (fun a w hs => hkn w) rfl (by decide) (fun _ _ => ?_)
    refine TL.pure (PV.assign rfl) rfl (by decide) ?_
    refine TL.nil ?_
    refine TQ.thenC ?_
    refine TC.ret ?_
    refine TQ.thenR ?_
    refine TQ.retE1 rfl rfl ?_
    first | exact ⟨(), rfl, trivial, List.nil_sublist _⟩ | (exfalso; omega) | (exfalso; simp_all; done)
  · skip
    refine TL.pure (PV.move rfl) rfl (by decide) ?_
    refine TL.pure (PV.len rfl Tb.sl_25) rfl (by decide) ?_
    refine TL.pure (PV.gtr rfl rfl) rfl (by decide) ?_
    refine TL.pure (PV.pickF rfl rfl) rfl (by decide) ?_
    refine TL.nil ?_
    refine TQ.thenC ?_
    first | refine TC.condD rfl (fun hlong => ?_) (fun hlong => ?_) | refine TC.cond rfl (fun hlong => ?_) (fun hlong => ?_)
    · skip
      refine TC.seq ?_
      refine TC.region ?_
      refine TL.call rfl Tb.gofn_18 (fun a w hs => hkn w) rfl (by decide) (fun _ _ => ?_)
      refine TL.pure (PV.assign rfl) rfl (by decide) ?_
      refine TL.nil ?_
      refine TQ.thenC ?_
      refine TC.ret ?_
      refine TQ.thenR ?_
      refine TQ.retE1 rfl rfl ?_
      first | exact ⟨(), rfl, trivial, List.nil_sublist _⟩ | (exfalso; omega) | (exfalso; simp_all; done)
    · skip
      refine TC.skip ?_
      refine TQ.thenC ?_
      refine TC.seq ?_
      refine TC.region ?_
      refine TL.pure (PV.loadBox rfl Tb.agg_24 (by repeat (first | exact List.Mem.head _ | refine List.Mem.tail _ ?_ | refine List.mem_append_right _ ?_)) rfl) rfl (by decide) ?_
      refine TL.call rfl Tb.gofn_54 (fun a w hs => turn_ok w n p cap rs (hr.new hs.new) (by omega)) rfl (by decide) (fun xa hxa => ?_)
      refine TL.pure (PV.move rfl) rfl (by decide) ?_
      refine TL.pure (PV.extract rfl rfl) rfl (by decide) ?_
      refine TL.pure (PV.extract rfl rfl) rfl (by decide) ?_
      refine TL.alloc Tb.zero_24 rfl (by decide) (fun b1 hb1 => ?_)
      refine TL.storeAgg rfl rfl Tb.cells_24 (by repeat (first | exact Upd.head _ | apply Upd.tail | apply Upd.appR)) rfl rfl (by first | rfl | exact sv_one _ _ _) rfl rfl ?_
      refine TL.pure (PV.assign rfl) rfl (by decide) ?_
      refine TL.nil ?_
      refine TQ.thenC ?_
      refine TC.seq ?_
      refine TC.region ?_
      refine TL.pure (PV.loadBox rfl Tb.agg_24 (by repeat (first | exact List.Mem.head _ | refine List.Mem.tail _ ?_ | refine List.mem_append_right _ ?_)) rfl) rfl (by decide) ?_
      refine TL.call rfl Tb.gofn_55 (fun a w hs => rTurn_ok w n p cap rs (hr.new hs.new) (by omega)) rfl (by decide) (fun ya hya => ?_)
      refine TL.pure (PV.move rfl) rfl (by decide) ?_
      refine TL.pure (PV.extract rfl rfl) rfl (by decide) ?_
      refine TL.pure (PV.extract rfl rfl) rfl (by decide) ?_
      refine TL.alloc Tb.zero_24 rfl (by decide) (fun b2 hb2 => ?_)
      refine TL.storeAgg rfl rfl Tb.cells_24 (by repeat (first | exact Upd.head _ | apply Upd.tail | apply Upd.appR)) rfl rfl (by first | rfl | exact sv_one _ _ _) rfl rfl ?_
      refine TL.pure (PV.assign rfl) rfl (by decide) ?_
      refine TL.nil ?_
      refine TQ.thenC ?_
      refine TC.seq ?_
      refine TC.seq ?_
      have lx := hxa.len
      have ly := hya.len
      have lm : (rs.map flipR).length = rs.length := List.length_map _
      refine TC.region ?_
      refine TL.pure (PV.loadBox rfl Tb.agg_24 (by repeat (first | exact List.Mem.head _ | refine List.Mem.tail _ ?_ | refine List.mem_append_right _ ?_)) rfl) rfl (by decide) ?_
      refine TL.pure (PV.loadBox rfl Tb.agg_24 (by repeat (first | exact List.Mem.head _ | refine List.Mem.tail _ ?_ | refine List.mem_append_right _ ?_)) rfl) rfl (by decide) ?_
      refine TL.call rfl Tb.gofn_51 (fun a w hs => equalS rfl rfl hxa.ok hya.ok (BdsAt.s hs.new (fun yy hyy => by repeat (first | exact List.mem_append_left _ hyy | refine List.mem_append_right _ ?_ | refine List.Mem.tail _ ?_)) hxa.ok) (BdsAt.s hs.new (fun yy hyy => by repeat (first | exact List.mem_append_left _ hyy | refine List.mem_append_right _ ?_ | refine List.Mem.tail _ ?_)) hya.ok) (by omega) (by omega)) rfl (by decide) (fun _ _ => ?_)
      refine TL.pure ((by first | exact PV.notD rfl | exact PV.not rfl)) rfl (by decide) ?_
      refine TL.pure (PV.move rfl) rfl (by decide) ?_
      first | refine TL.splitD 36 rfl (fun g0 => ?_) (fun g0 => ?_) | refine TL.split 36 rfl (fun g0 => ?_) (fun g0 => ?_)
      · skip
        exact (g0 (CF.same hxa hya)).elim
      · skip
        refine TL.pure (PV.move rfl) rfl (by decide) ?_
        refine TL.pure (PV.move rfl) rfl (by decide) ?_
        refine TL.pure (PV.neq rfl rfl) rfl (by decide) ?_
        refine TL.pure (PV.pickF rfl rfl) rfl (by decide) ?_
        refine TL.nil ?_
        refine TQ.thenC ?_
        first | refine TC.condD rfl (fun g1 => ?_) (fun g1 => ?_) | refine TC.cond rfl (fun g1 => ?_) (fun g1 => ?_)
        · skip
          exact (g1 rfl).elim
        · skip
          refine TC.skip ?_
          refine TQ.thenC ?_
          refine TC.seq ?_
          refine TC.seq ?_
          refine TC.region ?_
          refine TL.pure (PV.move rfl) rfl (by decide) ?_
          refine TL.pure (PV.neq rfl rfl) rfl (by decide) ?_
          refine TL.nil ?_
          refine TQ.thenC ?_
          first | refine TC.condD rfl (fun hbad => ?_) (fun hbad => ?_) | refine TC.cond rfl (fun hbad => ?_) (fun hbad => ?_)
          · skip
            refine TC.seq ?_
            refine TC.region ?_
            refine TL.call rfl Tb.gofn_18 (fun a w hs => hkn w) rfl (by decide) (fun _ _ => ?_)
            refine TL.pure (PV.assign rfl) rfl (by decide) ?_
            refine TL.nil ?_
            refine TQ.thenC ?_
            refine TC.ret ?_
            refine TQ.thenR ?_
            refine TQ.retE1 rfl rfl ?_
            first | exact ⟨(), rfl, trivial, List.nil_sublist _⟩ | (exfalso; omega) | (exfalso; simp_all; done)
          · skip
            refine TC.skip ?_
            refine TQ.thenC ?_
            refine TC.seq ?_
            refine TC.region ?_
            refine TL.pure (PV.loadBox rfl Tb.agg_24 (by repeat (first | exact List.Mem.head _ | refine List.Mem.tail _ ?_ | refine List.mem_append_right _ ?_)) rfl) rfl (by decide) ?_
            refine TL.pure (PV.move rfl) rfl (by decide) ?_
            refine TL.call rfl Tb.gofn_23 (fun a w hs => check_ok w _ _ _ _ (hr.new hs.new) pd cd ds.length ds rfl (hx.new hs.new) (by omega)) rfl (by decide) (fun _ _ => ?_)
            refine TL.pure (PV.assign rfl) rfl (by decide) ?_
            refine TL.nil ?_
            refine TQ.thenC ?_
            refine TC.seq ?_
            refine TC.seq ?_
            refine TC.region ?_
            refine TL.pure (PV.move rfl) rfl (by decide) ?_
            refine TL.pure (PV.neq rfl rfl) rfl (by decide) ?_
            refine TL.pure (PV.move rfl) rfl (by decide) ?_
            first | refine TL.splitD 49 rfl (fun k1 => ?_) (fun k1 => ?_) | refine TL.split 49 rfl (fun k1 => ?_) (fun k1 => ?_)
            · skip
              refine TL.pure (PV.move rfl) rfl (by decide) ?_
              refine TL.pure (PV.neq rfl rfl) rfl (by decide) ?_
              refine TL.pure (PV.pickT rfl rfl) rfl (by decide) ?_
              refine TL.nil ?_
              refine TQ.thenC ?_
              first | refine TC.condD rfl (fun k2 => ?_) (fun k2 => ?_) | refine TC.cond rfl (fun k2 => ?_) (fun k2 => ?_)
              · skip
                refine TC.seq ?_
                refine TC.region ?_
                refine TL.call rfl Tb.gofn_18 (fun a w hs => hkn w) rfl (by decide) (fun _ _ => ?_)
                refine TL.pure (PV.assign rfl) rfl (by decide) ?_
                refine TL.nil ?_
                refine TQ.thenC ?_
                refine TC.ret ?_
                refine TQ.thenR ?_
                refine TQ.retE1 rfl rfl ?_
                first | exact ⟨(), rfl, trivial, List.nil_sublist _⟩ | (exfalso; omega) | (exfalso; simp_all; done)
              · skip
                refine TC.skip ?_
                refine TQ.thenC ?_
                refine TC.seq ?_
                have hz : validateI n rs = 0 := by omega
                have hx7 : checkI n rs ds = 0 ∨ checkI n rs ds = 7 := by omega
                have q1 : xa.1 = n := by rw [hxa.num, if_pos hz]
                have q2 : xa.2.2 = rs.map flipR := by rw [hxa.eq, if_pos hz]
                have hv2 : validateI xa.1 xa.2.2 = 0 := by rw [q1, q2]; exact flip_valid hz
                refine TC.region ?_
                refine TL.pure (PV.assign rfl) rfl (by decide) ?_
                refine TL.nil ?_
                refine TQ.thenC ?_
                refine TC.seq ?_
                refine TC.seq ?_
                refine TC.region ?_
                refine TL.pure (PV.assign rfl) rfl (by decide) ?_
                refine TL.nil ?_
                refine TQ.thenC ?_
                refine TC.block ?_
                refine TC.loopK [1, 2, 4, 5, 9] (X := Nat × HD × List Int) (fun v => NI ds v.1 v.2) (fun v => [(11, .int .i64 v.1), (10, gvI v.2)]) (fun v => gbI v.2 ++ ((b2, .cells #[.int .i64 ya.1, gval ya.2.1 ya.2.2.length] 24 (0, 0)) :: (gbB 42 ya.2.1 ya.2.2 ++ ((b1, .cells #[.int .i64 xa.1, gval xa.2.1 xa.2.2.length] 24 (0, 0)) :: (gbB 42 xa.2.1 xa.2.2 ++ [(b0, .cells #[.int .i64 n, .slice p rs.length cap] 24 (0, 0))]))))) (fun v => ds.length - v.1) (0, none, []) (NI.zero ds) (by repeat (first | exact True.intro | refine And.intro rfl ?_)) (by repeat (first | exact List.Sublist.slnil | exact List.nil_sublist _ | exact List.Sublist.refl _ | exact List.sublist_append_left _ _ | refine List.Sublist.cons_cons _ ?_ | refine (List.append_sublist_append_left _).2 ?_ | refine List.Sublist.cons _ ?_ | refine List.Sublist.trans ?_ (List.sublist_append_right _ _))) ?_
                intro v hv
                refine TC.seq ?_
                refine TC.seq ?_
                refine TC.region ?_
                refine TL.pure (PV.move rfl) rfl (by decide) ?_
                refine TL.pure (PV.move rfl) rfl (by decide) ?_
                refine TL.pure (PV.len rfl Tb.sl_25) rfl (by decide) ?_
                refine TL.pure (PV.lss rfl rfl) rfl (by decide) ?_
                refine TL.nil ?_
                refine TQ.thenC ?_
                first | refine TC.condD rfl (fun hlt => ?_) (fun hlt => ?_) | refine TC.cond rfl (fun hlt => ?_) (fun hlt => ?_)
                · skip
                  refine TC.skip ?_
                  refine TQ.thenC ?_
                  refine TC.seq ?_
                  refine TC.block ?_
                  obtain ⟨q, hqp, hqa⟩ := hx v.1 (by omega)
                  have hb9 := hi (ds.getD v.1 0) (by simp [List.getD, show v.1 < ds.length by omega])
                  have hlen := hv.len
                  have hb8 : -9223372036854775808 ≤ -(ds.getD v.1 0) ∧ -(ds.getD v.1 0) ≤ 9223372036854775807 := by have := (datesOk_spec (vdI_is (check_vd hx7)).2).2 v.1; omega
                  refine TC.region ?_
                  refine TL.pure (PV.move rfl) rfl (by decide) ?_
                  refine TL.pure (PV.move rfl) rfl (by decide) ?_
                  refine TL.pure (PV.move rfl) rfl (by decide) ?_
                  refine TL.pure (PV.indexA rfl hqp rfl Tb.elm_25 rfl (by omega)) rfl (by decide) ?_
                  refine TL.pure (PV.loadOld rfl Tb.one_3 hqa) rfl (by decide) ?_
                  refine TL.pure (PV.neg rfl hb8) rfl (by decide) ?_
                  refine TL.buildSlice (cs := #[.int .i64 (-(ds.getD v.1 0))]) rfl Tb.sl_25 Tb.zi_3 (by decide) (fill_i _) (by decide) rfl (by decide) (fun bI hbI => ?_)
                  refine TL.appendI (x0 := v.2) (v := -(ds.getD v.1 0)) rfl rfl (by repeat (first | exact List.Mem.head _ | refine List.Mem.tail _ ?_ | refine List.mem_append_right _ ?_)) hv.ok (by repeat (first | exact TakeH.here _ _ _ _ | apply TakeH.tail | apply TakeH.app)) (by omega) rfl (by decide) (fun h9 ho9 => ?_)
                  refine TL.pure (PV.assign rfl) rfl (by decide) ?_
                  refine TL.nil ?_
                  refine TQ.blkN ?_
                  refine TQ.thenC ?_
                  refine TC.region ?_
                  refine TL.pure (PV.move rfl) rfl (by decide) ?_
                  refine TL.pure (PV.add rfl rfl (by omega)) rfl (by decide) ?_
                  refine TL.pure (PV.assign rfl) rfl (by decide) ?_
                  refine TL.nil ?_
                  refine TQ.thenN ?_
                  refine TQ.backK (v.1 + 1, h9, v.2.2 ++ [-(ds.getD v.1 0)]) (by repeat (first | exact True.intro | refine And.intro rfl ?_)) (by repeat (first | exact True.intro | refine And.intro rfl ?_)) (by repeat (first | exact List.Sublist.slnil | exact List.nil_sublist _ | exact List.Sublist.refl _ | exact List.sublist_append_left _ _ | refine List.Sublist.cons_cons _ ?_ | refine (List.append_sublist_append_left _).2 ?_ | refine List.Sublist.cons _ ?_ | refine List.Sublist.trans ?_ (List.sublist_append_right _ _))) (hv.step (by omega) ho9) (by simp only; omega)
                · skip
                  refine TC.exit ?_
                  refine TQ.thenE ?_
                  refine TQ.thenE ?_
                  refine TQ.blkS ?_
                  refine TQ.thenC ?_
                  refine TC.seq ?_
                  have hvl := hv.len
                  have hv9 : v.1 = ds.length := by have := hv.le; omega
                  refine TC.region ?_
                  refine TL.pure (PV.loadBox rfl Tb.agg_24 (by repeat (first | exact List.Mem.head _ | refine List.Mem.tail _ ?_ | refine List.mem_append_right _ ?_)) rfl) rfl (by decide) ?_
                  refine TL.call rfl Tb.gofn_54 (fun a w hs => turnS w xa.1 xa.2.1 _ xa.2.2 rfl hxa.ok (BdsAt.s hs.new (fun yy hyy => by repeat (first | exact List.mem_append_left _ hyy | refine List.mem_append_right _ ?_ | refine List.Mem.tail _ ?_)) hxa.ok) (by omega)) rfl (by decide) (fun ua hua => ?_)
                  refine TL.pure (PV.move rfl) rfl (by decide) ?_
                  refine TL.pure (PV.extract rfl rfl) rfl (by decide) ?_
                  refine TL.pure (PV.extract rfl rfl) rfl (by decide) ?_
                  refine TL.alloc Tb.zero_24 rfl (by decide) (fun b3 hb3 => ?_)
                  refine TL.storeAgg rfl rfl Tb.cells_24 (by repeat (first | exact Upd.head _ | apply Upd.tail | apply Upd.appR)) rfl rfl (by first | rfl | exact sv_one _ _ _) rfl rfl ?_
                  refine TL.pure (PV.assign rfl) rfl (by decide) ?_
                  refine TL.nil ?_
                  refine TQ.thenC ?_
                  refine TC.seq ?_
                  have hlu := hua.len
                  have lm2 : (xa.2.2.map flipR).length = xa.2.2.length := List.length_map _
                  have e9 : v.2.2 = negL ds := NI.all (hv9 ▸ hv)
                  have hcf : checkI xa.1 xa.2.2 v.2.2 = checkI n rs ds := by rw [q1, q2, e9]; exact check_flip hx7
                  have hback : ua.1 = n ∧ ua.2.2 = rs := ⟨by rw [hua.num, if_pos hv2]; exact q1, by rw [hua.eq, if_pos hv2, q2]; exact flip_flip rs⟩
                  refine TC.region ?_
                  refine TL.pure (PV.loadBox rfl Tb.agg_24 (by repeat (first | exact List.Mem.head _ | refine List.Mem.tail _ ?_ | refine List.mem_append_right _ ?_)) rfl) rfl (by decide) ?_
                  refine TL.pure (PV.move rfl) rfl (by decide) ?_
                  refine TL.call rfl Tb.gofn_23 (fun a w hs => callsIS w xa.1 xa.2.1 _ xa.2.2 rfl hxa.ok (BdsAt.s hs.new (fun yy hyy => by repeat (first | exact List.mem_append_left _ hyy | refine List.mem_append_right _ ?_ | refine List.Mem.tail _ ?_)) hxa.ok) v.2 _ rfl hv.ok (IntsAt.g hs.new (fun yy hyy => by repeat (first | exact List.mem_append_left _ hyy | refine List.mem_append_right _ ?_ | refine List.Mem.tail _ ?_)) hv.ok) (by omega)) rfl (by decide) (fun _ _ => ?_)
                  refine TL.pure (PV.move rfl) rfl (by decide) ?_
                  refine TL.pure (PV.eql rfl rfl) rfl (by decide) ?_
                  refine TL.pure (PV.move rfl) rfl (by decide) ?_
                  first | refine TL.splitD 78 rfl (fun m1 => ?_) (fun m1 => ?_) | refine TL.split 78 rfl (fun m1 => ?_) (fun m1 => ?_)
                  · skip
                    refine TL.pure (PV.move rfl) rfl (by decide) ?_
                    refine TL.pure (PV.eql rfl rfl) rfl (by decide) ?_
                    refine TL.pure (PV.pickT rfl rfl) rfl (by decide) ?_
                    refine TL.pure (PV.move rfl) rfl (by decide) ?_
                    first | refine TL.splitD 82 rfl (fun m2 => ?_) (fun m2 => ?_) | refine TL.split 82 rfl (fun m2 => ?_) (fun m2 => ?_)
                    · skip
                      refine TL.pure (PV.loadBox rfl Tb.agg_24 (by repeat (first | exact List.Mem.head _ | refine List.Mem.tail _ ?_ | refine List.mem_append_right _ ?_)) rfl) rfl (by decide) ?_
                      refine TL.pure (PV.loadBox rfl Tb.agg_24 (by repeat (first | exact List.Mem.head _ | refine List.Mem.tail _ ?_ | refine List.mem_append_right _ ?_)) rfl) rfl (by decide) ?_
                      refine TL.call rfl Tb.gofn_51 (fun a w hs => equalM rfl hua.ok (BdsAt.s hs.new (fun yy hyy => by repeat (first | exact List.mem_append_left _ hyy | refine List.mem_append_right _ ?_ | refine List.Mem.tail _ ?_)) hua.ok) (hr.new hs.new) (by omega) (by omega)) rfl (by decide) (fun _ _ => ?_)
                      refine TL.pure (PV.pickT rfl rfl) rfl (by decide) ?_
                      refine TL.pure (PV.move rfl) rfl (by decide) ?_
                      first | refine TL.splitD 87 rfl (fun m3 => ?_) (fun m3 => ?_) | refine TL.split 87 rfl (fun m3 => ?_) (fun m3 => ?_)
                      · skip
                        refine TL.call rfl Tb.gofn_18 (fun a w hs => hkn w) rfl (by decide) (fun _ _ => ?_)
                        refine TL.pure (PV.pickT rfl rfl) rfl (by decide) ?_
                        refine TL.pure (PV.assign rfl) rfl (by decide) ?_
                        refine TL.nil ?_
                        refine TQ.thenC ?_
                        refine TC.ret ?_
                        refine TQ.retE1 rfl rfl ?_
                        first | exact ⟨(), rfl, trivial, List.nil_sublist _⟩ | (exfalso; omega) | (exfalso; simp_all; done)
                      · skip
                        exact (m3 hback).elim
                    · skip
                      exact (m2 hv2).elim
                  · skip
                    exact (m1 hcf).elim
            · skip
              refine TL.skip rfl (fun k hk => by cases hk; decide) ?_
              refine TL.skip rfl (fun k hk => by cases hk; decide) ?_
              refine TL.pure (PV.pickF rfl rfl) rfl (by decide) ?_
              refine TL.nil ?_
              refine TQ.thenC ?_
              refine TC.condF rfl ?_
              refine TC.skip ?_
              refine TQ.thenC ?_
              refine TC.seq ?_
              have hz : validateI n rs = 0 := by omega
              have hx7 : checkI n rs ds = 0 ∨ checkI n rs ds = 7 := by omega
              have q1 : xa.1 = n := by rw [hxa.num, if_pos hz]
              have q2 : xa.2.2 = rs.map flipR := by rw [hxa.eq, if_pos hz]
              have hv2 : validateI xa.1 xa.2.2 = 0 := by rw [q1, q2]; exact flip_valid hz
              refine TC.region ?_
              refine TL.pure (PV.assign rfl) rfl (by decide) ?_
              refine TL.nil ?_
              refine TQ.thenC ?_
              refine TC.seq ?_
              refine TC.seq ?_
              refine TC.region ?_
              refine TL.pure (PV.assign rfl) rfl (by decide) ?_
              refine TL.nil ?_
              refine TQ.thenC ?_
              refine TC.block ?_
              refine TC.loopK [1, 2, 4, 5, 9] (X := Nat × HD × List Int) (fun v => NI ds v.1 v.2) (fun v => [(11, .int .i64 v.1), (10, gvI v.2)]) (fun v => gbI v.2 ++ ((b2, .cells #[.int .i64 ya.1, gval ya.2.1 ya.2.2.length] 24 (0, 0)) :: (gbB 42 ya.2.1 ya.2.2 ++ ((b1, .cells #[.int .i64 xa.1, gval xa.2.1 xa.2.2.length] 24 (0, 0)) :: (gbB 42 xa.2.1 xa.2.2 ++ [(b0, .cells #[.int .i64 n, .slice p rs.length cap] 24 (0, 0))]))))) (fun v => ds.length - v.1) (0, none, []) (NI.zero ds) (by repeat (first | exact True.intro | refine And.intro rfl ?_)) (by repeat (first | exact List.Sublist.slnil | exact List.nil_sublist _ | exact List.Sublist.refl _ | exact List.sublist_append_left _ _ | refine List.Sublist.cons_cons _ ?_ | refine (List.append_sublist_append_left _).2 ?_ | refine List.Sublist.cons _ ?_ | refine List.Sublist.trans ?_ (List.sublist_append_right _ _))) ?_
              intro v hv
              refine TC.seq ?_
              refine TC.seq ?_
              refine TC.region ?_
              refine TL.pure (PV.move rfl) rfl (by decide) ?_
              refine TL.pure (PV.move rfl) rfl (by decide) ?_
              refine TL.pure (PV.len rfl Tb.sl_25) rfl (by decide) ?_
              refine TL.pure (PV.lss rfl rfl) rfl (by decide) ?_
              refine TL.nil ?_
              refine TQ.thenC ?_
              first | refine TC.condD rfl (fun hlt => ?_) (fun hlt => ?_) | refine TC.cond rfl (fun hlt => ?_) (fun hlt => ?_)
              · skip
                refine TC.skip ?_
                refine TQ.thenC ?_
                refine TC.seq ?_
                refine TC.block ?_
                obtain ⟨q, hqp, hqa⟩ := hx v.1 (by omega)
                have hb9 := hi (ds.getD v.1 0) (by simp [List.getD, show v.1 < ds.length by omega])
                have hlen := hv.len
                have hb8 : -9223372036854775808 ≤ -(ds.getD v.1 0) ∧ -(ds.getD v.1 0) ≤ 9223372036854775807 := by have := (datesOk_spec (vdI_is (check_vd hx7)).2).2 v.1; omega
                refine TC.region ?_
                refine TL.pure (PV.move rfl) rfl (by decide) ?_
                refine TL.pure (PV.move rfl) rfl (by decide) ?_
                refine TL.pure (PV.move rfl) rfl (by decide) ?_
                refine TL.pure (PV.indexA rfl hqp rfl Tb.elm_25 rfl (by omega)) rfl (by decide) ?_
                refine TL.pure (PV.loadOld rfl Tb.one_3 hqa) rfl (by decide) ?_
                refine TL.pure (PV.neg rfl hb8) rfl (by decide) ?_
                refine TL.buildSlice (cs := #[.int .i64 (-(ds.getD v.1 0))]) rfl Tb.sl_25 Tb.zi_3 (by decide) (fill_i _) (by decide) rfl (by decide) (fun bI hbI => ?_)
                refine TL.appendI (x0 := v.2) (v := -(ds.getD v.1 0)) rfl rfl (by repeat (first | exact List.Mem.head _ | refine List.Mem.tail _ ?_ | refine List.mem_append_right _ ?_)) hv.ok (by repeat (first | exact TakeH.here _ _ _ _ | apply TakeH.tail | apply TakeH.app)) (by omega) rfl (by decide) (fun h9 ho9 => ?_)
                refine TL.pure (PV.assign rfl) rfl (by decide) ?_
                refine TL.nil ?_
                refine TQ.blkN ?_
                refine TQ.thenC ?_
                refine TC.region ?_
                refine TL.pure (PV.move rfl) rfl (by decide) ?_
                refine TL.pure (PV.add rfl rfl (by omega)) rfl (by decide) ?_
                refine TL.pure (PV.assign rfl) rfl (by decide) ?_
                refine TL.nil ?_
                refine TQ.thenN ?_
                refine TQ.backK (v.1 + 1, h9, v.2.2 ++ [-(ds.getD v.1 0)]) (by repeat (first | exact True.intro | refine And.intro rfl ?_)) (by repeat (first | exact True.intro | refine And.intro rfl ?_)) (by repeat (first | exact List.Sublist.slnil | exact List.nil_sublist _ | exact List.Sublist.refl _ | exact List.sublist_append_left _ _ | refine List.Sublist.cons_cons _ ?_ | refine (List.append_sublist_append_left _).2 ?_ | refine List.Sublist.cons _ ?_ | refine List.Sublist.trans ?_ (List.sublist_append_right _ _))) (hv.step (by omega) ho9) (by simp only; omega)
              · skip
                refine TC.exit ?_
                refine TQ.thenE ?_
                refine TQ.thenE ?_
                refine TQ.blkS ?_
                refine TQ.thenC ?_
                refine TC.seq ?_
                have hvl := hv.len
                have hv9 : v.1 = ds.length := by have := hv.le; omega
                refine TC.region ?_
                refine TL.pure (PV.loadBox rfl Tb.agg_24 (by repeat (first | exact List.Mem.head _ | refine List.Mem.tail _ ?_ | refine List.mem_append_right _ ?_)) rfl) rfl (by decide) ?_
                refine TL.call rfl Tb.gofn_54 (fun a w hs => turnS w xa.1 xa.2.1 _ xa.2.2 rfl hxa.ok (BdsAt.s hs.new (fun yy hyy => by repeat (first | exact List.mem_append_left _ hyy | refine List.mem_append_right _ ?_ | refine List.Mem.tail _ ?_)) hxa.ok) (by omega)) rfl (by decide) (fun ua hua => ?_)
                refine TL.pure (PV.move rfl) rfl (by decide) ?_
                refine TL.pure (PV.extract rfl rfl) rfl (by decide) ?_
                refine TL.pure (PV.extract rfl rfl) rfl (by decide) ?_
                refine TL.alloc Tb.zero_24 rfl (by decide) (fun b4 hb4 => ?_)
                refine TL.storeAgg rfl rfl Tb.cells_24 (by repeat (first | exact Upd.head _ | apply Upd.tail | apply Upd.appR)) rfl rfl (by first | rfl | exact sv_one _ _ _) rfl rfl ?_
                refine TL.pure (PV.assign rfl) rfl (by decide) ?_
                refine TL.nil ?_
                refine TQ.thenC ?_
                refine TC.seq ?_
                have hlu := hua.len
                have lm2 : (xa.2.2.map flipR).length = xa.2.2.length := List.length_map _
                have e9 : v.2.2 = negL ds := NI.all (hv9 ▸ hv)
                have hcf : checkI xa.1 xa.2.2 v.2.2 = checkI n rs ds := by rw [q1, q2, e9]; exact check_flip hx7
                have hback : ua.1 = n ∧ ua.2.2 = rs := ⟨by rw [hua.num, if_pos hv2]; exact q1, by rw [hua.eq, if_pos hv2, q2]; exact flip_flip rs⟩
                refine TC.region ?_
                refine TL.pure (PV.loadBox rfl Tb.agg_24 (by repeat (first | exact List.Mem.head _ | refine List.Mem.tail _ ?_ | refine List.mem_append_right _ ?_)) rfl) rfl (by decide) ?_
                refine TL.pure (PV.move rfl) rfl (by decide) ?_
                refine TL.call rfl Tb.gofn_23 (fun a w hs => callsIS w xa.1 xa.2.1 _ xa.2.2 rfl hxa.ok (BdsAt.s hs.new (fun yy hyy => by repeat (first | exact List.mem_append_left _ hyy | refine List.mem_append_right _ ?_ | refine List.Mem.tail _ ?_)) hxa.ok) v.2 _ rfl hv.ok (IntsAt.g hs.new (fun yy hyy => by repeat (first | exact List.mem_append_left _ hyy | refine List.mem_append_right _ ?_ | refine List.Mem.tail _ ?_)) hv.ok) (by omega)) rfl (by decide) (fun _ _ => ?_)
                refine TL.pure (PV.move rfl) rfl (by decide) ?_
                refine TL.pure (PV.eql rfl rfl) rfl (by decide) ?_
                refine TL.pure (PV.move rfl) rfl (by decide) ?_
                first | refine TL.splitD 78 rfl (fun m1 => ?_) (fun m1 => ?_) | refine TL.split 78 rfl (fun m1 => ?_) (fun m1 => ?_)
                · skip
                  refine TL.pure (PV.move rfl) rfl (by decide) ?_
                  refine TL.pure (PV.eql rfl rfl) rfl (by decide) ?_
                  refine TL.pure (PV.pickT rfl rfl) rfl (by decide) ?_
                  refine TL.pure (PV.move rfl) rfl (by decide) ?_
                  first | refine TL.splitD 82 rfl (fun m2 => ?_) (fun m2 => ?_) | refine TL.split 82 rfl (fun m2 => ?_) (fun m2 => ?_)
                  · skip
                    refine TL.pure (PV.loadBox rfl Tb.agg_24 (by repeat (first | exact List.Mem.head _ | refine List.Mem.tail _ ?_ | refine List.mem_append_right _ ?_)) rfl) rfl (by decide) ?_
                    refine TL.pure (PV.loadBox rfl Tb.agg_24 (by repeat (first | exact List.Mem.head _ | refine List.Mem.tail _ ?_ | refine List.mem_append_right _ ?_)) rfl) rfl (by decide) ?_
                    refine TL.call rfl Tb.gofn_51 (fun a w hs => equalM rfl hua.ok (BdsAt.s hs.new (fun yy hyy => by repeat (first | exact List.mem_append_left _ hyy | refine List.mem_append_right _ ?_ | refine List.Mem.tail _ ?_)) hua.ok) (hr.new hs.new) (by omega) (by omega)) rfl (by decide) (fun _ _ => ?_)
                    refine TL.pure (PV.pickT rfl rfl) rfl (by decide) ?_
                    refine TL.pure (PV.move rfl) rfl (by decide) ?_
                    first | refine TL.splitD 87 rfl (fun m3 => ?_) (fun m3 => ?_) | refine TL.split 87 rfl (fun m3 => ?_) (fun m3 => ?_)
                    · skip
                      refine TL.call rfl Tb.gofn_18 (fun a w hs => hkn w) rfl (by decide) (fun _ _ => ?_)
                      refine TL.pure (PV.pickT rfl rfl) rfl (by decide) ?_
                      refine TL.pure (PV.assign rfl) rfl (by decide) ?_
                      refine TL.nil ?_
                      refine TQ.thenC ?_
                      refine TC.ret ?_
                      refine TQ.retE1 rfl rfl ?_
                      first | exact ⟨(), rfl, trivial, List.nil_sublist _⟩ | (exfalso; omega) | (exfalso; simp_all; done)
                    · skip
                      exact (m3 hback).elim
                  · skip
                    exact (m2 hv2).elim
                · skip
                  exact (m1 hcf).elim

end Go.Proofs.Ytenalmddoljhoaa
