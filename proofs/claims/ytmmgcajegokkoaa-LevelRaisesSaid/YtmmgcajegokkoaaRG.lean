/- The misfit by the best heights: contracts. -/
import Derived.Test.YtmmgcajegokkoaaZ1
import Derived.Test.YtmmgcajegokkoaaU2
import Derived.Test.YtmmgcajegokkoaaMi
namespace Go.Proofs.Ytmmgcajegokkoaa
open Go.Sx Go.RowKit

def resid (r : Rd) (den : Int) (x : Nat → Int) : Int := r.rise * den - (x r.t - x r.f)
def lvF (n : Int) (rs : List Rd) (k : Nat) : Int := resR rs (denO n.toNat rs) (solN n.toNat rs (bestL n.toNat rs)) k
theorem res_bn {r : Rd} {den : Int} {x y : Int} (h0 : 0 ≤ den) (hr : Bn r.rise 1000) (hx : Bn x (4000 * den)) (hy : Bn y (4000 * den)) : Bn (r.rise * den - (x - y)) (9000 * den) := by
  have h1 := hr.mul (show Bn den den from ⟨by omega, Int.le_refl _⟩)
  unfold Bn at *
  omega
theorem lv_bn {n : Int} {rs : List Rd} (hv : Valid n rs) {k : Nat} (hk : k < rs.length) : Bn (lvF n rs k) (9000 * denO n.toNat rs) := by
  obtain ⟨i1, i2, i3⟩ := rd_in hv hk
  have hd := denO_pos hv.nat.1
  have hat := hv.at hk
  have b1 := best_bn hv.nat.1 i1
  have b2 := best_bn hv.nat.1 i2
  unfold lvF resR
  rw [solZ_get _ _ _ i1, solZ_get _ _ _ i2]
  exact res_bn (by omega) hat.2.2.2.1 (b2.mono (by omega)) (b1.mono (by omega))
def mS (rs : List Rd) (g : Nat → Int) (m : Nat) : Int := sumN m fun k => (rs.getD k default).wt * g k * g k
theorem mS_bn {n : Int} {rs : List Rd} (hv : Valid n rs) {g : Nat → Int} (hg : ∀ k, k < rs.length → Bn (g k) 237654000) : ∀ m, m ≤ rs.length → Bn (mS rs g m) (169438271148000000 * m)
  | 0, _ => by simp [mS, sumN, Bn]
  | m + 1, h => by
    have ih := mS_bn hv hg m (by omega)
    have h1 := hv.at (k := m) (by omega)
    have h2 := hg m (by omega)
    have h3 := ((show Bn (rs.getD m default).wt 3 from ⟨by omega, by omega⟩).mul h2).mul h2
    exact (ih.add h3).mono (by omega)
theorem mS_step {n : Int} {rs : List Rd} (hv : Valid n rs) {g : Nat → Int} (hg : ∀ k, k < rs.length → Bn (g k) 237654000) {m : Nat} (hm : m < rs.length) :
    Bn ((rs.getD m default).wt * g m) 712962000 ∧ Bn ((rs.getD m default).wt * g m * g m) 169438271148000000 ∧ mS rs g (m + 1) = mS rs g m + (rs.getD m default).wt * g m * g m := by
  have h1 := hv.at hm
  have h2 := hg m hm
  have h3 := (show Bn (rs.getD m default).wt 3 from ⟨by omega, by omega⟩).mul h2
  exact ⟨h3.mono (by omega), (h3.mul h2).mono (by omega), rfl⟩
theorem eq46n_guard (x y : Operand) (a b c d : Int) (w : World) : (eqGuard .neq 46 x y (.agg #[.int .i64 a, .int .i64 b]) (.agg #[.int .i64 c, .int .i64 d])).run Try.prog w = .ok () w :=
  run_eqGuard_agg (w := w) .neq 46 x y _ _ (by kernel_rfl)
theorem eq46n (a b c d : Int) (w : World) : (binOp .neq 46 (.agg #[.int .i64 a, .int .i64 b]) (.agg #[.int .i64 c, .int .i64 d])).run Try.prog w = .ok (.bool (decide (¬ (a = c ∧ b = d)))) w := by
  rw [run_neq_struct, show (10000 : Nat) = 9998 + 1 + 1 from rfl, run_equalIn_agg w _ _ _ _ (by kernel_rfl) (by kernel_rfl), eqF2 w _ _ _ _ _ 3 (k := .i64) (by kernel_rfl) (by simp [isAgg, run_underlying (show Try.prog.underlying 3 = some (.int .i64) by kernel_rfl)]) eq46_fs]
  simp
theorem best_in2 (w0 : World) (n : Int) (p : Option Addr) (cap : Nat) (rs : List Rd) (hr : RdsAt w0 p rs) (hv : Valid n rs) :
    Calls Try.prog 74 #[sv n p rs.length cap] w0 (Post (X := Nat) (fun b => .agg #[.int .i64 (denO n.toNat rs), .slice (some ⟨b, 0, none⟩) n.toNat n.toNat]) (fun _ => True) (fun b => [arrI b (solN n.toNat rs (bestL n.toNat rs))]) w0) := by
  have h := best_in w0 n p cap rs hr hv (solved hv.nat.1 (bestL_48 hv.nat.1)).sound
  rw [solD_eq hv.nat.1] at h
  exact h
theorem residL_get {n : Int} {rs : List Rd} {k : Nat} (hk : k < rs.length) : (residL rs (denO n.toNat rs) (solN n.toNat rs (bestL n.toNat rs))).getD k 0 = lvF n rs k := by simp [residL, List.getD, hk, lvF]
theorem resid_bd2 {n : Int} {rs : List Rd} (hv : Valid n rs) : Bd (residL rs (denO n.toNat rs) (solN n.toNat rs (bestL n.toNat rs))) 237654000 := fun j => by
  by_cases hj : j < rs.length
  · rw [residL_get hj]
    have hb := lv_bn hv hj
    have ht := denO_tight hv.nat.1
    exact hb.mono (by omega)
  · have : (residL rs (denO n.toNat rs) (solN n.toNat rs (bestL n.toNat rs))).getD j 0 = 0 := by simp [residL, List.getD, hj]
    rw [this]; omega
def mfA (n : Int) (rs : List Rd) : Int := (mS rs (lvF n rs) rs.length).tdiv (lowG (mS rs (lvF n rs) rs.length) (denO n.toNat rs * denO n.toNat rs))
def mfB (n : Int) (rs : List Rd) : Int := (denO n.toNat rs * denO n.toNat rs).tdiv (lowG (mS rs (lvF n rs) rs.length) (denO n.toNat rs * denO n.toNat rs))
theorem lv_all {n : Int} {rs : List Rd} (hv : Valid n rs) : ∀ k, k < rs.length → Bn (lvF n rs k) 237654000 := fun k hk => (lv_bn hv hk).mono (by have := denO_tight hv.nat.1; omega)
theorem sq_bn {d : Int} (h1 : 1 ≤ d) (h2 : d ≤ 26406) : 0 < d * d ∧ d * d ≤ 697276836 := by
  have e1 := Int.mul_pos (show 0 < d by omega) (show 0 < d by omega)
  have e2 := (show Bn d 26406 from ⟨by omega, h2⟩).mul (show Bn d 26406 from ⟨by omega, h2⟩)
  unfold Bn at e2
  omega
theorem lowestM (w : World) {n : Int} {rs : List Rd} (hv : Valid n rs) :
    Calls Try.prog 79 #[.int .i64 (mS rs (lvF n rs) rs.length), .int .i64 (denO n.toNat rs * denO n.toNat rs)] w (Post (X := Unit) (fun _ => .agg #[.int .i64 (mfA n rs), .int .i64 (mfB n rs)]) (fun _ => True) (fun _ => []) w) := by
  have hd := denO_pos hv.nat.1
  have ht := denO_tight hv.nat.1
  have hq := sq_bn hd.1 ht
  have hl := hv.len
  have hb := (mS_bn hv (lv_all hv) rs.length (Nat.le_refl _)).mono (B := 4000000000000000000) (by omega)
  exact lowest_ok w _ _ hq.1 (by omega) hb


set_option maxRecDepth 100000 in
set_option maxHeartbeats 1000000 in
theorem Misfit_ok (w0 : World) (n : Int) (p : Option Addr) (cap : Nat) (rs : List Rd) (hr : RdsAt w0 p rs) :
    Calls Try.prog 39 #[sv n p rs.length cap] w0 (Post (X := Unit) (fun _ => .tuple #[if validateI n rs = 0 then .agg #[.int .i64 (mfA n rs), .int .i64 (mfB n rs)] else .agg #[.int .i64 0, .int .i64 0], .int .i64 (validateI n rs)]) (fun _ => True) (fun _ => []) w0) := by
  refine calls Try.func39 rfl (n := 46) rfl (by simp) ?_
  refine TC.seq ?_
  refine TC.region ?_
  refine TL.box rfl rfl (by decide) (fun b0 hb0 => ?_)
  refine TL.alloc Tb.zero_46 rfl (by decide) (fun b1 hb1 => ?_)
  refine TL.pure (PV.assign rfl) rfl (by decide) ?_
  refine TL.nil ?_
  refine TQ.thenC ?_
  refine TC.seq ?_
  refine TC.seq ?_
  refine TC.region ?_
  refine TL.pure (PV.loadBox rfl Tb.agg_24 (by repeat (first | exact List.Mem.head _ | refine List.Mem.tail _ ?_ | refine List.mem_append_right _ ?_)) rfl) rfl (by decide) ?_
  refine TL.call rfl Tb.gofn_23 (fun a w hs => validate_ok w _ _ _ _ (hr.new hs.new)) rfl (by decide) (fun _ _ => ?_)
  refine TL.pure (PV.assign rfl) rfl (by decide) ?_
  refine TL.nil ?_
  refine TQ.thenC ?_
  refine TC.seq ?_
  refine TC.region ?_
  refine TL.pure (PV.move rfl) rfl (by decide) ?_
  refine TL.pure (PV.neq rfl rfl) rfl (by decide) ?_
  refine TL.nil ?_
  refine TQ.thenC ?_
  first | refine TC.condD rfl (fun hne => ?_) (fun hne => ?_) | refine TC.cond rfl (fun hne => ?_) (fun hne => ?_)
  · skip
    refine TC.seq ?_
    refine TC.region ?_
    refine TL.pure (PV.build rfl Tb.zero_46 Tb.pl_46 rfl) rfl (by decide) ?_
    refine TL.pure (PV.move rfl) rfl (by decide) ?_
    refine TL.storeAgg rfl rfl Tb.cells_46 (by repeat (first | exact Upd.head _ | apply Upd.tail | apply Upd.appR)) rfl rfl rfl rfl rfl ?_
    refine TL.pure (PV.assign rfl) rfl (by decide) ?_
    refine TL.nil ?_
    refine TQ.thenC ?_
    refine TC.ret ?_
    refine TQ.thenR ?_
    refine TQ.retR rfl (Res.agg rfl Tb.agg_46 (by repeat (first | exact List.Mem.head _ | refine List.Mem.tail _ ?_ | refine List.mem_append_right _ ?_)) rfl (Res.tmp rfl Res.nil)) ?_
    simp only [tup]
    exact ⟨(), by rw [if_neg hne], trivial, List.nil_sublist _⟩
  · skip
    refine TC.skip ?_
    refine TQ.thenC ?_
    refine TC.seq ?_
    have hv : Valid n rs := vof hne
    have hp := hv.pts
    have hll := hv.len
    have hd := denO_pos hv.nat.1
    have hdt := denO_tight hv.nat.1
    have hnb := (solved hv.nat.1 (bestL_48 hv.nat.1)).sound.num
    have hsq := sq_bn hd.1 hdt
    have hlv := lv_all hv
    have hrl := residL_len rs (denO n.toNat rs) (solN n.toNat rs (bestL n.toNat rs))
    refine TC.region ?_
    refine TL.pure (PV.loadBox rfl Tb.agg_24 (by repeat (first | exact List.Mem.head _ | refine List.Mem.tail _ ?_ | refine List.mem_append_right _ ?_)) rfl) rfl (by decide) ?_
    refine TL.call rfl Tb.gofn_74 (fun a w hs => best_in2 w _ _ _ _ (hr.new hs.new) hv) rfl (by decide) (fun bH _ => ?_)
    refine TL.alloc Tb.zero_51 rfl (by decide) (fun b2 hb2 => ?_)
    refine TL.storeAgg rfl rfl Tb.cells_51 (by repeat (first | exact Upd.head _ | apply Upd.tail | apply Upd.appR)) rfl rfl rfl rfl rfl ?_
    refine TL.nil ?_
    refine TQ.thenC ?_
    refine TC.seq ?_
    refine TC.region ?_
    refine TL.pure (PV.assign rfl) rfl (by decide) ?_
    refine TL.nil ?_
    refine TQ.thenC ?_
    refine TC.seq ?_
    refine TC.seq ?_
    refine TC.region ?_
    refine TL.pure (PV.loadBox rfl Tb.agg_24 (by repeat (first | exact List.Mem.head _ | refine List.Mem.tail _ ?_ | refine List.mem_append_right _ ?_)) rfl) rfl (by decide) ?_
    refine TL.pure (PV.loadBox rfl Tb.agg_51 (by repeat (first | exact List.Mem.head _ | refine List.Mem.tail _ ?_ | refine List.mem_append_right _ ?_)) rfl) rfl (by decide) ?_
    refine TL.call rfl Tb.gofn_77 (fun a w hs => residuals_ok w _ _ _ _ (hr.new hs.new) hv (denO n.toNat rs) (some ⟨bH, 0, none⟩) n.toNat (solN n.toNat rs (bestL n.toNat rs)) (IntsAt.arr hs.new (by repeat (first | exact List.Mem.head _ | refine List.Mem.tail _ ?_ | refine List.mem_append_right _ ?_))) (solN_len _ _ _) (by omega) hnb) rfl (by decide) (fun bR _ => ?_)
    refine TL.pure (PV.len rfl Tb.sl_31) rfl (by decide) ?_
    refine TL.pure (PV.move rfl) rfl (by decide) ?_
    refine TL.nil ?_
    refine TQ.thenC ?_
    refine TC.block ?_
    refine TC.lit [(1, _), (2, _), (3, _), (5, _), (6, _), (19, _), (20, _), (21, _)] (by repeat (first | exact True.intro | refine And.intro rfl ?_)) ?_
    refine TC.loopG [1, 2, 3, 5, 19, 20] (X := Nat) (fun k => k ≤ rs.length) (fun k => [(21, .int .i64 k), (6, .int .i64 (mS rs (lvF n rs) k))]) (fun k => rs.length - k) 0 (Nat.zero_le _) (by repeat (first | exact True.intro | refine And.intro rfl ?_)) ?_
    intro k hk
    refine TC.seq ?_
    refine TC.region ?_
    refine TL.pure (PV.lss rfl rfl) rfl (by decide) ?_
    refine TL.nil ?_
    refine TQ.thenC ?_
    refine TC.seq ?_
    first | refine TC.condD rfl (fun hlt => ?_) (fun hlt => ?_) | refine TC.cond rfl (fun hlt => ?_) (fun hlt => ?_)
    · skip
      refine TC.skip ?_
      refine TQ.thenC ?_
      refine TC.seq ?_
      refine TC.block ?_
      refine TC.seq ?_
      refine TC.lit [(1, _), (2, _), (3, _), (5, _), (6, _), (19, _), (20, _), (21, _)] (by repeat (first | exact True.intro | refine And.intro rfl ?_)) ?_
      have hkl : k < rs.length := by omega
      obtain ⟨q, hqp, hq⟩ := hr k hkl
      have hq3 := hq 3 _ rfl
      have hg := residL_get (n := n) hkl
      have hb := mS_bn hv hlv k (by omega)
      have hst := mS_step hv hlv hkl
      unfold Bn at hb hst
      rw [← hg] at hst
      refine TC.region ?_
      refine TL.pure (PV.move rfl) rfl (by decide) ?_
      refine TL.pure (PV.index1 rfl rfl Tb.elm_31 rfl (by omega)) rfl (by decide) ?_
      refine TL.pure (PV.loadI rfl Tb.one_3 (by repeat (first | exact List.Mem.head _ | refine List.Mem.tail _ ?_ | refine List.mem_append_right _ ?_)) (by omega)) rfl (by decide) ?_
      refine TL.pure (PV.assign rfl) rfl (by decide) ?_
      refine TL.pure (PV.assign rfl) rfl (by decide) ?_
      refine TL.nil ?_
      refine TQ.thenC ?_
      refine TC.region ?_
      refine TL.pure (PV.move rfl) rfl (by decide) ?_
      refine TL.pure (PV.fieldAddr rfl Tb.fo_24_1) rfl (by decide) ?_
      refine TL.pure (PV.load rfl Tb.one_22 (by repeat (first | exact List.Mem.head _ | refine List.Mem.tail _ ?_ | refine List.mem_append_right _ ?_)) rfl) rfl (by decide) ?_
      refine TL.pure (PV.move rfl) rfl (by decide) ?_
      refine TL.pure (PV.indexA rfl hqp rfl Tb.elm_22 rfl (by omega)) rfl (by decide) ?_
      refine TL.pure (PV.fieldAddrA rfl Tb.fo_61_3) rfl (by decide) ?_
      refine TL.pure (PV.loadOld rfl Tb.one_3 hq3) rfl (by decide) ?_
      refine TL.pure (PV.move rfl) rfl (by decide) ?_
      refine TL.pure (PV.mul rfl rfl (by omega)) rfl (by decide) ?_
      refine TL.pure (PV.move rfl) rfl (by decide) ?_
      refine TL.pure (PV.mul rfl rfl (by omega)) rfl (by decide) ?_
      refine TL.pure (PV.add rfl rfl (by omega)) rfl (by decide) ?_
      refine TL.pure (PV.assign rfl) rfl (by decide) ?_
      refine TL.nil ?_
      refine TQ.blkN ?_
      refine TQ.thenC ?_
      refine TC.region ?_
      refine TL.pure (PV.add rfl rfl (by omega)) rfl (by decide) ?_
      refine TL.pure (PV.move rfl) rfl (by decide) ?_
      refine TL.nil ?_
      refine TQ.thenN ?_
      refine TQ.backK (k + 1) ⟨rfl, by rw [hst.2.2, hg]; rfl, trivial⟩ (by repeat (first | exact True.intro | refine And.intro rfl ?_)) (by repeat (first | exact List.Sublist.slnil | exact List.nil_sublist _ | exact List.Sublist.refl _ | refine List.Sublist.cons_cons _ ?_ | refine List.Sublist.cons _ ?_ | refine List.Sublist.trans ?_ (List.sublist_append_right _ _))) (by omega) (by omega)
    · skip
      refine TC.exit ?_
      refine TQ.thenE ?_
      refine TQ.thenE ?_
      refine TQ.blkS ?_
      refine TQ.thenC ?_
      refine TC.seq ?_
      refine TC.lit [(2, _), (5, _), (6, _)] (by repeat (first | exact True.intro | refine And.intro rfl ?_)) ?_
      have hkk : k = rs.length := by omega
      subst hkk
      refine TC.region ?_
      refine TL.pure (PV.move rfl) rfl (by decide) ?_
      refine TL.pure (PV.fieldAddr rfl Tb.fo_51_0) rfl (by decide) ?_
      refine TL.pure (PV.load rfl Tb.one_3 (by repeat (first | exact List.Mem.head _ | refine List.Mem.tail _ ?_ | refine List.mem_append_right _ ?_)) rfl) rfl (by decide) ?_
      refine TL.pure (PV.fieldAddr rfl Tb.fo_51_0) rfl (by decide) ?_
      refine TL.pure (PV.load rfl Tb.one_3 (by repeat (first | exact List.Mem.head _ | refine List.Mem.tail _ ?_ | refine List.mem_append_right _ ?_)) rfl) rfl (by decide) ?_
      refine TL.pure (PV.mul rfl rfl (by omega)) rfl (by decide) ?_
      refine TL.call rfl Tb.gofn_79 (fun a w hs => lowestM w hv) rfl (by decide) (fun _ _ => ?_)
      refine TL.storeAgg rfl rfl Tb.cells_46 (by repeat (first | exact Upd.head _ | apply Upd.tail | apply Upd.appR)) rfl rfl rfl rfl rfl ?_
      refine TL.pure (PV.assign rfl) rfl (by decide) ?_
      refine TL.nil ?_
      refine TQ.thenC ?_
      refine TC.ret ?_
      refine TQ.retR rfl (Res.agg rfl Tb.agg_46 (by repeat (first | exact List.Mem.head _ | refine List.Mem.tail _ ?_ | refine List.mem_append_right _ ?_)) rfl (Res.tmp rfl Res.nil)) ?_
      simp only [tup]
      exact ⟨(), by rw [if_pos (show validateI n rs = 0 from hv), show validateI n rs = 0 from hv], trivial, List.nil_sublist _⟩

def mfV (n : Int) (rs : List Rd) (a : Int) : Int := if validateI n rs = 0 then a else 0
theorem mfV_eq (n : Int) (rs : List Rd) : (if validateI n rs = 0 then Value.agg #[.int .i64 (mfA n rs), .int .i64 (mfB n rs)] else Value.agg #[.int .i64 0, .int .i64 0]) = Value.agg #[.int .i64 (mfV n rs (mfA n rs)), .int .i64 (mfV n rs (mfB n rs))] := by
  unfold mfV; split <;> rfl
theorem Misfit_v (w0 : World) (n : Int) (p : Option Addr) (cap : Nat) (rs : List Rd) (hr : RdsAt w0 p rs) :
    Calls Try.prog 39 #[sv n p rs.length cap] w0 (Post (X := Unit) (fun _ => .tuple #[.agg #[.int .i64 (mfV n rs (mfA n rs)), .int .i64 (mfV n rs (mfB n rs))], .int .i64 (validateI n rs)]) (fun _ => True) (fun _ => []) w0) := by
  have h := Misfit_ok w0 n p cap rs hr
  rw [mfV_eq] at h
  exact h
end Go.Proofs.Ytmmgcajegokkoaa
