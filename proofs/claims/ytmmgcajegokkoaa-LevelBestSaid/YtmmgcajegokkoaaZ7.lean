/- Residuals and misfits, both ways: contracts; when two lists of rational numbers are the same. -/
import Derived.Test.YtmmgcajegokkoaaMo
namespace Go.Proofs.Ytmmgcajegokkoaa
open Go.Sx Go.RowKit

def RatsAt (w : World) (p : Option Addr) (l : List (Int × Int)) : Prop := ∀ j, j < l.length → ∃ q, p = some q ∧ ∀ i v, [Value.int .i64 (l.getD j (0, 0)).1, .int .i64 (l.getD j (0, 0)).2][i]? = some v → w.cell? ((q.add (j * 2)).add i) = some v
theorem RatsAt.new {w0 w : World} {G : Heap} {p : Option Addr} {l : List (Int × Int)} (h : RatsAt w0 p l) (hn : New w0 w G) : RatsAt w p l := fun j hj =>
  let ⟨q, hq, hc⟩ := h j hj
  ⟨q, hq, fun i v hv => hn.old (hc i v hv)⟩
theorem RatsAt.g {w0 w : World} {G : Heap} {x : RL} (hn : New w0 w G) (hm : ∀ y ∈ gbQ x, y ∈ G) (ho : goQ x) : RatsAt w (gp x.1) x.2 := by
  obtain ⟨_ | ⟨b, cap, sp⟩, l⟩ := x
  · intro j hj
    have : l.length = 0 := ho.2
    simp only at hj
    omega
  · intro j hj
    refine ⟨⟨b, 0, none⟩, rfl, fun i v hv => ?_⟩
    rw [addr_add_add, add_off, Nat.zero_add]
    exact hn.cell (hm _ (.head _)) (goQ_get (x := (some (b, cap, sp), l)) hj i v hv)
theorem rc_flat {l : List (Int × Int)} : rc l = (l.map fun q => [Value.int .i64 q.1, .int .i64 q.2]).flatten := by
  simp [rc, List.flatMap]
theorem goQ_arr {b : Nat} {l : List (Int × Int)} {K : Nat} (hK : l.length = K) : goQ (some (b, K, []), l) := by
  subst hK
  refine ⟨rc_len l, ?_, Nat.le_refl _⟩
  simp [rc_len]
theorem gvQ_arr {b : Nat} {l : List (Int × Int)} {K : Nat} (hK : l.length = K) : gvQ (some (b, K, []), l) = .slice (some ⟨b, 0, none⟩) K K := by subst hK; rfl
theorem gbQ_arr {b : Nat} {l : List (Int × Int)} {K : Nat} {rows : List (List Value)} (hr : rows = l.map fun q => [Value.int .i64 q.1, .int .i64 q.2]) : gbQ (some (b, K, []), l) = [(b, .cells (recA rows) 46 (0, 0))] := by
  show [(b, Obj.cells (rc l ++ []).toArray 46 (0, 0))] = _
  rw [List.append_nil, rc_flat, hr]
  rfl
theorem Best_q (w0 : World) (n : Int) (p : Option Addr) (cap : Nat) (rs : List Rd) (hr : RdsAt w0 p rs) :
    Calls Try.prog 35 #[sv n p rs.length cap] w0 (Post (X := RL) (fun x => .tuple #[gvQ x, .int .i64 (validateI n rs)]) (BQ n rs) (fun x => gbQ x) w0) := by
  by_cases hv : validateI n rs = 0
  · refine (best_h w0 n p cap rs hr hv).mono fun e w' ⟨b, he, _, hn⟩ => ⟨(some (b, n.toNat, []), hL n.toNat rs), ?_, ⟨by rw [if_pos hv], goQ_arr (hL_len _ _)⟩, ?_⟩
    · rw [he, hv]
      show _ = Ending.returned (Value.tuple #[gvQ (some (b, n.toNat, []), hL n.toNat rs), .int .i64 0])
      rw [gvQ_arr (hL_len _ _)]
    · show New w0 w' (gbQ (some (b, n.toNat, []), hL n.toNat rs))
      rw [gbQ_arr (rows := hRows n.toNat rs) (by simp [hL, hRows])]; exact hn
  · refine (best_bad w0 n p cap rs hr hv).mono fun e w' ⟨_, he, _, hn⟩ => ⟨(none, []), he, BQ.bad hv, hn⟩
/-- The residuals by the best heights. -/
def qL (n : Int) (rs : List Rd) : List (Int × Int) := (List.range rs.length).map fun k => ((lvF n rs k).tdiv (lowG (lvF n rs k) (denO n.toNat rs)), (denO n.toNat rs).tdiv (lowG (lvF n rs k) (denO n.toNat rs)))
theorem qL_len (n : Int) (rs : List Rd) : (qL n rs).length = rs.length := by simp [qL]
structure QQ (n : Int) (rs : List Rd) (x : RL) : Prop where
  eq : x.2 = if validateI n rs = 0 then qL n rs else []
  ok : goQ x
theorem QQ.bad {n : Int} {rs : List Rd} (h : validateI n rs ≠ 0) : QQ n rs (none, []) := ⟨by rw [if_neg h], ⟨rfl, rfl⟩⟩
structure QI (n : Int) (rs : List Rd) (k : Nat) (x : RL) : Prop where
  le : k ≤ rs.length
  eq : x.2 = (List.range k).map fun k => ((lvF n rs k).tdiv (lowG (lvF n rs k) (denO n.toNat rs)), (denO n.toNat rs).tdiv (lowG (lvF n rs k) (denO n.toNat rs)))
  ok : goQ x
theorem QI.zero (n : Int) (rs : List Rd) : QI n rs 0 (none, []) := ⟨Nat.zero_le _, rfl, ⟨rfl, rfl⟩⟩
theorem QI.len {n : Int} {rs : List Rd} {k : Nat} {x : RL} (h : QI n rs k x) : x.2.length = k := by rw [h.eq]; simp
theorem QI.step {n : Int} {rs : List Rd} {k : Nat} {x : RL} {h' : HD} {q : Int × Int} (h : QI n rs k x) (hk : k < rs.length) (hq : q = ((lvF n rs k).tdiv (lowG (lvF n rs k) (denO n.toNat rs)), (denO n.toNat rs).tdiv (lowG (lvF n rs k) (denO n.toNat rs)))) (ho : goQ (h', x.2 ++ [q])) : QI n rs (k + 1) (h', x.2 ++ [q]) :=
  ⟨hk, by simp only; rw [h.eq, List.range_succ, List.map_append, hq]; rfl, ho⟩
theorem QQ.good {n : Int} {rs : List Rd} {x : RL} (h : validateI n rs = 0) (hx : QI n rs rs.length x) : QQ n rs x := ⟨by rw [if_pos h]; exact hx.eq, hx.ok⟩
theorem best_in2 (w0 : World) (n : Int) (p : Option Addr) (cap : Nat) (rs : List Rd) (hr : RdsAt w0 p rs) (hv : Valid n rs) :
    Calls Try.prog 74 #[sv n p rs.length cap] w0 (Post (X := Nat) (fun b => .agg #[.int .i64 (denO n.toNat rs), .slice (some ⟨b, 0, none⟩) n.toNat n.toNat]) (fun _ => True) (fun b => [arrI b (solN n.toNat rs (bestL n.toNat rs))]) w0) := by
  have h := best_in w0 n p cap rs hr hv (solved hv.nat.1 (bestL_48 hv.nat.1)).sound
  rw [solD_eq hv.nat.1] at h
  exact h
theorem residL_get {n : Int} {rs : List Rd} {k : Nat} (hk : k < rs.length) : (residL rs (denO n.toNat rs) (solN n.toNat rs (bestL n.toNat rs))).getD k 0 = lvF n rs k := by simp [residL, List.getD, hk, lvF]
theorem resid_bd2 {n : Int} {rs : List Rd} (hv : Valid n rs) : Bd (residL rs (denO n.toNat rs) (solN n.toNat rs (bestL n.toNat rs))) 237654000 := fun j => by
  by_cases hj : j < rs.length
  · rw [residL_get hj]
    have hb := lv_bn hv hj
    have ht := denO_tight hv.nat.1
    exact hb.mono (by omega)
  · have : (residL rs (denO n.toNat rs) (solN n.toNat rs (bestL n.toNat rs))).getD j 0 = 0 := by simp [residL, List.getD, hj]
    rw [this]; omega
theorem lows_q {n : Int} {rs : List Rd} : lowsL (residL rs (denO n.toNat rs) (solN n.toNat rs (bestL n.toNat rs))) (denO n.toNat rs) = (qL n rs).map fun q => [Value.int .i64 q.1, .int .i64 q.2] := by
  unfold lowsL qL
  rw [residL_len, List.map_map]
  refine List.map_congr_left fun k hk => ?_
  rw [residL_get (List.mem_range.1 hk)]
  rfl
structure RgI (n : Int) (rs : List Rd) (k : Nat) (x : HD × List Int) : Prop where
  le : k ≤ rs.length
  eq : x.2 = (List.range k).map (rlF n rs)
  ok : goI x
theorem RgI.zero (n : Int) (rs : List Rd) : RgI n rs 0 (none, []) := ⟨Nat.zero_le _, rfl, ⟨rfl, rfl⟩⟩
theorem RgI.len {n : Int} {rs : List Rd} {k : Nat} {x : HD × List Int} (h : RgI n rs k x) : x.2.length = k := by rw [h.eq]; simp
theorem RgI.step {n : Int} {rs : List Rd} {k : Nat} {x : HD × List Int} {h' : HD} {v : Int} (h : RgI n rs k x) (hk : k < rs.length) (hv : v = rlF n rs k) (ho : goI (h', x.2 ++ [v])) : RgI n rs (k + 1) (h', x.2 ++ [v]) :=
  ⟨hk, by simp only; rw [h.eq, List.range_succ, List.map_append, hv]; rfl, ho⟩
theorem RgI.get {n : Int} {rs : List Rd} {x : HD × List Int} (h : RgI n rs rs.length x) {i : Nat} (hi : i < rs.length) : x.2.getD i 0 = rlF n rs i := by rw [h.eq]; simp [List.getD, hi]
theorem ratioQ (w : World) {n : Int} {rs : List Rd} (hv : Valid n rs) {k : Nat} (hk : k < rs.length) :
    Calls Try.prog 50 #[.int .i64 (rlF n rs k), .int .i64 (dR n rs)] w (Post (X := Unit) (fun _ => .agg #[.int .i64 ((lvF n rs k).tdiv (lowG (lvF n rs k) (denO n.toNat rs))), .int .i64 ((denO n.toNat rs).tdiv (lowG (lvF n rs k) (denO n.toNat rs)))]) (fun _ => True) (fun _ => []) w) := by
  have hd := denO_pos hv.nat.1
  have hr := dR_pos hv
  have hb := rl_bn hv hk
  unfold Bn at hb
  have h := ratio_ok w (rlF n rs k) (dR n rs) (by omega) (by omega)
  rw [lowV_eq (c := lvF n rs k) (d := denO n.toNat rs) hr.1 (by omega) (lv_rl hv hk)] at h
  exact h
/-- The misfit. -/
def mfA (n : Int) (rs : List Rd) : Int := (mS rs (lvF n rs) rs.length).tdiv (lowG (mS rs (lvF n rs) rs.length) (denO n.toNat rs * denO n.toNat rs))
def mfB (n : Int) (rs : List Rd) : Int := (denO n.toNat rs * denO n.toNat rs).tdiv (lowG (mS rs (lvF n rs) rs.length) (denO n.toNat rs * denO n.toNat rs))
theorem lv_all {n : Int} {rs : List Rd} (hv : Valid n rs) : ∀ k, k < rs.length → Bn (lvF n rs k) 237654000 := fun k hk => (lv_bn hv hk).mono (by have := denO_tight hv.nat.1; omega)
theorem rl_all {n : Int} {rs : List Rd} (hv : Valid n rs) : ∀ k, k < rs.length → Bn (rlF n rs k) 237654000 := fun k hk => (rl_bn hv hk).mono (by have := dR_tight hv; omega)
theorem sq_bn {d : Int} (h1 : 1 ≤ d) (h2 : d ≤ 26406) : 0 < d * d ∧ d * d ≤ 697276836 := by
  have e1 := Int.mul_pos (show 0 < d by omega) (show 0 < d by omega)
  have e2 := (show Bn d 26406 from ⟨by omega, h2⟩).mul (show Bn d 26406 from ⟨by omega, h2⟩)
  unfold Bn at e2
  omega
theorem lowestM (w : World) {n : Int} {rs : List Rd} (hv : Valid n rs) :
    Calls Try.prog 79 #[.int .i64 (mS rs (lvF n rs) rs.length), .int .i64 (denO n.toNat rs * denO n.toNat rs)] w (Post (X := Unit) (fun _ => .agg #[.int .i64 (mfA n rs), .int .i64 (mfB n rs)]) (fun _ => True) (fun _ => []) w) := by
  have hd := denO_pos hv.nat.1
  have ht := denO_tight hv.nat.1
  have hq := sq_bn hd.1 ht
  have hl := hv.len
  have hb := (mS_bn hv (lv_all hv) rs.length (Nat.le_refl _)).mono (B := 4000000000000000000) (by omega)
  exact lowest_ok w _ _ hq.1 (by omega) hb
theorem ratioM (w : World) {n : Int} {rs : List Rd} (hv : Valid n rs) :
    Calls Try.prog 50 #[.int .i64 (mS rs (rlF n rs) rs.length), .int .i64 (dR n rs * dR n rs)] w (Post (X := Unit) (fun _ => .agg #[.int .i64 (mfA n rs), .int .i64 (mfB n rs)]) (fun _ => True) (fun _ => []) w) := by
  have hd := denO_pos hv.nat.1
  have ht := denO_tight hv.nat.1
  have hq := sq_bn hd.1 ht
  have hr := dR_pos hv
  have hrt := dR_tight hv
  have hq2 := sq_bn (d := dR n rs) (by omega) hrt
  have hl := hv.len
  have hb := (mS_bn hv (rl_all hv) rs.length (Nat.le_refl _)).mono (B := 4000000000000000000) (by omega)
  have h := ratio_ok w (mS rs (rlF n rs) rs.length) (dR n rs * dR n rs) (by omega) hb
  rw [lowV_eq (c := mS rs (lvF n rs) rs.length) (d := denO n.toNat rs * denO n.toNat rs) hq2.1 hq.1 (mS_eq hv rs.length (Nat.le_refl _))] at h
  exact h


set_option maxRecDepth 100000 in
set_option maxHeartbeats 1000000 in
theorem sameRats_ok (w0 : World) (p p2 : Option Addr) (c c2 : Nat) (l l2 : List (Int × Int)) (hx : RatsAt w0 p l) (hy : RatsAt w0 p2 l2) (hl : l.length ≤ 1000000) :
    Calls Try.prog 41 #[.slice p l.length c, .slice p2 l2.length c2] w0 (Post (X := Unit) (fun _ => .bool (decide (l = l2))) (fun _ => True) (fun _ => []) w0) := by
  refine calls Try.func41 rfl (n := 26) rfl (by simp) ?_
  refine TC.seq ?_
  refine TC.region ?_
  refine TL.pure (PV.assign rfl) rfl (by decide) ?_
  refine TL.nil ?_
  refine TQ.thenC ?_
  refine TC.seq ?_
  refine TC.seq ?_
  refine TC.region ?_
  refine TL.pure (PV.move rfl) rfl (by decide) ?_
  refine TL.pure (PV.len rfl Tb.sl_42) rfl (by decide) ?_
  refine TL.pure (PV.move rfl) rfl (by decide) ?_
  refine TL.pure (PV.len rfl Tb.sl_42) rfl (by decide) ?_
  refine TL.pure (PV.neq rfl rfl) rfl (by decide) ?_
  refine TL.nil ?_
  refine TQ.thenC ?_
  first | refine TC.condD rfl (fun hne => ?_) (fun hne => ?_) | refine TC.cond rfl (fun hne => ?_) (fun hne => ?_)
  · skip
    refine TC.seq ?_
    refine TC.region ?_
    refine TL.pure (PV.assign rfl) rfl (by decide) ?_
    refine TL.nil ?_
    refine TQ.thenC ?_
    refine TC.ret ?_
    refine TQ.thenR ?_
    refine TQ.retE1 rfl rfl ?_
    exact ⟨(), by rw [decide_eq_false (fun h => hne (by rw [h]))], trivial, List.nil_sublist _⟩
  · skip
    refine TC.skip ?_
    refine TQ.thenC ?_
    refine TC.seq ?_
    refine TC.seq ?_
    refine TC.region ?_
    refine TL.pure (PV.assign rfl) rfl (by decide) ?_
    refine TL.nil ?_
    refine TQ.thenC ?_
    refine TC.block ?_
    -- live and written in the loop, not told: [4]
    refine TC.loopG [0, 1] (X := Nat) (fun k => k ≤ l.length ∧ ∀ j, j < k → l.getD j (0, 0) = l2.getD j (0, 0)) (fun k => [(5, .int .i64 k)]) (fun k => l.length - k) 0 ⟨Nat.zero_le _, fun j hj => by omega⟩ (by repeat (first | exact True.intro | refine And.intro rfl ?_)) ?_
    intro k hk
    refine TC.seq ?_
    refine TC.seq ?_
    refine TC.region ?_
    refine TL.pure (PV.move rfl) rfl (by decide) ?_
    refine TL.pure (PV.move rfl) rfl (by decide) ?_
    refine TL.pure (PV.len rfl Tb.sl_42) rfl (by decide) ?_
    refine TL.pure (PV.lss rfl rfl) rfl (by decide) ?_
    refine TL.nil ?_
    refine TQ.thenC ?_
    first | refine TC.condD rfl (fun hlt => ?_) (fun hlt => ?_) | refine TC.cond rfl (fun hlt => ?_) (fun hlt => ?_)
    · skip
      refine TC.skip ?_
      refine TQ.thenC ?_
      refine TC.seq ?_
      refine TC.block ?_
      refine TC.seq ?_
      obtain ⟨q, hqp, hq⟩ := hx k (by omega)
      obtain ⟨q2, hq2p, hq2⟩ := hy k (by omega)
      refine TC.any Tb.mixed rfl rfl ?_
      refine TA.op (OpOK.pure (PV.move rfl) rfl (by decide)) (by decide) ?_
      refine TA.op (OpOK.pure (PV.move rfl) rfl (by decide)) (by decide) ?_
      refine TA.op (OpOK.pure (PV.indexA rfl hqp rfl Tb.elm_42 rfl (by omega)) rfl (by decide)) (by decide) ?_
      refine TA.op (OpOK.pure (PV.loadAggA rfl Tb.agg_46 rfl hq) rfl (by decide)) (by decide) ?_
      refine TA.op (OpOK.pure (PV.move rfl) rfl (by decide)) (by decide) ?_
      refine TA.op (OpOK.pure (PV.move rfl) rfl (by decide)) (by decide) ?_
      refine TA.op (OpOK.pure (PV.indexA rfl hq2p rfl Tb.elm_42 rfl (by omega)) rfl (by decide)) (by decide) ?_
      refine TA.op (OpOK.pure (PV.loadAggA rfl Tb.agg_46 rfl hq2) rfl (by decide)) (by decide) ?_
      refine TA.op (OpOK.pure (PV.cmp rfl rfl (eq46n_guard _ _ _ _ _ _) (eq46n _ _ _ _)) rfl (by decide)) (by decide) ?_
      show TQ _ _ _ _ _
      refine TQ.thenC ?_
      first | refine TC.condD rfl (fun heq => ?_) (fun heq => ?_) | refine TC.cond rfl (fun heq => ?_) (fun heq => ?_)
      · skip
        refine TC.seq ?_
        refine TC.region ?_
        refine TL.pure (PV.assign rfl) rfl (by decide) ?_
        refine TL.nil ?_
        refine TQ.thenC ?_
        refine TC.ret ?_
        refine TQ.blkR ?_
        refine TQ.thenR ?_
        refine TQ.thenR ?_
        refine TQ.blkR ?_
        refine TQ.thenR ?_
        refine TQ.retE1 rfl rfl ?_
        exact ⟨(), by rw [decide_eq_false (fun h => heq (by rw [h]; exact ⟨rfl, rfl⟩))], trivial, List.nil_sublist _⟩
      · skip
        refine TC.skip ?_
        refine TQ.blkN ?_
        refine TQ.thenC ?_
        refine TC.region ?_
        refine TL.pure (PV.move rfl) rfl (by decide) ?_
        refine TL.pure (PV.add rfl rfl (by omega)) rfl (by decide) ?_
        refine TL.pure (PV.assign rfl) rfl (by decide) ?_
        refine TL.nil ?_
        refine TQ.thenN ?_
        refine TQ.backK (k + 1) (by repeat (first | exact True.intro | refine And.intro rfl ?_)) (by repeat (first | exact True.intro | refine And.intro rfl ?_)) (by repeat (first | exact List.Sublist.slnil | exact List.nil_sublist _ | exact List.Sublist.refl _ | refine List.Sublist.cons_cons _ ?_ | refine List.Sublist.cons _ ?_ | refine List.Sublist.trans ?_ (List.sublist_append_right _ _))) ⟨by omega, fun j hj => by by_cases h : j = k; · { rw [h]; have h9 := Decidable.of_not_not heq; exact Prod.ext h9.1 h9.2 }; · { exact hk.2 j (by omega) }⟩ (by omega)
    · skip
      refine TC.exit ?_
      refine TQ.thenE ?_
      refine TQ.thenE ?_
      refine TQ.blkS ?_
      refine TQ.thenC ?_
      refine TC.seq ?_
      refine TC.region ?_
      refine TL.pure (PV.assign rfl) rfl (by decide) ?_
      refine TL.nil ?_
      refine TQ.thenC ?_
      refine TC.ret ?_
      refine TQ.retE1 rfl rfl ?_
      exact ⟨(), by rw [decide_eq_true (take_all_eq (0, 0) (by omega) (fun j hj => hk.2 j (by omega)))], trivial, List.nil_sublist _⟩

set_option maxRecDepth 100000 in
set_option maxHeartbeats 1000000 in
theorem Residuals_q (w0 : World) (n : Int) (p : Option Addr) (cap : Nat) (rs : List Rd) (hr : RdsAt w0 p rs) :
    Calls Try.prog 37 #[sv n p rs.length cap] w0 (Post (X := RL) (fun x => .tuple #[gvQ x, .int .i64 (validateI n rs)]) (QQ n rs) (fun x => gbQ x) w0) := by
  refine calls Try.func37 rfl (n := 19) rfl (by simp) ?_
  refine TC.seq ?_
  refine TC.region ?_
  refine TL.box rfl rfl (by decide) (fun b0 hb0 => ?_)
  refine TL.pure (PV.assign rfl) rfl (by decide) ?_
  refine TL.pure (PV.assign rfl) rfl (by decide) ?_
  refine TL.nil ?_
  refine TQ.thenC ?_
  refine TC.seq ?_
  refine TC.seq ?_
  refine TC.region ?_
  refine TL.pure (PV.loadBox rfl Tb.agg_24 (by repeat (first | exact List.Mem.head _ | refine List.Mem.tail _ ?_ | refine List.mem_append_right _ ?_)) rfl) rfl (by decide) ?_
  refine TL.call rfl Tb.gofn_23 (fun a w hs => validate_ok w _ _ _ _ (hr.new hs.new)) rfl (by decide) (fun _ _ => ?_)
  refine TL.pure (PV.assign rfl) rfl (by decide) ?_
  refine TL.nil ?_
  refine TQ.thenC ?_
  refine TC.seq ?_
  refine TC.region ?_
  refine TL.pure (PV.move rfl) rfl (by decide) ?_
  refine TL.pure (PV.neq rfl rfl) rfl (by decide) ?_
  refine TL.nil ?_
  refine TQ.thenC ?_
  first | refine TC.condD rfl (fun hne => ?_) (fun hne => ?_) | refine TC.cond rfl (fun hne => ?_) (fun hne => ?_)
  · skip
    refine TC.seq ?_
    refine TC.region ?_
    refine TL.pure (PV.move rfl) rfl (by decide) ?_
    refine TL.pure (PV.assign rfl) rfl (by decide) ?_
    refine TL.pure (PV.assign rfl) rfl (by decide) ?_
    refine TL.nil ?_
    refine TQ.thenC ?_
    refine TC.ret ?_
    refine TQ.thenR ?_
    refine TQ.retE2 rfl rfl rfl ?_
    exact ⟨(none, []), rfl, QQ.bad hne, List.nil_sublist _⟩
  · skip
    refine TC.skip ?_
    refine TQ.thenC ?_
    refine TC.seq ?_
    have hv : Valid n rs := vof hne
    have hp := hv.pts
    have hll := hv.len
    have hd := denO_pos hv.nat.1
    have hnb := (solved hv.nat.1 (bestL_48 hv.nat.1)).sound.num
    refine TC.region ?_
    refine TL.pure (PV.loadBox rfl Tb.agg_24 (by repeat (first | exact List.Mem.head _ | refine List.Mem.tail _ ?_ | refine List.mem_append_right _ ?_)) rfl) rfl (by decide) ?_
    refine TL.call rfl Tb.gofn_74 (fun a w hs => best_in2 w _ _ _ _ (hr.new hs.new) hv) rfl (by decide) (fun bH _ => ?_)
    refine TL.alloc Tb.zero_51 rfl (by decide) (fun b1 hb1 => ?_)
    refine TL.storeAgg rfl rfl Tb.cells_51 (by repeat (first | exact Upd.head _ | apply Upd.tail | apply Upd.appR)) rfl rfl rfl rfl rfl ?_
    refine TL.nil ?_
    refine TQ.thenC ?_
    refine TC.seq ?_
    refine TC.mix [true, true, false, true, true, false, false, false] _ 4 Tb.mixed rfl (by kernel_rfl) (by kernel_rfl) (by kernel_rfl) (by kernel_rfl) (List.Sublist.refl _) ?_
    refine TB.op (SOK.pure (PV.loadBox rfl Tb.agg_24 (by repeat (first | exact List.Mem.head _ | refine List.Mem.tail _ ?_ | refine List.mem_append_right _ ?_)) rfl) rfl) (by decide) ?_
    refine TB.op (SOK.pure (PV.loadBox rfl Tb.agg_51 (by repeat (first | exact List.Mem.head _ | refine List.Mem.tail _ ?_ | refine List.mem_append_right _ ?_)) rfl) rfl) (by decide) ?_
    refine TB.no ?_
    refine TB.op (SOK.pure (PV.fieldAddr rfl Tb.fo_51_0) rfl) (by decide) ?_
    refine TB.op (SOK.pure (PV.load rfl Tb.one_3 (by repeat (first | exact List.Mem.head _ | refine List.Mem.tail _ ?_ | refine List.mem_append_right _ ?_)) rfl) rfl) (by decide) ?_
    refine TB.no ?_
    refine TB.no ?_
    refine TB.no ?_
    refine TB.fin ?_
    refine TX.step [2] (by kernel_rfl) (by decide) ⟨⟨_, rfl, ?_⟩, trivial⟩
    refine TL.call rfl Tb.gofn_77 (fun a w hs => residuals_ok w _ _ _ _ (hr.new hs.new) hv (denO n.toNat rs) (some ⟨bH, 0, none⟩) n.toNat (solN n.toNat rs (bestL n.toNat rs)) (IntsAt.arr hs.new (by repeat (first | exact List.Mem.head _ | refine List.Mem.tail _ ?_ | refine List.mem_append_right _ ?_))) (solN_len _ _ _) (by omega) hnb) rfl (by decide) (fun bR _ => ?_)
    refine TL.nil ?_
    refine TX.next (.inl (by repeat (first | exact List.Sublist.slnil | exact List.nil_sublist _ | exact List.Sublist.refl _ | refine List.Sublist.cons_cons _ ?_ | refine List.Sublist.cons _ ?_ | refine List.Sublist.trans ?_ (List.sublist_append_right _ _)))) ?_
    refine TX.step [5] (by kernel_rfl) (by decide) ⟨⟨_, rfl, ?_⟩, trivial⟩
    refine TL.call rfl Tb.gofn_75 (fun a w hs => lowestAll_ok w (some ⟨bR, 0, none⟩) rs.length rs.length (residL rs (denO n.toNat rs) (solN n.toNat rs (bestL n.toNat rs))) (denO n.toNat rs) (residL_len _ _ _) (IntsAt.arr hs.new (by repeat (first | exact List.Mem.head _ | refine List.Mem.tail _ ?_ | refine List.mem_append_right _ ?_))) (by omega) (by omega) (fun j => by have := resid_bd2 hv j; omega)) rfl (by decide) (fun bL _ => ?_)
    refine TL.nil ?_
    refine TX.next (.inl (by repeat (first | exact List.Sublist.slnil | exact List.nil_sublist _ | exact List.Sublist.refl _ | refine List.Sublist.cons_cons _ ?_ | refine List.Sublist.cons _ ?_ | refine List.Sublist.trans ?_ (List.sublist_append_right _ _)))) ?_
    refine TX.step [6] (by kernel_rfl) (by decide) ⟨⟨_, rfl, ?_⟩, trivial⟩
    refine TL.pure (PV.assign rfl) rfl (by decide) ?_
    refine TL.nil ?_
    refine TX.next (.inr (by kernel_rfl)) ?_
    refine TX.step [7] (by kernel_rfl) (by decide) ⟨⟨_, rfl, ?_⟩, trivial⟩
    refine TL.pure (PV.assign rfl) rfl (by decide) ?_
    refine TL.nil ?_
    refine TX.next (.inr (by kernel_rfl)) ?_
    refine TX.done (by kernel_rfl) ?_
    refine TQ.thenC ?_
    refine TC.ret ?_
    refine TQ.retE2 rfl rfl rfl ?_
    exact ⟨(some (bL, rs.length, []), qL n rs), by rw [show validateI n rs = 0 from hv, gvQ_arr (qL_len _ _)], ⟨by rw [if_pos (show validateI n rs = 0 from hv)], goQ_arr (qL_len _ _)⟩, by rw [gbQ_arr lows_q]; exact List.Sublist.cons_cons _ (List.nil_sublist _)⟩

set_option maxRecDepth 100000 in
set_option maxHeartbeats 1000000 in
theorem Misfit_ok (w0 : World) (n : Int) (p : Option Addr) (cap : Nat) (rs : List Rd) (hr : RdsAt w0 p rs) :
    Calls Try.prog 39 #[sv n p rs.length cap] w0 (Post (X := Unit) (fun _ => .tuple #[if validateI n rs = 0 then .agg #[.int .i64 (mfA n rs), .int .i64 (mfB n rs)] else .agg #[.int .i64 0, .int .i64 0], .int .i64 (validateI n rs)]) (fun _ => True) (fun _ => []) w0) := by
  refine calls Try.func39 rfl (n := 46) rfl (by simp) ?_
  refine TC.seq ?_
  refine TC.region ?_
  refine TL.box rfl rfl (by decide) (fun b0 hb0 => ?_)
  refine TL.alloc Tb.zero_46 rfl (by decide) (fun b1 hb1 => ?_)
  refine TL.pure (PV.assign rfl) rfl (by decide) ?_
  refine TL.nil ?_
  refine TQ.thenC ?_
  refine TC.seq ?_
  refine TC.seq ?_
  refine TC.region ?_
  refine TL.pure (PV.loadBox rfl Tb.agg_24 (by repeat (first | exact List.Mem.head _ | refine List.Mem.tail _ ?_ | refine List.mem_append_right _ ?_)) rfl) rfl (by decide) ?_
  refine TL.call rfl Tb.gofn_23 (fun a w hs => validate_ok w _ _ _ _ (hr.new hs.new)) rfl (by decide) (fun _ _ => ?_)
  refine TL.pure (PV.assign rfl) rfl (by decide) ?_
  refine TL.nil ?_
  refine TQ.thenC ?_
  refine TC.seq ?_
  refine TC.region ?_
  refine TL.pure (PV.move rfl) rfl (by decide) ?_
  refine TL.pure (PV.neq rfl rfl) rfl (by decide) ?_
  refine TL.nil ?_
  refine TQ.thenC ?_
  first | refine TC.condD rfl (fun hne => ?_) (fun hne => ?_) | refine TC.cond rfl (fun hne => ?_) (fun hne => ?_)
  · skip
    refine TC.seq ?_
    refine TC.region ?_
    refine TL.pure (PV.build rfl Tb.zero_46 Tb.pl_46 rfl) rfl (by decide) ?_
    refine TL.pure (PV.move rfl) rfl (by decide) ?_
    refine TL.storeAgg rfl rfl Tb.cells_46 (by repeat (first | exact Upd.head _ | apply Upd.tail | apply Upd.appR)) rfl rfl rfl rfl rfl ?_
    refine TL.pure (PV.assign rfl) rfl (by decide) ?_
    refine TL.nil ?_
    refine TQ.thenC ?_
    refine TC.ret ?_
    refine TQ.thenR ?_
    refine TQ.retR rfl (Res.agg rfl Tb.agg_46 (by repeat (first | exact List.Mem.head _ | refine List.Mem.tail _ ?_ | refine List.mem_append_right _ ?_)) rfl (Res.tmp rfl Res.nil)) ?_
    simp only [tup]
    exact ⟨(), by rw [if_neg hne], trivial, List.nil_sublist _⟩
  · skip
    refine TC.skip ?_
    refine TQ.thenC ?_
    refine TC.seq ?_
    have hv : Valid n rs := vof hne
    have hp := hv.pts
    have hll := hv.len
    have hd := denO_pos hv.nat.1
    have hdt := denO_tight hv.nat.1
    have hnb := (solved hv.nat.1 (bestL_48 hv.nat.1)).sound.num
    have hsq := sq_bn hd.1 hdt
    have hlv := lv_all hv
    have hrl := residL_len rs (denO n.toNat rs) (solN n.toNat rs (bestL n.toNat rs))
    refine TC.region ?_
    refine TL.pure (PV.loadBox rfl Tb.agg_24 (by repeat (first | exact List.Mem.head _ | refine List.Mem.tail _ ?_ | refine List.mem_append_right _ ?_)) rfl) rfl (by decide) ?_
    refine TL.call rfl Tb.gofn_74 (fun a w hs => best_in2 w _ _ _ _ (hr.new hs.new) hv) rfl (by decide) (fun bH _ => ?_)
    refine TL.alloc Tb.zero_51 rfl (by decide) (fun b2 hb2 => ?_)
    refine TL.storeAgg rfl rfl Tb.cells_51 (by repeat (first | exact Upd.head _ | apply Upd.tail | apply Upd.appR)) rfl rfl rfl rfl rfl ?_
    refine TL.nil ?_
    refine TQ.thenC ?_
    refine TC.seq ?_
    refine TC.region ?_
    refine TL.pure (PV.assign rfl) rfl (by decide) ?_
    refine TL.nil ?_
    refine TQ.thenC ?_
    refine TC.seq ?_
    refine TC.seq ?_
    refine TC.region ?_
    refine TL.pure (PV.loadBox rfl Tb.agg_24 (by repeat (first | exact List.Mem.head _ | refine List.Mem.tail _ ?_ | refine List.mem_append_right _ ?_)) rfl) rfl (by decide) ?_
    refine TL.pure (PV.loadBox rfl Tb.agg_51 (by repeat (first | exact List.Mem.head _ | refine List.Mem.tail _ ?_ | refine List.mem_append_right _ ?_)) rfl) rfl (by decide) ?_
    refine TL.call rfl Tb.gofn_77 (fun a w hs => residuals_ok w _ _ _ _ (hr.new hs.new) hv (denO n.toNat rs) (some ⟨bH, 0, none⟩) n.toNat (solN n.toNat rs (bestL n.toNat rs)) (IntsAt.arr hs.new (by repeat (first | exact List.Mem.head _ | refine List.Mem.tail _ ?_ | refine List.mem_append_right _ ?_))) (solN_len _ _ _) (by omega) hnb) rfl (by decide) (fun bR _ => ?_)
    refine TL.pure (PV.len rfl Tb.sl_31) rfl (by decide) ?_
    refine TL.pure (PV.move rfl) rfl (by decide) ?_
    refine TL.nil ?_
    refine TQ.thenC ?_
    refine TC.block ?_
    refine TC.lit [(1, _), (2, _), (3, _), (5, _), (6, _), (19, _), (20, _), (21, _)] (by repeat (first | exact True.intro | refine And.intro rfl ?_)) ?_
    refine TC.loopG [1, 2, 3, 5, 19, 20] (X := Nat) (fun k => k ≤ rs.length) (fun k => [(21, .int .i64 k), (6, .int .i64 (mS rs (lvF n rs) k))]) (fun k => rs.length - k) 0 (Nat.zero_le _) (by repeat (first | exact True.intro | refine And.intro rfl ?_)) ?_
    intro k hk
    refine TC.seq ?_
    refine TC.region ?_
    refine TL.pure (PV.lss rfl rfl) rfl (by decide) ?_
    refine TL.nil ?_
    refine TQ.thenC ?_
    refine TC.seq ?_
    first | refine TC.condD rfl (fun hlt => ?_) (fun hlt => ?_) | refine TC.cond rfl (fun hlt => ?_) (fun hlt => ?_)
    · skip
      refine TC.skip ?_
      refine TQ.thenC ?_
      refine TC.seq ?_
      refine TC.block ?_
      refine TC.seq ?_
      refine TC.lit [(1, _), (2, _), (3, _), (5, _), (6, _), (19, _), (20, _), (21, _)] (by repeat (first | exact True.intro | refine And.intro rfl ?_)) ?_
      have hkl : k < rs.length := by omega
      obtain ⟨q, hqp, hq⟩ := hr k hkl
      have hq3 := hq 3 _ rfl
      have hg := residL_get (n := n) hkl
      have hb := mS_bn hv hlv k (by omega)
      have hst := mS_step hv hlv hkl
      unfold Bn at hb hst
      rw [← hg] at hst
      refine TC.region ?_
      refine TL.pure (PV.move rfl) rfl (by decide) ?_
      refine TL.pure (PV.index1 rfl rfl Tb.elm_31 rfl (by omega)) rfl (by decide) ?_
      refine TL.pure (PV.loadI rfl Tb.one_3 (by repeat (first | exact List.Mem.head _ | refine List.Mem.tail _ ?_ | refine List.mem_append_right _ ?_)) (by omega)) rfl (by decide) ?_
      refine TL.pure (PV.assign rfl) rfl (by decide) ?_
      refine TL.pure (PV.assign rfl) rfl (by decide) ?_
      refine TL.nil ?_
      refine TQ.thenC ?_
      refine TC.region ?_
      refine TL.pure (PV.move rfl) rfl (by decide) ?_
      refine TL.pure (PV.fieldAddr rfl Tb.fo_24_1) rfl (by decide) ?_
      refine TL.pure (PV.load rfl Tb.one_22 (by repeat (first | exact List.Mem.head _ | refine List.Mem.tail _ ?_ | refine List.mem_append_right _ ?_)) rfl) rfl (by decide) ?_
      refine TL.pure (PV.move rfl) rfl (by decide) ?_
      refine TL.pure (PV.indexA rfl hqp rfl Tb.elm_22 rfl (by omega)) rfl (by decide) ?_
      refine TL.pure (PV.fieldAddrA rfl Tb.fo_61_3) rfl (by decide) ?_
      refine TL.pure (PV.loadOld rfl Tb.one_3 hq3) rfl (by decide) ?_
      refine TL.pure (PV.move rfl) rfl (by decide) ?_
      refine TL.pure (PV.mul rfl rfl (by omega)) rfl (by decide) ?_
      refine TL.pure (PV.move rfl) rfl (by decide) ?_
      refine TL.pure (PV.mul rfl rfl (by omega)) rfl (by decide) ?_
      refine TL.pure (PV.add rfl rfl (by omega)) rfl (by decide) ?_
      refine TL.pure (PV.assign rfl) rfl (by decide) ?_
      refine TL.nil ?_
      refine TQ.blkN ?_
      refine TQ.thenC ?_
      refine TC.region ?_
      refine TL.pure (PV.add rfl rfl (by omega)) rfl (by decide) ?_
      refine TL.pure (PV.move rfl) rfl (by decide) ?_
      refine TL.nil ?_
      refine TQ.thenN ?_
      refine TQ.backK (k + 1) ⟨rfl, by rw [hst.2.2, hg]; rfl, trivial⟩ (by repeat (first | exact True.intro | refine And.intro rfl ?_)) (by repeat (first | exact List.Sublist.slnil | exact List.nil_sublist _ | exact List.Sublist.refl _ | refine List.Sublist.cons_cons _ ?_ | refine List.Sublist.cons _ ?_ | refine List.Sublist.trans ?_ (List.sublist_append_right _ _))) (by omega) (by omega)
    · skip
      refine TC.exit ?_
      refine TQ.thenE ?_
      refine TQ.thenE ?_
      refine TQ.blkS ?_
      refine TQ.thenC ?_
      refine TC.seq ?_
      refine TC.lit [(2, _), (5, _), (6, _)] (by repeat (first | exact True.intro | refine And.intro rfl ?_)) ?_
      have hkk : k = rs.length := by omega
      subst hkk
      refine TC.region ?_
      refine TL.pure (PV.move rfl) rfl (by decide) ?_
      refine TL.pure (PV.fieldAddr rfl Tb.fo_51_0) rfl (by decide) ?_
      refine TL.pure (PV.load rfl Tb.one_3 (by repeat (first | exact List.Mem.head _ | refine List.Mem.tail _ ?_ | refine List.mem_append_right _ ?_)) rfl) rfl (by decide) ?_
      refine TL.pure (PV.fieldAddr rfl Tb.fo_51_0) rfl (by decide) ?_
      refine TL.pure (PV.load rfl Tb.one_3 (by repeat (first | exact List.Mem.head _ | refine List.Mem.tail _ ?_ | refine List.mem_append_right _ ?_)) rfl) rfl (by decide) ?_
      refine TL.pure (PV.mul rfl rfl (by omega)) rfl (by decide) ?_
      refine TL.call rfl Tb.gofn_79 (fun a w hs => lowestM w hv) rfl (by decide) (fun _ _ => ?_)
      refine TL.storeAgg rfl rfl Tb.cells_46 (by repeat (first | exact Upd.head _ | apply Upd.tail | apply Upd.appR)) rfl rfl rfl rfl rfl ?_
      refine TL.pure (PV.assign rfl) rfl (by decide) ?_
      refine TL.nil ?_
      refine TQ.thenC ?_
      refine TC.ret ?_
      refine TQ.retR rfl (Res.agg rfl Tb.agg_46 (by repeat (first | exact List.Mem.head _ | refine List.Mem.tail _ ?_ | refine List.mem_append_right _ ?_)) rfl (Res.tmp rfl Res.nil)) ?_
      simp only [tup]
      exact ⟨(), by rw [if_pos (show validateI n rs = 0 from hv), show validateI n rs = 0 from hv], trivial, List.nil_sublist _⟩

end Go.Proofs.Ytmmgcajegokkoaa
