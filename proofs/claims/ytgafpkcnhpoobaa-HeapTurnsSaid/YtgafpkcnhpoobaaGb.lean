/- Determinants along the first row, by the reference: contract. -/
import Derived.Test.YtgafpkcnhpoobaaGa
set_option linter.unusedVariables false
set_option linter.unusedSimpArgs false
namespace Go.Proofs.Ytgafpkcnhpoobaa
open Go.Sx Go.RowKit Go.Sand

abbrev DetSaid (K : Nat) : Prop := ∀ (w0 : World) (p : Option Addr) (c : Nat) (m : List (List Int)), RowsAt w0 p m → Sh m K → DSafe K (getM m) →
  Calls Try.prog 89 #[.slice p K c] w0 (Post (X := Unit) (fun _ => .int .i64 (detF K (getM m))) (fun _ => True) (fun _ => []) w0)
theorem detG {K k : Nat} {m : List (List Int)} (ih : DetSaid K) (hsq : Sh m (K + 1)) (hk : k < K + 1) (hd : DSafe (K + 1) (getM m)) {w w0 : World} {G : Heap} {x : HD × List (HD × List Int)} (hn : New w0 w G) (hm : ∀ y ∈ gbP x, y ∈ G) (hb : ∀ y ∈ bl x.2, y ∈ G)
    (hx : RIm m K k (K + 1) x) : Calls Try.prog 89 #[gvP x] w (Post (X := Unit) (fun _ => .int .i64 (detF K (minorF (getM m) k))) (fun _ => True) (fun _ => []) w) := by
  have hr := RowsAt.g hn hm hb hx.ok hx.all
  rw [hx.eq] at hr
  have hg : ∀ a b, a < K → b < K → minorF (getM m) k a b = getM (minorM m K k (K + 1)) a b := fun a b ha _ => (minorM_get hsq hk ha).symm
  have h := ih w (gp x.1) (gc x.1) _ hr (minorM_sh hsq hk) ((hd k hk).2.2.congr hg)
  rw [← detF_congr K hg] at h
  have hl : K = x.2.length := by rw [hx.len]; omega
  have e : gvP x = .slice (gp x.1) K (gc x.1) := by
    rw [show gvP x = .slice (gp x.1) x.2.length (gc x.1) from gval_eq hx.ok, ← hl]
  rw [e]
  exact h
theorem cut0 {w : World} {p : Option Addr} {xs : List Int} {cap k : Nat} (h : IntsAt w p xs) (hc : xs.length ≤ cap) : IntsAt w (cutA p cap 0 1) (xs.take k) := by
  have := h.cut hc 0 k
  simpa using this
theorem cutL {w : World} {p : Option Addr} {xs : List Int} {cap l : Nat} (h : IntsAt w p xs) (hc : xs.length ≤ cap) : IntsAt w (cutA p cap l 1) (xs.drop l) := by
  have := h.cut hc l xs.length
  rwa [List.take_of_length_le (by simp)] at this


set_option maxRecDepth 100000 in
theorem det0_ok (w0 : World) (p : Option Addr) (c : Nat) (m : List (List Int)) :
    Calls Try.prog 89 #[.slice p 0 c] w0 (Post (X := Unit) (fun _ => .int .i64 (detF 0 (getM m))) (fun _ => True) (fun _ => []) w0) := by
  refine calls Try.func89 rfl (n := 58) rfl (by simp) ?_
  refine TC.seq ?_
  refine TC.region ?_
  refine TL.pure (PV.assign rfl) rfl (by decide) ?_
  refine TL.nil ?_
  refine TQ.thenC ?_
  refine TC.seq ?_
  refine TC.seq ?_
  refine TC.region ?_
  refine TL.pure (PV.move rfl) rfl (by decide) ?_
  refine TL.pure (PV.len rfl Tb.sl_22) rfl (by decide) ?_
  refine TL.pure (PV.eql rfl rfl) rfl (by decide) ?_
  refine TL.nil ?_
  refine TQ.thenC ?_
  first | refine TC.condD rfl (fun hz => ?_) (fun hz => ?_) | refine TC.cond rfl (fun hz => ?_) (fun hz => ?_)
  · skip
    refine TC.seq ?_
    refine TC.region ?_
    refine TL.pure (PV.assign rfl) rfl (by decide) ?_
    refine TL.nil ?_
    refine TQ.thenC ?_
    refine TC.ret ?_
    refine TQ.thenR ?_
    refine TQ.retE1 rfl rfl ?_
    exact ⟨(), rfl, trivial, List.nil_sublist _⟩
  · skip
    exact absurd rfl hz

set_option maxRecDepth 100000 in
set_option maxHeartbeats 2000000 in
theorem detS_ok (K : Nat) (ih : DetSaid K) (w0 : World) (p : Option Addr) (c : Nat) (m : List (List Int)) (hm : RowsAt w0 p m) (hsq : Sh m (K + 1)) (hd : DSafe (K + 1) (getM m)) (hK : K ≤ 7) :
    Calls Try.prog 89 #[.slice p (K + 1) c] w0 (Post (X := Unit) (fun _ => .int .i64 (detF (K + 1) (getM m))) (fun _ => True) (fun _ => []) w0) := by
  have hml := hsq.1
  refine calls Try.func89 rfl (n := 58) rfl (by simp) ?_
  refine TC.seq ?_
  refine TC.region ?_
  refine TL.pure (PV.assign rfl) rfl (by decide) ?_
  refine TL.nil ?_
  refine TQ.thenC ?_
  refine TC.seq ?_
  refine TC.seq ?_
  refine TC.region ?_
  refine TL.pure (PV.move rfl) rfl (by decide) ?_
  refine TL.pure (PV.len rfl Tb.sl_22) rfl (by decide) ?_
  refine TL.pure (PV.eql rfl rfl) rfl (by decide) ?_
  refine TL.nil ?_
  refine TQ.thenC ?_
  first | refine TC.condD rfl (fun hz => ?_) (fun hz => ?_) | refine TC.cond rfl (fun hz => ?_) (fun hz => ?_)
  · skip
    exfalso; omega
  · skip
    refine TC.skip ?_
    refine TQ.thenC ?_
    refine TC.seq ?_
    refine TC.region ?_
    refine TL.pure (PV.assign rfl) rfl (by decide) ?_
    refine TL.pure (PV.assign rfl) rfl (by decide) ?_
    refine TL.nil ?_
    refine TQ.thenC ?_
    refine TC.seq ?_
    refine TC.seq ?_
    refine TC.region ?_
    refine TL.pure (PV.assign rfl) rfl (by decide) ?_
    refine TL.nil ?_
    refine TQ.thenC ?_
    refine TC.block ?_
    refine TC.lit [(0, _), (3, _), (4, _), (5, _)] (by repeat (first | exact True.intro | refine And.intro rfl ?_)) ?_
    refine TC.loopK [0, 2] (X := Nat) (fun k => k ≤ K + 1) (fun k => [(5, .int .i64 k), (3, .int .i64 (sm k (dterm K (getM m)))), (4, .int .i64 (sgn k))]) (fun k => []) (fun k => K + 1 - k) 0 (Nat.zero_le _) (by repeat (first | exact True.intro | refine And.intro rfl ?_)) (by repeat (first | exact List.Sublist.slnil | exact List.nil_sublist _ | exact List.Sublist.refl _ | refine List.Sublist.cons_cons _ ?_ | refine List.Sublist.cons _ ?_ | refine List.Sublist.trans ?_ (List.sublist_append_right _ _))) ?_
    intro k hk
    refine TC.seq ?_
    refine TC.seq ?_
    refine TC.region ?_
    refine TL.pure (PV.move rfl) rfl (by decide) ?_
    refine TL.pure (PV.move rfl) rfl (by decide) ?_
    refine TL.pure (PV.len rfl Tb.sl_22) rfl (by decide) ?_
    refine TL.pure (PV.lss rfl rfl) rfl (by decide) ?_
    refine TL.nil ?_
    refine TQ.thenC ?_
    first | refine TC.condD rfl (fun hlt => ?_) (fun hlt => ?_) | refine TC.cond rfl (fun hlt => ?_) (fun hlt => ?_)
    · skip
      refine TC.skip ?_
      refine TQ.thenC ?_
      refine TC.seq ?_
      refine TC.block ?_
      refine TC.seq ?_
      refine TC.region ?_
      refine TL.pure (PV.assign rfl) rfl (by decide) ?_
      refine TL.nil ?_
      refine TQ.thenC ?_
      refine TC.seq ?_
      refine TC.seq ?_
      refine TC.region ?_
      refine TL.pure (PV.assign rfl) rfl (by decide) ?_
      refine TL.nil ?_
      refine TQ.thenC ?_
      refine TC.block ?_
      refine TC.lit [(0, _), (3, _), (4, _), (5, _), (6, _), (7, _)] (by repeat (first | exact True.intro | refine And.intro rfl ?_)) ?_
      refine TC.loopK [0, 2, 3, 4, 5] (X := Nat × HD × List (HD × List Int)) (fun x => RIm m K k x.1 x.2) (fun x => [(7, .int .i64 x.1), (6, gvP x.2)]) (fun x => gbP x.2 ++ bl x.2.2) (fun x => K + 1 - x.1) (1, none, []) (RIm.zero _ _ _) (by repeat (first | exact True.intro | refine And.intro rfl ?_)) (by repeat (first | exact List.Sublist.slnil | exact List.nil_sublist _ | exact List.Sublist.refl _ | refine List.Sublist.cons_cons _ ?_ | refine List.Sublist.cons _ ?_ | refine List.Sublist.trans ?_ (List.sublist_append_right _ _))) ?_
      intro x hx
      have hxle := hx.le
      refine TC.seq ?_
      refine TC.seq ?_
      refine TC.region ?_
      refine TL.pure (PV.move rfl) rfl (by decide) ?_
      refine TL.pure (PV.move rfl) rfl (by decide) ?_
      refine TL.pure (PV.len rfl Tb.sl_22) rfl (by decide) ?_
      refine TL.pure (PV.lss rfl rfl) rfl (by decide) ?_
      refine TL.nil ?_
      refine TQ.thenC ?_
      first | refine TC.condD rfl (fun hlt2 => ?_) (fun hlt2 => ?_) | refine TC.cond rfl (fun hlt2 => ?_) (fun hlt2 => ?_)
      · skip
        refine TC.skip ?_
        refine TQ.thenC ?_
        refine TC.seq ?_
        refine TC.block ?_
        refine TC.lit [(0, _), (3, _), (4, _), (5, _), (6, _), (7, _)] (by repeat (first | exact True.intro | refine And.intro rfl ?_)) ?_
        have hkl : k < K + 1 := by omega
        have hxl : x.1 < K + 1 := by omega
        obtain ⟨q, hqp, pj, cj, hq, hcj, hat⟩ := hm x.1 (by omega)
        have hrl : (m.getD x.1 []).length = K + 1 := hsq.2 x.1 hxl
        rw [hrl] at hq hcj
        have hA := cut0 (k := k) (cap := cj) hat (by omega)
        have hB := cutL (l := k + 1) (cap := cj) hat (by omega)
        have hAl : ((m.getD x.1 []).take k).length = k := by rw [List.length_take]; omega
        have hBl : ((m.getD x.1 []).drop (k + 1)).length = K + 1 - (k + 1) := by rw [List.length_drop]; omega
        refine TC.mixE [false, false, true, true, true, true, true, true, false, true, true, true, true, true, true, true, false, false, false, false] [] 7 Tb.mixed rfl (by kernel_rfl) (by kernel_rfl) (by kernel_rfl) (by kernel_rfl) (by repeat (first | exact List.Sublist.slnil | exact List.nil_sublist _ | exact List.Sublist.refl _ | refine List.Sublist.cons_cons _ ?_ | refine List.Sublist.cons _ ?_ | refine List.Sublist.trans ?_ (List.sublist_append_right _ _))) ?_
        refine TY.no ?_
        refine TY.no ?_
        refine TY.op (SOK.pure (PV.move rfl) rfl) (by decide) ?_
        refine TY.op (SOK.pure (PV.move rfl) rfl) (by decide) ?_
        refine TY.op (SOK.pure (PV.indexA rfl hqp rfl Tb.elm_22 rfl (by omega)) rfl) (by decide) ?_
        refine TY.op (SOK.pure (PV.loadOld rfl Tb.one_23 hq) rfl) (by decide) ?_
        refine TY.op (SOK.pure (PV.move rfl) rfl) (by decide) ?_
        refine TY.op (SOK.pure (PV.sliceH rfl rfl Tb.elm_23 rfl (by omega)) rfl) (by decide) ?_
        refine TY.no ?_
        refine TY.op (SOK.pure (PV.move rfl) rfl) (by decide) ?_
        refine TY.op (SOK.pure (PV.move rfl) rfl) (by decide) ?_
        refine TY.op (SOK.pure (PV.indexA rfl hqp rfl Tb.elm_22 rfl (by omega)) rfl) (by decide) ?_
        refine TY.op (SOK.pure (PV.loadOld rfl Tb.one_23 hq) rfl) (by decide) ?_
        refine TY.op (SOK.pure (PV.move rfl) rfl) (by decide) ?_
        refine TY.op (SOK.pure (PV.add rfl rfl (by omega)) rfl) (by decide) ?_
        refine TY.op (SOK.pure (PV.sliceL (l := k + 1) rfl rfl Tb.elm_23 (by omega) (by omega)) rfl) (by decide) ?_
        refine TY.no ?_
        refine TY.no ?_
        refine TY.no ?_
        refine TY.no ?_
        refine TY.fin ?_
        refine TX.step [0, 1] (by kernel_rfl) (by decide) ⟨⟨_, rfl, ?_⟩, ⟨_, rfl, ?_⟩, trivial⟩
        · skip
          refine TL.pure (PV.move rfl) rfl (by decide) ?_
          refine TL.nil ?_
          refine TX.next (.inl (by repeat (first | exact List.Sublist.slnil | exact List.nil_sublist _ | exact List.Sublist.refl _ | refine List.Sublist.cons_cons _ ?_ | refine List.Sublist.cons _ ?_ | refine List.Sublist.trans ?_ (List.sublist_append_right _ _)))) ?_
          refine TX.step [1] (by kernel_rfl) (by decide) ⟨⟨_, rfl, ?_⟩, trivial⟩
          refine TL.buildSlice0 Tb.sl_23 Tb.zi_3 rfl (by decide) (fun bE hbE => ?_)
          refine TL.nil ?_
          refine TX.next (.inl (by repeat (first | exact List.Sublist.slnil | exact List.nil_sublist _ | exact List.Sublist.refl _ | refine List.Sublist.cons_cons _ ?_ | refine List.Sublist.cons _ ?_ | refine List.Sublist.trans ?_ (List.sublist_append_right _ _)))) ?_
          refine TX.step [8] (by kernel_rfl) (by decide) ⟨⟨_, rfl, ?_⟩, trivial⟩
          refine TL.appendS (h0 := some (bE, 0, [])) (ys := []) (K0 := 0) (K := k) rfl rfl rfl hAl (fun w' hN => hA.new hN) ⟨rfl, rfl, Nat.le_refl _⟩ (TakeH.here (some (bE, 0, [])) 3 [] _) (by omega) rfl (by decide) (fun hI1 hIo1 => ?_)
          refine TL.nil ?_
          refine TX.next (.inl (by repeat (first | exact List.Sublist.slnil | exact List.nil_sublist _ | exact List.Sublist.refl _ | refine List.Sublist.cons_cons _ ?_ | refine List.Sublist.cons _ ?_ | refine List.Sublist.trans ?_ (List.sublist_append_right _ _)))) ?_
          refine TX.step [16] (by kernel_rfl) (by decide) ⟨⟨_, rfl, ?_⟩, trivial⟩
          refine TL.appendS (h0 := hI1) (ys := [] ++ (m.getD x.1 []).take k) (K0 := 0 + k) rfl rfl (by rw [List.nil_append, hAl]; omega) hBl (fun w' hN => hB.new hN) hIo1 (TakeH.here _ _ _ _) (by omega) rfl (by decide) (fun hI2_ hI2 => ?_)
          refine TL.nil ?_
          refine TX.next (.inl (by repeat (first | exact List.Sublist.slnil | exact List.nil_sublist _ | exact List.Sublist.refl _ | refine List.Sublist.cons_cons _ ?_ | refine List.Sublist.cons _ ?_ | refine List.Sublist.trans ?_ (List.sublist_append_right _ _)))) ?_
          refine TX.step [17] (by kernel_rfl) (by decide) ⟨⟨_, rfl, ?_⟩, trivial⟩
          have hrow : [] ++ (m.getD x.1 []).take k ++ (m.getD x.1 []).drop (k + 1) = minorRow (m.getD x.1 []) k := by rw [List.nil_append]; rfl
          have hlen : 0 + k + (K + 1 - (k + 1)) = ([] ++ (m.getD x.1 []).take k ++ (m.getD x.1 []).drop (k + 1)).length := by rw [List.length_append, List.nil_append, hAl, hBl]; omega
          rw [hlen]
          refine TL.buildSlice (cs := #[gvI (hI2_, [] ++ (m.getD x.1 []).take k ++ (m.getD x.1 []).drop (k + 1))]) rfl Tb.sl_22 Tb.zi_23 (by decide) (fill_g _ _) (by decide) rfl (by decide) (fun bO hbO => ?_)
          refine TL.nil ?_
          refine TX.next (.inl (by repeat (first | exact List.Sublist.slnil | exact List.nil_sublist _ | exact List.Sublist.refl _ | refine List.Sublist.cons_cons _ ?_ | refine List.Sublist.cons _ ?_ | refine List.Sublist.trans ?_ (List.sublist_append_right _ _)))) ?_
          refine TX.step [18] (by kernel_rfl) (by decide) ⟨⟨_, rfl, ?_⟩, trivial⟩
          refine TL.appendP (x0 := x.2) (y := (hI2_, [] ++ (m.getD x.1 []).take k ++ (m.getD x.1 []).drop (k + 1))) rfl rfl (by repeat (first | exact List.Mem.head _ | refine List.Mem.tail _ ?_ | refine List.mem_append_right _ ?_)) hx.ok (by repeat (first | exact TakeH.here _ _ _ _ | apply TakeH.tail | apply TakeH.app)) (by have := hx.len; omega) rfl (by decide) (fun hP_ hP => ?_)
          refine TL.nil ?_
          refine TX.next (.inl (by repeat (first | exact List.Sublist.slnil | exact List.nil_sublist _ | exact List.Sublist.refl _ | refine List.Sublist.cons_cons _ ?_ | refine List.Sublist.cons _ ?_ | refine List.Sublist.trans ?_ (List.sublist_append_right _ _)))) ?_
          refine TX.step [19] (by kernel_rfl) (by decide) ⟨⟨_, rfl, ?_⟩, trivial⟩
          refine TL.pure (PV.assign rfl) rfl (by decide) ?_
          refine TL.nil ?_
          refine TX.next (.inr (by kernel_rfl)) ?_
          refine TX.done (by kernel_rfl) ?_
          refine TQ.blkN ?_
          refine TQ.thenC ?_
          refine TC.region ?_
          refine TL.pure (PV.move rfl) rfl (by decide) ?_
          refine TL.pure (PV.add rfl rfl (by omega)) rfl (by decide) ?_
          refine TL.pure (PV.assign rfl) rfl (by decide) ?_
          refine TL.nil ?_
          refine TQ.thenN ?_
          refine TQ.backK (x.1 + 1, _, _) (by repeat (first | exact True.intro | refine And.intro rfl ?_)) (by repeat (first | exact True.intro | refine And.intro rfl ?_)) (by first | exact List.Sublist.refl _ | (rw [bl_snoc]; simp only [List.append_assoc]; exact List.Sublist.append_left (List.Sublist.cons _ (List.Sublist.append_left (List.Sublist.refl _) _)) _)) (hx.step hxl hrow hI2 hP) (by simp only; omega)
        · skip
          refine TL.buildSlice0 Tb.sl_23 Tb.zi_3 rfl (by decide) (fun bE hbE => ?_)
          refine TL.nil ?_
          refine TX.next (.inl (by repeat (first | exact List.Sublist.slnil | exact List.nil_sublist _ | exact List.Sublist.refl _ | refine List.Sublist.cons_cons _ ?_ | refine List.Sublist.cons _ ?_ | refine List.Sublist.trans ?_ (List.sublist_append_right _ _)))) ?_
          refine TX.step [0, 8] (by kernel_rfl) (by decide) ⟨⟨_, rfl, ?_⟩, ⟨_, rfl, ?_⟩, trivial⟩
          · skip
            refine TL.pure (PV.move rfl) rfl (by decide) ?_
            refine TL.nil ?_
            refine TX.next (.inl (by repeat (first | exact List.Sublist.slnil | exact List.nil_sublist _ | exact List.Sublist.refl _ | refine List.Sublist.cons_cons _ ?_ | refine List.Sublist.cons _ ?_ | refine List.Sublist.trans ?_ (List.sublist_append_right _ _)))) ?_
            refine TX.step [8] (by kernel_rfl) (by decide) ⟨⟨_, rfl, ?_⟩, trivial⟩
            refine TL.appendS (h0 := some (bE, 0, [])) (ys := []) (K0 := 0) (K := k) rfl rfl rfl hAl (fun w' hN => hA.new hN) ⟨rfl, rfl, Nat.le_refl _⟩ (TakeH.here (some (bE, 0, [])) 3 [] _) (by omega) rfl (by decide) (fun hI1 hIo1 => ?_)
            refine TL.nil ?_
            refine TX.next (.inl (by repeat (first | exact List.Sublist.slnil | exact List.nil_sublist _ | exact List.Sublist.refl _ | refine List.Sublist.cons_cons _ ?_ | refine List.Sublist.cons _ ?_ | refine List.Sublist.trans ?_ (List.sublist_append_right _ _)))) ?_
            refine TX.step [16] (by kernel_rfl) (by decide) ⟨⟨_, rfl, ?_⟩, trivial⟩
            refine TL.appendS (h0 := hI1) (ys := [] ++ (m.getD x.1 []).take k) (K0 := 0 + k) rfl rfl (by rw [List.nil_append, hAl]; omega) hBl (fun w' hN => hB.new hN) hIo1 (TakeH.here _ _ _ _) (by omega) rfl (by decide) (fun hI2_ hI2 => ?_)
            refine TL.nil ?_
            refine TX.next (.inl (by repeat (first | exact List.Sublist.slnil | exact List.nil_sublist _ | exact List.Sublist.refl _ | refine List.Sublist.cons_cons _ ?_ | refine List.Sublist.cons _ ?_ | refine List.Sublist.trans ?_ (List.sublist_append_right _ _)))) ?_
            refine TX.step [17] (by kernel_rfl) (by decide) ⟨⟨_, rfl, ?_⟩, trivial⟩
            have hrow : [] ++ (m.getD x.1 []).take k ++ (m.getD x.1 []).drop (k + 1) = minorRow (m.getD x.1 []) k := by rw [List.nil_append]; rfl
            have hlen : 0 + k + (K + 1 - (k + 1)) = ([] ++ (m.getD x.1 []).take k ++ (m.getD x.1 []).drop (k + 1)).length := by rw [List.length_append, List.nil_append, hAl, hBl]; omega
            rw [hlen]
            refine TL.buildSlice (cs := #[gvI (hI2_, [] ++ (m.getD x.1 []).take k ++ (m.getD x.1 []).drop (k + 1))]) rfl Tb.sl_22 Tb.zi_23 (by decide) (fill_g _ _) (by decide) rfl (by decide) (fun bO hbO => ?_)
            refine TL.nil ?_
            refine TX.next (.inl (by repeat (first | exact List.Sublist.slnil | exact List.nil_sublist _ | exact List.Sublist.refl _ | refine List.Sublist.cons_cons _ ?_ | refine List.Sublist.cons _ ?_ | refine List.Sublist.trans ?_ (List.sublist_append_right _ _)))) ?_
            refine TX.step [18] (by kernel_rfl) (by decide) ⟨⟨_, rfl, ?_⟩, trivial⟩
            refine TL.appendP (x0 := x.2) (y := (hI2_, [] ++ (m.getD x.1 []).take k ++ (m.getD x.1 []).drop (k + 1))) rfl rfl (by repeat (first | exact List.Mem.head _ | refine List.Mem.tail _ ?_ | refine List.mem_append_right _ ?_)) hx.ok (by repeat (first | exact TakeH.here _ _ _ _ | apply TakeH.tail | apply TakeH.app)) (by have := hx.len; omega) rfl (by decide) (fun hP_ hP => ?_)
            refine TL.nil ?_
            refine TX.next (.inl (by repeat (first | exact List.Sublist.slnil | exact List.nil_sublist _ | exact List.Sublist.refl _ | refine List.Sublist.cons_cons _ ?_ | refine List.Sublist.cons _ ?_ | refine List.Sublist.trans ?_ (List.sublist_append_right _ _)))) ?_
            refine TX.step [19] (by kernel_rfl) (by decide) ⟨⟨_, rfl, ?_⟩, trivial⟩
            refine TL.pure (PV.assign rfl) rfl (by decide) ?_
            refine TL.nil ?_
            refine TX.next (.inr (by kernel_rfl)) ?_
            refine TX.done (by kernel_rfl) ?_
            refine TQ.blkN ?_
            refine TQ.thenC ?_
            refine TC.region ?_
            refine TL.pure (PV.move rfl) rfl (by decide) ?_
            refine TL.pure (PV.add rfl rfl (by omega)) rfl (by decide) ?_
            refine TL.pure (PV.assign rfl) rfl (by decide) ?_
            refine TL.nil ?_
            refine TQ.thenN ?_
            refine TQ.backK (x.1 + 1, _, _) (by repeat (first | exact True.intro | refine And.intro rfl ?_)) (by repeat (first | exact True.intro | refine And.intro rfl ?_)) (by first | exact List.Sublist.refl _ | (rw [bl_snoc]; simp only [List.append_assoc]; exact List.Sublist.append_left (List.Sublist.cons _ (List.Sublist.append_left (List.Sublist.refl _) _)) _)) (hx.step hxl hrow hI2 hP) (by simp only; omega)
          · skip
            refine TL.appendS (h0 := some (bE, 0, [])) (ys := []) (K0 := 0) (K := k) rfl rfl rfl hAl (fun w' hN => hA.new hN) ⟨rfl, rfl, Nat.le_refl _⟩ (TakeH.here (some (bE, 0, [])) 3 [] _) (by omega) rfl (by decide) (fun hI1 hIo1 => ?_)
            refine TL.nil ?_
            refine TX.next (.inl (by repeat (first | exact List.Sublist.slnil | exact List.nil_sublist _ | exact List.Sublist.refl _ | refine List.Sublist.cons_cons _ ?_ | refine List.Sublist.cons _ ?_ | refine List.Sublist.trans ?_ (List.sublist_append_right _ _)))) ?_
            refine TX.step [0, 16] (by kernel_rfl) (by decide) ⟨⟨_, rfl, ?_⟩, ⟨_, rfl, ?_⟩, trivial⟩
            · skip
              refine TL.pure (PV.move rfl) rfl (by decide) ?_
              refine TL.nil ?_
              refine TX.next (.inl (by repeat (first | exact List.Sublist.slnil | exact List.nil_sublist _ | exact List.Sublist.refl _ | refine List.Sublist.cons_cons _ ?_ | refine List.Sublist.cons _ ?_ | refine List.Sublist.trans ?_ (List.sublist_append_right _ _)))) ?_
              refine TX.step [16] (by kernel_rfl) (by decide) ⟨⟨_, rfl, ?_⟩, trivial⟩
              refine TL.appendS (h0 := hI1) (ys := [] ++ (m.getD x.1 []).take k) (K0 := 0 + k) rfl rfl (by rw [List.nil_append, hAl]; omega) hBl (fun w' hN => hB.new hN) hIo1 (TakeH.here _ _ _ _) (by omega) rfl (by decide) (fun hI2_ hI2 => ?_)
              refine TL.nil ?_
              refine TX.next (.inl (by repeat (first | exact List.Sublist.slnil | exact List.nil_sublist _ | exact List.Sublist.refl _ | refine List.Sublist.cons_cons _ ?_ | refine List.Sublist.cons _ ?_ | refine List.Sublist.trans ?_ (List.sublist_append_right _ _)))) ?_
              refine TX.step [17] (by kernel_rfl) (by decide) ⟨⟨_, rfl, ?_⟩, trivial⟩
              have hrow : [] ++ (m.getD x.1 []).take k ++ (m.getD x.1 []).drop (k + 1) = minorRow (m.getD x.1 []) k := by rw [List.nil_append]; rfl
              have hlen : 0 + k + (K + 1 - (k + 1)) = ([] ++ (m.getD x.1 []).take k ++ (m.getD x.1 []).drop (k + 1)).length := by rw [List.length_append, List.nil_append, hAl, hBl]; omega
              rw [hlen]
              refine TL.buildSlice (cs := #[gvI (hI2_, [] ++ (m.getD x.1 []).take k ++ (m.getD x.1 []).drop (k + 1))]) rfl Tb.sl_22 Tb.zi_23 (by decide) (fill_g _ _) (by decide) rfl (by decide) (fun bO hbO => ?_)
              refine TL.nil ?_
              refine TX.next (.inl (by repeat (first | exact List.Sublist.slnil | exact List.nil_sublist _ | exact List.Sublist.refl _ | refine List.Sublist.cons_cons _ ?_ | refine List.Sublist.cons _ ?_ | refine List.Sublist.trans ?_ (List.sublist_append_right _ _)))) ?_
              refine TX.step [18] (by kernel_rfl) (by decide) ⟨⟨_, rfl, ?_⟩, trivial⟩
              refine TL.appendP (x0 := x.2) (y := (hI2_, [] ++ (m.getD x.1 []).take k ++ (m.getD x.1 []).drop (k + 1))) rfl rfl (by repeat (first | exact List.Mem.head _ | refine List.Mem.tail _ ?_ | refine List.mem_append_right _ ?_)) hx.ok (by repeat (first | exact TakeH.here _ _ _ _ | apply TakeH.tail | apply TakeH.app)) (by have := hx.len; omega) rfl (by decide) (fun hP_ hP => ?_)
              refine TL.nil ?_
              refine TX.next (.inl (by repeat (first | exact List.Sublist.slnil | exact List.nil_sublist _ | exact List.Sublist.refl _ | refine List.Sublist.cons_cons _ ?_ | refine List.Sublist.cons _ ?_ | refine List.Sublist.trans ?_ (List.sublist_append_right _ _)))) ?_
              refine TX.step [19] (by kernel_rfl) (by decide) ⟨⟨_, rfl, ?_⟩, trivial⟩
              refine TL.pure (PV.assign rfl) rfl (by decide) ?_
              refine TL.nil ?_
              refine TX.next (.inr (by kernel_rfl)) ?_
              refine TX.done (by kernel_rfl) ?_
              refine TQ.blkN ?_
              refine TQ.thenC ?_
              refine TC.region ?_
              refine TL.pure (PV.move rfl) rfl (by decide) ?_
              refine TL.pure (PV.add rfl rfl (by omega)) rfl (by decide) ?_
              refine TL.pure (PV.assign rfl) rfl (by decide) ?_
              refine TL.nil ?_
              refine TQ.thenN ?_
              refine TQ.backK (x.1 + 1, _, _) (by repeat (first | exact True.intro | refine And.intro rfl ?_)) (by repeat (first | exact True.intro | refine And.intro rfl ?_)) (by first | exact List.Sublist.refl _ | (rw [bl_snoc]; simp only [List.append_assoc]; exact List.Sublist.append_left (List.Sublist.cons _ (List.Sublist.append_left (List.Sublist.refl _) _)) _)) (hx.step hxl hrow hI2 hP) (by simp only; omega)
            · skip
              refine TL.appendS (h0 := hI1) (ys := [] ++ (m.getD x.1 []).take k) (K0 := 0 + k) rfl rfl (by rw [List.nil_append, hAl]; omega) hBl (fun w' hN => hB.new hN) hIo1 (TakeH.here _ _ _ _) (by omega) rfl (by decide) (fun hI2_ hI2 => ?_)
              refine TL.nil ?_
              refine TX.next (.inl (by repeat (first | exact List.Sublist.slnil | exact List.nil_sublist _ | exact List.Sublist.refl _ | refine List.Sublist.cons_cons _ ?_ | refine List.Sublist.cons _ ?_ | refine List.Sublist.trans ?_ (List.sublist_append_right _ _)))) ?_
              refine TX.step [0, 17] (by kernel_rfl) (by decide) ⟨⟨_, rfl, ?_⟩, ⟨_, rfl, ?_⟩, trivial⟩
              · skip
                refine TL.pure (PV.move rfl) rfl (by decide) ?_
                refine TL.nil ?_
                refine TX.next (.inl (by repeat (first | exact List.Sublist.slnil | exact List.nil_sublist _ | exact List.Sublist.refl _ | refine List.Sublist.cons_cons _ ?_ | refine List.Sublist.cons _ ?_ | refine List.Sublist.trans ?_ (List.sublist_append_right _ _)))) ?_
                refine TX.step [17] (by kernel_rfl) (by decide) ⟨⟨_, rfl, ?_⟩, trivial⟩
                have hrow : [] ++ (m.getD x.1 []).take k ++ (m.getD x.1 []).drop (k + 1) = minorRow (m.getD x.1 []) k := by rw [List.nil_append]; rfl
                have hlen : 0 + k + (K + 1 - (k + 1)) = ([] ++ (m.getD x.1 []).take k ++ (m.getD x.1 []).drop (k + 1)).length := by rw [List.length_append, List.nil_append, hAl, hBl]; omega
                rw [hlen]
                refine TL.buildSlice (cs := #[gvI (hI2_, [] ++ (m.getD x.1 []).take k ++ (m.getD x.1 []).drop (k + 1))]) rfl Tb.sl_22 Tb.zi_23 (by decide) (fill_g _ _) (by decide) rfl (by decide) (fun bO hbO => ?_)
                refine TL.nil ?_
                refine TX.next (.inl (by repeat (first | exact List.Sublist.slnil | exact List.nil_sublist _ | exact List.Sublist.refl _ | refine List.Sublist.cons_cons _ ?_ | refine List.Sublist.cons _ ?_ | refine List.Sublist.trans ?_ (List.sublist_append_right _ _)))) ?_
                refine TX.step [18] (by kernel_rfl) (by decide) ⟨⟨_, rfl, ?_⟩, trivial⟩
                refine TL.appendP (x0 := x.2) (y := (hI2_, [] ++ (m.getD x.1 []).take k ++ (m.getD x.1 []).drop (k + 1))) rfl rfl (by repeat (first | exact List.Mem.head _ | refine List.Mem.tail _ ?_ | refine List.mem_append_right _ ?_)) hx.ok (by repeat (first | exact TakeH.here _ _ _ _ | apply TakeH.tail | apply TakeH.app)) (by have := hx.len; omega) rfl (by decide) (fun hP_ hP => ?_)
                refine TL.nil ?_
                refine TX.next (.inl (by repeat (first | exact List.Sublist.slnil | exact List.nil_sublist _ | exact List.Sublist.refl _ | refine List.Sublist.cons_cons _ ?_ | refine List.Sublist.cons _ ?_ | refine List.Sublist.trans ?_ (List.sublist_append_right _ _)))) ?_
                refine TX.step [19] (by kernel_rfl) (by decide) ⟨⟨_, rfl, ?_⟩, trivial⟩
                refine TL.pure (PV.assign rfl) rfl (by decide) ?_
                refine TL.nil ?_
                refine TX.next (.inr (by kernel_rfl)) ?_
                refine TX.done (by kernel_rfl) ?_
                refine TQ.blkN ?_
                refine TQ.thenC ?_
                refine TC.region ?_
                refine TL.pure (PV.move rfl) rfl (by decide) ?_
                refine TL.pure (PV.add rfl rfl (by omega)) rfl (by decide) ?_
                refine TL.pure (PV.assign rfl) rfl (by decide) ?_
                refine TL.nil ?_
                refine TQ.thenN ?_
                refine TQ.backK (x.1 + 1, _, _) (by repeat (first | exact True.intro | refine And.intro rfl ?_)) (by repeat (first | exact True.intro | refine And.intro rfl ?_)) (by first | exact List.Sublist.refl _ | (rw [bl_snoc]; simp only [List.append_assoc]; exact List.Sublist.append_left (List.Sublist.cons _ (List.Sublist.append_left (List.Sublist.refl _) _)) _)) (hx.step hxl hrow hI2 hP) (by simp only; omega)
              · skip
                have hrow : [] ++ (m.getD x.1 []).take k ++ (m.getD x.1 []).drop (k + 1) = minorRow (m.getD x.1 []) k := by rw [List.nil_append]; rfl
                have hlen : 0 + k + (K + 1 - (k + 1)) = ([] ++ (m.getD x.1 []).take k ++ (m.getD x.1 []).drop (k + 1)).length := by rw [List.length_append, List.nil_append, hAl, hBl]; omega
                rw [hlen]
                refine TL.buildSlice (cs := #[gvI (hI2_, [] ++ (m.getD x.1 []).take k ++ (m.getD x.1 []).drop (k + 1))]) rfl Tb.sl_22 Tb.zi_23 (by decide) (fill_g _ _) (by decide) rfl (by decide) (fun bO hbO => ?_)
                refine TL.nil ?_
                refine TX.next (.inl (by repeat (first | exact List.Sublist.slnil | exact List.nil_sublist _ | exact List.Sublist.refl _ | refine List.Sublist.cons_cons _ ?_ | refine List.Sublist.cons _ ?_ | refine List.Sublist.trans ?_ (List.sublist_append_right _ _)))) ?_
                refine TX.step [0] (by kernel_rfl) (by decide) ⟨⟨_, rfl, ?_⟩, trivial⟩
                refine TL.pure (PV.move rfl) rfl (by decide) ?_
                refine TL.nil ?_
                refine TX.next (.inl (by repeat (first | exact List.Sublist.slnil | exact List.nil_sublist _ | exact List.Sublist.refl _ | refine List.Sublist.cons_cons _ ?_ | refine List.Sublist.cons _ ?_ | refine List.Sublist.trans ?_ (List.sublist_append_right _ _)))) ?_
                refine TX.step [18] (by kernel_rfl) (by decide) ⟨⟨_, rfl, ?_⟩, trivial⟩
                refine TL.appendP (x0 := x.2) (y := (hI2_, [] ++ (m.getD x.1 []).take k ++ (m.getD x.1 []).drop (k + 1))) rfl rfl (by repeat (first | exact List.Mem.head _ | refine List.Mem.tail _ ?_ | refine List.mem_append_right _ ?_)) hx.ok (by repeat (first | exact TakeH.here _ _ _ _ | apply TakeH.tail | apply TakeH.app)) (by have := hx.len; omega) rfl (by decide) (fun hP_ hP => ?_)
                refine TL.nil ?_
                refine TX.next (.inl (by repeat (first | exact List.Sublist.slnil | exact List.nil_sublist _ | exact List.Sublist.refl _ | refine List.Sublist.cons_cons _ ?_ | refine List.Sublist.cons _ ?_ | refine List.Sublist.trans ?_ (List.sublist_append_right _ _)))) ?_
                refine TX.step [19] (by kernel_rfl) (by decide) ⟨⟨_, rfl, ?_⟩, trivial⟩
                refine TL.pure (PV.assign rfl) rfl (by decide) ?_
                refine TL.nil ?_
                refine TX.next (.inr (by kernel_rfl)) ?_
                refine TX.done (by kernel_rfl) ?_
                refine TQ.blkN ?_
                refine TQ.thenC ?_
                refine TC.region ?_
                refine TL.pure (PV.move rfl) rfl (by decide) ?_
                refine TL.pure (PV.add rfl rfl (by omega)) rfl (by decide) ?_
                refine TL.pure (PV.assign rfl) rfl (by decide) ?_
                refine TL.nil ?_
                refine TQ.thenN ?_
                refine TQ.backK (x.1 + 1, _, _) (by repeat (first | exact True.intro | refine And.intro rfl ?_)) (by repeat (first | exact True.intro | refine And.intro rfl ?_)) (by first | exact List.Sublist.refl _ | (rw [bl_snoc]; simp only [List.append_assoc]; exact List.Sublist.append_left (List.Sublist.cons _ (List.Sublist.append_left (List.Sublist.refl _) _)) _)) (hx.step hxl hrow hI2 hP) (by simp only; omega)
      · skip
        refine TC.exit ?_
        refine TQ.thenE ?_
        refine TQ.thenE ?_
        refine TQ.blkS ?_
        refine TQ.thenC ?_
        refine TC.seq ?_
        refine TC.lit [(0, _), (3, _), (4, _), (5, _), (6, _)] (by repeat (first | exact True.intro | refine And.intro rfl ?_)) ?_
        have hkl : k < K + 1 := by omega
        have hxe : x.1 = K + 1 := by omega
        rw [hxe] at hx
        obtain ⟨q, hqp, pj, cj, hq, hcj, hat⟩ := hm 0 (by omega)
        have hrl : (m.getD 0 []).length = K + 1 := hsq.2 0 (by omega)
        rw [hrl] at hq hcj
        obtain ⟨q2, hq2p, hq2⟩ := hat k (by omega)
        change w0.cell? (q2.add (k * 1)) = some (.int .i64 (getM m 0 k)) at hq2
        have hs1 : sgn k = 1 ∨ sgn k = -1 := by unfold sgn; split <;> omega
        have hdk := hd k hkl
        have hsg := sgn_bn hdk.1 k
        have hdt := dterm_bn hd hkl
        have hds := dsum_bn hd k (by omega)
        unfold Bn at hsg hdt hds
        unfold dterm at hdt
        refine TC.mixE [false, true, true, true, true, true, true, true, true, true, false, false, false, false] [] 5 Tb.mixed rfl (by kernel_rfl) (by kernel_rfl) (by kernel_rfl) (by kernel_rfl) (by repeat (first | exact List.Sublist.slnil | exact List.nil_sublist _ | exact List.Sublist.refl _ | refine List.Sublist.cons_cons _ ?_ | refine List.Sublist.cons _ ?_ | refine List.Sublist.trans ?_ (List.sublist_append_right _ _))) ?_
        refine TY.no ?_
        refine TY.op (SOK.pure (PV.move rfl) rfl) (by decide) ?_
        refine TY.op (SOK.pure (PV.move rfl) rfl) (by decide) ?_
        refine TY.op (SOK.pure (PV.indexA (j := 0) rfl hqp rfl Tb.elm_22 rfl (by omega)) rfl) (by decide) ?_
        refine TY.op (SOK.pure (PV.loadOld rfl Tb.one_23 hq) rfl) (by decide) ?_
        refine TY.op (SOK.pure (PV.move rfl) rfl) (by decide) ?_
        refine TY.op (SOK.pure (PV.indexA rfl hq2p rfl Tb.elm_23 rfl (by omega)) rfl) (by decide) ?_
        refine TY.op (SOK.pure (PV.loadOld rfl Tb.one_3 hq2) rfl) (by decide) ?_
        refine TY.op (SOK.pure (PV.mul rfl rfl (by omega)) rfl) (by decide) ?_
        refine TY.op (SOK.pure (PV.move rfl) rfl) (by decide) ?_
        refine TY.no ?_
        refine TY.no ?_
        refine TY.no ?_
        refine TY.no ?_
        refine TY.fin ?_
        refine TX.step [0, 10] (by kernel_rfl) (by decide) ⟨⟨_, rfl, ?_⟩, ⟨_, rfl, ?_⟩, trivial⟩
        · skip
          refine TL.pure (PV.move rfl) rfl (by decide) ?_
          refine TL.nil ?_
          refine TX.next (.inl (by repeat (first | exact List.Sublist.slnil | exact List.nil_sublist _ | exact List.Sublist.refl _ | refine List.Sublist.cons_cons _ ?_ | refine List.Sublist.cons _ ?_ | refine List.Sublist.trans ?_ (List.sublist_append_right _ _)))) ?_
          refine TX.step [10] (by kernel_rfl) (by decide) ⟨⟨_, rfl, ?_⟩, trivial⟩
          refine TL.call rfl Tb.gofn_89 (fun a w hs => detG ih hsq hkl hd hs.new (fun y hy => List.mem_append_left _ hy) (fun y hy => List.mem_append_right _ hy) hx) rfl (by decide) (fun _ _ => ?_)
          refine TL.nil ?_
          refine TX.next (.inl (by repeat (first | exact List.Sublist.slnil | exact List.nil_sublist _ | exact List.Sublist.refl _ | refine List.Sublist.cons_cons _ ?_ | refine List.Sublist.cons _ ?_ | refine List.Sublist.trans ?_ (List.sublist_append_right _ _)))) ?_
          refine TX.step [11] (by kernel_rfl) (by decide) ⟨⟨_, rfl, ?_⟩, trivial⟩
          refine TL.pure (PV.mul rfl rfl (by omega)) rfl (by decide) ?_
          refine TL.nil ?_
          refine TX.next (.inl (by repeat (first | exact List.Sublist.slnil | exact List.nil_sublist _ | exact List.Sublist.refl _ | refine List.Sublist.cons_cons _ ?_ | refine List.Sublist.cons _ ?_ | refine List.Sublist.trans ?_ (List.sublist_append_right _ _)))) ?_
          refine TX.step [12] (by kernel_rfl) (by decide) ⟨⟨_, rfl, ?_⟩, trivial⟩
          refine TL.pure (PV.add rfl rfl (by omega)) rfl (by decide) ?_
          refine TL.nil ?_
          refine TX.next (.inl (by repeat (first | exact List.Sublist.slnil | exact List.nil_sublist _ | exact List.Sublist.refl _ | refine List.Sublist.cons_cons _ ?_ | refine List.Sublist.cons _ ?_ | refine List.Sublist.trans ?_ (List.sublist_append_right _ _)))) ?_
          refine TX.step [13] (by kernel_rfl) (by decide) ⟨⟨_, rfl, ?_⟩, trivial⟩
          refine TL.pure (PV.assign rfl) rfl (by decide) ?_
          refine TL.nil ?_
          refine TX.next (.inr (by kernel_rfl)) ?_
          refine TX.done (by kernel_rfl) ?_
          refine TQ.thenC ?_
          refine TC.region ?_
          refine TL.pure (PV.move rfl) rfl (by decide) ?_
          refine TL.pure (PV.neg rfl (by omega)) rfl (by decide) ?_
          refine TL.pure (PV.assign rfl) rfl (by decide) ?_
          refine TL.nil ?_
          refine TQ.blkN ?_
          refine TQ.thenC ?_
          refine TC.region ?_
          refine TL.pure (PV.move rfl) rfl (by decide) ?_
          refine TL.pure (PV.add rfl rfl (by omega)) rfl (by decide) ?_
          refine TL.pure (PV.assign rfl) rfl (by decide) ?_
          refine TL.nil ?_
          refine TQ.thenN ?_
          refine TQ.backK (k + 1) ⟨rfl, rfl, by rw [sgn_succ]; rfl, trivial⟩ (by repeat (first | exact True.intro | refine And.intro rfl ?_)) (List.nil_sublist _) (by omega) (by omega)
        · skip
          refine TL.call rfl Tb.gofn_89 (fun a w hs => detG ih hsq hkl hd hs.new (fun y hy => List.mem_append_left _ hy) (fun y hy => List.mem_append_right _ hy) hx) rfl (by decide) (fun _ _ => ?_)
          refine TL.nil ?_
          refine TX.next (.inl (by repeat (first | exact List.Sublist.slnil | exact List.nil_sublist _ | exact List.Sublist.refl _ | refine List.Sublist.cons_cons _ ?_ | refine List.Sublist.cons _ ?_ | refine List.Sublist.trans ?_ (List.sublist_append_right _ _)))) ?_
          refine TX.step [0, 11] (by kernel_rfl) (by decide) ⟨⟨_, rfl, ?_⟩, ⟨_, rfl, ?_⟩, trivial⟩
          · skip
            refine TL.pure (PV.move rfl) rfl (by decide) ?_
            refine TL.nil ?_
            refine TX.next (.inl (by repeat (first | exact List.Sublist.slnil | exact List.nil_sublist _ | exact List.Sublist.refl _ | refine List.Sublist.cons_cons _ ?_ | refine List.Sublist.cons _ ?_ | refine List.Sublist.trans ?_ (List.sublist_append_right _ _)))) ?_
            refine TX.step [11] (by kernel_rfl) (by decide) ⟨⟨_, rfl, ?_⟩, trivial⟩
            refine TL.pure (PV.mul rfl rfl (by omega)) rfl (by decide) ?_
            refine TL.nil ?_
            refine TX.next (.inl (by repeat (first | exact List.Sublist.slnil | exact List.nil_sublist _ | exact List.Sublist.refl _ | refine List.Sublist.cons_cons _ ?_ | refine List.Sublist.cons _ ?_ | refine List.Sublist.trans ?_ (List.sublist_append_right _ _)))) ?_
            refine TX.step [12] (by kernel_rfl) (by decide) ⟨⟨_, rfl, ?_⟩, trivial⟩
            refine TL.pure (PV.add rfl rfl (by omega)) rfl (by decide) ?_
            refine TL.nil ?_
            refine TX.next (.inl (by repeat (first | exact List.Sublist.slnil | exact List.nil_sublist _ | exact List.Sublist.refl _ | refine List.Sublist.cons_cons _ ?_ | refine List.Sublist.cons _ ?_ | refine List.Sublist.trans ?_ (List.sublist_append_right _ _)))) ?_
            refine TX.step [13] (by kernel_rfl) (by decide) ⟨⟨_, rfl, ?_⟩, trivial⟩
            refine TL.pure (PV.assign rfl) rfl (by decide) ?_
            refine TL.nil ?_
            refine TX.next (.inr (by kernel_rfl)) ?_
            refine TX.done (by kernel_rfl) ?_
            refine TQ.thenC ?_
            refine TC.region ?_
            refine TL.pure (PV.move rfl) rfl (by decide) ?_
            refine TL.pure (PV.neg rfl (by omega)) rfl (by decide) ?_
            refine TL.pure (PV.assign rfl) rfl (by decide) ?_
            refine TL.nil ?_
            refine TQ.blkN ?_
            refine TQ.thenC ?_
            refine TC.region ?_
            refine TL.pure (PV.move rfl) rfl (by decide) ?_
            refine TL.pure (PV.add rfl rfl (by omega)) rfl (by decide) ?_
            refine TL.pure (PV.assign rfl) rfl (by decide) ?_
            refine TL.nil ?_
            refine TQ.thenN ?_
            refine TQ.backK (k + 1) ⟨rfl, rfl, by rw [sgn_succ]; rfl, trivial⟩ (by repeat (first | exact True.intro | refine And.intro rfl ?_)) (List.nil_sublist _) (by omega) (by omega)
          · skip
            refine TL.pure (PV.mul rfl rfl (by omega)) rfl (by decide) ?_
            refine TL.nil ?_
            refine TX.next (.inl (by repeat (first | exact List.Sublist.slnil | exact List.nil_sublist _ | exact List.Sublist.refl _ | refine List.Sublist.cons_cons _ ?_ | refine List.Sublist.cons _ ?_ | refine List.Sublist.trans ?_ (List.sublist_append_right _ _)))) ?_
            refine TX.step [0] (by kernel_rfl) (by decide) ⟨⟨_, rfl, ?_⟩, trivial⟩
            refine TL.pure (PV.move rfl) rfl (by decide) ?_
            refine TL.nil ?_
            refine TX.next (.inl (by repeat (first | exact List.Sublist.slnil | exact List.nil_sublist _ | exact List.Sublist.refl _ | refine List.Sublist.cons_cons _ ?_ | refine List.Sublist.cons _ ?_ | refine List.Sublist.trans ?_ (List.sublist_append_right _ _)))) ?_
            refine TX.step [12] (by kernel_rfl) (by decide) ⟨⟨_, rfl, ?_⟩, trivial⟩
            refine TL.pure (PV.add rfl rfl (by omega)) rfl (by decide) ?_
            refine TL.nil ?_
            refine TX.next (.inl (by repeat (first | exact List.Sublist.slnil | exact List.nil_sublist _ | exact List.Sublist.refl _ | refine List.Sublist.cons_cons _ ?_ | refine List.Sublist.cons _ ?_ | refine List.Sublist.trans ?_ (List.sublist_append_right _ _)))) ?_
            refine TX.step [13] (by kernel_rfl) (by decide) ⟨⟨_, rfl, ?_⟩, trivial⟩
            refine TL.pure (PV.assign rfl) rfl (by decide) ?_
            refine TL.nil ?_
            refine TX.next (.inr (by kernel_rfl)) ?_
            refine TX.done (by kernel_rfl) ?_
            refine TQ.thenC ?_
            refine TC.region ?_
            refine TL.pure (PV.move rfl) rfl (by decide) ?_
            refine TL.pure (PV.neg rfl (by omega)) rfl (by decide) ?_
            refine TL.pure (PV.assign rfl) rfl (by decide) ?_
            refine TL.nil ?_
            refine TQ.blkN ?_
            refine TQ.thenC ?_
            refine TC.region ?_
            refine TL.pure (PV.move rfl) rfl (by decide) ?_
            refine TL.pure (PV.add rfl rfl (by omega)) rfl (by decide) ?_
            refine TL.pure (PV.assign rfl) rfl (by decide) ?_
            refine TL.nil ?_
            refine TQ.thenN ?_
            refine TQ.backK (k + 1) ⟨rfl, rfl, by rw [sgn_succ]; rfl, trivial⟩ (by repeat (first | exact True.intro | refine And.intro rfl ?_)) (List.nil_sublist _) (by omega) (by omega)
    · skip
      refine TC.exit ?_
      refine TQ.thenE ?_
      refine TQ.thenE ?_
      refine TQ.blkS ?_
      refine TQ.thenC ?_
      refine TC.seq ?_
      refine TC.region ?_
      refine TL.pure (PV.move rfl) rfl (by decide) ?_
      refine TL.pure (PV.assign rfl) rfl (by decide) ?_
      refine TL.nil ?_
      refine TQ.thenC ?_
      refine TC.ret ?_
      refine TQ.retE1 rfl rfl ?_
      exact ⟨(), by rw [show k = K + 1 by omega]; rfl, trivial, List.nil_sublist _⟩

/-- The determinant of a table that lies in memory. -/
theorem det_ok : ∀ K, K ≤ 8 → DetSaid K
  | 0, _ => fun w0 p c m _ _ _ => det0_ok w0 p c m
  | K + 1, h => fun w0 p c m hm hs hd => detS_ok K (det_ok K (by omega)) w0 p c m hm hs hd (by omega)
end Go.Proofs.Ytgafpkcnhpoobaa
