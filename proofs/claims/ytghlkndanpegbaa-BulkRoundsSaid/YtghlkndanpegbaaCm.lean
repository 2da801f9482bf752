/- What the chapters say together: contract. -/
import Derived.Test.YtghlkndanpegbaaBs2
import Derived.Test.YtghlkndanpegbaaCl
set_option linter.unusedVariables false
set_option linter.unusedSimpArgs false
namespace Go.Proofs.Ytghlkndanpegbaa
open Go.Sx Go.RowKit Go.Sand Go.Tp

theorem LsG.len1 {m : List (List Int)} (h : m.length ≤ 9223372036854775807) (k : Nat) : (([m] : List (List (List Int))).getD k []).length ≤ 9223372036854775807 := by
  match k with
  | 0 => exact h
  | k + 1 => simp [List.getD]
theorem len0 (k : Nat) : (([] : List (List (List Int))).getD k []).length ≤ 9223372036854775807 := by simp [List.getD]
theorem rd_rl {S B : Nat} {l : List Pr} {g : Nat → Nat × Nat} (hr : Rnd S B l.length g) (e : ∀ k, k < l.length → prS l k = ⟨((g k).1 : Nat), ((g k).2 : Nat)⟩) : RdP l := by
  have hf := hr.four
  have he := hr.even
  refine ⟨hf, he, fun k hk => ⟨?_, fun q hq h => ?_⟩⟩
  · unfold adjP
    rcases Nat.mod_two_eq_zero_or_one k with h2 | h2
    · rw [if_pos h2]
      have h3 : k + 1 < l.length := by omega
      rw [Nat.mod_eq_of_lt h3, e k hk, e (k + 1) h3]
      have := hr.a0 (k / 2) (by omega)
      rw [show 2 * (k / 2) = k by omega] at this
      simp only [this]
    · rw [if_neg (by omega)]
      by_cases h3 : k + 1 < l.length
      · rw [Nat.mod_eq_of_lt h3, e k hk, e (k + 1) h3]
        have := hr.a1 (k / 2) (by omega)
        rw [show 2 * (k / 2) + 1 = k by omega, show 2 * (k / 2) + 2 = k + 1 by omega] at this
        simp only [this]
      · have h4 : k + 1 = l.length := by omega
        rw [h4, Nat.mod_self, e k hk, e 0 (by omega)]
        have := hr.cl
        rw [show l.length - 1 = k by omega] at this
        simp only [this]
  · rw [e q (by omega), e k hk] at h
    refine hr.dis q k hq hk ?_
    have h1 := congrArg Pr.p h
    have h2 := congrArg Pr.q h
    simp only at h1 h2
    exact Prod.ext (by omega) (by omega)
theorem gd_gl {S B : Nat} {c x : Mat} {l : List Pr} {g : Nat → Nat × Nat} (h : GdR S B c x l g) : RdP l ∧ (l.any fun r => !inP S B r) = false ∧ GdR S B c x l (gl l) := by
  have e : ∀ k, k < l.length → prS l k = ⟨((g k).1 : Nat), ((g k).2 : Nat)⟩ := fun k hk => by
    have h1 : prS l k = prS (prL l.length g) k := by rw [← h.e]
    rw [h1]
    exact mkL_at _ hk
  have e2 : ∀ k, k < l.length → gl l k = g k := fun k hk => by
    unfold gl
    rw [e k hk]
    exact Prod.ext (Int.toNat_natCast _) (Int.toNat_natCast _)
  have hr := rd_rl h.r e
  have ha : (l.any fun r => !inP S B r) = false := any_no (d := default) fun k hk => by
    have h1 := h.r.bd k hk
    show (!inP S B (prS l k)) = false
    rw [e k hk]
    unfold inP
    rw [decide_eq_true (by simp only; omega), decide_eq_true (by simp only; omega)]
    rfl
  refine ⟨hr, ha, gl_prL ha, rd_rnd ha hr, h.l8, ?_, fun m hm => by rw [e2 _ hm]; exact h.odd m hm⟩
  have h1 := h.neg
  have e3 : rcst c l.length (gl l) = rcst c l.length g := sm_congr fun k hk => by rw [e2 k hk]
  rw [e3]
  exact h1
theorem alo_step {t : Td} {m : List (List Int)} {l : List Pr} (hV : VP t m) (h : ∃ g, GdR t.s.length t.d.length (getM t.c) (getM m) l g) : (aloR t m l).2.2 = 0 ∧ 1 ≤ (aloR t m l).2.1 ∧ VP t (aloR t m l).1 ∧ costI t (aloR t m l).1 < costI t m ∧ l.length ≤ 8 := by
  obtain ⟨g, hg⟩ := h
  obtain ⟨hr, ha, hg2⟩ := gd_gl hg
  have h8 := hg.l8
  have e0 : rndI t l = 0 := by unfold rndI; rw [if_neg (by omega), if_neg (by rw [ha]; decide), if_pos (rd_y hr)]
  have e9 : aloR t m l = (aloT t.s.length t.d.length m l.length (gl l), amt (getM m) (gl l) l.length, 0) := by unfold aloR; rw [if_neg (by rw [hV.p]; decide), if_neg (by rw [e0]; decide)]
  obtain ⟨h1, h2, h3⟩ := step_vp hV hg2
  rw [e9]
  exact ⟨rfl, by show 1 ≤ amt _ _ _; omega, h2, h3, h8⟩
theorem round_vp (w0 : World) (vt : Value) (t : Td) (ht : IsT w0 vt t) (hT : SmT t) (vg : Value) (m : List (List Int)) (hg : IsG w0 vg m) (hM : SmG m) (hV : VP t m) :
    Calls Try.prog 40 #[vt, vg] w0 (Post (X := HD × List Pr) (fun y => .tuple #[gval y.1 y.2.length, .bool (!decide (costI t m = mnI t)), .int .i64 0]) (fun y => goR prR y.1 y.2 ∧ (costI t m ≠ mnI t → ∃ g, GdR t.s.length t.d.length (getM t.c) (getM m) y.2 g)) (fun y => gbR prR 84 y.1 y.2) w0) := by
  refine (Round_ok w0 vt t ht hT vg m hg hM).mono fun e w' h => ?_
  obtain ⟨y, h1, h2, h3⟩ := h
  match y, h1, h2, h3 with
  | none, h1, h2, h3 =>
    have h4 : costI t m = mnI t := by
      rcases h2 with h2 | h2
      · exact absurd hV.p h2
      · exact h2.2
    refine ⟨(none, []), ?_, ⟨⟨rfl, rfl⟩, fun h => absurd h4 h⟩, h3⟩
    rw [h1, hV.p, decide_eq_true h4]
    rfl
  | some z, h1, h2, h3 =>
    obtain ⟨_, h5, g, h6⟩ := h2
    have h4 : costI t m ≠ mnI t := not_best hV h6 (mn_is hV.toVT)
    refine ⟨z, ?_, ⟨h5, fun _ => ⟨g, h6⟩⟩, h3⟩
    rw [h1, decide_eq_false h4]
    rfl
theorem IsP.g {w0 w : World} {G : Heap} (hn : New w0 w G) (x y : HD × List Int) (h1 : goI x) (h2 : goI y) (hm : ∀ z ∈ gbI y ++ gbI x, z ∈ G) : IsP w (.agg #[gval x.1 x.2.length, gval y.1 y.2.length]) x.2 y.2 := by
  rw [gval_eq h1, gval_eq h2]
  exact IsP.mk (IntsAt.g hn (fun z hz => hm z (List.mem_append_right _ hz)) h1) (IntsAt.g hn (fun z hz => hm z (List.mem_append_left _ hz)) h2)
theorem lst_2 (t : Td) : (lstR t).2 = validI t := by
  unfold lstR
  by_cases h : validI t ≠ 0
  · rw [if_pos h]
  · rw [if_neg h, Decidable.of_not_not h]
theorem cst_2 (t : Td) (m : List (List Int)) : (cstR t m).2 = planI t m := by
  by_cases h : planI t m ≠ 0
  · rw [cst_1 h]
  · rw [cst_0 h, Decidable.of_not_not h]
theorem ib_e {t : Td} {m : List (List Int)} (h : VP t m) : ibR t m = (decide (costI t m = mnI t), 0) := by
  unfold ibR
  rw [if_neg (by rw [h.p]; decide)]
theorem num_gd {n : Nat} {xs : List Int} (h : xs.length = n) (h2 : ∀ i, i < n → -1000 ≤ xs.getD i 0 ∧ xs.getD i 0 ≤ 1000) : numB n (-1000) 1000 xs = true := by
  unfold numB
  rw [decide_eq_true (by omega), Bool.true_and]
  exact all_yes (d := 0) fun k hk => decide_eq_true (h2 k (by omega))
theorem prv_w {t : Td} {m : List (List Int)} {us vs : List Int} (hV : VP t m) (h : GdP t.s.length t.d.length (getM t.c) (getM m) us vs) : wthR t us vs = (mnI t, 0) := by
  have hv : ¬ validI t ≠ 0 := by rw [hV.toVT.v]; decide
  have hc : chkP t us vs = 0 := chk_0 hv (num_gd h.lu h.bu) (num_gd h.lv h.bv) fun i hi j hj => h.hon i j hi hj
  unfold wthR
  rw [if_neg (by rw [hc]; decide), wth_eq h.lu h.lv, mn_eq (best_mn hV h), cost_eq hV, Go.Tp.tight hV.pl h.ti]
theorem wth_mn {t : Td} {us vs : List Int} (hV : VT t) (h : (wthR t us vs).2 = 0) : (wthR t us vs).1 ≤ mnI t := by
  by_cases h2 : chkP t us vs ≠ 0
  · unfold wthR at h; rw [if_pos h2] at h; exact absurd h h2
  · have hV := vpr_of h2
    have e2 : wthR t us vs = (prodI us t.s + prodI vs t.d, 0) := if_neg h2
    rw [e2]
    have h3 := num_len hV.nu
    have h4 := num_len hV.nv
    have h5 := Mn.ge (mn_is hV.toVT) hV.hon
    rw [← wth_eq (by omega) (by omega)] at h5
    exact h5
theorem mn_le {t : Td} {m : List (List Int)} (h : VP t m) : mnI t ≤ costI t m := by
  rw [cost_eq h]
  exact Mn.le (mn_is h.toVT) h.pl
theorem lst_r {t : Td} : lstR t = (if validI t ≠ 0 then 0 else mnI t, validI t) := by
  unfold lstR
  by_cases h : validI t ≠ 0
  · rw [if_pos h, if_pos h]
  · rw [if_neg h, if_neg h, Decidable.of_not_not h]
theorem RdG.at' {m : List (List Int)} {x : Value × Heap} {v : Value} (e : x.1 = v) (h : RdG m x) {w0 w : World} {G : Heap} (hn : New w0 w G) (hm : ∀ y ∈ x.2, y ∈ G) : IsG w v m := e ▸ h.at hn hm
theorem ib_r (t : Td) (m : List (List Int)) : (ibR t m).2 = planI t m := by
  unfold ibR
  by_cases h : planI t m ≠ 0
  · rw [if_pos h]
  · rw [if_neg h, Decidable.of_not_not h]
theorem best_eq {t : Td} {m : List (List Int)} (h : planI t m = 0) : (ibR t m).1 = decide (costI t m = mnI t) ∧ mnI t ≤ costI t m ∧ validI t = 0 ∧ (cstR t m) = (costI t m, 0) ∧ lstR t = (mnI t, 0) := by
  have h0 : ¬ planI t m ≠ 0 := by rw [h]; decide
  have hV := vp_of h0
  refine ⟨by rw [ib_e hV], mn_le hV, hV.toVT.v, cst_0 h0, ?_⟩
  unfold lstR
  rw [if_neg (by rw [hV.toVT.v]; decide)]


set_option maxRecDepth 100000 in
set_option maxHeartbeats 2000000 in
theorem rLeast_ok (w0 : World) (vt : Value) (t : Td) (ht : IsT w0 vt t) (hT : SmT t) :
    Calls Try.prog 29 #[vt] w0 (Post (X := Unit) (fun _ => .tuple #[.int .i64 (lstR t).1, .int .i64 (lstR t).2]) (fun _ => True) (fun _ => []) w0) := by
  obtain ⟨p1, c1, p2, c2, p3, c3, rfl, t1, t2, t3⟩ := ht
  refine calls Try.func29 rfl (n := 14) rfl (by simp) ?_
  refine TC.seq ?_
  refine TC.region ?_
  refine TL.box rfl rfl (by decide) (fun b0 hb0 => ?_)
  refine TL.pure (PV.assign rfl) rfl (by decide) ?_
  refine TL.pure (PV.assign rfl) rfl (by decide) ?_
  refine TL.nil ?_
  refine TQ.thenC ?_
  refine TC.seq ?_
  refine TC.region ?_
  refine TL.pure (PV.loadBox rfl Tb.agg_25 (by repeat (first | exact List.Mem.head _ | refine List.Mem.tail _ ?_ | refine List.mem_append_right _ ?_)) rfl) rfl (by decide) ?_
  refine TL.call rfl Tb.gofn_22 (fun a w hs => rvalidate_ok w _ t (IsT.mk (t1.new hs.new) (t2.new hs.new) (t3.new hs.new)) hT) rfl (by decide) (fun _ _ => ?_)
  refine TL.pure (PV.assign rfl) rfl (by decide) ?_
  refine TL.nil ?_
  refine TQ.thenC ?_
  refine TC.seq ?_
  refine TC.seq ?_
  refine TC.region ?_
  refine TL.pure (PV.move rfl) rfl (by decide) ?_
  refine TL.pure (PV.neq rfl rfl) rfl (by decide) ?_
  refine TL.nil ?_
  refine TQ.thenC ?_
  first | refine TC.condD rfl (fun a1 => ?_) (fun a1 => ?_) | refine TC.cond rfl (fun a1 => ?_) (fun a1 => ?_)
  · skip
    refine TC.seq ?_
    refine TC.region ?_
    refine TL.pure (PV.move rfl) rfl (by decide) ?_
    refine TL.pure (PV.assign rfl) rfl (by decide) ?_
    refine TL.pure (PV.assign rfl) rfl (by decide) ?_
    refine TL.nil ?_
    refine TQ.thenC ?_
    refine TC.ret ?_
    refine TQ.thenR ?_
    refine TQ.retE2 rfl rfl rfl ?_
    exact ⟨(), by unfold lstR; rw [if_pos a1], trivial, List.nil_sublist _⟩
  · skip
    refine TC.skip ?_
    refine TQ.thenC ?_
    refine TC.seq ?_
    have hV := vt_of a1
    have hns := hV.ns
    have hnd := hV.nd
    refine TC.mixV [true, true, false, false, true, true] [(b0, Obj.cells #[.slice p1 t.s.length c1, .slice p2 t.d.length c2, .slice p3 t.c.length c3] 25 (0, 0))] 6 Tb.mixed rfl (by kernel_rfl) (by kernel_rfl) (by kernel_rfl) (by kernel_rfl) (by repeat (first | exact List.Sublist.slnil | exact List.nil_sublist _ | exact List.Sublist.refl _ | refine List.Sublist.cons_cons _ ?_ | refine List.Sublist.cons _ ?_ | refine List.Sublist.trans ?_ (List.sublist_append_right _ _))) ?_
    refine TV.virt 0 rfl rfl (by decide) rfl (by kernel_rfl) (SOK.pure (PV.loadBox rfl Tb.agg_25 (by repeat (first | exact List.Mem.head _ | refine List.Mem.tail _ ?_ | refine List.mem_append_right _ ?_)) rfl) rfl) ?_
    refine TV.virt 1 rfl rfl (by decide) rfl (by kernel_rfl) (SOK.pure (PV.loadBox rfl Tb.agg_25 (by repeat (first | exact List.Mem.head _ | refine List.Mem.tail _ ?_ | refine List.mem_append_right _ ?_)) rfl) rfl) ?_
    refine TV.step [2] (by kernel_rfl) (by decide) rfl ⟨⟨_, rfl, ?_⟩, trivial⟩
    refine TL.call rfl Tb.gofn_69 (fun a w hs => rbest_ok w _ t (IsT.mk (t1.new hs.new) (t2.new hs.new) (t3.new hs.new)) hV) rfl (by decide) (fun y9 hy9 => ?_)
    refine TL.nil ?_
    refine TV.next (.inl (by repeat (first | exact List.Sublist.slnil | exact List.nil_sublist _ | exact List.Sublist.refl _ | refine List.Sublist.cons_cons _ ?_ | refine List.Sublist.cons _ ?_ | refine List.Sublist.trans ?_ (List.sublist_append_right _ _)))) ?_
    refine TV.step [3] (by kernel_rfl) (by decide) rfl ⟨⟨_, rfl, ?_⟩, trivial⟩
    refine TL.call rfl Tb.gofn_56 (fun a w hs => rcost_ok w _ t (IsT.mk (t1.new hs.new) (t2.new hs.new) (t3.new hs.new)) _ y9.1 (hy9.2.1.at hs.new (fun yy hyy => by repeat (first | exact List.mem_append_left _ hyy | exact List.mem_append_left _ (List.mem_append_right _ hyy) | exact List.mem_append_left _ (List.mem_append_left _ hyy) | refine List.mem_append_right _ ?_ | refine List.Mem.tail _ ?_))) hV.c hy9.1.g (by omega) (by omega)) rfl (by decide) (fun _ _ => ?_)
    refine TL.nil ?_
    refine TV.next (.inl (by repeat (first | exact List.Sublist.slnil | exact List.nil_sublist _ | exact List.Sublist.refl _ | refine List.Sublist.cons_cons _ ?_ | refine List.Sublist.cons _ ?_ | refine List.Sublist.trans ?_ (List.sublist_append_right _ _)))) ?_
    refine TV.virt 4 rfl rfl (by decide) rfl (by kernel_rfl) (SOK.pure (PV.assign rfl) rfl) ?_
    refine TV.virt 5 rfl rfl (by decide) rfl (by kernel_rfl) (SOK.pure (PV.assign rfl) rfl) ?_
    refine TV.done (by kernel_rfl) ?_
    refine TQ.thenC ?_
    refine TC.ret ?_
    refine TQ.retE2 rfl rfl rfl ?_
    exact ⟨(), by unfold lstR; rw [if_neg a1, hy9.2.2], trivial, List.nil_sublist _⟩

set_option maxRecDepth 100000 in
set_option maxHeartbeats 2000000 in
theorem rIsBest_ok (w0 : World) (vt : Value) (t : Td) (ht : IsT w0 vt t) (hT : SmT t) (vg : Value) (m : List (List Int)) (hg : IsG w0 vg m) (hM : SmG m) :
    Calls Try.prog 32 #[vt, vg] w0 (Post (X := Unit) (fun _ => .tuple #[.bool (ibR t m).1, .int .i64 (ibR t m).2]) (fun _ => True) (fun _ => []) w0) := by
  obtain ⟨p1, c1, p2, c2, p3, c3, rfl, t1, t2, t3⟩ := ht
  obtain ⟨pg, cg, rfl, g1⟩ := hg
  refine calls Try.func32 rfl (n := 21) rfl (by simp) ?_
  refine TC.seq ?_
  refine TC.region ?_
  refine TL.box rfl rfl (by decide) (fun b0 hb0 => ?_)
  refine TL.pure (PV.assign rfl) rfl (by decide) ?_
  refine TL.pure (PV.assign rfl) rfl (by decide) ?_
  refine TL.nil ?_
  refine TQ.thenC ?_
  refine TC.seq ?_
  refine TC.region ?_
  refine TL.pure (PV.loadBox rfl Tb.agg_25 (by repeat (first | exact List.Mem.head _ | refine List.Mem.tail _ ?_ | refine List.mem_append_right _ ?_)) rfl) rfl (by decide) ?_
  refine TL.pure (PV.move rfl) rfl (by decide) ?_
  refine TL.call rfl Tb.gofn_24 (fun a w hs => rcheckPlan_ok w _ t (IsT.mk (t1.new hs.new) (t2.new hs.new) (t3.new hs.new)) hT _ m (IsG.of (g1.new hs.new)) hM) rfl (by decide) (fun _ _ => ?_)
  refine TL.pure (PV.assign rfl) rfl (by decide) ?_
  refine TL.nil ?_
  refine TQ.thenC ?_
  refine TC.seq ?_
  refine TC.seq ?_
  refine TC.region ?_
  refine TL.pure (PV.move rfl) rfl (by decide) ?_
  refine TL.pure (PV.neq rfl rfl) rfl (by decide) ?_
  refine TL.nil ?_
  refine TQ.thenC ?_
  first | refine TC.condD rfl (fun a1 => ?_) (fun a1 => ?_) | refine TC.cond rfl (fun a1 => ?_) (fun a1 => ?_)
  · skip
    refine TC.seq ?_
    refine TC.region ?_
    refine TL.pure (PV.move rfl) rfl (by decide) ?_
    refine TL.pure (PV.assign rfl) rfl (by decide) ?_
    refine TL.pure (PV.assign rfl) rfl (by decide) ?_
    refine TL.nil ?_
    refine TQ.thenC ?_
    refine TC.ret ?_
    refine TQ.thenR ?_
    refine TQ.retE2 rfl rfl rfl ?_
    first | exact ⟨(), by unfold ibR; rw [if_pos a1], trivial, List.nil_sublist _⟩ | exact ⟨(), by rw [ib_e hV, hy9.2.2], trivial, List.nil_sublist _⟩
  · skip
    refine TC.skip ?_
    refine TQ.thenC ?_
    refine TC.seq ?_
    have hV := vp_of a1
    have hns := hV.ns
    have hnd := hV.nd
    refine TC.mixV [true, true, false, true, true, false, false, true, true, true] [(b0, Obj.cells #[.slice p1 t.s.length c1, .slice p2 t.d.length c2, .slice p3 t.c.length c3] 25 (0, 0))] 10 Tb.mixed rfl (by kernel_rfl) (by kernel_rfl) (by kernel_rfl) (by kernel_rfl) (by repeat (first | exact List.Sublist.slnil | exact List.nil_sublist _ | exact List.Sublist.refl _ | refine List.Sublist.cons_cons _ ?_ | refine List.Sublist.cons _ ?_ | refine List.Sublist.trans ?_ (List.sublist_append_right _ _))) ?_
    refine TV.virt 0 rfl rfl (by decide) rfl (by kernel_rfl) (SOK.pure (PV.loadBox rfl Tb.agg_25 (by repeat (first | exact List.Mem.head _ | refine List.Mem.tail _ ?_ | refine List.mem_append_right _ ?_)) rfl) rfl) ?_
    refine TV.virt 1 rfl rfl (by decide) rfl (by kernel_rfl) (SOK.pure (PV.move rfl) rfl) ?_
    refine TV.virt 3 rfl rfl (by decide) rfl (by kernel_rfl) (SOK.pure (PV.loadBox rfl Tb.agg_25 (by repeat (first | exact List.Mem.head _ | refine List.Mem.tail _ ?_ | refine List.mem_append_right _ ?_)) rfl) rfl) ?_
    refine TV.virt 4 rfl rfl (by decide) rfl (by kernel_rfl) (SOK.pure (PV.loadBox rfl Tb.agg_25 (by repeat (first | exact List.Mem.head _ | refine List.Mem.tail _ ?_ | refine List.mem_append_right _ ?_)) rfl) rfl) ?_
    refine TV.step [2] (by kernel_rfl) (by decide) rfl ⟨⟨_, rfl, ?_⟩, trivial⟩
    refine TL.call rfl Tb.gofn_56 (fun a w hs => rcost_ok w _ t (IsT.mk (t1.new hs.new) (t2.new hs.new) (t3.new hs.new)) _ m (IsG.of (g1.new hs.new)) hV.c hV.g (by omega) (by omega)) rfl (by decide) (fun _ _ => ?_)
    refine TL.nil ?_
    refine TV.next (.inl (by repeat (first | exact List.Sublist.slnil | exact List.nil_sublist _ | exact List.Sublist.refl _ | refine List.Sublist.cons_cons _ ?_ | refine List.Sublist.cons _ ?_ | refine List.Sublist.trans ?_ (List.sublist_append_right _ _)))) ?_
    refine TV.step [5] (by kernel_rfl) (by decide) rfl ⟨⟨_, rfl, ?_⟩, trivial⟩
    refine TL.call rfl Tb.gofn_69 (fun a w hs => rbest_ok w _ t (IsT.mk (t1.new hs.new) (t2.new hs.new) (t3.new hs.new)) hV.toVT) rfl (by decide) (fun y9 hy9 => ?_)
    refine TL.nil ?_
    refine TV.next (.inl (by repeat (first | exact List.Sublist.slnil | exact List.nil_sublist _ | exact List.Sublist.refl _ | refine List.Sublist.cons_cons _ ?_ | refine List.Sublist.cons _ ?_ | refine List.Sublist.trans ?_ (List.sublist_append_right _ _)))) ?_
    refine TV.step [6] (by kernel_rfl) (by decide) rfl ⟨⟨_, rfl, ?_⟩, trivial⟩
    refine TL.call rfl Tb.gofn_56 (fun a w hs => rcost_ok w _ t (IsT.mk (t1.new hs.new) (t2.new hs.new) (t3.new hs.new)) _ y9.1 (hy9.2.1.at hs.new (fun yy hyy => by repeat (first | exact List.mem_append_left _ hyy | exact List.mem_append_left _ (List.mem_append_right _ hyy) | exact List.mem_append_left _ (List.mem_append_left _ hyy) | refine List.mem_append_right _ ?_ | refine List.Mem.tail _ ?_))) hV.c hy9.1.g (by omega) (by omega)) rfl (by decide) (fun _ _ => ?_)
    refine TL.nil ?_
    refine TV.next (.inl (by repeat (first | exact List.Sublist.slnil | exact List.nil_sublist _ | exact List.Sublist.refl _ | refine List.Sublist.cons_cons _ ?_ | refine List.Sublist.cons _ ?_ | refine List.Sublist.trans ?_ (List.sublist_append_right _ _)))) ?_
    refine TV.virt 7 rfl rfl (by decide) rfl (by kernel_rfl) (SOK.pure (PV.eql rfl rfl) rfl) ?_
    refine TV.virt 8 rfl rfl (by decide) rfl (by kernel_rfl) (SOK.pure (PV.assign rfl) rfl) ?_
    refine TV.virt 9 rfl rfl (by decide) rfl (by kernel_rfl) (SOK.pure (PV.assign rfl) rfl) ?_
    refine TV.done (by kernel_rfl) ?_
    refine TQ.thenC ?_
    refine TC.ret ?_
    refine TQ.retE2 rfl rfl rfl ?_
    first | exact ⟨(), by unfold ibR; rw [if_pos a1], trivial, List.nil_sublist _⟩ | exact ⟨(), by rw [ib_e hV, hy9.2.2], trivial, List.nil_sublist _⟩

end Go.Proofs.Ytghlkndanpegbaa
