/- What the chapters say together: contract. -/
import Derived.Test.YtghlkndanpegbaaBs2
set_option linter.unusedVariables false
set_option linter.unusedSimpArgs false
namespace Go.Proofs.Ytghlkndanpegbaa
open Go.Sx Go.RowKit Go.Sand Go.Tp

theorem LsG.len1 {m : List (List Int)} (h : m.length ≤ 9223372036854775807) (k : Nat) : (([m] : List (List (List Int))).getD k []).length ≤ 9223372036854775807 := by
  match k with
  | 0 => exact h
  | k + 1 => simp [List.getD]
theorem len0 (k : Nat) : (([] : List (List (List Int))).getD k []).length ≤ 9223372036854775807 := by simp [List.getD]
theorem rd_rl {S B : Nat} {l : List Pr} {g : Nat → Nat × Nat} (hr : Rnd S B l.length g) (e : ∀ k, k < l.length → prS l k = ⟨((g k).1 : Nat), ((g k).2 : Nat)⟩) : RdP l := by
  have hf := hr.four
  have he := hr.even
  refine ⟨hf, he, fun k hk => ⟨?_, fun q hq h => ?_⟩⟩
  · unfold adjP
    rcases Nat.mod_two_eq_zero_or_one k with h2 | h2
    · rw [if_pos h2]
      have h3 : k + 1 < l.length := by omega
      rw [Nat.mod_eq_of_lt h3, e k hk, e (k + 1) h3]
      have := hr.a0 (k / 2) (by omega)
      rw [show 2 * (k / 2) = k by omega] at this
      simp only [this]
    · rw [if_neg (by omega)]
      by_cases h3 : k + 1 < l.length
      · rw [Nat.mod_eq_of_lt h3, e k hk, e (k + 1) h3]
        have := hr.a1 (k / 2) (by omega)
        rw [show 2 * (k / 2) + 1 = k by omega, show 2 * (k / 2) + 2 = k + 1 by omega] at this
        simp only [this]
      · have h4 : k + 1 = l.length := by omega
        rw [h4, Nat.mod_self, e k hk, e 0 (by omega)]
        have := hr.cl
        rw [show l.length - 1 = k by omega] at this
        simp only [this]
  · rw [e q (by omega), e k hk] at h
    refine hr.dis q k hq hk ?_
    have h1 := congrArg Pr.p h
    have h2 := congrArg Pr.q h
    simp only at h1 h2
    exact Prod.ext (by omega) (by omega)
theorem gd_gl {S B : Nat} {c x : Mat} {l : List Pr} {g : Nat → Nat × Nat} (h : GdR S B c x l g) : RdP l ∧ (l.any fun r => !inP S B r) = false ∧ GdR S B c x l (gl l) := by
  have e : ∀ k, k < l.length → prS l k = ⟨((g k).1 : Nat), ((g k).2 : Nat)⟩ := fun k hk => by
    have h1 : prS l k = prS (prL l.length g) k := by rw [← h.e]
    rw [h1]
    exact mkL_at _ hk
  have e2 : ∀ k, k < l.length → gl l k = g k := fun k hk => by
    unfold gl
    rw [e k hk]
    exact Prod.ext (Int.toNat_natCast _) (Int.toNat_natCast _)
  have hr := rd_rl h.r e
  have ha : (l.any fun r => !inP S B r) = false := any_no (d := default) fun k hk => by
    have h1 := h.r.bd k hk
    show (!inP S B (prS l k)) = false
    rw [e k hk]
    unfold inP
    rw [decide_eq_true (by simp only; omega), decide_eq_true (by simp only; omega)]
    rfl
  refine ⟨hr, ha, gl_prL ha, rd_rnd ha hr, h.l8, ?_, fun m hm => by rw [e2 _ hm]; exact h.odd m hm⟩
  have h1 := h.neg
  have e3 : rcst c l.length (gl l) = rcst c l.length g := sm_congr fun k hk => by rw [e2 k hk]
  rw [e3]
  exact h1
theorem alo_step {t : Td} {m : List (List Int)} {l : List Pr} (hV : VP t m) (h : ∃ g, GdR t.s.length t.d.length (getM t.c) (getM m) l g) : (aloR t m l).2.2 = 0 ∧ 1 ≤ (aloR t m l).2.1 ∧ VP t (aloR t m l).1 ∧ costI t (aloR t m l).1 < costI t m ∧ l.length ≤ 8 := by
  obtain ⟨g, hg⟩ := h
  obtain ⟨hr, ha, hg2⟩ := gd_gl hg
  have h8 := hg.l8
  have e0 : rndI t l = 0 := by unfold rndI; rw [if_neg (by omega), if_neg (by rw [ha]; decide), if_pos (rd_y hr)]
  have e9 : aloR t m l = (aloT t.s.length t.d.length m l.length (gl l), amt (getM m) (gl l) l.length, 0) := by unfold aloR; rw [if_neg (by rw [hV.p]; decide), if_neg (by rw [e0]; decide)]
  obtain ⟨h1, h2, h3⟩ := step_vp hV hg2
  rw [e9]
  exact ⟨rfl, by show 1 ≤ amt _ _ _; omega, h2, h3, h8⟩
theorem round_vp (w0 : World) (vt : Value) (t : Td) (ht : IsT w0 vt t) (hT : SmT t) (vg : Value) (m : List (List Int)) (hg : IsG w0 vg m) (hM : SmG m) (hV : VP t m) :
    Calls Try.prog 40 #[vt, vg] w0 (Post (X := HD × List Pr) (fun y => .tuple #[gval y.1 y.2.length, .bool (!decide (costI t m = mnI t)), .int .i64 0]) (fun y => goR prR y.1 y.2 ∧ (costI t m ≠ mnI t → ∃ g, GdR t.s.length t.d.length (getM t.c) (getM m) y.2 g)) (fun y => gbR prR 84 y.1 y.2) w0) := by
  refine (Round_ok w0 vt t ht hT vg m hg hM).mono fun e w' h => ?_
  obtain ⟨y, h1, h2, h3⟩ := h
  match y, h1, h2, h3 with
  | none, h1, h2, h3 =>
    have h4 : costI t m = mnI t := by
      rcases h2 with h2 | h2
      · exact absurd hV.p h2
      · exact h2.2
    refine ⟨(none, []), ?_, ⟨⟨rfl, rfl⟩, fun h => absurd h4 h⟩, h3⟩
    rw [h1, hV.p, decide_eq_true h4]
    rfl
  | some z, h1, h2, h3 =>
    obtain ⟨_, h5, g, h6⟩ := h2
    have h4 : costI t m ≠ mnI t := not_best hV h6 (mn_is hV.toVT)
    refine ⟨z, ?_, ⟨h5, fun _ => ⟨g, h6⟩⟩, h3⟩
    rw [h1, decide_eq_false h4]
    rfl
theorem IsP.g {w0 w : World} {G : Heap} (hn : New w0 w G) (x y : HD × List Int) (h1 : goI x) (h2 : goI y) (hm : ∀ z ∈ gbI y ++ gbI x, z ∈ G) : IsP w (.agg #[gval x.1 x.2.length, gval y.1 y.2.length]) x.2 y.2 := by
  rw [gval_eq h1, gval_eq h2]
  exact IsP.mk (IntsAt.g hn (fun z hz => hm z (List.mem_append_right _ hz)) h1) (IntsAt.g hn (fun z hz => hm z (List.mem_append_left _ hz)) h2)
theorem lst_2 (t : Td) : (lstR t).2 = validI t := by
  unfold lstR
  by_cases h : validI t ≠ 0
  · rw [if_pos h]
  · rw [if_neg h, Decidable.of_not_not h]
theorem cst_2 (t : Td) (m : List (List Int)) : (cstR t m).2 = planI t m := by
  by_cases h : planI t m ≠ 0
  · rw [cst_1 h]
  · rw [cst_0 h, Decidable.of_not_not h]
theorem ib_e {t : Td} {m : List (List Int)} (h : VP t m) : ibR t m = (decide (costI t m = mnI t), 0) := by
  unfold ibR
  rw [if_neg (by rw [h.p]; decide)]
theorem num_gd {n : Nat} {xs : List Int} (h : xs.length = n) (h2 : ∀ i, i < n → -1000 ≤ xs.getD i 0 ∧ xs.getD i 0 ≤ 1000) : numB n (-1000) 1000 xs = true := by
  unfold numB
  rw [decide_eq_true (by omega), Bool.true_and]
  exact all_yes (d := 0) fun k hk => decide_eq_true (h2 k (by omega))
theorem prv_w {t : Td} {m : List (List Int)} {us vs : List Int} (hV : VP t m) (h : GdP t.s.length t.d.length (getM t.c) (getM m) us vs) : wthR t us vs = (mnI t, 0) := by
  have hv : ¬ validI t ≠ 0 := by rw [hV.toVT.v]; decide
  have hc : chkP t us vs = 0 := chk_0 hv (num_gd h.lu h.bu) (num_gd h.lv h.bv) fun i hi j hj => h.hon i j hi hj
  unfold wthR
  rw [if_neg (by rw [hc]; decide), wth_eq h.lu h.lv, mn_eq (best_mn hV h), cost_eq hV, Go.Tp.tight hV.pl h.ti]
theorem wth_mn {t : Td} {us vs : List Int} (hV : VT t) (h : (wthR t us vs).2 = 0) : (wthR t us vs).1 ≤ mnI t := by
  by_cases h2 : chkP t us vs ≠ 0
  · unfold wthR at h; rw [if_pos h2] at h; exact absurd h h2
  · have hV := vpr_of h2
    have e2 : wthR t us vs = (prodI us t.s + prodI vs t.d, 0) := if_neg h2
    rw [e2]
    have h3 := num_len hV.nu
    have h4 := num_len hV.nv
    have h5 := Mn.ge (mn_is hV.toVT) hV.hon
    rw [← wth_eq (by omega) (by omega)] at h5
    exact h5
theorem mn_le {t : Td} {m : List (List Int)} (h : VP t m) : mnI t ≤ costI t m := by
  rw [cost_eq h]
  exact Mn.le (mn_is h.toVT) h.pl
def exU : Td := ⟨[2], [2], [[3]]⟩
theorem eu_v : VT exU := vt_of (by decide +kernel)
theorem eu_p : VP exU [[2]] := vp_of (by decide +kernel)
theorem eu_chk : chkP exU [3] [0] = 0 := chk_0 (by decide +kernel) (by decide +kernel) (by decide +kernel) (by decide +kernel)
theorem eu_m : mnI exU = 6 := mn_eq (Mn.of2 (u := fun i => [(3 : Int)].getD i 0) (v := fun j => [(0 : Int)].getD j 0) eu_p.pl (vpr_of (by rw [eu_chk]; decide)).hon (by decide +kernel) (by decide +kernel))
theorem eu_l : lstR exU = (6, 0) := by unfold lstR; rw [if_neg (by rw [eu_v.v]; decide), eu_m]
theorem ints1 {w0 w : World} {G : Heap} {b : Nat} {x : Int} (hn : New w0 w G) (hm : (b, Obj.cells #[.int .i64 x] 3 (0, 0)) ∈ G) : IntsAt w (some ⟨b, 0, none⟩) [x] := IntsAt.arr (xs := [x]) hn (by simpa [intsA] using hm)
theorem eu_t {w0 w : World} {G : Heap} {a b c e : Nat} (hn : New w0 w G) (h1 : (a, Obj.cells #[.int .i64 2] 3 (0, 0)) ∈ G) (h2 : (b, Obj.cells #[.int .i64 2] 3 (0, 0)) ∈ G) (h3 : (c, Obj.cells #[.int .i64 3] 3 (0, 0)) ∈ G) (h5 : (e, Obj.cells #[.slice (some ⟨c, 0, none⟩) 1 1] 22 (0, 0)) ∈ G) :
    IsT w (.agg #[.slice (some ⟨a, 0, none⟩) 1 1, .slice (some ⟨b, 0, none⟩) 1 1, .slice (some ⟨e, 0, none⟩) 1 1]) exU :=
  IsT.mk (t := exU) (ints1 hn h1) (ints1 hn h2) (LsAt.one (xs := [3]) hn h5 (ints1 hn h3))
theorem fill_td' (x y z : Option Addr) (a b c d e f : Nat) : Instr.fill ([(0, 1), (1, 1), (2, 1)][·]?) #[.slice none 0 0, .slice none 0 0, .slice none 0 0] [(0, .slice x a b), (1, .slice y c d), (2, .slice z e f)] = some #[.slice x a b, .slice y c d, .slice z e f] := by kernel_rfl
theorem eu_sm : SmT exU := ⟨by decide, by decide, by decide, fun k => by
  match k with
  | 0 => decide
  | k + 1 => simp [exU, List.getD]⟩


set_option maxRecDepth 100000 in
set_option maxHeartbeats 16000000 in
theorem topPlans_ok (w0 : World) (vt : Value) (t : Td) (ht : IsT w0 vt t) (hlc : t.c.length ≤ 9223372036854775807) (vg : Value) (m : List (List Int)) (hg : IsG w0 vg m) (hlm : m.length ≤ 9223372036854775807) (vp : Value) (us vs : List Int) (hp : IsP w0 vp us vs) :
    Calls Try.prog 16 #[vt, vg, vp] w0 (Post (X := Unit) (fun _ => .bool true) (fun _ => True) (fun _ => []) w0) := by
  obtain ⟨p1, c1, p2, c2, p3, c3, rfl, t1, t2, t3⟩ := ht
  have hg0 := hg
  obtain ⟨pg, cg, rfl, g1⟩ := hg
  obtain ⟨pu, cu, pv, cv, rfl, hpu, hpv⟩ := hp
  refine calls Try.func16 rfl (n := 200) rfl (by simp) ?_
  refine TC.seq ?_
  refine TC.region ?_
  refine TL.box rfl rfl (by decide) (fun b0 hb0 => ?_)
  refine TL.box rfl rfl (by decide) (fun b1 hb1 => ?_)
  refine TL.pure (PV.assign rfl) rfl (by decide) ?_
  refine TL.nil ?_
  refine TQ.thenC ?_
  refine TC.seq ?_
  refine TC.region ?_
  refine TL.buildSlice (cs := #[.int .i64 (2)]) rfl Tb.sl_22 Tb.zi_3 (by decide) (fill_i _) (by decide) rfl (by decide) (fun ba hba => ?_)
  refine TL.buildSlice (cs := #[.int .i64 (2)]) rfl Tb.sl_22 Tb.zi_3 (by decide) (fill_i _) (by decide) rfl (by decide) (fun bb hbb => ?_)
  refine TL.buildSlice (cs := #[.int .i64 (3)]) rfl Tb.sl_22 Tb.zi_3 (by decide) (fill_i _) (by decide) rfl (by decide) (fun bc hbc => ?_)
  refine TL.buildSlice (cs := #[.slice (some ⟨bc, 0, none⟩) 1 1]) rfl Tb.sl_23 Tb.zi_22 (by decide) (fill_o _ _ _) (by decide) rfl (by decide) (fun be hbe => ?_)
  refine TL.pure (PV.build rfl Tb.zero_25 Tb.pl_25 (fill_td' _ _ _ _ _ _ _ _ _)) rfl (by decide) ?_
  refine TL.call rfl Tb.gofn_28 (fun a w hs => Least_ok w _ exU (eu_t (a := ba) (b := bb) (c := bc) (e := be) hs.new (by (try simp only [List.cons_append, List.nil_append, List.append_assoc]); repeat (first | exact List.Mem.head _ | refine List.Mem.tail _ ?_ | refine List.mem_append_right _ ?_)) (by (try simp only [List.cons_append, List.nil_append, List.append_assoc]); repeat (first | exact List.Mem.head _ | refine List.Mem.tail _ ?_ | refine List.mem_append_right _ ?_)) (by (try simp only [List.cons_append, List.nil_append, List.append_assoc]); repeat (first | exact List.Mem.head _ | refine List.Mem.tail _ ?_ | refine List.mem_append_right _ ?_)) (by (try simp only [List.cons_append, List.nil_append, List.append_assoc]); repeat (first | exact List.Mem.head _ | refine List.Mem.tail _ ?_ | refine List.mem_append_right _ ?_))) eu_sm) rfl (by decide) (fun _ _ => ?_)
  rw [eu_l]
  refine TL.pure (PV.move rfl) rfl (by decide) ?_
  refine TL.pure (PV.extract rfl rfl) rfl (by decide) ?_
  refine TL.pure (PV.extract rfl rfl) rfl (by decide) ?_
  refine TL.pure (PV.assign rfl) rfl (by decide) ?_
  refine TL.pure (PV.assign rfl) rfl (by decide) ?_
  refine TL.nil ?_
  refine TQ.thenC ?_
  refine TC.seq ?_
  refine TC.seq ?_
  refine TC.region ?_
  refine TL.pure (PV.move rfl) rfl (by decide) ?_
  refine TL.pure (PV.neq rfl rfl) rfl (by decide) ?_
  refine TL.pure (PV.move rfl) rfl (by decide) ?_
  first | refine TL.splitD 38 rfl (fun f0 => ?_) (fun f0 => ?_) | refine TL.split 38 rfl (fun f0 => ?_) (fun f0 => ?_)
  · skip
    refine TL.skip rfl (fun k hk => by cases hk; decide) ?_
    refine TL.skip rfl (fun k hk => by cases hk; decide) ?_
    refine TL.pure (PV.pickT rfl rfl) rfl (by decide) ?_
    refine TL.nil ?_
    refine TQ.thenC ?_
    refine TC.condT rfl ?_
    refine TC.seq ?_
    refine TC.region ?_
    refine TL.pure (PV.assign rfl) rfl (by decide) ?_
    refine TL.nil ?_
    refine TQ.thenC ?_
    refine TC.ret ?_
    refine TQ.thenR ?_
    refine TQ.retE1 rfl rfl ?_
    first | exact ⟨(), rfl, trivial, List.nil_sublist _⟩ | (exfalso; simp_all; done) | (exfalso; simp_all; omega) | (exfalso; simp only [decide_eq_true_eq, decide_eq_false_iff_not, ne_eq, Bool.not_eq_true, Bool.not_eq_false] at *; omega) | exact ⟨(), by simp, trivial, List.nil_sublist _⟩
  · skip
    refine TL.pure (PV.move rfl) rfl (by decide) ?_
    refine TL.pure (PV.neq rfl rfl) rfl (by decide) ?_
    refine TL.pure (PV.pickF rfl rfl) rfl (by decide) ?_
    refine TL.nil ?_
    refine TQ.thenC ?_
    first | refine TC.condD rfl (fun f1 => ?_) (fun f1 => ?_) | refine TC.cond rfl (fun f1 => ?_) (fun f1 => ?_)
    · skip
      refine TC.seq ?_
      refine TC.region ?_
      refine TL.pure (PV.assign rfl) rfl (by decide) ?_
      refine TL.nil ?_
      refine TQ.thenC ?_
      refine TC.ret ?_
      refine TQ.thenR ?_
      refine TQ.retE1 rfl rfl ?_
      first | exact ⟨(), rfl, trivial, List.nil_sublist _⟩ | (exfalso; simp_all; done) | (exfalso; simp_all; omega) | (exfalso; simp only [decide_eq_true_eq, decide_eq_false_iff_not, ne_eq, Bool.not_eq_true, Bool.not_eq_false] at *; omega) | exact ⟨(), by simp, trivial, List.nil_sublist _⟩
    · skip
      refine TC.skip ?_
      refine TQ.thenC ?_
      refine TC.seq ?_
      refine TC.seq ?_
      refine TC.region ?_
      refine TL.pure (PV.loadBox rfl Tb.agg_25 (by repeat (first | exact List.Mem.head _ | refine List.Mem.tail _ ?_ | refine List.mem_append_right _ ?_)) rfl) rfl (by decide) ?_
      refine TL.pure (PV.move rfl) rfl (by decide) ?_
      refine TL.buildSlice (cs := #[.slice pg m.length cg]) rfl Tb.sl_63 Tb.zi_23 (by decide) (fill_o _ _ _) (by decide) rfl (by decide) (fun bs hbs => ?_)
      refine TL.call rfl Tb.gofn_17 (fun a w hs => long_ok w _ t (IsT.mk (t1.new hs.new) (t2.new hs.new) (t3.new hs.new)) hlc (some ⟨bs, 0, none⟩) 1 [m] (LsG.one hs.new (by repeat (first | exact List.Mem.head _ | refine List.Mem.tail _ ?_ | refine List.mem_append_right _ ?_)) (g1.new hs.new)) (LsG.len1 hlm) (by show 1 ≤ 1000; decide)) rfl (by decide) (fun _ _ => ?_)
      refine TL.pure (PV.move rfl) rfl (by decide) ?_
      first | refine TL.splitD 46 rfl (fun hlg => ?_) (fun hlg => ?_) | refine TL.split 46 rfl (fun hlg => ?_) (fun hlg => ?_)
      · skip
        refine TL.skip rfl (fun k hk => by cases hk; decide) ?_
        refine TL.skip rfl (fun k hk => by cases hk; decide) ?_
        refine TL.skip rfl (fun k hk => by cases hk; decide) ?_
        refine TL.skip rfl (fun k hk => by cases hk; decide) ?_
        refine TL.pure (PV.pickT rfl rfl) rfl (by decide) ?_
        refine TL.pure (PV.move rfl) rfl (by decide) ?_
        refine TL.skip rfl (fun k hk => by cases hk; decide) ?_
        refine TL.skip rfl (fun k hk => by cases hk; decide) ?_
        refine TL.skip rfl (fun k hk => by cases hk; decide) ?_
        refine TL.skip rfl (fun k hk => by cases hk; decide) ?_
        refine TL.pure (PV.pickT rfl rfl) rfl (by decide) ?_
        refine TL.nil ?_
        refine TQ.thenC ?_
        refine TC.condT rfl ?_
        refine TC.seq ?_
        refine TC.region ?_
        refine TL.pure (PV.assign rfl) rfl (by decide) ?_
        refine TL.nil ?_
        refine TQ.thenC ?_
        refine TC.ret ?_
        refine TQ.thenR ?_
        refine TQ.retE1 rfl rfl ?_
        first | exact ⟨(), rfl, trivial, List.nil_sublist _⟩ | (exfalso; simp_all; done) | (exfalso; simp_all; omega) | (exfalso; simp only [decide_eq_true_eq, decide_eq_false_iff_not, ne_eq, Bool.not_eq_true, Bool.not_eq_false] at *; omega) | exact ⟨(), by simp, trivial, List.nil_sublist _⟩
      · skip
        refine TL.pure (PV.fieldAddr rfl Tb.fo_43_0) rfl (by decide) ?_
        refine TL.pure (PV.load rfl Tb.one_22 (by repeat (first | exact List.Mem.head _ | refine List.Mem.tail _ ?_ | refine List.mem_append_right _ ?_)) rfl) rfl (by decide) ?_
        refine TL.pure (PV.len rfl Tb.sl_22) rfl (by decide) ?_
        refine TL.pure (PV.gtr rfl rfl) rfl (by decide) ?_
        refine TL.pure (PV.pickF rfl rfl) rfl (by decide) ?_
        refine TL.pure (PV.move rfl) rfl (by decide) ?_
        first | refine TL.splitD 52 rfl (fun hl1 => ?_) (fun hl1 => ?_) | refine TL.split 52 rfl (fun hl1 => ?_) (fun hl1 => ?_)
        · skip
          refine TL.skip rfl (fun k hk => by cases hk; decide) ?_
          refine TL.skip rfl (fun k hk => by cases hk; decide) ?_
          refine TL.skip rfl (fun k hk => by cases hk; decide) ?_
          refine TL.skip rfl (fun k hk => by cases hk; decide) ?_
          refine TL.pure (PV.pickT rfl rfl) rfl (by decide) ?_
          refine TL.nil ?_
          refine TQ.thenC ?_
          refine TC.condT rfl ?_
          refine TC.seq ?_
          refine TC.region ?_
          refine TL.pure (PV.assign rfl) rfl (by decide) ?_
          refine TL.nil ?_
          refine TQ.thenC ?_
          refine TC.ret ?_
          refine TQ.thenR ?_
          refine TQ.retE1 rfl rfl ?_
          first | exact ⟨(), rfl, trivial, List.nil_sublist _⟩ | (exfalso; simp_all; done) | (exfalso; simp_all; omega) | (exfalso; simp only [decide_eq_true_eq, decide_eq_false_iff_not, ne_eq, Bool.not_eq_true, Bool.not_eq_false] at *; omega) | exact ⟨(), by simp, trivial, List.nil_sublist _⟩
        · skip
          refine TL.pure (PV.fieldAddr rfl Tb.fo_43_1) rfl (by decide) ?_
          refine TL.pure (PV.load rfl Tb.one_22 (by repeat (first | exact List.Mem.head _ | refine List.Mem.tail _ ?_ | refine List.mem_append_right _ ?_)) rfl) rfl (by decide) ?_
          refine TL.pure (PV.len rfl Tb.sl_22) rfl (by decide) ?_
          refine TL.pure (PV.gtr rfl rfl) rfl (by decide) ?_
          refine TL.pure (PV.pickF rfl rfl) rfl (by decide) ?_
          refine TL.nil ?_
          refine TQ.thenC ?_
          first | refine TC.condD rfl (fun hl2 => ?_) (fun hl2 => ?_) | refine TC.cond rfl (fun hl2 => ?_) (fun hl2 => ?_)
          · skip
            refine TC.seq ?_
            refine TC.region ?_
            refine TL.pure (PV.assign rfl) rfl (by decide) ?_
            refine TL.nil ?_
            refine TQ.thenC ?_
            refine TC.ret ?_
            refine TQ.thenR ?_
            refine TQ.retE1 rfl rfl ?_
            first | exact ⟨(), rfl, trivial, List.nil_sublist _⟩ | (exfalso; simp_all; done) | (exfalso; simp_all; omega) | (exfalso; simp only [decide_eq_true_eq, decide_eq_false_iff_not, ne_eq, Bool.not_eq_true, Bool.not_eq_false] at *; omega) | exact ⟨(), by simp, trivial, List.nil_sublist _⟩
          · skip
            refine TC.skip ?_
            refine TQ.thenC ?_
            refine TC.seq ?_
            have hT := (lgT_0 (by simpa using hlg)).1
            have hM := (lgT_0 (by simpa using hlg)).2 m (by simp)
            have hu : us.length ≤ 1000000 := by omega
            have hv : vs.length ≤ 1000000 := by omega
            refine TC.region ?_
            refine TL.pure (PV.loadBox rfl Tb.agg_25 (by repeat (first | exact List.Mem.head _ | refine List.Mem.tail _ ?_ | refine List.mem_append_right _ ?_)) rfl) rfl (by decide) ?_
            refine TL.call rfl Tb.gofn_28 (fun a w hs => Least_ok w _ t (IsT.mk (t1.new hs.new) (t2.new hs.new) (t3.new hs.new)) hT) rfl (by decide) (fun _ _ => ?_)
            rw [lst_2 t]
            refine TL.pure (PV.move rfl) rfl (by decide) ?_
            refine TL.pure (PV.extract rfl rfl) rfl (by decide) ?_
            refine TL.pure (PV.extract rfl rfl) rfl (by decide) ?_
            refine TL.pure (PV.assign rfl) rfl (by decide) ?_
            refine TL.pure (PV.assign rfl) rfl (by decide) ?_
            refine TL.nil ?_
            refine TQ.thenC ?_
            refine TC.seq ?_
            refine TC.region ?_
            refine TL.pure (PV.loadBox rfl Tb.agg_25 (by repeat (first | exact List.Mem.head _ | refine List.Mem.tail _ ?_ | refine List.mem_append_right _ ?_)) rfl) rfl (by decide) ?_
            refine TL.call rfl Tb.gofn_39 (fun a w hs => Prove_ok w _ t (IsT.mk (t1.new hs.new) (t2.new hs.new) (t3.new hs.new)) hT) rfl (by decide) (fun y9 hy9 => ?_)
            refine TL.pure (PV.move rfl) rfl (by decide) ?_
            refine TL.pure (PV.extract rfl rfl) rfl (by decide) ?_
            refine TL.pure (PV.extract rfl rfl) rfl (by decide) ?_
            refine TL.alloc Tb.zero_43 rfl (by decide) (fun bq hbq => ?_)
            refine TL.storeAgg (vs := [gval y9.1.1 y9.1.2.length, gval y9.2.1 y9.2.2.length]) rfl rfl Tb.cells_43 (by repeat (first | exact Upd.head _ | apply Upd.tail | apply Upd.appR)) rfl rfl (gv2_one _ _ _ _) rfl rfl ?_
            refine TL.pure (PV.assign rfl) rfl (by decide) ?_
            refine TL.nil ?_
            refine TQ.thenC ?_
            refine TC.seq ?_
            refine TC.seq ?_
            refine TC.region ?_
            refine TL.pure (PV.move rfl) rfl (by decide) ?_
            refine TL.pure (PV.move rfl) rfl (by decide) ?_
            refine TL.pure (PV.neq rfl rfl) rfl (by decide) ?_
            refine TL.nil ?_
            refine TQ.thenC ?_
            first | refine TC.condD rfl (fun f2 => ?_) (fun f2 => ?_) | refine TC.cond rfl (fun f2 => ?_) (fun f2 => ?_)
            · skip
              refine TC.seq ?_
              refine TC.region ?_
              refine TL.pure (PV.assign rfl) rfl (by decide) ?_
              refine TL.nil ?_
              refine TQ.thenC ?_
              refine TC.ret ?_
              refine TQ.thenR ?_
              refine TQ.retE1 rfl rfl ?_
              first | exact ⟨(), rfl, trivial, List.nil_sublist _⟩ | (exfalso; simp_all; done) | (exfalso; simp_all; omega) | (exfalso; simp only [decide_eq_true_eq, decide_eq_false_iff_not, ne_eq, Bool.not_eq_true, Bool.not_eq_false] at *; omega) | exact ⟨(), by simp, trivial, List.nil_sublist _⟩
            · skip
              refine TC.skip ?_
              refine TQ.thenC ?_
              refine TC.seq ?_
              refine TC.seq ?_
              refine TC.region ?_
              refine TL.pure (PV.move rfl) rfl (by decide) ?_
              refine TL.pure (PV.neq rfl rfl) rfl (by decide) ?_
              refine TL.nil ?_
              refine TQ.thenC ?_
              first | refine TC.condD rfl (fun a1 => ?_) (fun a1 => ?_) | refine TC.cond rfl (fun a1 => ?_) (fun a1 => ?_)
              · skip
                refine TC.seq ?_
                refine TC.region ?_
                refine TL.pure (PV.loadBox rfl Tb.agg_25 (by repeat (first | exact List.Mem.head _ | refine List.Mem.tail _ ?_ | refine List.mem_append_right _ ?_)) rfl) rfl (by decide) ?_
                refine TL.call rfl Tb.gofn_21 (fun a w hs => validate_ok w _ t (IsT.mk (t1.new hs.new) (t2.new hs.new) (t3.new hs.new)) hT) rfl (by decide) (fun _ _ => ?_)
                refine TL.pure (PV.move rfl) rfl (by decide) ?_
                refine TL.pure (PV.eql rfl rfl) rfl (by decide) ?_
                refine TL.pure (PV.assign rfl) rfl (by decide) ?_
                refine TL.nil ?_
                refine TQ.thenC ?_
                refine TC.ret ?_
                refine TQ.thenR ?_
                refine TQ.retE1 rfl rfl ?_
                first | exact ⟨(), rfl, trivial, List.nil_sublist _⟩ | (exfalso; simp_all; done) | (exfalso; simp_all; omega) | (exfalso; simp only [decide_eq_true_eq, decide_eq_false_iff_not, ne_eq, Bool.not_eq_true, Bool.not_eq_false] at *; omega) | exact ⟨(), by simp, trivial, List.nil_sublist _⟩
              · skip
                refine TC.skip ?_
                refine TQ.thenC ?_
                refine TC.seq ?_
                have hV := vt_of a1
                obtain ⟨m9, hm9, hp9⟩ : ∃ m, VP t m ∧ GdP t.s.length t.d.length (getM t.c) (getM m) y9.1.2 y9.2.2 := by have h := hy9.2.2; rwa [if_neg a1] at h
                have hpw := prv_w hm9 hp9
                have hns := hV.ns
                have hnd := hV.nd
                have hlu := hp9.lu
                have hlv := hp9.lv
                have el : (lstR t).1 = mnI t := by unfold lstR; rw [if_neg a1]
                rw [el]
                have hwl := wth_mn (us := us) (vs := vs) hV
                refine TC.region ?_
                refine TL.pure (PV.loadBox rfl Tb.agg_25 (by repeat (first | exact List.Mem.head _ | refine List.Mem.tail _ ?_ | refine List.mem_append_right _ ?_)) rfl) rfl (by decide) ?_
                refine TL.pure (PV.loadBox (cs := [gval y9.1.1 y9.1.2.length, gval y9.2.1 y9.2.2.length]) rfl Tb.agg_43 (by repeat (first | exact List.Mem.head _ | refine List.Mem.tail _ ?_ | refine List.mem_append_right _ ?_)) rfl) rfl (by decide) ?_
                refine TL.call rfl Tb.gofn_35 (fun a w hs => Worth_ok w _ t (IsT.mk (t1.new hs.new) (t2.new hs.new) (t3.new hs.new)) hT _ _ _ (IsP.g hs.new y9.1 y9.2 hy9.1 hy9.2.1 (fun yy hyy => by repeat (first | exact List.mem_append_left _ hyy | exact List.mem_append_left _ (List.mem_append_right _ hyy) | exact List.mem_append_left _ (List.mem_append_left _ hyy) | refine List.mem_append_right _ ?_ | refine List.Mem.tail _ ?_))) (by omega) (by omega)) rfl (by decide) (fun _ _ => ?_)
                rw [hpw]
                refine TL.pure (PV.move rfl) rfl (by decide) ?_
                refine TL.pure (PV.extract rfl rfl) rfl (by decide) ?_
                refine TL.pure (PV.extract rfl rfl) rfl (by decide) ?_
                refine TL.pure (PV.assign rfl) rfl (by decide) ?_
                refine TL.pure (PV.assign rfl) rfl (by decide) ?_
                refine TL.nil ?_
                refine TQ.thenC ?_
                refine TC.seq ?_
                refine TC.region ?_
                refine TL.pure (PV.loadBox rfl Tb.agg_25 (by repeat (first | exact List.Mem.head _ | refine List.Mem.tail _ ?_ | refine List.mem_append_right _ ?_)) rfl) rfl (by decide) ?_
                refine TL.pure (PV.loadBox rfl Tb.agg_43 (by repeat (first | exact List.Mem.head _ | refine List.Mem.tail _ ?_ | refine List.mem_append_right _ ?_)) rfl) rfl (by decide) ?_
                refine TL.call rfl Tb.gofn_35 (fun a w hs => Worth_ok w _ t (IsT.mk (t1.new hs.new) (t2.new hs.new) (t3.new hs.new)) hT _ us vs (IsP.mk (hpu.new hs.new) (hpv.new hs.new)) hu hv) rfl (by decide) (fun _ _ => ?_)
                refine TL.pure (PV.move rfl) rfl (by decide) ?_
                refine TL.pure (PV.extract rfl rfl) rfl (by decide) ?_
                refine TL.pure (PV.extract rfl rfl) rfl (by decide) ?_
                refine TL.pure (PV.assign rfl) rfl (by decide) ?_
                refine TL.pure (PV.assign rfl) rfl (by decide) ?_
                refine TL.nil ?_
                refine TQ.thenC ?_
                refine TC.seq ?_
                refine TC.seq ?_
                refine TC.region ?_
                refine TL.pure (PV.move rfl) rfl (by decide) ?_
                refine TL.pure (PV.neq rfl rfl) rfl (by decide) ?_
                refine TL.pure (PV.move rfl) rfl (by decide) ?_
                first | refine TL.splitD 91 rfl (fun f3 => ?_) (fun f3 => ?_) | refine TL.split 91 rfl (fun f3 => ?_) (fun f3 => ?_)
                · skip
                  refine TL.skip rfl (fun k hk => by cases hk; decide) ?_
                  refine TL.skip rfl (fun k hk => by cases hk; decide) ?_
                  refine TL.skip rfl (fun k hk => by cases hk; decide) ?_
                  refine TL.pure (PV.pickT rfl rfl) rfl (by decide) ?_
                  refine TL.pure (PV.move rfl) rfl (by decide) ?_
                  refine TL.skip rfl (fun k hk => by cases hk; decide) ?_
                  refine TL.skip rfl (fun k hk => by cases hk; decide) ?_
                  refine TL.skip rfl (fun k hk => by cases hk; decide) ?_
                  refine TL.skipU rfl (fun k hk => by cases hk; decide) ?_
                  refine TL.skipU rfl (fun k hk => by cases hk; decide) ?_
                  refine TL.skipU rfl (fun k hk => by cases hk; decide) ?_
                  refine TL.skip rfl (fun k hk => by cases hk; decide) ?_
                  refine TL.pure (PV.pickT rfl rfl) rfl (by decide) ?_
                  refine TL.nil ?_
                  refine TQ.thenC ?_
                  refine TC.condT rfl ?_
                  refine TC.seq ?_
                  refine TC.region ?_
                  refine TL.pure (PV.assign rfl) rfl (by decide) ?_
                  refine TL.nil ?_
                  refine TQ.thenC ?_
                  refine TC.ret ?_
                  refine TQ.thenR ?_
                  refine TQ.retE1 rfl rfl ?_
                  first | exact ⟨(), rfl, trivial, List.nil_sublist _⟩ | (exfalso; simp_all; done) | (exfalso; simp_all; omega) | (exfalso; simp only [decide_eq_true_eq, decide_eq_false_iff_not, ne_eq, Bool.not_eq_true, Bool.not_eq_false] at *; omega) | exact ⟨(), by simp, trivial, List.nil_sublist _⟩
                · skip
                  refine TL.pure (PV.move rfl) rfl (by decide) ?_
                  refine TL.pure (PV.move rfl) rfl (by decide) ?_
                  refine TL.pure (PV.neq rfl rfl) rfl (by decide) ?_
                  refine TL.pure (PV.pickF rfl rfl) rfl (by decide) ?_
                  refine TL.pure (PV.move rfl) rfl (by decide) ?_
                  first | refine TL.splitD 96 rfl (fun f4 => ?_) (fun f4 => ?_) | refine TL.split 96 rfl (fun f4 => ?_) (fun f4 => ?_)
                  · skip
                    refine TL.skip rfl (fun k hk => by cases hk; decide) ?_
                    refine TL.skip rfl (fun k hk => by cases hk; decide) ?_
                    refine TL.skip rfl (fun k hk => by cases hk; decide) ?_
                    refine TL.skipU rfl (fun k hk => by cases hk; decide) ?_
                    refine TL.skipU rfl (fun k hk => by cases hk; decide) ?_
                    refine TL.skipU rfl (fun k hk => by cases hk; decide) ?_
                    refine TL.skip rfl (fun k hk => by cases hk; decide) ?_
                    refine TL.pure (PV.pickT rfl rfl) rfl (by decide) ?_
                    refine TL.nil ?_
                    refine TQ.thenC ?_
                    refine TC.condT rfl ?_
                    refine TC.seq ?_
                    refine TC.region ?_
                    refine TL.pure (PV.assign rfl) rfl (by decide) ?_
                    refine TL.nil ?_
                    refine TQ.thenC ?_
                    refine TC.ret ?_
                    refine TQ.thenR ?_
                    refine TQ.retE1 rfl rfl ?_
                    first | exact ⟨(), rfl, trivial, List.nil_sublist _⟩ | (exfalso; simp_all; done) | (exfalso; simp_all; omega) | (exfalso; simp only [decide_eq_true_eq, decide_eq_false_iff_not, ne_eq, Bool.not_eq_true, Bool.not_eq_false] at *; omega) | exact ⟨(), by simp, trivial, List.nil_sublist _⟩
                  · skip
                    refine TL.pure (PV.move rfl) rfl (by decide) ?_
                    refine TL.pure (PV.eql rfl rfl) rfl (by decide) ?_
                    refine TL.pure (PV.move rfl) rfl (by decide) ?_
                    first | refine TL.splitD 99 rfl (fun f5 => ?_) (fun f5 => ?_) | refine TL.split 99 rfl (fun f5 => ?_) (fun f5 => ?_)
                    · skip
                      refine TL.pure (PV.move rfl) rfl (by decide) ?_
                      refine TL.pure (PV.move rfl) rfl (by decide) ?_
                      refine TL.pure (PV.gtr rfl rfl) rfl (by decide) ?_
                      refine TL.pure (PV.pickT rfl rfl) rfl (by decide) ?_
                      refine TL.pure (PV.pickF rfl rfl) rfl (by decide) ?_
                      refine TL.nil ?_
                      refine TQ.thenC ?_
                      first | refine TC.condD rfl (fun f6 => ?_) (fun f6 => ?_) | refine TC.cond rfl (fun f6 => ?_) (fun f6 => ?_)
                      · skip
                        refine TC.seq ?_
                        refine TC.region ?_
                        refine TL.pure (PV.assign rfl) rfl (by decide) ?_
                        refine TL.nil ?_
                        refine TQ.thenC ?_
                        refine TC.ret ?_
                        refine TQ.thenR ?_
                        refine TQ.retE1 rfl rfl ?_
                        first | exact ⟨(), rfl, trivial, List.nil_sublist _⟩ | (exfalso; simp_all; done) | (exfalso; simp_all; omega) | (exfalso; simp only [decide_eq_true_eq, decide_eq_false_iff_not, ne_eq, Bool.not_eq_true, Bool.not_eq_false] at *; omega) | exact ⟨(), by simp, trivial, List.nil_sublist _⟩
                      · skip
                        refine TC.skip ?_
                        refine TQ.thenC ?_
                        refine TC.seq ?_
                        refine TC.region ?_
                        refine TL.pure (PV.loadBox rfl Tb.agg_25 (by repeat (first | exact List.Mem.head _ | refine List.Mem.tail _ ?_ | refine List.mem_append_right _ ?_)) rfl) rfl (by decide) ?_
                        refine TL.pure (PV.move rfl) rfl (by decide) ?_
                        refine TL.call rfl Tb.gofn_19 (fun a w hs => Cost_ok w _ t (IsT.mk (t1.new hs.new) (t2.new hs.new) (t3.new hs.new)) hT _ m (IsG.of (g1.new hs.new)) hM) rfl (by decide) (fun _ _ => ?_)
                        rw [cst_2 t m]
                        refine TL.pure (PV.move rfl) rfl (by decide) ?_
                        refine TL.pure (PV.extract rfl rfl) rfl (by decide) ?_
                        refine TL.pure (PV.extract rfl rfl) rfl (by decide) ?_
                        refine TL.pure (PV.assign rfl) rfl (by decide) ?_
                        refine TL.pure (PV.assign rfl) rfl (by decide) ?_
                        refine TL.nil ?_
                        refine TQ.thenC ?_
                        refine TC.seq ?_
                        refine TC.seq ?_
                        refine TC.region ?_
                        refine TL.pure (PV.move rfl) rfl (by decide) ?_
                        refine TL.pure (PV.neq rfl rfl) rfl (by decide) ?_
                        refine TL.nil ?_
                        refine TQ.thenC ?_
                        first | refine TC.condD rfl (fun a2 => ?_) (fun a2 => ?_) | refine TC.cond rfl (fun a2 => ?_) (fun a2 => ?_)
                        · skip
                          refine TC.seq ?_
                          refine TC.region ?_
                          refine TL.pure (PV.loadBox rfl Tb.agg_25 (by repeat (first | exact List.Mem.head _ | refine List.Mem.tail _ ?_ | refine List.mem_append_right _ ?_)) rfl) rfl (by decide) ?_
                          refine TL.pure (PV.move rfl) rfl (by decide) ?_
                          refine TL.call rfl Tb.gofn_23 (fun a w hs => checkPlan_ok w _ t (IsT.mk (t1.new hs.new) (t2.new hs.new) (t3.new hs.new)) hT _ m (IsG.of (g1.new hs.new)) hM) rfl (by decide) (fun _ _ => ?_)
                          refine TL.pure (PV.move rfl) rfl (by decide) ?_
                          refine TL.pure (PV.eql rfl rfl) rfl (by decide) ?_
                          refine TL.pure (PV.assign rfl) rfl (by decide) ?_
                          refine TL.nil ?_
                          refine TQ.thenC ?_
                          refine TC.ret ?_
                          refine TQ.thenR ?_
                          refine TQ.retE1 rfl rfl ?_
                          first | exact ⟨(), rfl, trivial, List.nil_sublist _⟩ | (exfalso; simp_all; done) | (exfalso; simp_all; omega) | (exfalso; simp only [decide_eq_true_eq, decide_eq_false_iff_not, ne_eq, Bool.not_eq_true, Bool.not_eq_false] at *; omega) | exact ⟨(), by simp, trivial, List.nil_sublist _⟩
                        · skip
                          refine TC.skip ?_
                          refine TQ.thenC ?_
                          refine TC.seq ?_
                          refine TC.seq ?_
                          have hVP := vp_of a2
                          have ec : (cstR t m).1 = costI t m := by rw [cst_0 a2]
                          rw [ec]
                          have hml := mn_le hVP
                          refine TC.region ?_
                          refine TL.pure (PV.move rfl) rfl (by decide) ?_
                          refine TL.pure (PV.eql rfl rfl) rfl (by decide) ?_
                          refine TL.pure (PV.move rfl) rfl (by decide) ?_
                          first | refine TL.splitD 120 rfl (fun f7 => ?_) (fun f7 => ?_) | refine TL.split 120 rfl (fun f7 => ?_) (fun f7 => ?_)
                          · skip
                            refine TL.pure (PV.move rfl) rfl (by decide) ?_
                            refine TL.pure (PV.move rfl) rfl (by decide) ?_
                            refine TL.pure (PV.gtr rfl rfl) rfl (by decide) ?_
                            refine TL.pure (PV.pickT rfl rfl) rfl (by decide) ?_
                            refine TL.nil ?_
                            refine TQ.thenC ?_
                            first | refine TC.condD rfl (fun f8 => ?_) (fun f8 => ?_) | refine TC.cond rfl (fun f8 => ?_) (fun f8 => ?_)
                            · skip
                              refine TC.seq ?_
                              refine TC.region ?_
                              refine TL.pure (PV.assign rfl) rfl (by decide) ?_
                              refine TL.nil ?_
                              refine TQ.thenC ?_
                              refine TC.ret ?_
                              refine TQ.thenR ?_
                              refine TQ.retE1 rfl rfl ?_
                              first | exact ⟨(), rfl, trivial, List.nil_sublist _⟩ | (exfalso; simp_all; done) | (exfalso; simp_all; omega) | (exfalso; simp only [decide_eq_true_eq, decide_eq_false_iff_not, ne_eq, Bool.not_eq_true, Bool.not_eq_false] at *; omega) | exact ⟨(), by simp, trivial, List.nil_sublist _⟩
                            · skip
                              refine TC.skip ?_
                              refine TQ.thenC ?_
                              refine TC.seq ?_
                              refine TC.region ?_
                              refine TL.pure (PV.assign rfl) rfl (by decide) ?_
                              refine TL.nil ?_
                              refine TQ.thenC ?_
                              refine TC.block ?_
                              -- live and written in the loop, not told: [6]
                              refine TC.loopK [3, 9] (X := Nat × List (List Int) × (Value × Heap)) (fun x => x.1 ≤ 41 ∧ VP t x.2.1 ∧ ∀ w G, New w0 w G → (∀ y ∈ x.2.2.2, y ∈ G) → IsG w x.2.2.1 x.2.1) (fun x => [(16, .int .i64 (x.1 : Nat)), (1, x.2.2.1), (15, .int .i64 (costI t x.2.1))]) (fun x => x.2.2.2 ++ [(b0, Obj.cells #[.slice p1 t.s.length c1, .slice p2 t.d.length c2, .slice p3 t.c.length c3] 25 (0, 0))]) (fun x => 41 - x.1) (0, m, (.slice pg m.length cg, [])) ⟨Nat.zero_le _, hVP, fun w G hn _ => hg0.new hn⟩ (by repeat (first | exact True.intro | refine And.intro rfl ?_)) (List.singleton_sublist.2 (by repeat (first | exact List.Mem.head _ | refine List.Mem.tail _ ?_ | refine List.mem_append_right _ ?_))) ?_
                              intro x hx9
                              refine TC.seq ?_
                              refine TC.block ?_
                              refine TC.seq ?_
                              have hsm := hx9.2.1.g.sm hT.s hT.d
                              have hxl := mn_le hx9.2.1
                              refine TC.region ?_
                              refine TL.pure (PV.loadBox rfl Tb.agg_25 (by repeat (first | exact List.Mem.head _ | refine List.Mem.tail _ ?_ | refine List.mem_append_right _ ?_)) rfl) rfl (by decide) ?_
                              refine TL.pure (PV.move rfl) rfl (by decide) ?_
                              refine TL.call rfl Tb.gofn_31 (fun a w hs => IsBest_ok w _ t (IsT.mk (t1.new hs.new) (t2.new hs.new) (t3.new hs.new)) hT _ x.2.1 (hx9.2.2 w _ hs.new (fun yy hyy => by repeat (first | exact List.mem_append_left _ hyy | exact List.mem_append_left _ (List.mem_append_right _ hyy) | exact List.mem_append_left _ (List.mem_append_left _ hyy) | refine List.mem_append_right _ ?_ | refine List.Mem.tail _ ?_))) hsm) rfl (by decide) (fun _ _ => ?_)
                              rw [ib_e hx9.2.1]
                              refine TL.pure (PV.move rfl) rfl (by decide) ?_
                              refine TL.pure (PV.extract rfl rfl) rfl (by decide) ?_
                              refine TL.pure (PV.extract rfl rfl) rfl (by decide) ?_
                              refine TL.pure (PV.assign rfl) rfl (by decide) ?_
                              refine TL.pure (PV.assign rfl) rfl (by decide) ?_
                              refine TL.nil ?_
                              refine TQ.thenC ?_
                              refine TC.seq ?_
                              refine TC.region ?_
                              refine TL.pure (PV.loadBox rfl Tb.agg_25 (by repeat (first | exact List.Mem.head _ | refine List.Mem.tail _ ?_ | refine List.mem_append_right _ ?_)) rfl) rfl (by decide) ?_
                              refine TL.pure (PV.move rfl) rfl (by decide) ?_
                              refine TL.call rfl Tb.gofn_40 (fun a w hs => round_vp w _ t (IsT.mk (t1.new hs.new) (t2.new hs.new) (t3.new hs.new)) hT _ x.2.1 (hx9.2.2 w _ hs.new (fun yy hyy => by repeat (first | exact List.mem_append_left _ hyy | exact List.mem_append_left _ (List.mem_append_right _ hyy) | exact List.mem_append_left _ (List.mem_append_left _ hyy) | refine List.mem_append_right _ ?_ | refine List.Mem.tail _ ?_))) hsm hx9.2.1) rfl (by decide) (fun yr hyr => ?_)
                              rw [gval_eq hyr.1]
                              refine TL.pure (PV.move rfl) rfl (by decide) ?_
                              refine TL.pure (PV.extract rfl rfl) rfl (by decide) ?_
                              refine TL.pure (PV.extract rfl rfl) rfl (by decide) ?_
                              refine TL.pure (PV.extract rfl rfl) rfl (by decide) ?_
                              refine TL.pure (PV.assign rfl) rfl (by decide) ?_
                              refine TL.pure (PV.assign rfl) rfl (by decide) ?_
                              refine TL.pure (PV.assign rfl) rfl (by decide) ?_
                              refine TL.nil ?_
                              refine TQ.thenC ?_
                              refine TC.seq ?_
                              refine TC.seq ?_
                              refine TC.region ?_
                              refine TL.pure (PV.move rfl) rfl (by decide) ?_
                              refine TL.pure (PV.neq rfl rfl) rfl (by decide) ?_
                              refine TL.pure (PV.move rfl) rfl (by decide) ?_
                              first | refine TL.splitD 142 rfl (fun f9 => ?_) (fun f9 => ?_) | refine TL.split 142 rfl (fun f9 => ?_) (fun f9 => ?_)
                              · skip
                                refine TL.skip rfl (fun k hk => by cases hk; decide) ?_
                                refine TL.skip rfl (fun k hk => by cases hk; decide) ?_
                                refine TL.pure (PV.pickT rfl rfl) rfl (by decide) ?_
                                refine TL.pure (PV.move rfl) rfl (by decide) ?_
                                refine TL.skip rfl (fun k hk => by cases hk; decide) ?_
                                refine TL.skip rfl (fun k hk => by cases hk; decide) ?_
                                refine TL.skip rfl (fun k hk => by cases hk; decide) ?_
                                refine TL.pure (PV.pickT rfl rfl) rfl (by decide) ?_
                                refine TL.pure (PV.move rfl) rfl (by decide) ?_
                                refine TL.skip rfl (fun k hk => by cases hk; decide) ?_
                                refine TL.skip rfl (fun k hk => by cases hk; decide) ?_
                                refine TL.skip rfl (fun k hk => by cases hk; decide) ?_
                                refine TL.skip rfl (fun k hk => by cases hk; decide) ?_
                                refine TL.skip rfl (fun k hk => by cases hk; decide) ?_
                                refine TL.pure (PV.pickT rfl rfl) rfl (by decide) ?_
                                refine TL.pure (PV.move rfl) rfl (by decide) ?_
                                refine TL.skip rfl (fun k hk => by cases hk; decide) ?_
                                refine TL.skip rfl (fun k hk => by cases hk; decide) ?_
                                refine TL.skip rfl (fun k hk => by cases hk; decide) ?_
                                refine TL.pure (PV.pickT rfl rfl) rfl (by decide) ?_
                                refine TL.nil ?_
                                refine TQ.thenC ?_
                                refine TC.condT rfl ?_
                                refine TC.seq ?_
                                refine TC.region ?_
                                refine TL.pure (PV.assign rfl) rfl (by decide) ?_
                                refine TL.nil ?_
                                refine TQ.thenC ?_
                                refine TC.ret ?_
                                refine TQ.thenR ?_
                                refine TQ.blkR ?_
                                refine TQ.thenR ?_
                                refine TQ.thenR ?_
                                refine TQ.blkR ?_
                                refine TQ.retE1 rfl rfl ?_
                                first | exact ⟨(), rfl, trivial, List.nil_sublist _⟩ | (exfalso; simp_all; done) | (exfalso; simp_all; omega) | (exfalso; simp only [decide_eq_true_eq, decide_eq_false_iff_not, ne_eq, Bool.not_eq_true, Bool.not_eq_false] at *; omega) | exact ⟨(), by simp, trivial, List.nil_sublist _⟩
                              · skip
                                refine TL.pure (PV.move rfl) rfl (by decide) ?_
                                refine TL.pure (PV.neq rfl rfl) rfl (by decide) ?_
                                refine TL.pure (PV.pickF rfl rfl) rfl (by decide) ?_
                                refine TL.pure (PV.move rfl) rfl (by decide) ?_
                                first | refine TL.splitD 146 rfl (fun k1 => ?_) (fun k1 => ?_) | refine TL.split 146 rfl (fun k1 => ?_) (fun k1 => ?_)
                                · skip
                                  refine TL.skip rfl (fun k hk => by cases hk; decide) ?_
                                  refine TL.skip rfl (fun k hk => by cases hk; decide) ?_
                                  refine TL.skip rfl (fun k hk => by cases hk; decide) ?_
                                  refine TL.pure (PV.pickT rfl rfl) rfl (by decide) ?_
                                  refine TL.pure (PV.move rfl) rfl (by decide) ?_
                                  refine TL.skip rfl (fun k hk => by cases hk; decide) ?_
                                  refine TL.skip rfl (fun k hk => by cases hk; decide) ?_
                                  refine TL.skip rfl (fun k hk => by cases hk; decide) ?_
                                  refine TL.skip rfl (fun k hk => by cases hk; decide) ?_
                                  refine TL.skip rfl (fun k hk => by cases hk; decide) ?_
                                  refine TL.pure (PV.pickT rfl rfl) rfl (by decide) ?_
                                  refine TL.pure (PV.move rfl) rfl (by decide) ?_
                                  refine TL.skip rfl (fun k hk => by cases hk; decide) ?_
                                  refine TL.skip rfl (fun k hk => by cases hk; decide) ?_
                                  refine TL.skip rfl (fun k hk => by cases hk; decide) ?_
                                  refine TL.pure (PV.pickT rfl rfl) rfl (by decide) ?_
                                  refine TL.nil ?_
                                  refine TQ.thenC ?_
                                  refine TC.condT rfl ?_
                                  refine TC.seq ?_
                                  refine TC.region ?_
                                  refine TL.pure (PV.assign rfl) rfl (by decide) ?_
                                  refine TL.nil ?_
                                  refine TQ.thenC ?_
                                  refine TC.ret ?_
                                  refine TQ.thenR ?_
                                  refine TQ.blkR ?_
                                  refine TQ.thenR ?_
                                  refine TQ.thenR ?_
                                  refine TQ.blkR ?_
                                  refine TQ.retE1 rfl rfl ?_
                                  first | exact ⟨(), rfl, trivial, List.nil_sublist _⟩ | (exfalso; simp_all; done) | (exfalso; simp_all; omega) | (exfalso; simp only [decide_eq_true_eq, decide_eq_false_iff_not, ne_eq, Bool.not_eq_true, Bool.not_eq_false] at *; omega) | exact ⟨(), by simp, trivial, List.nil_sublist _⟩
                                · skip
                                  refine TL.pure (PV.move rfl) rfl (by decide) ?_
                                  refine TL.pure (PV.move rfl) rfl (by decide) ?_
                                  refine TL.pure (PV.eqlB rfl rfl Tb.bool_4) rfl (by decide) ?_
                                  refine TL.pure (PV.pickF rfl rfl) rfl (by decide) ?_
                                  refine TL.pure (PV.move rfl) rfl (by decide) ?_
                                  first | refine TL.splitD 151 rfl (fun k2 => ?_) (fun k2 => ?_) | refine TL.split 151 rfl (fun k2 => ?_) (fun k2 => ?_)
                                  · skip
                                    refine TL.skip rfl (fun k hk => by cases hk; decide) ?_
                                    refine TL.skip rfl (fun k hk => by cases hk; decide) ?_
                                    refine TL.skip rfl (fun k hk => by cases hk; decide) ?_
                                    refine TL.skip rfl (fun k hk => by cases hk; decide) ?_
                                    refine TL.skip rfl (fun k hk => by cases hk; decide) ?_
                                    refine TL.pure (PV.pickT rfl rfl) rfl (by decide) ?_
                                    refine TL.pure (PV.move rfl) rfl (by decide) ?_
                                    refine TL.skip rfl (fun k hk => by cases hk; decide) ?_
                                    refine TL.skip rfl (fun k hk => by cases hk; decide) ?_
                                    refine TL.skip rfl (fun k hk => by cases hk; decide) ?_
                                    refine TL.pure (PV.pickT rfl rfl) rfl (by decide) ?_
                                    refine TL.nil ?_
                                    refine TQ.thenC ?_
                                    refine TC.condT rfl ?_
                                    refine TC.seq ?_
                                    refine TC.region ?_
                                    refine TL.pure (PV.assign rfl) rfl (by decide) ?_
                                    refine TL.nil ?_
                                    refine TQ.thenC ?_
                                    refine TC.ret ?_
                                    refine TQ.thenR ?_
                                    refine TQ.blkR ?_
                                    refine TQ.thenR ?_
                                    refine TQ.thenR ?_
                                    refine TQ.blkR ?_
                                    refine TQ.retE1 rfl rfl ?_
                                    first | exact ⟨(), rfl, trivial, List.nil_sublist _⟩ | (exfalso; simp_all; done) | (exfalso; simp_all; omega) | (exfalso; simp only [decide_eq_true_eq, decide_eq_false_iff_not, ne_eq, Bool.not_eq_true, Bool.not_eq_false] at *; omega) | exact ⟨(), by simp, trivial, List.nil_sublist _⟩
                                  · skip
                                    refine TL.pure (PV.move rfl) rfl (by decide) ?_
                                    refine TL.pure (PV.move rfl) rfl (by decide) ?_
                                    refine TL.pure (PV.move rfl) rfl (by decide) ?_
                                    refine TL.pure (PV.eql rfl rfl) rfl (by decide) ?_
                                    refine TL.pure (PV.neqB rfl rfl Tb.bool_4) rfl (by decide) ?_
                                    refine TL.pure (PV.pickF rfl rfl) rfl (by decide) ?_
                                    refine TL.pure (PV.move rfl) rfl (by decide) ?_
                                    first | refine TL.splitD 158 rfl (fun k3 => ?_) (fun k3 => ?_) | refine TL.split 158 rfl (fun k3 => ?_) (fun k3 => ?_)
                                    · skip
                                      refine TL.skip rfl (fun k hk => by cases hk; decide) ?_
                                      refine TL.skip rfl (fun k hk => by cases hk; decide) ?_
                                      refine TL.skip rfl (fun k hk => by cases hk; decide) ?_
                                      refine TL.pure (PV.pickT rfl rfl) rfl (by decide) ?_
                                      refine TL.nil ?_
                                      refine TQ.thenC ?_
                                      refine TC.condT rfl ?_
                                      refine TC.seq ?_
                                      refine TC.region ?_
                                      refine TL.pure (PV.assign rfl) rfl (by decide) ?_
                                      refine TL.nil ?_
                                      refine TQ.thenC ?_
                                      refine TC.ret ?_
                                      refine TQ.thenR ?_
                                      refine TQ.blkR ?_
                                      refine TQ.thenR ?_
                                      refine TQ.thenR ?_
                                      refine TQ.blkR ?_
                                      refine TQ.retE1 rfl rfl ?_
                                      first | exact ⟨(), rfl, trivial, List.nil_sublist _⟩ | (exfalso; simp_all; done) | (exfalso; simp_all; omega) | (exfalso; simp only [decide_eq_true_eq, decide_eq_false_iff_not, ne_eq, Bool.not_eq_true, Bool.not_eq_false] at *; omega) | exact ⟨(), by simp, trivial, List.nil_sublist _⟩
                                    · skip
                                      refine TL.pure (PV.move rfl) rfl (by decide) ?_
                                      refine TL.pure (PV.move rfl) rfl (by decide) ?_
                                      refine TL.pure (PV.lss rfl rfl) rfl (by decide) ?_
                                      refine TL.pure (PV.pickF rfl rfl) rfl (by decide) ?_
                                      refine TL.nil ?_
                                      refine TQ.thenC ?_
                                      first | refine TC.condD rfl (fun k4 => ?_) (fun k4 => ?_) | refine TC.cond rfl (fun k4 => ?_) (fun k4 => ?_)
                                      · skip
                                        refine TC.seq ?_
                                        refine TC.region ?_
                                        refine TL.pure (PV.assign rfl) rfl (by decide) ?_
                                        refine TL.nil ?_
                                        refine TQ.thenC ?_
                                        refine TC.ret ?_
                                        refine TQ.thenR ?_
                                        refine TQ.blkR ?_
                                        refine TQ.thenR ?_
                                        refine TQ.thenR ?_
                                        refine TQ.blkR ?_
                                        refine TQ.retE1 rfl rfl ?_
                                        first | exact ⟨(), rfl, trivial, List.nil_sublist _⟩ | (exfalso; simp_all; done) | (exfalso; simp_all; omega) | (exfalso; simp only [decide_eq_true_eq, decide_eq_false_iff_not, ne_eq, Bool.not_eq_true, Bool.not_eq_false] at *; omega) | exact ⟨(), by simp, trivial, List.nil_sublist _⟩
                                      · skip
                                        refine TC.skip ?_
                                        refine TQ.thenC ?_
                                        refine TC.seq ?_
                                        refine TC.seq ?_
                                        refine TC.region ?_
                                        refine TL.pure (PV.move rfl) rfl (by decide) ?_
                                        refine TL.pure (PV.move rfl) rfl (by decide) ?_
                                        first | refine TL.splitD 164 rfl (fun k5 => ?_) (fun k5 => ?_) | refine TL.split 164 rfl (fun k5 => ?_) (fun k5 => ?_)
                                        · skip
                                          refine TL.skip rfl (fun k hk => by cases hk; decide) ?_
                                          refine TL.skip rfl (fun k hk => by cases hk; decide) ?_
                                          refine TL.pure (PV.pickT rfl rfl) rfl (by decide) ?_
                                          refine TL.nil ?_
                                          refine TQ.thenC ?_
                                          refine TC.condT rfl ?_
                                          refine TC.seq ?_
                                          refine TC.region ?_
                                          refine TL.pure (PV.assign rfl) rfl (by decide) ?_
                                          refine TL.nil ?_
                                          refine TQ.thenC ?_
                                          refine TC.ret ?_
                                          refine TQ.thenR ?_
                                          refine TQ.blkR ?_
                                          refine TQ.thenR ?_
                                          refine TQ.thenR ?_
                                          refine TQ.blkR ?_
                                          refine TQ.retE1 rfl rfl ?_
                                          first | exact ⟨(), rfl, trivial, List.nil_sublist _⟩ | (exfalso; simp_all; done) | (exfalso; simp_all; omega) | (exfalso; simp only [decide_eq_true_eq, decide_eq_false_iff_not, ne_eq, Bool.not_eq_true, Bool.not_eq_false] at *; omega) | exact ⟨(), by simp, trivial, List.nil_sublist _⟩
                                        · skip
                                          refine TL.pure (PV.move rfl) rfl (by decide) ?_
                                          refine TL.pure (PV.gtr rfl rfl) rfl (by decide) ?_
                                          refine TL.pure (PV.pickF rfl rfl) rfl (by decide) ?_
                                          refine TL.nil ?_
                                          refine TQ.thenC ?_
                                          first | refine TC.condD rfl (fun k6 => ?_) (fun k6 => ?_) | refine TC.cond rfl (fun k6 => ?_) (fun k6 => ?_)
                                          · skip
                                            refine TC.seq ?_
                                            refine TC.region ?_
                                            refine TL.pure (PV.assign rfl) rfl (by decide) ?_
                                            refine TL.nil ?_
                                            refine TQ.thenC ?_
                                            refine TC.ret ?_
                                            refine TQ.thenR ?_
                                            refine TQ.blkR ?_
                                            refine TQ.thenR ?_
                                            refine TQ.thenR ?_
                                            refine TQ.blkR ?_
                                            refine TQ.retE1 rfl rfl ?_
                                            first | exact ⟨(), rfl, trivial, List.nil_sublist _⟩ | (exfalso; simp_all; done) | (exfalso; simp_all; omega) | (exfalso; simp only [decide_eq_true_eq, decide_eq_false_iff_not, ne_eq, Bool.not_eq_true, Bool.not_eq_false] at *; omega) | exact ⟨(), by simp, trivial, List.nil_sublist _⟩
                                          · skip
                                            refine TC.skip ?_
                                            refine TQ.thenC ?_
                                            refine TC.seq ?_
                                            have hne : costI t x.2.1 ≠ mnI t := by simpa using k5
                                            obtain ⟨s1, s2, s3, s4, s5⟩ := alo_step hx9.2.1 (hyr.2 hne)
                                            refine TC.region ?_
                                            refine TL.pure (PV.loadBox rfl Tb.agg_25 (by repeat (first | exact List.Mem.head _ | refine List.Mem.tail _ ?_ | refine List.mem_append_right _ ?_)) rfl) rfl (by decide) ?_
                                            refine TL.pure (PV.move rfl) rfl (by decide) ?_
                                            refine TL.pure (PV.move rfl) rfl (by decide) ?_
                                            refine TL.call rfl Tb.gofn_43 (fun a w hs => Along_ok w _ t (IsT.mk (t1.new hs.new) (t2.new hs.new) (t3.new hs.new)) hT _ x.2.1 (hx9.2.2 w _ hs.new (fun yy hyy => by repeat (first | exact List.mem_append_left _ hyy | exact List.mem_append_left _ (List.mem_append_right _ hyy) | exact List.mem_append_left _ (List.mem_append_left _ hyy) | refine List.mem_append_right _ ?_ | refine List.Mem.tail _ ?_))) hsm (gp yr.1) (gc yr.1) yr.2 (RecsAt.s hs.new (fun yy hyy => by repeat (first | exact List.mem_append_left _ hyy | exact List.mem_append_left _ (List.mem_append_right _ hyy) | exact List.mem_append_left _ (List.mem_append_left _ hyy) | refine List.mem_append_right _ ?_ | refine List.Mem.tail _ ?_)) hyr.1) (by omega) (gok_cap hyr.1)) rfl (by decide) (fun ya hya => ?_)
                                            rw [s1]
                                            refine TL.pure (PV.move rfl) rfl (by decide) ?_
                                            refine TL.pure (PV.extract rfl rfl) rfl (by decide) ?_
                                            refine TL.pure (PV.extract rfl rfl) rfl (by decide) ?_
                                            refine TL.pure (PV.extract rfl rfl) rfl (by decide) ?_
                                            refine TL.pure (PV.assign rfl) rfl (by decide) ?_
                                            refine TL.pure (PV.assign rfl) rfl (by decide) ?_
                                            refine TL.pure (PV.assign rfl) rfl (by decide) ?_
                                            refine TL.nil ?_
                                            refine TQ.thenC ?_
                                            refine TC.seq ?_
                                            refine TC.region ?_
                                            refine TL.pure (PV.loadBox rfl Tb.agg_25 (by repeat (first | exact List.Mem.head _ | refine List.Mem.tail _ ?_ | refine List.mem_append_right _ ?_)) rfl) rfl (by decide) ?_
                                            refine TL.pure (PV.move rfl) rfl (by decide) ?_
                                            refine TL.call rfl Tb.gofn_19 (fun a w hs => Cost_ok w _ t (IsT.mk (t1.new hs.new) (t2.new hs.new) (t3.new hs.new)) hT _ _ (hya.at hs.new (fun yy hyy => by repeat (first | exact List.mem_append_left _ hyy | exact List.mem_append_left _ (List.mem_append_right _ hyy) | exact List.mem_append_left _ (List.mem_append_left _ hyy) | refine List.mem_append_right _ ?_ | refine List.Mem.tail _ ?_))) (s3.g.sm hT.s hT.d)) rfl (by decide) (fun _ _ => ?_)
                                            rw [cst_0 (show ¬ planI t _ ≠ 0 by rw [s3.p]; decide)]
                                            refine TL.pure (PV.move rfl) rfl (by decide) ?_
                                            refine TL.pure (PV.extract rfl rfl) rfl (by decide) ?_
                                            refine TL.pure (PV.extract rfl rfl) rfl (by decide) ?_
                                            refine TL.pure (PV.assign rfl) rfl (by decide) ?_
                                            refine TL.pure (PV.assign rfl) rfl (by decide) ?_
                                            refine TL.nil ?_
                                            refine TQ.thenC ?_
                                            refine TC.seq ?_
                                            refine TC.seq ?_
                                            refine TC.region ?_
                                            refine TL.pure (PV.move rfl) rfl (by decide) ?_
                                            refine TL.pure (PV.neq rfl rfl) rfl (by decide) ?_
                                            refine TL.pure (PV.move rfl) rfl (by decide) ?_
                                            first | refine TL.splitD 184 rfl (fun k7 => ?_) (fun k7 => ?_) | refine TL.split 184 rfl (fun k7 => ?_) (fun k7 => ?_)
                                            · skip
                                              refine TL.skip rfl (fun k hk => by cases hk; decide) ?_
                                              refine TL.skip rfl (fun k hk => by cases hk; decide) ?_
                                              refine TL.pure (PV.pickT rfl rfl) rfl (by decide) ?_
                                              refine TL.pure (PV.move rfl) rfl (by decide) ?_
                                              refine TL.skip rfl (fun k hk => by cases hk; decide) ?_
                                              refine TL.skip rfl (fun k hk => by cases hk; decide) ?_
                                              refine TL.pure (PV.pickT rfl rfl) rfl (by decide) ?_
                                              refine TL.pure (PV.move rfl) rfl (by decide) ?_
                                              refine TL.skip rfl (fun k hk => by cases hk; decide) ?_
                                              refine TL.skip rfl (fun k hk => by cases hk; decide) ?_
                                              refine TL.skip rfl (fun k hk => by cases hk; decide) ?_
                                              refine TL.pure (PV.pickT rfl rfl) rfl (by decide) ?_
                                              refine TL.nil ?_
                                              refine TQ.thenC ?_
                                              refine TC.condT rfl ?_
                                              refine TC.seq ?_
                                              refine TC.region ?_
                                              refine TL.pure (PV.assign rfl) rfl (by decide) ?_
                                              refine TL.nil ?_
                                              refine TQ.thenC ?_
                                              refine TC.ret ?_
                                              refine TQ.thenR ?_
                                              refine TQ.blkR ?_
                                              refine TQ.thenR ?_
                                              refine TQ.thenR ?_
                                              refine TQ.blkR ?_
                                              refine TQ.retE1 rfl rfl ?_
                                              first | exact ⟨(), rfl, trivial, List.nil_sublist _⟩ | (exfalso; simp_all; done) | (exfalso; simp_all; omega) | (exfalso; simp only [decide_eq_true_eq, decide_eq_false_iff_not, ne_eq, Bool.not_eq_true, Bool.not_eq_false] at *; omega) | exact ⟨(), by simp, trivial, List.nil_sublist _⟩
                                            · skip
                                              refine TL.pure (PV.move rfl) rfl (by decide) ?_
                                              refine TL.pure (PV.neq rfl rfl) rfl (by decide) ?_
                                              refine TL.pure (PV.pickF rfl rfl) rfl (by decide) ?_
                                              refine TL.pure (PV.move rfl) rfl (by decide) ?_
                                              first | refine TL.splitD 188 rfl (fun k8 => ?_) (fun k8 => ?_) | refine TL.split 188 rfl (fun k8 => ?_) (fun k8 => ?_)
                                              · skip
                                                refine TL.skip rfl (fun k hk => by cases hk; decide) ?_
                                                refine TL.skip rfl (fun k hk => by cases hk; decide) ?_
                                                refine TL.pure (PV.pickT rfl rfl) rfl (by decide) ?_
                                                refine TL.pure (PV.move rfl) rfl (by decide) ?_
                                                refine TL.skip rfl (fun k hk => by cases hk; decide) ?_
                                                refine TL.skip rfl (fun k hk => by cases hk; decide) ?_
                                                refine TL.skip rfl (fun k hk => by cases hk; decide) ?_
                                                refine TL.pure (PV.pickT rfl rfl) rfl (by decide) ?_
                                                refine TL.nil ?_
                                                refine TQ.thenC ?_
                                                refine TC.condT rfl ?_
                                                refine TC.seq ?_
                                                refine TC.region ?_
                                                refine TL.pure (PV.assign rfl) rfl (by decide) ?_
                                                refine TL.nil ?_
                                                refine TQ.thenC ?_
                                                refine TC.ret ?_
                                                refine TQ.thenR ?_
                                                refine TQ.blkR ?_
                                                refine TQ.thenR ?_
                                                refine TQ.thenR ?_
                                                refine TQ.blkR ?_
                                                refine TQ.retE1 rfl rfl ?_
                                                first | exact ⟨(), rfl, trivial, List.nil_sublist _⟩ | (exfalso; simp_all; done) | (exfalso; simp_all; omega) | (exfalso; simp only [decide_eq_true_eq, decide_eq_false_iff_not, ne_eq, Bool.not_eq_true, Bool.not_eq_false] at *; omega) | exact ⟨(), by simp, trivial, List.nil_sublist _⟩
                                              · skip
                                                refine TL.pure (PV.move rfl) rfl (by decide) ?_
                                                refine TL.pure (PV.lss rfl rfl) rfl (by decide) ?_
                                                refine TL.pure (PV.pickF rfl rfl) rfl (by decide) ?_
                                                refine TL.pure (PV.move rfl) rfl (by decide) ?_
                                                first | refine TL.splitD 192 rfl (fun k9 => ?_) (fun k9 => ?_) | refine TL.split 192 rfl (fun k9 => ?_) (fun k9 => ?_)
                                                · skip
                                                  refine TL.skip rfl (fun k hk => by cases hk; decide) ?_
                                                  refine TL.skip rfl (fun k hk => by cases hk; decide) ?_
                                                  refine TL.skip rfl (fun k hk => by cases hk; decide) ?_
                                                  refine TL.pure (PV.pickT rfl rfl) rfl (by decide) ?_
                                                  refine TL.nil ?_
                                                  refine TQ.thenC ?_
                                                  refine TC.condT rfl ?_
                                                  refine TC.seq ?_
                                                  refine TC.region ?_
                                                  refine TL.pure (PV.assign rfl) rfl (by decide) ?_
                                                  refine TL.nil ?_
                                                  refine TQ.thenC ?_
                                                  refine TC.ret ?_
                                                  refine TQ.thenR ?_
                                                  refine TQ.blkR ?_
                                                  refine TQ.thenR ?_
                                                  refine TQ.thenR ?_
                                                  refine TQ.blkR ?_
                                                  refine TQ.retE1 rfl rfl ?_
                                                  first | exact ⟨(), rfl, trivial, List.nil_sublist _⟩ | (exfalso; simp_all; done) | (exfalso; simp_all; omega) | (exfalso; simp only [decide_eq_true_eq, decide_eq_false_iff_not, ne_eq, Bool.not_eq_true, Bool.not_eq_false] at *; omega) | exact ⟨(), by simp, trivial, List.nil_sublist _⟩
                                                · skip
                                                  refine TL.pure (PV.move rfl) rfl (by decide) ?_
                                                  refine TL.pure (PV.move rfl) rfl (by decide) ?_
                                                  refine TL.pure (PV.geq rfl rfl) rfl (by decide) ?_
                                                  refine TL.pure (PV.pickF rfl rfl) rfl (by decide) ?_
                                                  refine TL.nil ?_
                                                  refine TQ.thenC ?_
                                                  first | refine TC.condD rfl (fun k10 => ?_) (fun k10 => ?_) | refine TC.cond rfl (fun k10 => ?_) (fun k10 => ?_)
                                                  · skip
                                                    refine TC.seq ?_
                                                    refine TC.region ?_
                                                    refine TL.pure (PV.assign rfl) rfl (by decide) ?_
                                                    refine TL.nil ?_
                                                    refine TQ.thenC ?_
                                                    refine TC.ret ?_
                                                    refine TQ.thenR ?_
                                                    refine TQ.blkR ?_
                                                    refine TQ.thenR ?_
                                                    refine TQ.thenR ?_
                                                    refine TQ.blkR ?_
                                                    refine TQ.retE1 rfl rfl ?_
                                                    first | exact ⟨(), rfl, trivial, List.nil_sublist _⟩ | (exfalso; simp_all; done) | (exfalso; simp_all; omega) | (exfalso; simp only [decide_eq_true_eq, decide_eq_false_iff_not, ne_eq, Bool.not_eq_true, Bool.not_eq_false] at *; omega) | exact ⟨(), by simp, trivial, List.nil_sublist _⟩
                                                  · skip
                                                    refine TC.skip ?_
                                                    refine TQ.thenC ?_
                                                    refine TC.region ?_
                                                    refine TL.pure (PV.move rfl) rfl (by decide) ?_
                                                    refine TL.call rfl Tb.gofn_42 (fun a w hs => copyTable_ok w _ _ (hya.at hs.new (fun yy hyy => by repeat (first | exact List.mem_append_left _ hyy | exact List.mem_append_left _ (List.mem_append_right _ hyy) | exact List.mem_append_left _ (List.mem_append_left _ hyy) | refine List.mem_append_right _ ?_ | refine List.Mem.tail _ ?_))) (s3.g.sm hT.s hT.d)) rfl (by decide) (fun yc hyc => ?_)
                                                    refine TL.pure (PV.move rfl) rfl (by decide) ?_
                                                    refine TL.pure (PV.assign rfl) rfl (by decide) ?_
                                                    refine TL.pure (PV.assign rfl) rfl (by decide) ?_
                                                    refine TL.nil ?_
                                                    refine TQ.blkN ?_
                                                    refine TQ.thenC ?_
                                                    refine TC.region ?_
                                                    refine TL.pure (PV.move rfl) rfl (by decide) ?_
                                                    refine TL.pure (PV.add rfl rfl (by omega)) rfl (by decide) ?_
                                                    refine TL.pure (PV.assign rfl) rfl (by decide) ?_
                                                    refine TL.nil ?_
                                                    refine TQ.thenN ?_
                                                    refine TQ.backK (x.1 + 1, (aloR t x.2.1 yr.2).1, (gval yc.1 (aloR t x.2.1 yr.2).1.length, gbR rwR 22 yc.1 yc.2 ++ rwB yc.2)) (by repeat (first | exact True.intro | refine And.intro rfl ?_)) (by repeat (first | exact True.intro | refine And.intro rfl ?_)) (List.Sublist.append_left (List.singleton_sublist.2 (by repeat (first | exact List.Mem.head _ | refine List.Mem.tail _ ?_ | refine List.mem_append_right _ ?_))) _) ⟨by simp only; omega, s3, fun w G hn hm => (RdG.rw hyc.1 hyc.2.1 hyc.2.2).at hn hm⟩ (by simp only; omega)
                          · skip
                            refine TL.skip rfl (fun k hk => by cases hk; decide) ?_
                            refine TL.skip rfl (fun k hk => by cases hk; decide) ?_
                            refine TL.skip rfl (fun k hk => by cases hk; decide) ?_
                            refine TL.pure (PV.pickF rfl rfl) rfl (by decide) ?_
                            refine TL.nil ?_
                            refine TQ.thenC ?_
                            refine TC.condF rfl ?_
                            refine TC.skip ?_
                            refine TQ.thenC ?_
                            refine TC.seq ?_
                            refine TC.region ?_
                            refine TL.pure (PV.assign rfl) rfl (by decide) ?_
                            refine TL.nil ?_
                            refine TQ.thenC ?_
                            refine TC.block ?_
                            -- live and written in the loop, not told: [6]
                            refine TC.loopK [3, 9] (X := Nat × List (List Int) × (Value × Heap)) (fun x => x.1 ≤ 41 ∧ VP t x.2.1 ∧ ∀ w G, New w0 w G → (∀ y ∈ x.2.2.2, y ∈ G) → IsG w x.2.2.1 x.2.1) (fun x => [(16, .int .i64 (x.1 : Nat)), (1, x.2.2.1), (15, .int .i64 (costI t x.2.1))]) (fun x => x.2.2.2 ++ [(b0, Obj.cells #[.slice p1 t.s.length c1, .slice p2 t.d.length c2, .slice p3 t.c.length c3] 25 (0, 0))]) (fun x => 41 - x.1) (0, m, (.slice pg m.length cg, [])) ⟨Nat.zero_le _, hVP, fun w G hn _ => hg0.new hn⟩ (by repeat (first | exact True.intro | refine And.intro rfl ?_)) (List.singleton_sublist.2 (by repeat (first | exact List.Mem.head _ | refine List.Mem.tail _ ?_ | refine List.mem_append_right _ ?_))) ?_
                            intro x hx9
                            refine TC.seq ?_
                            refine TC.block ?_
                            refine TC.seq ?_
                            have hsm := hx9.2.1.g.sm hT.s hT.d
                            have hxl := mn_le hx9.2.1
                            refine TC.region ?_
                            refine TL.pure (PV.loadBox rfl Tb.agg_25 (by repeat (first | exact List.Mem.head _ | refine List.Mem.tail _ ?_ | refine List.mem_append_right _ ?_)) rfl) rfl (by decide) ?_
                            refine TL.pure (PV.move rfl) rfl (by decide) ?_
                            refine TL.call rfl Tb.gofn_31 (fun a w hs => IsBest_ok w _ t (IsT.mk (t1.new hs.new) (t2.new hs.new) (t3.new hs.new)) hT _ x.2.1 (hx9.2.2 w _ hs.new (fun yy hyy => by repeat (first | exact List.mem_append_left _ hyy | exact List.mem_append_left _ (List.mem_append_right _ hyy) | exact List.mem_append_left _ (List.mem_append_left _ hyy) | refine List.mem_append_right _ ?_ | refine List.Mem.tail _ ?_))) hsm) rfl (by decide) (fun _ _ => ?_)
                            rw [ib_e hx9.2.1]
                            refine TL.pure (PV.move rfl) rfl (by decide) ?_
                            refine TL.pure (PV.extract rfl rfl) rfl (by decide) ?_
                            refine TL.pure (PV.extract rfl rfl) rfl (by decide) ?_
                            refine TL.pure (PV.assign rfl) rfl (by decide) ?_
                            refine TL.pure (PV.assign rfl) rfl (by decide) ?_
                            refine TL.nil ?_
                            refine TQ.thenC ?_
                            refine TC.seq ?_
                            refine TC.region ?_
                            refine TL.pure (PV.loadBox rfl Tb.agg_25 (by repeat (first | exact List.Mem.head _ | refine List.Mem.tail _ ?_ | refine List.mem_append_right _ ?_)) rfl) rfl (by decide) ?_
                            refine TL.pure (PV.move rfl) rfl (by decide) ?_
                            refine TL.call rfl Tb.gofn_40 (fun a w hs => round_vp w _ t (IsT.mk (t1.new hs.new) (t2.new hs.new) (t3.new hs.new)) hT _ x.2.1 (hx9.2.2 w _ hs.new (fun yy hyy => by repeat (first | exact List.mem_append_left _ hyy | exact List.mem_append_left _ (List.mem_append_right _ hyy) | exact List.mem_append_left _ (List.mem_append_left _ hyy) | refine List.mem_append_right _ ?_ | refine List.Mem.tail _ ?_))) hsm hx9.2.1) rfl (by decide) (fun yr hyr => ?_)
                            rw [gval_eq hyr.1]
                            refine TL.pure (PV.move rfl) rfl (by decide) ?_
                            refine TL.pure (PV.extract rfl rfl) rfl (by decide) ?_
                            refine TL.pure (PV.extract rfl rfl) rfl (by decide) ?_
                            refine TL.pure (PV.extract rfl rfl) rfl (by decide) ?_
                            refine TL.pure (PV.assign rfl) rfl (by decide) ?_
                            refine TL.pure (PV.assign rfl) rfl (by decide) ?_
                            refine TL.pure (PV.assign rfl) rfl (by decide) ?_
                            refine TL.nil ?_
                            refine TQ.thenC ?_
                            refine TC.seq ?_
                            refine TC.seq ?_
                            refine TC.region ?_
                            refine TL.pure (PV.move rfl) rfl (by decide) ?_
                            refine TL.pure (PV.neq rfl rfl) rfl (by decide) ?_
                            refine TL.pure (PV.move rfl) rfl (by decide) ?_
                            first | refine TL.splitD 142 rfl (fun f9 => ?_) (fun f9 => ?_) | refine TL.split 142 rfl (fun f9 => ?_) (fun f9 => ?_)
                            · skip
                              refine TL.skip rfl (fun k hk => by cases hk; decide) ?_
                              refine TL.skip rfl (fun k hk => by cases hk; decide) ?_
                              refine TL.pure (PV.pickT rfl rfl) rfl (by decide) ?_
                              refine TL.pure (PV.move rfl) rfl (by decide) ?_
                              refine TL.skip rfl (fun k hk => by cases hk; decide) ?_
                              refine TL.skip rfl (fun k hk => by cases hk; decide) ?_
                              refine TL.skip rfl (fun k hk => by cases hk; decide) ?_
                              refine TL.pure (PV.pickT rfl rfl) rfl (by decide) ?_
                              refine TL.pure (PV.move rfl) rfl (by decide) ?_
                              refine TL.skip rfl (fun k hk => by cases hk; decide) ?_
                              refine TL.skip rfl (fun k hk => by cases hk; decide) ?_
                              refine TL.skip rfl (fun k hk => by cases hk; decide) ?_
                              refine TL.skip rfl (fun k hk => by cases hk; decide) ?_
                              refine TL.skip rfl (fun k hk => by cases hk; decide) ?_
                              refine TL.pure (PV.pickT rfl rfl) rfl (by decide) ?_
                              refine TL.pure (PV.move rfl) rfl (by decide) ?_
                              refine TL.skip rfl (fun k hk => by cases hk; decide) ?_
                              refine TL.skip rfl (fun k hk => by cases hk; decide) ?_
                              refine TL.skip rfl (fun k hk => by cases hk; decide) ?_
                              refine TL.pure (PV.pickT rfl rfl) rfl (by decide) ?_
                              refine TL.nil ?_
                              refine TQ.thenC ?_
                              refine TC.condT rfl ?_
                              refine TC.seq ?_
                              refine TC.region ?_
                              refine TL.pure (PV.assign rfl) rfl (by decide) ?_
                              refine TL.nil ?_
                              refine TQ.thenC ?_
                              refine TC.ret ?_
                              refine TQ.thenR ?_
                              refine TQ.blkR ?_
                              refine TQ.thenR ?_
                              refine TQ.thenR ?_
                              refine TQ.blkR ?_
                              refine TQ.retE1 rfl rfl ?_
                              first | exact ⟨(), rfl, trivial, List.nil_sublist _⟩ | (exfalso; simp_all; done) | (exfalso; simp_all; omega) | (exfalso; simp only [decide_eq_true_eq, decide_eq_false_iff_not, ne_eq, Bool.not_eq_true, Bool.not_eq_false] at *; omega) | exact ⟨(), by simp, trivial, List.nil_sublist _⟩
                            · skip
                              refine TL.pure (PV.move rfl) rfl (by decide) ?_
                              refine TL.pure (PV.neq rfl rfl) rfl (by decide) ?_
                              refine TL.pure (PV.pickF rfl rfl) rfl (by decide) ?_
                              refine TL.pure (PV.move rfl) rfl (by decide) ?_
                              first | refine TL.splitD 146 rfl (fun k1 => ?_) (fun k1 => ?_) | refine TL.split 146 rfl (fun k1 => ?_) (fun k1 => ?_)
                              · skip
                                refine TL.skip rfl (fun k hk => by cases hk; decide) ?_
                                refine TL.skip rfl (fun k hk => by cases hk; decide) ?_
                                refine TL.skip rfl (fun k hk => by cases hk; decide) ?_
                                refine TL.pure (PV.pickT rfl rfl) rfl (by decide) ?_
                                refine TL.pure (PV.move rfl) rfl (by decide) ?_
                                refine TL.skip rfl (fun k hk => by cases hk; decide) ?_
                                refine TL.skip rfl (fun k hk => by cases hk; decide) ?_
                                refine TL.skip rfl (fun k hk => by cases hk; decide) ?_
                                refine TL.skip rfl (fun k hk => by cases hk; decide) ?_
                                refine TL.skip rfl (fun k hk => by cases hk; decide) ?_
                                refine TL.pure (PV.pickT rfl rfl) rfl (by decide) ?_
                                refine TL.pure (PV.move rfl) rfl (by decide) ?_
                                refine TL.skip rfl (fun k hk => by cases hk; decide) ?_
                                refine TL.skip rfl (fun k hk => by cases hk; decide) ?_
                                refine TL.skip rfl (fun k hk => by cases hk; decide) ?_
                                refine TL.pure (PV.pickT rfl rfl) rfl (by decide) ?_
                                refine TL.nil ?_
                                refine TQ.thenC ?_
                                refine TC.condT rfl ?_
                                refine TC.seq ?_
                                refine TC.region ?_
                                refine TL.pure (PV.assign rfl) rfl (by decide) ?_
                                refine TL.nil ?_
                                refine TQ.thenC ?_
                                refine TC.ret ?_
                                refine TQ.thenR ?_
                                refine TQ.blkR ?_
                                refine TQ.thenR ?_
                                refine TQ.thenR ?_
                                refine TQ.blkR ?_
                                refine TQ.retE1 rfl rfl ?_
                                first | exact ⟨(), rfl, trivial, List.nil_sublist _⟩ | (exfalso; simp_all; done) | (exfalso; simp_all; omega) | (exfalso; simp only [decide_eq_true_eq, decide_eq_false_iff_not, ne_eq, Bool.not_eq_true, Bool.not_eq_false] at *; omega) | exact ⟨(), by simp, trivial, List.nil_sublist _⟩
                              · skip
                                refine TL.pure (PV.move rfl) rfl (by decide) ?_
                                refine TL.pure (PV.move rfl) rfl (by decide) ?_
                                refine TL.pure (PV.eqlB rfl rfl Tb.bool_4) rfl (by decide) ?_
                                refine TL.pure (PV.pickF rfl rfl) rfl (by decide) ?_
                                refine TL.pure (PV.move rfl) rfl (by decide) ?_
                                first | refine TL.splitD 151 rfl (fun k2 => ?_) (fun k2 => ?_) | refine TL.split 151 rfl (fun k2 => ?_) (fun k2 => ?_)
                                · skip
                                  refine TL.skip rfl (fun k hk => by cases hk; decide) ?_
                                  refine TL.skip rfl (fun k hk => by cases hk; decide) ?_
                                  refine TL.skip rfl (fun k hk => by cases hk; decide) ?_
                                  refine TL.skip rfl (fun k hk => by cases hk; decide) ?_
                                  refine TL.skip rfl (fun k hk => by cases hk; decide) ?_
                                  refine TL.pure (PV.pickT rfl rfl) rfl (by decide) ?_
                                  refine TL.pure (PV.move rfl) rfl (by decide) ?_
                                  refine TL.skip rfl (fun k hk => by cases hk; decide) ?_
                                  refine TL.skip rfl (fun k hk => by cases hk; decide) ?_
                                  refine TL.skip rfl (fun k hk => by cases hk; decide) ?_
                                  refine TL.pure (PV.pickT rfl rfl) rfl (by decide) ?_
                                  refine TL.nil ?_
                                  refine TQ.thenC ?_
                                  refine TC.condT rfl ?_
                                  refine TC.seq ?_
                                  refine TC.region ?_
                                  refine TL.pure (PV.assign rfl) rfl (by decide) ?_
                                  refine TL.nil ?_
                                  refine TQ.thenC ?_
                                  refine TC.ret ?_
                                  refine TQ.thenR ?_
                                  refine TQ.blkR ?_
                                  refine TQ.thenR ?_
                                  refine TQ.thenR ?_
                                  refine TQ.blkR ?_
                                  refine TQ.retE1 rfl rfl ?_
                                  first | exact ⟨(), rfl, trivial, List.nil_sublist _⟩ | (exfalso; simp_all; done) | (exfalso; simp_all; omega) | (exfalso; simp only [decide_eq_true_eq, decide_eq_false_iff_not, ne_eq, Bool.not_eq_true, Bool.not_eq_false] at *; omega) | exact ⟨(), by simp, trivial, List.nil_sublist _⟩
                                · skip
                                  refine TL.pure (PV.move rfl) rfl (by decide) ?_
                                  refine TL.pure (PV.move rfl) rfl (by decide) ?_
                                  refine TL.pure (PV.move rfl) rfl (by decide) ?_
                                  refine TL.pure (PV.eql rfl rfl) rfl (by decide) ?_
                                  refine TL.pure (PV.neqB rfl rfl Tb.bool_4) rfl (by decide) ?_
                                  refine TL.pure (PV.pickF rfl rfl) rfl (by decide) ?_
                                  refine TL.pure (PV.move rfl) rfl (by decide) ?_
                                  first | refine TL.splitD 158 rfl (fun k3 => ?_) (fun k3 => ?_) | refine TL.split 158 rfl (fun k3 => ?_) (fun k3 => ?_)
                                  · skip
                                    refine TL.skip rfl (fun k hk => by cases hk; decide) ?_
                                    refine TL.skip rfl (fun k hk => by cases hk; decide) ?_
                                    refine TL.skip rfl (fun k hk => by cases hk; decide) ?_
                                    refine TL.pure (PV.pickT rfl rfl) rfl (by decide) ?_
                                    refine TL.nil ?_
                                    refine TQ.thenC ?_
                                    refine TC.condT rfl ?_
                                    refine TC.seq ?_
                                    refine TC.region ?_
                                    refine TL.pure (PV.assign rfl) rfl (by decide) ?_
                                    refine TL.nil ?_
                                    refine TQ.thenC ?_
                                    refine TC.ret ?_
                                    refine TQ.thenR ?_
                                    refine TQ.blkR ?_
                                    refine TQ.thenR ?_
                                    refine TQ.thenR ?_
                                    refine TQ.blkR ?_
                                    refine TQ.retE1 rfl rfl ?_
                                    first | exact ⟨(), rfl, trivial, List.nil_sublist _⟩ | (exfalso; simp_all; done) | (exfalso; simp_all; omega) | (exfalso; simp only [decide_eq_true_eq, decide_eq_false_iff_not, ne_eq, Bool.not_eq_true, Bool.not_eq_false] at *; omega) | exact ⟨(), by simp, trivial, List.nil_sublist _⟩
                                  · skip
                                    refine TL.pure (PV.move rfl) rfl (by decide) ?_
                                    refine TL.pure (PV.move rfl) rfl (by decide) ?_
                                    refine TL.pure (PV.lss rfl rfl) rfl (by decide) ?_
                                    refine TL.pure (PV.pickF rfl rfl) rfl (by decide) ?_
                                    refine TL.nil ?_
                                    refine TQ.thenC ?_
                                    first | refine TC.condD rfl (fun k4 => ?_) (fun k4 => ?_) | refine TC.cond rfl (fun k4 => ?_) (fun k4 => ?_)
                                    · skip
                                      refine TC.seq ?_
                                      refine TC.region ?_
                                      refine TL.pure (PV.assign rfl) rfl (by decide) ?_
                                      refine TL.nil ?_
                                      refine TQ.thenC ?_
                                      refine TC.ret ?_
                                      refine TQ.thenR ?_
                                      refine TQ.blkR ?_
                                      refine TQ.thenR ?_
                                      refine TQ.thenR ?_
                                      refine TQ.blkR ?_
                                      refine TQ.retE1 rfl rfl ?_
                                      first | exact ⟨(), rfl, trivial, List.nil_sublist _⟩ | (exfalso; simp_all; done) | (exfalso; simp_all; omega) | (exfalso; simp only [decide_eq_true_eq, decide_eq_false_iff_not, ne_eq, Bool.not_eq_true, Bool.not_eq_false] at *; omega) | exact ⟨(), by simp, trivial, List.nil_sublist _⟩
                                    · skip
                                      refine TC.skip ?_
                                      refine TQ.thenC ?_
                                      refine TC.seq ?_
                                      refine TC.seq ?_
                                      refine TC.region ?_
                                      refine TL.pure (PV.move rfl) rfl (by decide) ?_
                                      refine TL.pure (PV.move rfl) rfl (by decide) ?_
                                      first | refine TL.splitD 164 rfl (fun k5 => ?_) (fun k5 => ?_) | refine TL.split 164 rfl (fun k5 => ?_) (fun k5 => ?_)
                                      · skip
                                        refine TL.skip rfl (fun k hk => by cases hk; decide) ?_
                                        refine TL.skip rfl (fun k hk => by cases hk; decide) ?_
                                        refine TL.pure (PV.pickT rfl rfl) rfl (by decide) ?_
                                        refine TL.nil ?_
                                        refine TQ.thenC ?_
                                        refine TC.condT rfl ?_
                                        refine TC.seq ?_
                                        refine TC.region ?_
                                        refine TL.pure (PV.assign rfl) rfl (by decide) ?_
                                        refine TL.nil ?_
                                        refine TQ.thenC ?_
                                        refine TC.ret ?_
                                        refine TQ.thenR ?_
                                        refine TQ.blkR ?_
                                        refine TQ.thenR ?_
                                        refine TQ.thenR ?_
                                        refine TQ.blkR ?_
                                        refine TQ.retE1 rfl rfl ?_
                                        first | exact ⟨(), rfl, trivial, List.nil_sublist _⟩ | (exfalso; simp_all; done) | (exfalso; simp_all; omega) | (exfalso; simp only [decide_eq_true_eq, decide_eq_false_iff_not, ne_eq, Bool.not_eq_true, Bool.not_eq_false] at *; omega) | exact ⟨(), by simp, trivial, List.nil_sublist _⟩
                                      · skip
                                        refine TL.pure (PV.move rfl) rfl (by decide) ?_
                                        refine TL.pure (PV.gtr rfl rfl) rfl (by decide) ?_
                                        refine TL.pure (PV.pickF rfl rfl) rfl (by decide) ?_
                                        refine TL.nil ?_
                                        refine TQ.thenC ?_
                                        first | refine TC.condD rfl (fun k6 => ?_) (fun k6 => ?_) | refine TC.cond rfl (fun k6 => ?_) (fun k6 => ?_)
                                        · skip
                                          refine TC.seq ?_
                                          refine TC.region ?_
                                          refine TL.pure (PV.assign rfl) rfl (by decide) ?_
                                          refine TL.nil ?_
                                          refine TQ.thenC ?_
                                          refine TC.ret ?_
                                          refine TQ.thenR ?_
                                          refine TQ.blkR ?_
                                          refine TQ.thenR ?_
                                          refine TQ.thenR ?_
                                          refine TQ.blkR ?_
                                          refine TQ.retE1 rfl rfl ?_
                                          first | exact ⟨(), rfl, trivial, List.nil_sublist _⟩ | (exfalso; simp_all; done) | (exfalso; simp_all; omega) | (exfalso; simp only [decide_eq_true_eq, decide_eq_false_iff_not, ne_eq, Bool.not_eq_true, Bool.not_eq_false] at *; omega) | exact ⟨(), by simp, trivial, List.nil_sublist _⟩
                                        · skip
                                          refine TC.skip ?_
                                          refine TQ.thenC ?_
                                          refine TC.seq ?_
                                          have hne : costI t x.2.1 ≠ mnI t := by simpa using k5
                                          obtain ⟨s1, s2, s3, s4, s5⟩ := alo_step hx9.2.1 (hyr.2 hne)
                                          refine TC.region ?_
                                          refine TL.pure (PV.loadBox rfl Tb.agg_25 (by repeat (first | exact List.Mem.head _ | refine List.Mem.tail _ ?_ | refine List.mem_append_right _ ?_)) rfl) rfl (by decide) ?_
                                          refine TL.pure (PV.move rfl) rfl (by decide) ?_
                                          refine TL.pure (PV.move rfl) rfl (by decide) ?_
                                          refine TL.call rfl Tb.gofn_43 (fun a w hs => Along_ok w _ t (IsT.mk (t1.new hs.new) (t2.new hs.new) (t3.new hs.new)) hT _ x.2.1 (hx9.2.2 w _ hs.new (fun yy hyy => by repeat (first | exact List.mem_append_left _ hyy | exact List.mem_append_left _ (List.mem_append_right _ hyy) | exact List.mem_append_left _ (List.mem_append_left _ hyy) | refine List.mem_append_right _ ?_ | refine List.Mem.tail _ ?_))) hsm (gp yr.1) (gc yr.1) yr.2 (RecsAt.s hs.new (fun yy hyy => by repeat (first | exact List.mem_append_left _ hyy | exact List.mem_append_left _ (List.mem_append_right _ hyy) | exact List.mem_append_left _ (List.mem_append_left _ hyy) | refine List.mem_append_right _ ?_ | refine List.Mem.tail _ ?_)) hyr.1) (by omega) (gok_cap hyr.1)) rfl (by decide) (fun ya hya => ?_)
                                          rw [s1]
                                          refine TL.pure (PV.move rfl) rfl (by decide) ?_
                                          refine TL.pure (PV.extract rfl rfl) rfl (by decide) ?_
                                          refine TL.pure (PV.extract rfl rfl) rfl (by decide) ?_
                                          refine TL.pure (PV.extract rfl rfl) rfl (by decide) ?_
                                          refine TL.pure (PV.assign rfl) rfl (by decide) ?_
                                          refine TL.pure (PV.assign rfl) rfl (by decide) ?_
                                          refine TL.pure (PV.assign rfl) rfl (by decide) ?_
                                          refine TL.nil ?_
                                          refine TQ.thenC ?_
                                          refine TC.seq ?_
                                          refine TC.region ?_
                                          refine TL.pure (PV.loadBox rfl Tb.agg_25 (by repeat (first | exact List.Mem.head _ | refine List.Mem.tail _ ?_ | refine List.mem_append_right _ ?_)) rfl) rfl (by decide) ?_
                                          refine TL.pure (PV.move rfl) rfl (by decide) ?_
                                          refine TL.call rfl Tb.gofn_19 (fun a w hs => Cost_ok w _ t (IsT.mk (t1.new hs.new) (t2.new hs.new) (t3.new hs.new)) hT _ _ (hya.at hs.new (fun yy hyy => by repeat (first | exact List.mem_append_left _ hyy | exact List.mem_append_left _ (List.mem_append_right _ hyy) | exact List.mem_append_left _ (List.mem_append_left _ hyy) | refine List.mem_append_right _ ?_ | refine List.Mem.tail _ ?_))) (s3.g.sm hT.s hT.d)) rfl (by decide) (fun _ _ => ?_)
                                          rw [cst_0 (show ¬ planI t _ ≠ 0 by rw [s3.p]; decide)]
                                          refine TL.pure (PV.move rfl) rfl (by decide) ?_
                                          refine TL.pure (PV.extract rfl rfl) rfl (by decide) ?_
                                          refine TL.pure (PV.extract rfl rfl) rfl (by decide) ?_
                                          refine TL.pure (PV.assign rfl) rfl (by decide) ?_
                                          refine TL.pure (PV.assign rfl) rfl (by decide) ?_
                                          refine TL.nil ?_
                                          refine TQ.thenC ?_
                                          refine TC.seq ?_
                                          refine TC.seq ?_
                                          refine TC.region ?_
                                          refine TL.pure (PV.move rfl) rfl (by decide) ?_
                                          refine TL.pure (PV.neq rfl rfl) rfl (by decide) ?_
                                          refine TL.pure (PV.move rfl) rfl (by decide) ?_
                                          first | refine TL.splitD 184 rfl (fun k7 => ?_) (fun k7 => ?_) | refine TL.split 184 rfl (fun k7 => ?_) (fun k7 => ?_)
                                          · skip
                                            refine TL.skip rfl (fun k hk => by cases hk; decide) ?_
                                            refine TL.skip rfl (fun k hk => by cases hk; decide) ?_
                                            refine TL.pure (PV.pickT rfl rfl) rfl (by decide) ?_
                                            refine TL.pure (PV.move rfl) rfl (by decide) ?_
                                            refine TL.skip rfl (fun k hk => by cases hk; decide) ?_
                                            refine TL.skip rfl (fun k hk => by cases hk; decide) ?_
                                            refine TL.pure (PV.pickT rfl rfl) rfl (by decide) ?_
                                            refine TL.pure (PV.move rfl) rfl (by decide) ?_
                                            refine TL.skip rfl (fun k hk => by cases hk; decide) ?_
                                            refine TL.skip rfl (fun k hk => by cases hk; decide) ?_
                                            refine TL.skip rfl (fun k hk => by cases hk; decide) ?_
                                            refine TL.pure (PV.pickT rfl rfl) rfl (by decide) ?_
                                            refine TL.nil ?_
                                            refine TQ.thenC ?_
                                            refine TC.condT rfl ?_
                                            refine TC.seq ?_
                                            refine TC.region ?_
                                            refine TL.pure (PV.assign rfl) rfl (by decide) ?_
                                            refine TL.nil ?_
                                            refine TQ.thenC ?_
                                            refine TC.ret ?_
                                            refine TQ.thenR ?_
                                            refine TQ.blkR ?_
                                            refine TQ.thenR ?_
                                            refine TQ.thenR ?_
                                            refine TQ.blkR ?_
                                            refine TQ.retE1 rfl rfl ?_
                                            first | exact ⟨(), rfl, trivial, List.nil_sublist _⟩ | (exfalso; simp_all; done) | (exfalso; simp_all; omega) | (exfalso; simp only [decide_eq_true_eq, decide_eq_false_iff_not, ne_eq, Bool.not_eq_true, Bool.not_eq_false] at *; omega) | exact ⟨(), by simp, trivial, List.nil_sublist _⟩
                                          · skip
                                            refine TL.pure (PV.move rfl) rfl (by decide) ?_
                                            refine TL.pure (PV.neq rfl rfl) rfl (by decide) ?_
                                            refine TL.pure (PV.pickF rfl rfl) rfl (by decide) ?_
                                            refine TL.pure (PV.move rfl) rfl (by decide) ?_
                                            first | refine TL.splitD 188 rfl (fun k8 => ?_) (fun k8 => ?_) | refine TL.split 188 rfl (fun k8 => ?_) (fun k8 => ?_)
                                            · skip
                                              refine TL.skip rfl (fun k hk => by cases hk; decide) ?_
                                              refine TL.skip rfl (fun k hk => by cases hk; decide) ?_
                                              refine TL.pure (PV.pickT rfl rfl) rfl (by decide) ?_
                                              refine TL.pure (PV.move rfl) rfl (by decide) ?_
                                              refine TL.skip rfl (fun k hk => by cases hk; decide) ?_
                                              refine TL.skip rfl (fun k hk => by cases hk; decide) ?_
                                              refine TL.skip rfl (fun k hk => by cases hk; decide) ?_
                                              refine TL.pure (PV.pickT rfl rfl) rfl (by decide) ?_
                                              refine TL.nil ?_
                                              refine TQ.thenC ?_
                                              refine TC.condT rfl ?_
                                              refine TC.seq ?_
                                              refine TC.region ?_
                                              refine TL.pure (PV.assign rfl) rfl (by decide) ?_
                                              refine TL.nil ?_
                                              refine TQ.thenC ?_
                                              refine TC.ret ?_
                                              refine TQ.thenR ?_
                                              refine TQ.blkR ?_
                                              refine TQ.thenR ?_
                                              refine TQ.thenR ?_
                                              refine TQ.blkR ?_
                                              refine TQ.retE1 rfl rfl ?_
                                              first | exact ⟨(), rfl, trivial, List.nil_sublist _⟩ | (exfalso; simp_all; done) | (exfalso; simp_all; omega) | (exfalso; simp only [decide_eq_true_eq, decide_eq_false_iff_not, ne_eq, Bool.not_eq_true, Bool.not_eq_false] at *; omega) | exact ⟨(), by simp, trivial, List.nil_sublist _⟩
                                            · skip
                                              refine TL.pure (PV.move rfl) rfl (by decide) ?_
                                              refine TL.pure (PV.lss rfl rfl) rfl (by decide) ?_
                                              refine TL.pure (PV.pickF rfl rfl) rfl (by decide) ?_
                                              refine TL.pure (PV.move rfl) rfl (by decide) ?_
                                              first | refine TL.splitD 192 rfl (fun k9 => ?_) (fun k9 => ?_) | refine TL.split 192 rfl (fun k9 => ?_) (fun k9 => ?_)
                                              · skip
                                                refine TL.skip rfl (fun k hk => by cases hk; decide) ?_
                                                refine TL.skip rfl (fun k hk => by cases hk; decide) ?_
                                                refine TL.skip rfl (fun k hk => by cases hk; decide) ?_
                                                refine TL.pure (PV.pickT rfl rfl) rfl (by decide) ?_
                                                refine TL.nil ?_
                                                refine TQ.thenC ?_
                                                refine TC.condT rfl ?_
                                                refine TC.seq ?_
                                                refine TC.region ?_
                                                refine TL.pure (PV.assign rfl) rfl (by decide) ?_
                                                refine TL.nil ?_
                                                refine TQ.thenC ?_
                                                refine TC.ret ?_
                                                refine TQ.thenR ?_
                                                refine TQ.blkR ?_
                                                refine TQ.thenR ?_
                                                refine TQ.thenR ?_
                                                refine TQ.blkR ?_
                                                refine TQ.retE1 rfl rfl ?_
                                                first | exact ⟨(), rfl, trivial, List.nil_sublist _⟩ | (exfalso; simp_all; done) | (exfalso; simp_all; omega) | (exfalso; simp only [decide_eq_true_eq, decide_eq_false_iff_not, ne_eq, Bool.not_eq_true, Bool.not_eq_false] at *; omega) | exact ⟨(), by simp, trivial, List.nil_sublist _⟩
                                              · skip
                                                refine TL.pure (PV.move rfl) rfl (by decide) ?_
                                                refine TL.pure (PV.move rfl) rfl (by decide) ?_
                                                refine TL.pure (PV.geq rfl rfl) rfl (by decide) ?_
                                                refine TL.pure (PV.pickF rfl rfl) rfl (by decide) ?_
                                                refine TL.nil ?_
                                                refine TQ.thenC ?_
                                                first | refine TC.condD rfl (fun k10 => ?_) (fun k10 => ?_) | refine TC.cond rfl (fun k10 => ?_) (fun k10 => ?_)
                                                · skip
                                                  refine TC.seq ?_
                                                  refine TC.region ?_
                                                  refine TL.pure (PV.assign rfl) rfl (by decide) ?_
                                                  refine TL.nil ?_
                                                  refine TQ.thenC ?_
                                                  refine TC.ret ?_
                                                  refine TQ.thenR ?_
                                                  refine TQ.blkR ?_
                                                  refine TQ.thenR ?_
                                                  refine TQ.thenR ?_
                                                  refine TQ.blkR ?_
                                                  refine TQ.retE1 rfl rfl ?_
                                                  first | exact ⟨(), rfl, trivial, List.nil_sublist _⟩ | (exfalso; simp_all; done) | (exfalso; simp_all; omega) | (exfalso; simp only [decide_eq_true_eq, decide_eq_false_iff_not, ne_eq, Bool.not_eq_true, Bool.not_eq_false] at *; omega) | exact ⟨(), by simp, trivial, List.nil_sublist _⟩
                                                · skip
                                                  refine TC.skip ?_
                                                  refine TQ.thenC ?_
                                                  refine TC.region ?_
                                                  refine TL.pure (PV.move rfl) rfl (by decide) ?_
                                                  refine TL.call rfl Tb.gofn_42 (fun a w hs => copyTable_ok w _ _ (hya.at hs.new (fun yy hyy => by repeat (first | exact List.mem_append_left _ hyy | exact List.mem_append_left _ (List.mem_append_right _ hyy) | exact List.mem_append_left _ (List.mem_append_left _ hyy) | refine List.mem_append_right _ ?_ | refine List.Mem.tail _ ?_))) (s3.g.sm hT.s hT.d)) rfl (by decide) (fun yc hyc => ?_)
                                                  refine TL.pure (PV.move rfl) rfl (by decide) ?_
                                                  refine TL.pure (PV.assign rfl) rfl (by decide) ?_
                                                  refine TL.pure (PV.assign rfl) rfl (by decide) ?_
                                                  refine TL.nil ?_
                                                  refine TQ.blkN ?_
                                                  refine TQ.thenC ?_
                                                  refine TC.region ?_
                                                  refine TL.pure (PV.move rfl) rfl (by decide) ?_
                                                  refine TL.pure (PV.add rfl rfl (by omega)) rfl (by decide) ?_
                                                  refine TL.pure (PV.assign rfl) rfl (by decide) ?_
                                                  refine TL.nil ?_
                                                  refine TQ.thenN ?_
                                                  refine TQ.backK (x.1 + 1, (aloR t x.2.1 yr.2).1, (gval yc.1 (aloR t x.2.1 yr.2).1.length, gbR rwR 22 yc.1 yc.2 ++ rwB yc.2)) (by repeat (first | exact True.intro | refine And.intro rfl ?_)) (by repeat (first | exact True.intro | refine And.intro rfl ?_)) (List.Sublist.append_left (List.singleton_sublist.2 (by repeat (first | exact List.Mem.head _ | refine List.Mem.tail _ ?_ | refine List.mem_append_right _ ?_))) _) ⟨by simp only; omega, s3, fun w G hn hm => (RdG.rw hyc.1 hyc.2.1 hyc.2.2).at hn hm⟩ (by simp only; omega)
                    · skip
                      refine TL.skip rfl (fun k hk => by cases hk; decide) ?_
                      refine TL.skip rfl (fun k hk => by cases hk; decide) ?_
                      refine TL.skip rfl (fun k hk => by cases hk; decide) ?_
                      refine TL.pure (PV.pickF rfl rfl) rfl (by decide) ?_
                      refine TL.pure (PV.pickF rfl rfl) rfl (by decide) ?_
                      refine TL.nil ?_
                      refine TQ.thenC ?_
                      refine TC.condF rfl ?_
                      refine TC.skip ?_
                      refine TQ.thenC ?_
                      refine TC.seq ?_
                      refine TC.region ?_
                      refine TL.pure (PV.loadBox rfl Tb.agg_25 (by repeat (first | exact List.Mem.head _ | refine List.Mem.tail _ ?_ | refine List.mem_append_right _ ?_)) rfl) rfl (by decide) ?_
                      refine TL.pure (PV.move rfl) rfl (by decide) ?_
                      refine TL.call rfl Tb.gofn_19 (fun a w hs => Cost_ok w _ t (IsT.mk (t1.new hs.new) (t2.new hs.new) (t3.new hs.new)) hT _ m (IsG.of (g1.new hs.new)) hM) rfl (by decide) (fun _ _ => ?_)
                      rw [cst_2 t m]
                      refine TL.pure (PV.move rfl) rfl (by decide) ?_
                      refine TL.pure (PV.extract rfl rfl) rfl (by decide) ?_
                      refine TL.pure (PV.extract rfl rfl) rfl (by decide) ?_
                      refine TL.pure (PV.assign rfl) rfl (by decide) ?_
                      refine TL.pure (PV.assign rfl) rfl (by decide) ?_
                      refine TL.nil ?_
                      refine TQ.thenC ?_
                      refine TC.seq ?_
                      refine TC.seq ?_
                      refine TC.region ?_
                      refine TL.pure (PV.move rfl) rfl (by decide) ?_
                      refine TL.pure (PV.neq rfl rfl) rfl (by decide) ?_
                      refine TL.nil ?_
                      refine TQ.thenC ?_
                      first | refine TC.condD rfl (fun a2 => ?_) (fun a2 => ?_) | refine TC.cond rfl (fun a2 => ?_) (fun a2 => ?_)
                      · skip
                        refine TC.seq ?_
                        refine TC.region ?_
                        refine TL.pure (PV.loadBox rfl Tb.agg_25 (by repeat (first | exact List.Mem.head _ | refine List.Mem.tail _ ?_ | refine List.mem_append_right _ ?_)) rfl) rfl (by decide) ?_
                        refine TL.pure (PV.move rfl) rfl (by decide) ?_
                        refine TL.call rfl Tb.gofn_23 (fun a w hs => checkPlan_ok w _ t (IsT.mk (t1.new hs.new) (t2.new hs.new) (t3.new hs.new)) hT _ m (IsG.of (g1.new hs.new)) hM) rfl (by decide) (fun _ _ => ?_)
                        refine TL.pure (PV.move rfl) rfl (by decide) ?_
                        refine TL.pure (PV.eql rfl rfl) rfl (by decide) ?_
                        refine TL.pure (PV.assign rfl) rfl (by decide) ?_
                        refine TL.nil ?_
                        refine TQ.thenC ?_
                        refine TC.ret ?_
                        refine TQ.thenR ?_
                        refine TQ.retE1 rfl rfl ?_
                        first | exact ⟨(), rfl, trivial, List.nil_sublist _⟩ | (exfalso; simp_all; done) | (exfalso; simp_all; omega) | (exfalso; simp only [decide_eq_true_eq, decide_eq_false_iff_not, ne_eq, Bool.not_eq_true, Bool.not_eq_false] at *; omega) | exact ⟨(), by simp, trivial, List.nil_sublist _⟩
                      · skip
                        refine TC.skip ?_
                        refine TQ.thenC ?_
                        refine TC.seq ?_
                        refine TC.seq ?_
                        have hVP := vp_of a2
                        have ec : (cstR t m).1 = costI t m := by rw [cst_0 a2]
                        rw [ec]
                        have hml := mn_le hVP
                        refine TC.region ?_
                        refine TL.pure (PV.move rfl) rfl (by decide) ?_
                        refine TL.pure (PV.eql rfl rfl) rfl (by decide) ?_
                        refine TL.pure (PV.move rfl) rfl (by decide) ?_
                        first | refine TL.splitD 120 rfl (fun f7 => ?_) (fun f7 => ?_) | refine TL.split 120 rfl (fun f7 => ?_) (fun f7 => ?_)
                        · skip
                          refine TL.pure (PV.move rfl) rfl (by decide) ?_
                          refine TL.pure (PV.move rfl) rfl (by decide) ?_
                          refine TL.pure (PV.gtr rfl rfl) rfl (by decide) ?_
                          refine TL.pure (PV.pickT rfl rfl) rfl (by decide) ?_
                          refine TL.nil ?_
                          refine TQ.thenC ?_
                          first | refine TC.condD rfl (fun f8 => ?_) (fun f8 => ?_) | refine TC.cond rfl (fun f8 => ?_) (fun f8 => ?_)
                          · skip
                            refine TC.seq ?_
                            refine TC.region ?_
                            refine TL.pure (PV.assign rfl) rfl (by decide) ?_
                            refine TL.nil ?_
                            refine TQ.thenC ?_
                            refine TC.ret ?_
                            refine TQ.thenR ?_
                            refine TQ.retE1 rfl rfl ?_
                            first | exact ⟨(), rfl, trivial, List.nil_sublist _⟩ | (exfalso; simp_all; done) | (exfalso; simp_all; omega) | (exfalso; simp only [decide_eq_true_eq, decide_eq_false_iff_not, ne_eq, Bool.not_eq_true, Bool.not_eq_false] at *; omega) | exact ⟨(), by simp, trivial, List.nil_sublist _⟩
                          · skip
                            refine TC.skip ?_
                            refine TQ.thenC ?_
                            refine TC.seq ?_
                            refine TC.region ?_
                            refine TL.pure (PV.assign rfl) rfl (by decide) ?_
                            refine TL.nil ?_
                            refine TQ.thenC ?_
                            refine TC.block ?_
                            -- live and written in the loop, not told: [6]
                            refine TC.loopK [3, 9] (X := Nat × List (List Int) × (Value × Heap)) (fun x => x.1 ≤ 41 ∧ VP t x.2.1 ∧ ∀ w G, New w0 w G → (∀ y ∈ x.2.2.2, y ∈ G) → IsG w x.2.2.1 x.2.1) (fun x => [(16, .int .i64 (x.1 : Nat)), (1, x.2.2.1), (15, .int .i64 (costI t x.2.1))]) (fun x => x.2.2.2 ++ [(b0, Obj.cells #[.slice p1 t.s.length c1, .slice p2 t.d.length c2, .slice p3 t.c.length c3] 25 (0, 0))]) (fun x => 41 - x.1) (0, m, (.slice pg m.length cg, [])) ⟨Nat.zero_le _, hVP, fun w G hn _ => hg0.new hn⟩ (by repeat (first | exact True.intro | refine And.intro rfl ?_)) (List.singleton_sublist.2 (by repeat (first | exact List.Mem.head _ | refine List.Mem.tail _ ?_ | refine List.mem_append_right _ ?_))) ?_
                            intro x hx9
                            refine TC.seq ?_
                            refine TC.block ?_
                            refine TC.seq ?_
                            have hsm := hx9.2.1.g.sm hT.s hT.d
                            have hxl := mn_le hx9.2.1
                            refine TC.region ?_
                            refine TL.pure (PV.loadBox rfl Tb.agg_25 (by repeat (first | exact List.Mem.head _ | refine List.Mem.tail _ ?_ | refine List.mem_append_right _ ?_)) rfl) rfl (by decide) ?_
                            refine TL.pure (PV.move rfl) rfl (by decide) ?_
                            refine TL.call rfl Tb.gofn_31 (fun a w hs => IsBest_ok w _ t (IsT.mk (t1.new hs.new) (t2.new hs.new) (t3.new hs.new)) hT _ x.2.1 (hx9.2.2 w _ hs.new (fun yy hyy => by repeat (first | exact List.mem_append_left _ hyy | exact List.mem_append_left _ (List.mem_append_right _ hyy) | exact List.mem_append_left _ (List.mem_append_left _ hyy) | refine List.mem_append_right _ ?_ | refine List.Mem.tail _ ?_))) hsm) rfl (by decide) (fun _ _ => ?_)
                            rw [ib_e hx9.2.1]
                            refine TL.pure (PV.move rfl) rfl (by decide) ?_
                            refine TL.pure (PV.extract rfl rfl) rfl (by decide) ?_
                            refine TL.pure (PV.extract rfl rfl) rfl (by decide) ?_
                            refine TL.pure (PV.assign rfl) rfl (by decide) ?_
                            refine TL.pure (PV.assign rfl) rfl (by decide) ?_
                            refine TL.nil ?_
                            refine TQ.thenC ?_
                            refine TC.seq ?_
                            refine TC.region ?_
                            refine TL.pure (PV.loadBox rfl Tb.agg_25 (by repeat (first | exact List.Mem.head _ | refine List.Mem.tail _ ?_ | refine List.mem_append_right _ ?_)) rfl) rfl (by decide) ?_
                            refine TL.pure (PV.move rfl) rfl (by decide) ?_
                            refine TL.call rfl Tb.gofn_40 (fun a w hs => round_vp w _ t (IsT.mk (t1.new hs.new) (t2.new hs.new) (t3.new hs.new)) hT _ x.2.1 (hx9.2.2 w _ hs.new (fun yy hyy => by repeat (first | exact List.mem_append_left _ hyy | exact List.mem_append_left _ (List.mem_append_right _ hyy) | exact List.mem_append_left _ (List.mem_append_left _ hyy) | refine List.mem_append_right _ ?_ | refine List.Mem.tail _ ?_))) hsm hx9.2.1) rfl (by decide) (fun yr hyr => ?_)
                            rw [gval_eq hyr.1]
                            refine TL.pure (PV.move rfl) rfl (by decide) ?_
                            refine TL.pure (PV.extract rfl rfl) rfl (by decide) ?_
                            refine TL.pure (PV.extract rfl rfl) rfl (by decide) ?_
                            refine TL.pure (PV.extract rfl rfl) rfl (by decide) ?_
                            refine TL.pure (PV.assign rfl) rfl (by decide) ?_
                            refine TL.pure (PV.assign rfl) rfl (by decide) ?_
                            refine TL.pure (PV.assign rfl) rfl (by decide) ?_
                            refine TL.nil ?_
                            refine TQ.thenC ?_
                            refine TC.seq ?_
                            refine TC.seq ?_
                            refine TC.region ?_
                            refine TL.pure (PV.move rfl) rfl (by decide) ?_
                            refine TL.pure (PV.neq rfl rfl) rfl (by decide) ?_
                            refine TL.pure (PV.move rfl) rfl (by decide) ?_
                            first | refine TL.splitD 142 rfl (fun f9 => ?_) (fun f9 => ?_) | refine TL.split 142 rfl (fun f9 => ?_) (fun f9 => ?_)
                            · skip
                              refine TL.skip rfl (fun k hk => by cases hk; decide) ?_
                              refine TL.skip rfl (fun k hk => by cases hk; decide) ?_
                              refine TL.pure (PV.pickT rfl rfl) rfl (by decide) ?_
                              refine TL.pure (PV.move rfl) rfl (by decide) ?_
                              refine TL.skip rfl (fun k hk => by cases hk; decide) ?_
                              refine TL.skip rfl (fun k hk => by cases hk; decide) ?_
                              refine TL.skip rfl (fun k hk => by cases hk; decide) ?_
                              refine TL.pure (PV.pickT rfl rfl) rfl (by decide) ?_
                              refine TL.pure (PV.move rfl) rfl (by decide) ?_
                              refine TL.skip rfl (fun k hk => by cases hk; decide) ?_
                              refine TL.skip rfl (fun k hk => by cases hk; decide) ?_
                              refine TL.skip rfl (fun k hk => by cases hk; decide) ?_
                              refine TL.skip rfl (fun k hk => by cases hk; decide) ?_
                              refine TL.skip rfl (fun k hk => by cases hk; decide) ?_
                              refine TL.pure (PV.pickT rfl rfl) rfl (by decide) ?_
                              refine TL.pure (PV.move rfl) rfl (by decide) ?_
                              refine TL.skip rfl (fun k hk => by cases hk; decide) ?_
                              refine TL.skip rfl (fun k hk => by cases hk; decide) ?_
                              refine TL.skip rfl (fun k hk => by cases hk; decide) ?_
                              refine TL.pure (PV.pickT rfl rfl) rfl (by decide) ?_
                              refine TL.nil ?_
                              refine TQ.thenC ?_
                              refine TC.condT rfl ?_
                              refine TC.seq ?_
                              refine TC.region ?_
                              refine TL.pure (PV.assign rfl) rfl (by decide) ?_
                              refine TL.nil ?_
                              refine TQ.thenC ?_
                              refine TC.ret ?_
                              refine TQ.thenR ?_
                              refine TQ.blkR ?_
                              refine TQ.thenR ?_
                              refine TQ.thenR ?_
                              refine TQ.blkR ?_
                              refine TQ.retE1 rfl rfl ?_
                              first | exact ⟨(), rfl, trivial, List.nil_sublist _⟩ | (exfalso; simp_all; done) | (exfalso; simp_all; omega) | (exfalso; simp only [decide_eq_true_eq, decide_eq_false_iff_not, ne_eq, Bool.not_eq_true, Bool.not_eq_false] at *; omega) | exact ⟨(), by simp, trivial, List.nil_sublist _⟩
                            · skip
                              refine TL.pure (PV.move rfl) rfl (by decide) ?_
                              refine TL.pure (PV.neq rfl rfl) rfl (by decide) ?_
                              refine TL.pure (PV.pickF rfl rfl) rfl (by decide) ?_
                              refine TL.pure (PV.move rfl) rfl (by decide) ?_
                              first | refine TL.splitD 146 rfl (fun k1 => ?_) (fun k1 => ?_) | refine TL.split 146 rfl (fun k1 => ?_) (fun k1 => ?_)
                              · skip
                                refine TL.skip rfl (fun k hk => by cases hk; decide) ?_
                                refine TL.skip rfl (fun k hk => by cases hk; decide) ?_
                                refine TL.skip rfl (fun k hk => by cases hk; decide) ?_
                                refine TL.pure (PV.pickT rfl rfl) rfl (by decide) ?_
                                refine TL.pure (PV.move rfl) rfl (by decide) ?_
                                refine TL.skip rfl (fun k hk => by cases hk; decide) ?_
                                refine TL.skip rfl (fun k hk => by cases hk; decide) ?_
                                refine TL.skip rfl (fun k hk => by cases hk; decide) ?_
                                refine TL.skip rfl (fun k hk => by cases hk; decide) ?_
                                refine TL.skip rfl (fun k hk => by cases hk; decide) ?_
                                refine TL.pure (PV.pickT rfl rfl) rfl (by decide) ?_
                                refine TL.pure (PV.move rfl) rfl (by decide) ?_
                                refine TL.skip rfl (fun k hk => by cases hk; decide) ?_
                                refine TL.skip rfl (fun k hk => by cases hk; decide) ?_
                                refine TL.skip rfl (fun k hk => by cases hk; decide) ?_
                                refine TL.pure (PV.pickT rfl rfl) rfl (by decide) ?_
                                refine TL.nil ?_
                                refine TQ.thenC ?_
                                refine TC.condT rfl ?_
                                refine TC.seq ?_
                                refine TC.region ?_
                                refine TL.pure (PV.assign rfl) rfl (by decide) ?_
                                refine TL.nil ?_
                                refine TQ.thenC ?_
                                refine TC.ret ?_
                                refine TQ.thenR ?_
                                refine TQ.blkR ?_
                                refine TQ.thenR ?_
                                refine TQ.thenR ?_
                                refine TQ.blkR ?_
                                refine TQ.retE1 rfl rfl ?_
                                first | exact ⟨(), rfl, trivial, List.nil_sublist _⟩ | (exfalso; simp_all; done) | (exfalso; simp_all; omega) | (exfalso; simp only [decide_eq_true_eq, decide_eq_false_iff_not, ne_eq, Bool.not_eq_true, Bool.not_eq_false] at *; omega) | exact ⟨(), by simp, trivial, List.nil_sublist _⟩
                              · skip
                                refine TL.pure (PV.move rfl) rfl (by decide) ?_
                                refine TL.pure (PV.move rfl) rfl (by decide) ?_
                                refine TL.pure (PV.eqlB rfl rfl Tb.bool_4) rfl (by decide) ?_
                                refine TL.pure (PV.pickF rfl rfl) rfl (by decide) ?_
                                refine TL.pure (PV.move rfl) rfl (by decide) ?_
                                first | refine TL.splitD 151 rfl (fun k2 => ?_) (fun k2 => ?_) | refine TL.split 151 rfl (fun k2 => ?_) (fun k2 => ?_)
                                · skip
                                  refine TL.skip rfl (fun k hk => by cases hk; decide) ?_
                                  refine TL.skip rfl (fun k hk => by cases hk; decide) ?_
                                  refine TL.skip rfl (fun k hk => by cases hk; decide) ?_
                                  refine TL.skip rfl (fun k hk => by cases hk; decide) ?_
                                  refine TL.skip rfl (fun k hk => by cases hk; decide) ?_
                                  refine TL.pure (PV.pickT rfl rfl) rfl (by decide) ?_
                                  refine TL.pure (PV.move rfl) rfl (by decide) ?_
                                  refine TL.skip rfl (fun k hk => by cases hk; decide) ?_
                                  refine TL.skip rfl (fun k hk => by cases hk; decide) ?_
                                  refine TL.skip rfl (fun k hk => by cases hk; decide) ?_
                                  refine TL.pure (PV.pickT rfl rfl) rfl (by decide) ?_
                                  refine TL.nil ?_
                                  refine TQ.thenC ?_
                                  refine TC.condT rfl ?_
                                  refine TC.seq ?_
                                  refine TC.region ?_
                                  refine TL.pure (PV.assign rfl) rfl (by decide) ?_
                                  refine TL.nil ?_
                                  refine TQ.thenC ?_
                                  refine TC.ret ?_
                                  refine TQ.thenR ?_
                                  refine TQ.blkR ?_
                                  refine TQ.thenR ?_
                                  refine TQ.thenR ?_
                                  refine TQ.blkR ?_
                                  refine TQ.retE1 rfl rfl ?_
                                  first | exact ⟨(), rfl, trivial, List.nil_sublist _⟩ | (exfalso; simp_all; done) | (exfalso; simp_all; omega) | (exfalso; simp only [decide_eq_true_eq, decide_eq_false_iff_not, ne_eq, Bool.not_eq_true, Bool.not_eq_false] at *; omega) | exact ⟨(), by simp, trivial, List.nil_sublist _⟩
                                · skip
                                  refine TL.pure (PV.move rfl) rfl (by decide) ?_
                                  refine TL.pure (PV.move rfl) rfl (by decide) ?_
                                  refine TL.pure (PV.move rfl) rfl (by decide) ?_
                                  refine TL.pure (PV.eql rfl rfl) rfl (by decide) ?_
                                  refine TL.pure (PV.neqB rfl rfl Tb.bool_4) rfl (by decide) ?_
                                  refine TL.pure (PV.pickF rfl rfl) rfl (by decide) ?_
                                  refine TL.pure (PV.move rfl) rfl (by decide) ?_
                                  first | refine TL.splitD 158 rfl (fun k3 => ?_) (fun k3 => ?_) | refine TL.split 158 rfl (fun k3 => ?_) (fun k3 => ?_)
                                  · skip
                                    refine TL.skip rfl (fun k hk => by cases hk; decide) ?_
                                    refine TL.skip rfl (fun k hk => by cases hk; decide) ?_
                                    refine TL.skip rfl (fun k hk => by cases hk; decide) ?_
                                    refine TL.pure (PV.pickT rfl rfl) rfl (by decide) ?_
                                    refine TL.nil ?_
                                    refine TQ.thenC ?_
                                    refine TC.condT rfl ?_
                                    refine TC.seq ?_
                                    refine TC.region ?_
                                    refine TL.pure (PV.assign rfl) rfl (by decide) ?_
                                    refine TL.nil ?_
                                    refine TQ.thenC ?_
                                    refine TC.ret ?_
                                    refine TQ.thenR ?_
                                    refine TQ.blkR ?_
                                    refine TQ.thenR ?_
                                    refine TQ.thenR ?_
                                    refine TQ.blkR ?_
                                    refine TQ.retE1 rfl rfl ?_
                                    first | exact ⟨(), rfl, trivial, List.nil_sublist _⟩ | (exfalso; simp_all; done) | (exfalso; simp_all; omega) | (exfalso; simp only [decide_eq_true_eq, decide_eq_false_iff_not, ne_eq, Bool.not_eq_true, Bool.not_eq_false] at *; omega) | exact ⟨(), by simp, trivial, List.nil_sublist _⟩
                                  · skip
                                    refine TL.pure (PV.move rfl) rfl (by decide) ?_
                                    refine TL.pure (PV.move rfl) rfl (by decide) ?_
                                    refine TL.pure (PV.lss rfl rfl) rfl (by decide) ?_
                                    refine TL.pure (PV.pickF rfl rfl) rfl (by decide) ?_
                                    refine TL.nil ?_
                                    refine TQ.thenC ?_
                                    first | refine TC.condD rfl (fun k4 => ?_) (fun k4 => ?_) | refine TC.cond rfl (fun k4 => ?_) (fun k4 => ?_)
                                    · skip
                                      refine TC.seq ?_
                                      refine TC.region ?_
                                      refine TL.pure (PV.assign rfl) rfl (by decide) ?_
                                      refine TL.nil ?_
                                      refine TQ.thenC ?_
                                      refine TC.ret ?_
                                      refine TQ.thenR ?_
                                      refine TQ.blkR ?_
                                      refine TQ.thenR ?_
                                      refine TQ.thenR ?_
                                      refine TQ.blkR ?_
                                      refine TQ.retE1 rfl rfl ?_
                                      first | exact ⟨(), rfl, trivial, List.nil_sublist _⟩ | (exfalso; simp_all; done) | (exfalso; simp_all; omega) | (exfalso; simp only [decide_eq_true_eq, decide_eq_false_iff_not, ne_eq, Bool.not_eq_true, Bool.not_eq_false] at *; omega) | exact ⟨(), by simp, trivial, List.nil_sublist _⟩
                                    · skip
                                      refine TC.skip ?_
                                      refine TQ.thenC ?_
                                      refine TC.seq ?_
                                      refine TC.seq ?_
                                      refine TC.region ?_
                                      refine TL.pure (PV.move rfl) rfl (by decide) ?_
                                      refine TL.pure (PV.move rfl) rfl (by decide) ?_
                                      first | refine TL.splitD 164 rfl (fun k5 => ?_) (fun k5 => ?_) | refine TL.split 164 rfl (fun k5 => ?_) (fun k5 => ?_)
                                      · skip
                                        refine TL.skip rfl (fun k hk => by cases hk; decide) ?_
                                        refine TL.skip rfl (fun k hk => by cases hk; decide) ?_
                                        refine TL.pure (PV.pickT rfl rfl) rfl (by decide) ?_
                                        refine TL.nil ?_
                                        refine TQ.thenC ?_
                                        refine TC.condT rfl ?_
                                        refine TC.seq ?_
                                        refine TC.region ?_
                                        refine TL.pure (PV.assign rfl) rfl (by decide) ?_
                                        refine TL.nil ?_
                                        refine TQ.thenC ?_
                                        refine TC.ret ?_
                                        refine TQ.thenR ?_
                                        refine TQ.blkR ?_
                                        refine TQ.thenR ?_
                                        refine TQ.thenR ?_
                                        refine TQ.blkR ?_
                                        refine TQ.retE1 rfl rfl ?_
                                        first | exact ⟨(), rfl, trivial, List.nil_sublist _⟩ | (exfalso; simp_all; done) | (exfalso; simp_all; omega) | (exfalso; simp only [decide_eq_true_eq, decide_eq_false_iff_not, ne_eq, Bool.not_eq_true, Bool.not_eq_false] at *; omega) | exact ⟨(), by simp, trivial, List.nil_sublist _⟩
                                      · skip
                                        refine TL.pure (PV.move rfl) rfl (by decide) ?_
                                        refine TL.pure (PV.gtr rfl rfl) rfl (by decide) ?_
                                        refine TL.pure (PV.pickF rfl rfl) rfl (by decide) ?_
                                        refine TL.nil ?_
                                        refine TQ.thenC ?_
                                        first | refine TC.condD rfl (fun k6 => ?_) (fun k6 => ?_) | refine TC.cond rfl (fun k6 => ?_) (fun k6 => ?_)
                                        · skip
                                          refine TC.seq ?_
                                          refine TC.region ?_
                                          refine TL.pure (PV.assign rfl) rfl (by decide) ?_
                                          refine TL.nil ?_
                                          refine TQ.thenC ?_
                                          refine TC.ret ?_
                                          refine TQ.thenR ?_
                                          refine TQ.blkR ?_
                                          refine TQ.thenR ?_
                                          refine TQ.thenR ?_
                                          refine TQ.blkR ?_
                                          refine TQ.retE1 rfl rfl ?_
                                          first | exact ⟨(), rfl, trivial, List.nil_sublist _⟩ | (exfalso; simp_all; done) | (exfalso; simp_all; omega) | (exfalso; simp only [decide_eq_true_eq, decide_eq_false_iff_not, ne_eq, Bool.not_eq_true, Bool.not_eq_false] at *; omega) | exact ⟨(), by simp, trivial, List.nil_sublist _⟩
                                        · skip
                                          refine TC.skip ?_
                                          refine TQ.thenC ?_
                                          refine TC.seq ?_
                                          have hne : costI t x.2.1 ≠ mnI t := by simpa using k5
                                          obtain ⟨s1, s2, s3, s4, s5⟩ := alo_step hx9.2.1 (hyr.2 hne)
                                          refine TC.region ?_
                                          refine TL.pure (PV.loadBox rfl Tb.agg_25 (by repeat (first | exact List.Mem.head _ | refine List.Mem.tail _ ?_ | refine List.mem_append_right _ ?_)) rfl) rfl (by decide) ?_
                                          refine TL.pure (PV.move rfl) rfl (by decide) ?_
                                          refine TL.pure (PV.move rfl) rfl (by decide) ?_
                                          refine TL.call rfl Tb.gofn_43 (fun a w hs => Along_ok w _ t (IsT.mk (t1.new hs.new) (t2.new hs.new) (t3.new hs.new)) hT _ x.2.1 (hx9.2.2 w _ hs.new (fun yy hyy => by repeat (first | exact List.mem_append_left _ hyy | exact List.mem_append_left _ (List.mem_append_right _ hyy) | exact List.mem_append_left _ (List.mem_append_left _ hyy) | refine List.mem_append_right _ ?_ | refine List.Mem.tail _ ?_))) hsm (gp yr.1) (gc yr.1) yr.2 (RecsAt.s hs.new (fun yy hyy => by repeat (first | exact List.mem_append_left _ hyy | exact List.mem_append_left _ (List.mem_append_right _ hyy) | exact List.mem_append_left _ (List.mem_append_left _ hyy) | refine List.mem_append_right _ ?_ | refine List.Mem.tail _ ?_)) hyr.1) (by omega) (gok_cap hyr.1)) rfl (by decide) (fun ya hya => ?_)
                                          rw [s1]
                                          refine TL.pure (PV.move rfl) rfl (by decide) ?_
                                          refine TL.pure (PV.extract rfl rfl) rfl (by decide) ?_
                                          refine TL.pure (PV.extract rfl rfl) rfl (by decide) ?_
                                          refine TL.pure (PV.extract rfl rfl) rfl (by decide) ?_
                                          refine TL.pure (PV.assign rfl) rfl (by decide) ?_
                                          refine TL.pure (PV.assign rfl) rfl (by decide) ?_
                                          refine TL.pure (PV.assign rfl) rfl (by decide) ?_
                                          refine TL.nil ?_
                                          refine TQ.thenC ?_
                                          refine TC.seq ?_
                                          refine TC.region ?_
                                          refine TL.pure (PV.loadBox rfl Tb.agg_25 (by repeat (first | exact List.Mem.head _ | refine List.Mem.tail _ ?_ | refine List.mem_append_right _ ?_)) rfl) rfl (by decide) ?_
                                          refine TL.pure (PV.move rfl) rfl (by decide) ?_
                                          refine TL.call rfl Tb.gofn_19 (fun a w hs => Cost_ok w _ t (IsT.mk (t1.new hs.new) (t2.new hs.new) (t3.new hs.new)) hT _ _ (hya.at hs.new (fun yy hyy => by repeat (first | exact List.mem_append_left _ hyy | exact List.mem_append_left _ (List.mem_append_right _ hyy) | exact List.mem_append_left _ (List.mem_append_left _ hyy) | refine List.mem_append_right _ ?_ | refine List.Mem.tail _ ?_))) (s3.g.sm hT.s hT.d)) rfl (by decide) (fun _ _ => ?_)
                                          rw [cst_0 (show ¬ planI t _ ≠ 0 by rw [s3.p]; decide)]
                                          refine TL.pure (PV.move rfl) rfl (by decide) ?_
                                          refine TL.pure (PV.extract rfl rfl) rfl (by decide) ?_
                                          refine TL.pure (PV.extract rfl rfl) rfl (by decide) ?_
                                          refine TL.pure (PV.assign rfl) rfl (by decide) ?_
                                          refine TL.pure (PV.assign rfl) rfl (by decide) ?_
                                          refine TL.nil ?_
                                          refine TQ.thenC ?_
                                          refine TC.seq ?_
                                          refine TC.seq ?_
                                          refine TC.region ?_
                                          refine TL.pure (PV.move rfl) rfl (by decide) ?_
                                          refine TL.pure (PV.neq rfl rfl) rfl (by decide) ?_
                                          refine TL.pure (PV.move rfl) rfl (by decide) ?_
                                          first | refine TL.splitD 184 rfl (fun k7 => ?_) (fun k7 => ?_) | refine TL.split 184 rfl (fun k7 => ?_) (fun k7 => ?_)
                                          · skip
                                            refine TL.skip rfl (fun k hk => by cases hk; decide) ?_
                                            refine TL.skip rfl (fun k hk => by cases hk; decide) ?_
                                            refine TL.pure (PV.pickT rfl rfl) rfl (by decide) ?_
                                            refine TL.pure (PV.move rfl) rfl (by decide) ?_
                                            refine TL.skip rfl (fun k hk => by cases hk; decide) ?_
                                            refine TL.skip rfl (fun k hk => by cases hk; decide) ?_
                                            refine TL.pure (PV.pickT rfl rfl) rfl (by decide) ?_
                                            refine TL.pure (PV.move rfl) rfl (by decide) ?_
                                            refine TL.skip rfl (fun k hk => by cases hk; decide) ?_
                                            refine TL.skip rfl (fun k hk => by cases hk; decide) ?_
                                            refine TL.skip rfl (fun k hk => by cases hk; decide) ?_
                                            refine TL.pure (PV.pickT rfl rfl) rfl (by decide) ?_
                                            refine TL.nil ?_
                                            refine TQ.thenC ?_
                                            refine TC.condT rfl ?_
                                            refine TC.seq ?_
                                            refine TC.region ?_
                                            refine TL.pure (PV.assign rfl) rfl (by decide) ?_
                                            refine TL.nil ?_
                                            refine TQ.thenC ?_
                                            refine TC.ret ?_
                                            refine TQ.thenR ?_
                                            refine TQ.blkR ?_
                                            refine TQ.thenR ?_
                                            refine TQ.thenR ?_
                                            refine TQ.blkR ?_
                                            refine TQ.retE1 rfl rfl ?_
                                            first | exact ⟨(), rfl, trivial, List.nil_sublist _⟩ | (exfalso; simp_all; done) | (exfalso; simp_all; omega) | (exfalso; simp only [decide_eq_true_eq, decide_eq_false_iff_not, ne_eq, Bool.not_eq_true, Bool.not_eq_false] at *; omega) | exact ⟨(), by simp, trivial, List.nil_sublist _⟩
                                          · skip
                                            refine TL.pure (PV.move rfl) rfl (by decide) ?_
                                            refine TL.pure (PV.neq rfl rfl) rfl (by decide) ?_
                                            refine TL.pure (PV.pickF rfl rfl) rfl (by decide) ?_
                                            refine TL.pure (PV.move rfl) rfl (by decide) ?_
                                            first | refine TL.splitD 188 rfl (fun k8 => ?_) (fun k8 => ?_) | refine TL.split 188 rfl (fun k8 => ?_) (fun k8 => ?_)
                                            · skip
                                              refine TL.skip rfl (fun k hk => by cases hk; decide) ?_
                                              refine TL.skip rfl (fun k hk => by cases hk; decide) ?_
                                              refine TL.pure (PV.pickT rfl rfl) rfl (by decide) ?_
                                              refine TL.pure (PV.move rfl) rfl (by decide) ?_
                                              refine TL.skip rfl (fun k hk => by cases hk; decide) ?_
                                              refine TL.skip rfl (fun k hk => by cases hk; decide) ?_
                                              refine TL.skip rfl (fun k hk => by cases hk; decide) ?_
                                              refine TL.pure (PV.pickT rfl rfl) rfl (by decide) ?_
                                              refine TL.nil ?_
                                              refine TQ.thenC ?_
                                              refine TC.condT rfl ?_
                                              refine TC.seq ?_
                                              refine TC.region ?_
                                              refine TL.pure (PV.assign rfl) rfl (by decide) ?_
                                              refine TL.nil ?_
                                              refine TQ.thenC ?_
                                              refine TC.ret ?_
                                              refine TQ.thenR ?_
                                              refine TQ.blkR ?_
                                              refine TQ.thenR ?_
                                              refine TQ.thenR ?_
                                              refine TQ.blkR ?_
                                              refine TQ.retE1 rfl rfl ?_
                                              first | exact ⟨(), rfl, trivial, List.nil_sublist _⟩ | (exfalso; simp_all; done) | (exfalso; simp_all; omega) | (exfalso; simp only [decide_eq_true_eq, decide_eq_false_iff_not, ne_eq, Bool.not_eq_true, Bool.not_eq_false] at *; omega) | exact ⟨(), by simp, trivial, List.nil_sublist _⟩
                                            · skip
                                              refine TL.pure (PV.move rfl) rfl (by decide) ?_
                                              refine TL.pure (PV.lss rfl rfl) rfl (by decide) ?_
                                              refine TL.pure (PV.pickF rfl rfl) rfl (by decide) ?_
                                              refine TL.pure (PV.move rfl) rfl (by decide) ?_
                                              first | refine TL.splitD 192 rfl (fun k9 => ?_) (fun k9 => ?_) | refine TL.split 192 rfl (fun k9 => ?_) (fun k9 => ?_)
                                              · skip
                                                refine TL.skip rfl (fun k hk => by cases hk; decide) ?_
                                                refine TL.skip rfl (fun k hk => by cases hk; decide) ?_
                                                refine TL.skip rfl (fun k hk => by cases hk; decide) ?_
                                                refine TL.pure (PV.pickT rfl rfl) rfl (by decide) ?_
                                                refine TL.nil ?_
                                                refine TQ.thenC ?_
                                                refine TC.condT rfl ?_
                                                refine TC.seq ?_
                                                refine TC.region ?_
                                                refine TL.pure (PV.assign rfl) rfl (by decide) ?_
                                                refine TL.nil ?_
                                                refine TQ.thenC ?_
                                                refine TC.ret ?_
                                                refine TQ.thenR ?_
                                                refine TQ.blkR ?_
                                                refine TQ.thenR ?_
                                                refine TQ.thenR ?_
                                                refine TQ.blkR ?_
                                                refine TQ.retE1 rfl rfl ?_
                                                first | exact ⟨(), rfl, trivial, List.nil_sublist _⟩ | (exfalso; simp_all; done) | (exfalso; simp_all; omega) | (exfalso; simp only [decide_eq_true_eq, decide_eq_false_iff_not, ne_eq, Bool.not_eq_true, Bool.not_eq_false] at *; omega) | exact ⟨(), by simp, trivial, List.nil_sublist _⟩
                                              · skip
                                                refine TL.pure (PV.move rfl) rfl (by decide) ?_
                                                refine TL.pure (PV.move rfl) rfl (by decide) ?_
                                                refine TL.pure (PV.geq rfl rfl) rfl (by decide) ?_
                                                refine TL.pure (PV.pickF rfl rfl) rfl (by decide) ?_
                                                refine TL.nil ?_
                                                refine TQ.thenC ?_
                                                first | refine TC.condD rfl (fun k10 => ?_) (fun k10 => ?_) | refine TC.cond rfl (fun k10 => ?_) (fun k10 => ?_)
                                                · skip
                                                  refine TC.seq ?_
                                                  refine TC.region ?_
                                                  refine TL.pure (PV.assign rfl) rfl (by decide) ?_
                                                  refine TL.nil ?_
                                                  refine TQ.thenC ?_
                                                  refine TC.ret ?_
                                                  refine TQ.thenR ?_
                                                  refine TQ.blkR ?_
                                                  refine TQ.thenR ?_
                                                  refine TQ.thenR ?_
                                                  refine TQ.blkR ?_
                                                  refine TQ.retE1 rfl rfl ?_
                                                  first | exact ⟨(), rfl, trivial, List.nil_sublist _⟩ | (exfalso; simp_all; done) | (exfalso; simp_all; omega) | (exfalso; simp only [decide_eq_true_eq, decide_eq_false_iff_not, ne_eq, Bool.not_eq_true, Bool.not_eq_false] at *; omega) | exact ⟨(), by simp, trivial, List.nil_sublist _⟩
                                                · skip
                                                  refine TC.skip ?_
                                                  refine TQ.thenC ?_
                                                  refine TC.region ?_
                                                  refine TL.pure (PV.move rfl) rfl (by decide) ?_
                                                  refine TL.call rfl Tb.gofn_42 (fun a w hs => copyTable_ok w _ _ (hya.at hs.new (fun yy hyy => by repeat (first | exact List.mem_append_left _ hyy | exact List.mem_append_left _ (List.mem_append_right _ hyy) | exact List.mem_append_left _ (List.mem_append_left _ hyy) | refine List.mem_append_right _ ?_ | refine List.Mem.tail _ ?_))) (s3.g.sm hT.s hT.d)) rfl (by decide) (fun yc hyc => ?_)
                                                  refine TL.pure (PV.move rfl) rfl (by decide) ?_
                                                  refine TL.pure (PV.assign rfl) rfl (by decide) ?_
                                                  refine TL.pure (PV.assign rfl) rfl (by decide) ?_
                                                  refine TL.nil ?_
                                                  refine TQ.blkN ?_
                                                  refine TQ.thenC ?_
                                                  refine TC.region ?_
                                                  refine TL.pure (PV.move rfl) rfl (by decide) ?_
                                                  refine TL.pure (PV.add rfl rfl (by omega)) rfl (by decide) ?_
                                                  refine TL.pure (PV.assign rfl) rfl (by decide) ?_
                                                  refine TL.nil ?_
                                                  refine TQ.thenN ?_
                                                  refine TQ.backK (x.1 + 1, (aloR t x.2.1 yr.2).1, (gval yc.1 (aloR t x.2.1 yr.2).1.length, gbR rwR 22 yc.1 yc.2 ++ rwB yc.2)) (by repeat (first | exact True.intro | refine And.intro rfl ?_)) (by repeat (first | exact True.intro | refine And.intro rfl ?_)) (List.Sublist.append_left (List.singleton_sublist.2 (by repeat (first | exact List.Mem.head _ | refine List.Mem.tail _ ?_ | refine List.mem_append_right _ ?_))) _) ⟨by simp only; omega, s3, fun w G hn hm => (RdG.rw hyc.1 hyc.2.1 hyc.2.2).at hn hm⟩ (by simp only; omega)
                        · skip
                          refine TL.skip rfl (fun k hk => by cases hk; decide) ?_
                          refine TL.skip rfl (fun k hk => by cases hk; decide) ?_
                          refine TL.skip rfl (fun k hk => by cases hk; decide) ?_
                          refine TL.pure (PV.pickF rfl rfl) rfl (by decide) ?_
                          refine TL.nil ?_
                          refine TQ.thenC ?_
                          refine TC.condF rfl ?_
                          refine TC.skip ?_
                          refine TQ.thenC ?_
                          refine TC.seq ?_
                          refine TC.region ?_
                          refine TL.pure (PV.assign rfl) rfl (by decide) ?_
                          refine TL.nil ?_
                          refine TQ.thenC ?_
                          refine TC.block ?_
                          -- live and written in the loop, not told: [6]
                          refine TC.loopK [3, 9] (X := Nat × List (List Int) × (Value × Heap)) (fun x => x.1 ≤ 41 ∧ VP t x.2.1 ∧ ∀ w G, New w0 w G → (∀ y ∈ x.2.2.2, y ∈ G) → IsG w x.2.2.1 x.2.1) (fun x => [(16, .int .i64 (x.1 : Nat)), (1, x.2.2.1), (15, .int .i64 (costI t x.2.1))]) (fun x => x.2.2.2 ++ [(b0, Obj.cells #[.slice p1 t.s.length c1, .slice p2 t.d.length c2, .slice p3 t.c.length c3] 25 (0, 0))]) (fun x => 41 - x.1) (0, m, (.slice pg m.length cg, [])) ⟨Nat.zero_le _, hVP, fun w G hn _ => hg0.new hn⟩ (by repeat (first | exact True.intro | refine And.intro rfl ?_)) (List.singleton_sublist.2 (by repeat (first | exact List.Mem.head _ | refine List.Mem.tail _ ?_ | refine List.mem_append_right _ ?_))) ?_
                          intro x hx9
                          refine TC.seq ?_
                          refine TC.block ?_
                          refine TC.seq ?_
                          have hsm := hx9.2.1.g.sm hT.s hT.d
                          have hxl := mn_le hx9.2.1
                          refine TC.region ?_
                          refine TL.pure (PV.loadBox rfl Tb.agg_25 (by repeat (first | exact List.Mem.head _ | refine List.Mem.tail _ ?_ | refine List.mem_append_right _ ?_)) rfl) rfl (by decide) ?_
                          refine TL.pure (PV.move rfl) rfl (by decide) ?_
                          refine TL.call rfl Tb.gofn_31 (fun a w hs => IsBest_ok w _ t (IsT.mk (t1.new hs.new) (t2.new hs.new) (t3.new hs.new)) hT _ x.2.1 (hx9.2.2 w _ hs.new (fun yy hyy => by repeat (first | exact List.mem_append_left _ hyy | exact List.mem_append_left _ (List.mem_append_right _ hyy) | exact List.mem_append_left _ (List.mem_append_left _ hyy) | refine List.mem_append_right _ ?_ | refine List.Mem.tail _ ?_))) hsm) rfl (by decide) (fun _ _ => ?_)
                          rw [ib_e hx9.2.1]
                          refine TL.pure (PV.move rfl) rfl (by decide) ?_
                          refine TL.pure (PV.extract rfl rfl) rfl (by decide) ?_
                          refine TL.pure (PV.extract rfl rfl) rfl (by decide) ?_
                          refine TL.pure (PV.assign rfl) rfl (by decide) ?_
                          refine TL.pure (PV.assign rfl) rfl (by decide) ?_
                          refine TL.nil ?_
                          refine TQ.thenC ?_
                          refine TC.seq ?_
                          refine TC.region ?_
                          refine TL.pure (PV.loadBox rfl Tb.agg_25 (by repeat (first | exact List.Mem.head _ | refine List.Mem.tail _ ?_ | refine List.mem_append_right _ ?_)) rfl) rfl (by decide) ?_
                          refine TL.pure (PV.move rfl) rfl (by decide) ?_
                          refine TL.call rfl Tb.gofn_40 (fun a w hs => round_vp w _ t (IsT.mk (t1.new hs.new) (t2.new hs.new) (t3.new hs.new)) hT _ x.2.1 (hx9.2.2 w _ hs.new (fun yy hyy => by repeat (first | exact List.mem_append_left _ hyy | exact List.mem_append_left _ (List.mem_append_right _ hyy) | exact List.mem_append_left _ (List.mem_append_left _ hyy) | refine List.mem_append_right _ ?_ | refine List.Mem.tail _ ?_))) hsm hx9.2.1) rfl (by decide) (fun yr hyr => ?_)
                          rw [gval_eq hyr.1]
                          refine TL.pure (PV.move rfl) rfl (by decide) ?_
                          refine TL.pure (PV.extract rfl rfl) rfl (by decide) ?_
                          refine TL.pure (PV.extract rfl rfl) rfl (by decide) ?_
                          refine TL.pure (PV.extract rfl rfl) rfl (by decide) ?_
                          refine TL.pure (PV.assign rfl) rfl (by decide) ?_
                          refine TL.pure (PV.assign rfl) rfl (by decide) ?_
                          refine TL.pure (PV.assign rfl) rfl (by decide) ?_
                          refine TL.nil ?_
                          refine TQ.thenC ?_
                          refine TC.seq ?_
                          refine TC.seq ?_
                          refine TC.region ?_
                          refine TL.pure (PV.move rfl) rfl (by decide) ?_
                          refine TL.pure (PV.neq rfl rfl) rfl (by decide) ?_
                          refine TL.pure (PV.move rfl) rfl (by decide) ?_
                          first | refine TL.splitD 142 rfl (fun f9 => ?_) (fun f9 => ?_) | refine TL.split 142 rfl (fun f9 => ?_) (fun f9 => ?_)
                          · skip
                            refine TL.skip rfl (fun k hk => by cases hk; decide) ?_
                            refine TL.skip rfl (fun k hk => by cases hk; decide) ?_
                            refine TL.pure (PV.pickT rfl rfl) rfl (by decide) ?_
                            refine TL.pure (PV.move rfl) rfl (by decide) ?_
                            refine TL.skip rfl (fun k hk => by cases hk; decide) ?_
                            refine TL.skip rfl (fun k hk => by cases hk; decide) ?_
                            refine TL.skip rfl (fun k hk => by cases hk; decide) ?_
                            refine TL.pure (PV.pickT rfl rfl) rfl (by decide) ?_
                            refine TL.pure (PV.move rfl) rfl (by decide) ?_
                            refine TL.skip rfl (fun k hk => by cases hk; decide) ?_
                            refine TL.skip rfl (fun k hk => by cases hk; decide) ?_
                            refine TL.skip rfl (fun k hk => by cases hk; decide) ?_
                            refine TL.skip rfl (fun k hk => by cases hk; decide) ?_
                            refine TL.skip rfl (fun k hk => by cases hk; decide) ?_
                            refine TL.pure (PV.pickT rfl rfl) rfl (by decide) ?_
                            refine TL.pure (PV.move rfl) rfl (by decide) ?_
                            refine TL.skip rfl (fun k hk => by cases hk; decide) ?_
                            refine TL.skip rfl (fun k hk => by cases hk; decide) ?_
                            refine TL.skip rfl (fun k hk => by cases hk; decide) ?_
                            refine TL.pure (PV.pickT rfl rfl) rfl (by decide) ?_
                            refine TL.nil ?_
                            refine TQ.thenC ?_
                            refine TC.condT rfl ?_
                            refine TC.seq ?_
                            refine TC.region ?_
                            refine TL.pure (PV.assign rfl) rfl (by decide) ?_
                            refine TL.nil ?_
                            refine TQ.thenC ?_
                            refine TC.ret ?_
                            refine TQ.thenR ?_
                            refine TQ.blkR ?_
                            refine TQ.thenR ?_
                            refine TQ.thenR ?_
                            refine TQ.blkR ?_
                            refine TQ.retE1 rfl rfl ?_
                            first | exact ⟨(), rfl, trivial, List.nil_sublist _⟩ | (exfalso; simp_all; done) | (exfalso; simp_all; omega) | (exfalso; simp only [decide_eq_true_eq, decide_eq_false_iff_not, ne_eq, Bool.not_eq_true, Bool.not_eq_false] at *; omega) | exact ⟨(), by simp, trivial, List.nil_sublist _⟩
                          · skip
                            refine TL.pure (PV.move rfl) rfl (by decide) ?_
                            refine TL.pure (PV.neq rfl rfl) rfl (by decide) ?_
                            refine TL.pure (PV.pickF rfl rfl) rfl (by decide) ?_
                            refine TL.pure (PV.move rfl) rfl (by decide) ?_
                            first | refine TL.splitD 146 rfl (fun k1 => ?_) (fun k1 => ?_) | refine TL.split 146 rfl (fun k1 => ?_) (fun k1 => ?_)
                            · skip
                              refine TL.skip rfl (fun k hk => by cases hk; decide) ?_
                              refine TL.skip rfl (fun k hk => by cases hk; decide) ?_
                              refine TL.skip rfl (fun k hk => by cases hk; decide) ?_
                              refine TL.pure (PV.pickT rfl rfl) rfl (by decide) ?_
                              refine TL.pure (PV.move rfl) rfl (by decide) ?_
                              refine TL.skip rfl (fun k hk => by cases hk; decide) ?_
                              refine TL.skip rfl (fun k hk => by cases hk; decide) ?_
                              refine TL.skip rfl (fun k hk => by cases hk; decide) ?_
                              refine TL.skip rfl (fun k hk => by cases hk; decide) ?_
                              refine TL.skip rfl (fun k hk => by cases hk; decide) ?_
                              refine TL.pure (PV.pickT rfl rfl) rfl (by decide) ?_
                              refine TL.pure (PV.move rfl) rfl (by decide) ?_
                              refine TL.skip rfl (fun k hk => by cases hk; decide) ?_
                              refine TL.skip rfl (fun k hk => by cases hk; decide) ?_
                              refine TL.skip rfl (fun k hk => by cases hk; decide) ?_
                              refine TL.pure (PV.pickT rfl rfl) rfl (by decide) ?_
                              refine TL.nil ?_
                              refine TQ.thenC ?_
                              refine TC.condT rfl ?_
                              refine TC.seq ?_
                              refine TC.region ?_
                              refine TL.pure (PV.assign rfl) rfl (by decide) ?_
                              refine TL.nil ?_
                              refine TQ.thenC ?_
                              refine TC.ret ?_
                              refine TQ.thenR ?_
                              refine TQ.blkR ?_
                              refine TQ.thenR ?_
                              refine TQ.thenR ?_
                              refine TQ.blkR ?_
                              refine TQ.retE1 rfl rfl ?_
                              first | exact ⟨(), rfl, trivial, List.nil_sublist _⟩ | (exfalso; simp_all; done) | (exfalso; simp_all; omega) | (exfalso; simp only [decide_eq_true_eq, decide_eq_false_iff_not, ne_eq, Bool.not_eq_true, Bool.not_eq_false] at *; omega) | exact ⟨(), by simp, trivial, List.nil_sublist _⟩
                            · skip
                              refine TL.pure (PV.move rfl) rfl (by decide) ?_
                              refine TL.pure (PV.move rfl) rfl (by decide) ?_
                              refine TL.pure (PV.eqlB rfl rfl Tb.bool_4) rfl (by decide) ?_
                              refine TL.pure (PV.pickF rfl rfl) rfl (by decide) ?_
                              refine TL.pure (PV.move rfl) rfl (by decide) ?_
                              first | refine TL.splitD 151 rfl (fun k2 => ?_) (fun k2 => ?_) | refine TL.split 151 rfl (fun k2 => ?_) (fun k2 => ?_)
                              · skip
                                refine TL.skip rfl (fun k hk => by cases hk; decide) ?_
                                refine TL.skip rfl (fun k hk => by cases hk; decide) ?_
                                refine TL.skip rfl (fun k hk => by cases hk; decide) ?_
                                refine TL.skip rfl (fun k hk => by cases hk; decide) ?_
                                refine TL.skip rfl (fun k hk => by cases hk; decide) ?_
                                refine TL.pure (PV.pickT rfl rfl) rfl (by decide) ?_
                                refine TL.pure (PV.move rfl) rfl (by decide) ?_
                                refine TL.skip rfl (fun k hk => by cases hk; decide) ?_
                                refine TL.skip rfl (fun k hk => by cases hk; decide) ?_
                                refine TL.skip rfl (fun k hk => by cases hk; decide) ?_
                                refine TL.pure (PV.pickT rfl rfl) rfl (by decide) ?_
                                refine TL.nil ?_
                                refine TQ.thenC ?_
                                refine TC.condT rfl ?_
                                refine TC.seq ?_
                                refine TC.region ?_
                                refine TL.pure (PV.assign rfl) rfl (by decide) ?_
                                refine TL.nil ?_
                                refine TQ.thenC ?_
                                refine TC.ret ?_
                                refine TQ.thenR ?_
                                refine TQ.blkR ?_
                                refine TQ.thenR ?_
                                refine TQ.thenR ?_
                                refine TQ.blkR ?_
                                refine TQ.retE1 rfl rfl ?_
                                first | exact ⟨(), rfl, trivial, List.nil_sublist _⟩ | (exfalso; simp_all; done) | (exfalso; simp_all; omega) | (exfalso; simp only [decide_eq_true_eq, decide_eq_false_iff_not, ne_eq, Bool.not_eq_true, Bool.not_eq_false] at *; omega) | exact ⟨(), by simp, trivial, List.nil_sublist _⟩
                              · skip
                                refine TL.pure (PV.move rfl) rfl (by decide) ?_
                                refine TL.pure (PV.move rfl) rfl (by decide) ?_
                                refine TL.pure (PV.move rfl) rfl (by decide) ?_
                                refine TL.pure (PV.eql rfl rfl) rfl (by decide) ?_
                                refine TL.pure (PV.neqB rfl rfl Tb.bool_4) rfl (by decide) ?_
                                refine TL.pure (PV.pickF rfl rfl) rfl (by decide) ?_
                                refine TL.pure (PV.move rfl) rfl (by decide) ?_
                                first | refine TL.splitD 158 rfl (fun k3 => ?_) (fun k3 => ?_) | refine TL.split 158 rfl (fun k3 => ?_) (fun k3 => ?_)
                                · skip
                                  refine TL.skip rfl (fun k hk => by cases hk; decide) ?_
                                  refine TL.skip rfl (fun k hk => by cases hk; decide) ?_
                                  refine TL.skip rfl (fun k hk => by cases hk; decide) ?_
                                  refine TL.pure (PV.pickT rfl rfl) rfl (by decide) ?_
                                  refine TL.nil ?_
                                  refine TQ.thenC ?_
                                  refine TC.condT rfl ?_
                                  refine TC.seq ?_
                                  refine TC.region ?_
                                  refine TL.pure (PV.assign rfl) rfl (by decide) ?_
                                  refine TL.nil ?_
                                  refine TQ.thenC ?_
                                  refine TC.ret ?_
                                  refine TQ.thenR ?_
                                  refine TQ.blkR ?_
                                  refine TQ.thenR ?_
                                  refine TQ.thenR ?_
                                  refine TQ.blkR ?_
                                  refine TQ.retE1 rfl rfl ?_
                                  first | exact ⟨(), rfl, trivial, List.nil_sublist _⟩ | (exfalso; simp_all; done) | (exfalso; simp_all; omega) | (exfalso; simp only [decide_eq_true_eq, decide_eq_false_iff_not, ne_eq, Bool.not_eq_true, Bool.not_eq_false] at *; omega) | exact ⟨(), by simp, trivial, List.nil_sublist _⟩
                                · skip
                                  refine TL.pure (PV.move rfl) rfl (by decide) ?_
                                  refine TL.pure (PV.move rfl) rfl (by decide) ?_
                                  refine TL.pure (PV.lss rfl rfl) rfl (by decide) ?_
                                  refine TL.pure (PV.pickF rfl rfl) rfl (by decide) ?_
                                  refine TL.nil ?_
                                  refine TQ.thenC ?_
                                  first | refine TC.condD rfl (fun k4 => ?_) (fun k4 => ?_) | refine TC.cond rfl (fun k4 => ?_) (fun k4 => ?_)
                                  · skip
                                    refine TC.seq ?_
                                    refine TC.region ?_
                                    refine TL.pure (PV.assign rfl) rfl (by decide) ?_
                                    refine TL.nil ?_
                                    refine TQ.thenC ?_
                                    refine TC.ret ?_
                                    refine TQ.thenR ?_
                                    refine TQ.blkR ?_
                                    refine TQ.thenR ?_
                                    refine TQ.thenR ?_
                                    refine TQ.blkR ?_
                                    refine TQ.retE1 rfl rfl ?_
                                    first | exact ⟨(), rfl, trivial, List.nil_sublist _⟩ | (exfalso; simp_all; done) | (exfalso; simp_all; omega) | (exfalso; simp only [decide_eq_true_eq, decide_eq_false_iff_not, ne_eq, Bool.not_eq_true, Bool.not_eq_false] at *; omega) | exact ⟨(), by simp, trivial, List.nil_sublist _⟩
                                  · skip
                                    refine TC.skip ?_
                                    refine TQ.thenC ?_
                                    refine TC.seq ?_
                                    refine TC.seq ?_
                                    refine TC.region ?_
                                    refine TL.pure (PV.move rfl) rfl (by decide) ?_
                                    refine TL.pure (PV.move rfl) rfl (by decide) ?_
                                    first | refine TL.splitD 164 rfl (fun k5 => ?_) (fun k5 => ?_) | refine TL.split 164 rfl (fun k5 => ?_) (fun k5 => ?_)
                                    · skip
                                      refine TL.skip rfl (fun k hk => by cases hk; decide) ?_
                                      refine TL.skip rfl (fun k hk => by cases hk; decide) ?_
                                      refine TL.pure (PV.pickT rfl rfl) rfl (by decide) ?_
                                      refine TL.nil ?_
                                      refine TQ.thenC ?_
                                      refine TC.condT rfl ?_
                                      refine TC.seq ?_
                                      refine TC.region ?_
                                      refine TL.pure (PV.assign rfl) rfl (by decide) ?_
                                      refine TL.nil ?_
                                      refine TQ.thenC ?_
                                      refine TC.ret ?_
                                      refine TQ.thenR ?_
                                      refine TQ.blkR ?_
                                      refine TQ.thenR ?_
                                      refine TQ.thenR ?_
                                      refine TQ.blkR ?_
                                      refine TQ.retE1 rfl rfl ?_
                                      first | exact ⟨(), rfl, trivial, List.nil_sublist _⟩ | (exfalso; simp_all; done) | (exfalso; simp_all; omega) | (exfalso; simp only [decide_eq_true_eq, decide_eq_false_iff_not, ne_eq, Bool.not_eq_true, Bool.not_eq_false] at *; omega) | exact ⟨(), by simp, trivial, List.nil_sublist _⟩
                                    · skip
                                      refine TL.pure (PV.move rfl) rfl (by decide) ?_
                                      refine TL.pure (PV.gtr rfl rfl) rfl (by decide) ?_
                                      refine TL.pure (PV.pickF rfl rfl) rfl (by decide) ?_
                                      refine TL.nil ?_
                                      refine TQ.thenC ?_
                                      first | refine TC.condD rfl (fun k6 => ?_) (fun k6 => ?_) | refine TC.cond rfl (fun k6 => ?_) (fun k6 => ?_)
                                      · skip
                                        refine TC.seq ?_
                                        refine TC.region ?_
                                        refine TL.pure (PV.assign rfl) rfl (by decide) ?_
                                        refine TL.nil ?_
                                        refine TQ.thenC ?_
                                        refine TC.ret ?_
                                        refine TQ.thenR ?_
                                        refine TQ.blkR ?_
                                        refine TQ.thenR ?_
                                        refine TQ.thenR ?_
                                        refine TQ.blkR ?_
                                        refine TQ.retE1 rfl rfl ?_
                                        first | exact ⟨(), rfl, trivial, List.nil_sublist _⟩ | (exfalso; simp_all; done) | (exfalso; simp_all; omega) | (exfalso; simp only [decide_eq_true_eq, decide_eq_false_iff_not, ne_eq, Bool.not_eq_true, Bool.not_eq_false] at *; omega) | exact ⟨(), by simp, trivial, List.nil_sublist _⟩
                                      · skip
                                        refine TC.skip ?_
                                        refine TQ.thenC ?_
                                        refine TC.seq ?_
                                        have hne : costI t x.2.1 ≠ mnI t := by simpa using k5
                                        obtain ⟨s1, s2, s3, s4, s5⟩ := alo_step hx9.2.1 (hyr.2 hne)
                                        refine TC.region ?_
                                        refine TL.pure (PV.loadBox rfl Tb.agg_25 (by repeat (first | exact List.Mem.head _ | refine List.Mem.tail _ ?_ | refine List.mem_append_right _ ?_)) rfl) rfl (by decide) ?_
                                        refine TL.pure (PV.move rfl) rfl (by decide) ?_
                                        refine TL.pure (PV.move rfl) rfl (by decide) ?_
                                        refine TL.call rfl Tb.gofn_43 (fun a w hs => Along_ok w _ t (IsT.mk (t1.new hs.new) (t2.new hs.new) (t3.new hs.new)) hT _ x.2.1 (hx9.2.2 w _ hs.new (fun yy hyy => by repeat (first | exact List.mem_append_left _ hyy | exact List.mem_append_left _ (List.mem_append_right _ hyy) | exact List.mem_append_left _ (List.mem_append_left _ hyy) | refine List.mem_append_right _ ?_ | refine List.Mem.tail _ ?_))) hsm (gp yr.1) (gc yr.1) yr.2 (RecsAt.s hs.new (fun yy hyy => by repeat (first | exact List.mem_append_left _ hyy | exact List.mem_append_left _ (List.mem_append_right _ hyy) | exact List.mem_append_left _ (List.mem_append_left _ hyy) | refine List.mem_append_right _ ?_ | refine List.Mem.tail _ ?_)) hyr.1) (by omega) (gok_cap hyr.1)) rfl (by decide) (fun ya hya => ?_)
                                        rw [s1]
                                        refine TL.pure (PV.move rfl) rfl (by decide) ?_
                                        refine TL.pure (PV.extract rfl rfl) rfl (by decide) ?_
                                        refine TL.pure (PV.extract rfl rfl) rfl (by decide) ?_
                                        refine TL.pure (PV.extract rfl rfl) rfl (by decide) ?_
                                        refine TL.pure (PV.assign rfl) rfl (by decide) ?_
                                        refine TL.pure (PV.assign rfl) rfl (by decide) ?_
                                        refine TL.pure (PV.assign rfl) rfl (by decide) ?_
                                        refine TL.nil ?_
                                        refine TQ.thenC ?_
                                        refine TC.seq ?_
                                        refine TC.region ?_
                                        refine TL.pure (PV.loadBox rfl Tb.agg_25 (by repeat (first | exact List.Mem.head _ | refine List.Mem.tail _ ?_ | refine List.mem_append_right _ ?_)) rfl) rfl (by decide) ?_
                                        refine TL.pure (PV.move rfl) rfl (by decide) ?_
                                        refine TL.call rfl Tb.gofn_19 (fun a w hs => Cost_ok w _ t (IsT.mk (t1.new hs.new) (t2.new hs.new) (t3.new hs.new)) hT _ _ (hya.at hs.new (fun yy hyy => by repeat (first | exact List.mem_append_left _ hyy | exact List.mem_append_left _ (List.mem_append_right _ hyy) | exact List.mem_append_left _ (List.mem_append_left _ hyy) | refine List.mem_append_right _ ?_ | refine List.Mem.tail _ ?_))) (s3.g.sm hT.s hT.d)) rfl (by decide) (fun _ _ => ?_)
                                        rw [cst_0 (show ¬ planI t _ ≠ 0 by rw [s3.p]; decide)]
                                        refine TL.pure (PV.move rfl) rfl (by decide) ?_
                                        refine TL.pure (PV.extract rfl rfl) rfl (by decide) ?_
                                        refine TL.pure (PV.extract rfl rfl) rfl (by decide) ?_
                                        refine TL.pure (PV.assign rfl) rfl (by decide) ?_
                                        refine TL.pure (PV.assign rfl) rfl (by decide) ?_
                                        refine TL.nil ?_
                                        refine TQ.thenC ?_
                                        refine TC.seq ?_
                                        refine TC.seq ?_
                                        refine TC.region ?_
                                        refine TL.pure (PV.move rfl) rfl (by decide) ?_
                                        refine TL.pure (PV.neq rfl rfl) rfl (by decide) ?_
                                        refine TL.pure (PV.move rfl) rfl (by decide) ?_
                                        first | refine TL.splitD 184 rfl (fun k7 => ?_) (fun k7 => ?_) | refine TL.split 184 rfl (fun k7 => ?_) (fun k7 => ?_)
                                        · skip
                                          refine TL.skip rfl (fun k hk => by cases hk; decide) ?_
                                          refine TL.skip rfl (fun k hk => by cases hk; decide) ?_
                                          refine TL.pure (PV.pickT rfl rfl) rfl (by decide) ?_
                                          refine TL.pure (PV.move rfl) rfl (by decide) ?_
                                          refine TL.skip rfl (fun k hk => by cases hk; decide) ?_
                                          refine TL.skip rfl (fun k hk => by cases hk; decide) ?_
                                          refine TL.pure (PV.pickT rfl rfl) rfl (by decide) ?_
                                          refine TL.pure (PV.move rfl) rfl (by decide) ?_
                                          refine TL.skip rfl (fun k hk => by cases hk; decide) ?_
                                          refine TL.skip rfl (fun k hk => by cases hk; decide) ?_
                                          refine TL.skip rfl (fun k hk => by cases hk; decide) ?_
                                          refine TL.pure (PV.pickT rfl rfl) rfl (by decide) ?_
                                          refine TL.nil ?_
                                          refine TQ.thenC ?_
                                          refine TC.condT rfl ?_
                                          refine TC.seq ?_
                                          refine TC.region ?_
                                          refine TL.pure (PV.assign rfl) rfl (by decide) ?_
                                          refine TL.nil ?_
                                          refine TQ.thenC ?_
                                          refine TC.ret ?_
                                          refine TQ.thenR ?_
                                          refine TQ.blkR ?_
                                          refine TQ.thenR ?_
                                          refine TQ.thenR ?_
                                          refine TQ.blkR ?_
                                          refine TQ.retE1 rfl rfl ?_
                                          first | exact ⟨(), rfl, trivial, List.nil_sublist _⟩ | (exfalso; simp_all; done) | (exfalso; simp_all; omega) | (exfalso; simp only [decide_eq_true_eq, decide_eq_false_iff_not, ne_eq, Bool.not_eq_true, Bool.not_eq_false] at *; omega) | exact ⟨(), by simp, trivial, List.nil_sublist _⟩
                                        · skip
                                          refine TL.pure (PV.move rfl) rfl (by decide) ?_
                                          refine TL.pure (PV.neq rfl rfl) rfl (by decide) ?_
                                          refine TL.pure (PV.pickF rfl rfl) rfl (by decide) ?_
                                          refine TL.pure (PV.move rfl) rfl (by decide) ?_
                                          first | refine TL.splitD 188 rfl (fun k8 => ?_) (fun k8 => ?_) | refine TL.split 188 rfl (fun k8 => ?_) (fun k8 => ?_)
                                          · skip
                                            refine TL.skip rfl (fun k hk => by cases hk; decide) ?_
                                            refine TL.skip rfl (fun k hk => by cases hk; decide) ?_
                                            refine TL.pure (PV.pickT rfl rfl) rfl (by decide) ?_
                                            refine TL.pure (PV.move rfl) rfl (by decide) ?_
                                            refine TL.skip rfl (fun k hk => by cases hk; decide) ?_
                                            refine TL.skip rfl (fun k hk => by cases hk; decide) ?_
                                            refine TL.skip rfl (fun k hk => by cases hk; decide) ?_
                                            refine TL.pure (PV.pickT rfl rfl) rfl (by decide) ?_
                                            refine TL.nil ?_
                                            refine TQ.thenC ?_
                                            refine TC.condT rfl ?_
                                            refine TC.seq ?_
                                            refine TC.region ?_
                                            refine TL.pure (PV.assign rfl) rfl (by decide) ?_
                                            refine TL.nil ?_
                                            refine TQ.thenC ?_
                                            refine TC.ret ?_
                                            refine TQ.thenR ?_
                                            refine TQ.blkR ?_
                                            refine TQ.thenR ?_
                                            refine TQ.thenR ?_
                                            refine TQ.blkR ?_
                                            refine TQ.retE1 rfl rfl ?_
                                            first | exact ⟨(), rfl, trivial, List.nil_sublist _⟩ | (exfalso; simp_all; done) | (exfalso; simp_all; omega) | (exfalso; simp only [decide_eq_true_eq, decide_eq_false_iff_not, ne_eq, Bool.not_eq_true, Bool.not_eq_false] at *; omega) | exact ⟨(), by simp, trivial, List.nil_sublist _⟩
                                          · skip
                                            refine TL.pure (PV.move rfl) rfl (by decide) ?_
                                            refine TL.pure (PV.lss rfl rfl) rfl (by decide) ?_
                                            refine TL.pure (PV.pickF rfl rfl) rfl (by decide) ?_
                                            refine TL.pure (PV.move rfl) rfl (by decide) ?_
                                            first | refine TL.splitD 192 rfl (fun k9 => ?_) (fun k9 => ?_) | refine TL.split 192 rfl (fun k9 => ?_) (fun k9 => ?_)
                                            · skip
                                              refine TL.skip rfl (fun k hk => by cases hk; decide) ?_
                                              refine TL.skip rfl (fun k hk => by cases hk; decide) ?_
                                              refine TL.skip rfl (fun k hk => by cases hk; decide) ?_
                                              refine TL.pure (PV.pickT rfl rfl) rfl (by decide) ?_
                                              refine TL.nil ?_
                                              refine TQ.thenC ?_
                                              refine TC.condT rfl ?_
                                              refine TC.seq ?_
                                              refine TC.region ?_
                                              refine TL.pure (PV.assign rfl) rfl (by decide) ?_
                                              refine TL.nil ?_
                                              refine TQ.thenC ?_
                                              refine TC.ret ?_
                                              refine TQ.thenR ?_
                                              refine TQ.blkR ?_
                                              refine TQ.thenR ?_
                                              refine TQ.thenR ?_
                                              refine TQ.blkR ?_
                                              refine TQ.retE1 rfl rfl ?_
                                              first | exact ⟨(), rfl, trivial, List.nil_sublist _⟩ | (exfalso; simp_all; done) | (exfalso; simp_all; omega) | (exfalso; simp only [decide_eq_true_eq, decide_eq_false_iff_not, ne_eq, Bool.not_eq_true, Bool.not_eq_false] at *; omega) | exact ⟨(), by simp, trivial, List.nil_sublist _⟩
                                            · skip
                                              refine TL.pure (PV.move rfl) rfl (by decide) ?_
                                              refine TL.pure (PV.move rfl) rfl (by decide) ?_
                                              refine TL.pure (PV.geq rfl rfl) rfl (by decide) ?_
                                              refine TL.pure (PV.pickF rfl rfl) rfl (by decide) ?_
                                              refine TL.nil ?_
                                              refine TQ.thenC ?_
                                              first | refine TC.condD rfl (fun k10 => ?_) (fun k10 => ?_) | refine TC.cond rfl (fun k10 => ?_) (fun k10 => ?_)
                                              · skip
                                                refine TC.seq ?_
                                                refine TC.region ?_
                                                refine TL.pure (PV.assign rfl) rfl (by decide) ?_
                                                refine TL.nil ?_
                                                refine TQ.thenC ?_
                                                refine TC.ret ?_
                                                refine TQ.thenR ?_
                                                refine TQ.blkR ?_
                                                refine TQ.thenR ?_
                                                refine TQ.thenR ?_
                                                refine TQ.blkR ?_
                                                refine TQ.retE1 rfl rfl ?_
                                                first | exact ⟨(), rfl, trivial, List.nil_sublist _⟩ | (exfalso; simp_all; done) | (exfalso; simp_all; omega) | (exfalso; simp only [decide_eq_true_eq, decide_eq_false_iff_not, ne_eq, Bool.not_eq_true, Bool.not_eq_false] at *; omega) | exact ⟨(), by simp, trivial, List.nil_sublist _⟩
                                              · skip
                                                refine TC.skip ?_
                                                refine TQ.thenC ?_
                                                refine TC.region ?_
                                                refine TL.pure (PV.move rfl) rfl (by decide) ?_
                                                refine TL.call rfl Tb.gofn_42 (fun a w hs => copyTable_ok w _ _ (hya.at hs.new (fun yy hyy => by repeat (first | exact List.mem_append_left _ hyy | exact List.mem_append_left _ (List.mem_append_right _ hyy) | exact List.mem_append_left _ (List.mem_append_left _ hyy) | refine List.mem_append_right _ ?_ | refine List.Mem.tail _ ?_))) (s3.g.sm hT.s hT.d)) rfl (by decide) (fun yc hyc => ?_)
                                                refine TL.pure (PV.move rfl) rfl (by decide) ?_
                                                refine TL.pure (PV.assign rfl) rfl (by decide) ?_
                                                refine TL.pure (PV.assign rfl) rfl (by decide) ?_
                                                refine TL.nil ?_
                                                refine TQ.blkN ?_
                                                refine TQ.thenC ?_
                                                refine TC.region ?_
                                                refine TL.pure (PV.move rfl) rfl (by decide) ?_
                                                refine TL.pure (PV.add rfl rfl (by omega)) rfl (by decide) ?_
                                                refine TL.pure (PV.assign rfl) rfl (by decide) ?_
                                                refine TL.nil ?_
                                                refine TQ.thenN ?_
                                                refine TQ.backK (x.1 + 1, (aloR t x.2.1 yr.2).1, (gval yc.1 (aloR t x.2.1 yr.2).1.length, gbR rwR 22 yc.1 yc.2 ++ rwB yc.2)) (by repeat (first | exact True.intro | refine And.intro rfl ?_)) (by repeat (first | exact True.intro | refine And.intro rfl ?_)) (List.Sublist.append_left (List.singleton_sublist.2 (by repeat (first | exact List.Mem.head _ | refine List.Mem.tail _ ?_ | refine List.mem_append_right _ ?_))) _) ⟨by simp only; omega, s3, fun w G hn hm => (RdG.rw hyc.1 hyc.2.1 hyc.2.2).at hn hm⟩ (by simp only; omega)

end Go.Proofs.Ytghlkndanpegbaa
