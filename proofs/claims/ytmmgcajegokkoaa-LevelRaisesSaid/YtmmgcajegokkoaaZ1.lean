/- Errors as quotients of determinants: the given side's functions, and the statement's own. -/
import Derived.Test.YtmmgcajegokkoaaMn
import Derived.Test.YtmmgcajegokkoaaV1
namespace Go.Proofs.Ytmmgcajegokkoaa
open Go.Sx Go.RowKit

theorem lapG (w : World) (n : Int) (p : Option Addr) (cap : Nat) (rs : List Rd) (hr : RdsAt w p rs) (hv : Valid n rs) (y : HD × List Int) (ho : goI y) (hl : y.2.length ≤ 5) (hx : IntsAt w (gp y.1) y.2) :
    Calls Try.prog 100 #[sv n p rs.length cap, gvI y] w (Post (X := HD × List (HD × List Int)) (fun x => gvP x) (LI rs y.2 y.2.length y.2.length) (fun x => gbP x ++ bl x.2) w) := by
  have h := laplace_ok w n p cap rs hr hv (gp y.1) (gc y.1) y.2.length y.2 hx rfl hl
  rw [← gval_eq ho] at h
  exact h
theorem lapM_sh (rs : List Rd) (pts : List Int) (K : Nat) : Sh ((List.range K).map fun a => (List.range K).map (lapE rs pts a)) K K := by
  refine ⟨by simp, fun i hi => ?_⟩
  simp [List.getD, hi]
theorem lapM_get {rs : List Rd} {pts : List Int} {K a b : Nat} (ha : a < K) (hb : b < K) : getM ((List.range K).map fun a => (List.range K).map (lapE rs pts a)) a b = lapE rs pts a b := by
  simp [getM, List.getD, ha, hb]
theorem lapE_bn {n : Int} {rs : List Rd} (hv : Valid n rs) (pts : List Int) (i k : Nat) : Bn (lapE rs pts i k) 24 := by
  have := hv.len
  exact (lapS_bn hv pts i k rs.length (Nat.le_refl _)).mono (by omega)
theorem lap_dbound {n : Int} {rs : List Rd} (hv : Valid n rs) (pts : List Int) {K : Nat} (hK : K ≤ 4) : DSafe K (lapE rs pts) ∧ Bn (detF K (lapE rs pts)) 7962624 := by
  have h := dbound4 (c := 0) (X := 24) hK (by omega) (by omega) (f := lapE rs pts) (fun a b _ _ => by have := lapE_bn hv pts a b; split <;> exact this)
  exact ⟨h.1, h.2.mono (by omega)⟩
theorem detLap {n : Int} {rs : List Rd} (hv : Valid n rs) {pts : List Int} {K : Nat} (hK : K ≤ 4) {w w0 : World} {G : Heap} {x : HD × List (HD × List Int)} (hn : New w0 w G) (hm : ∀ y ∈ gbP x, y ∈ G) (hb : ∀ y ∈ bl x.2, y ∈ G) (hx : LI rs pts K K x) :
    Calls Try.prog 101 #[gvP x] w (Post (X := Unit) (fun _ => .int .i64 (detF K (lapE rs pts))) (fun _ => True) (fun _ => []) w) := by
  have hr := RowsAt.g hn hm hb hx.ok hx.all
  rw [hx.eq] at hr
  have hg : ∀ a b, a < K → b < K → lapE rs pts a b = getM ((List.range K).map fun a => (List.range K).map (lapE rs pts a)) a b := fun a b ha hb => (lapM_get ha hb).symm
  have h := det_ok K (by omega) w (gp x.1) (gc x.1) _ hr (lapM_sh rs pts K) ((lap_dbound hv pts hK).1.congr hg)
  rw [← detF_congr K hg] at h
  have hl : K = x.2.length := hx.len.symm
  have e : gvP x = .slice (gp x.1) K (gc x.1) := by
    rw [show gvP x = .slice (gp x.1) x.2.length (gc x.1) from gval_eq hx.ok, ← hl]
  rw [e]
  exact h
structure OI (N : Nat) (xs : List Int) (i j : Int) (k : Nat) (x y : HD × List Int) : Prop where
  le : k ≤ N
  one : x.2 = oneK xs i k
  two : y.2 = twoK xs i j k
  ox : goI x
  oy : goI y
theorem OI.zero (N : Nat) (xs : List Int) (i j : Int) : OI N xs i j 0 (none, []) (none, []) := ⟨Nat.zero_le _, rfl, rfl, ⟨rfl, rfl⟩, ⟨rfl, rfl⟩⟩
theorem OI.len {N : Nat} {xs : List Int} {i j : Int} {k : Nat} {x y : HD × List Int} (h : OI N xs i j k x y) : x.2.length ≤ N ∧ y.2.length ≤ N := by
  have h1 := filt_len (inOne xs i) k
  have h2 := filt_len (inTwo xs i j) k
  have := h.le
  rw [h.one, h.two]
  unfold oneK twoK
  omega
theorem OI.no {N : Nat} {xs : List Int} {i j : Int} {k : Nat} {x y : HD × List Int} (h : OI N xs i j k x y) (hk : k < N) (hn : inOne xs i k = false) : OI N xs i j (k + 1) x y :=
  ⟨hk, by rw [h.one, oneK_no hn], by rw [h.two, twoK_no (by simp [inTwo, hn])], h.ox, h.oy⟩
theorem OI.both {N : Nat} {xs : List Int} {i j : Int} {k : Nat} {x y : HD × List Int} {h1 h2 : HD} (h : OI N xs i j k x y) (hk : k < N) (hn : inOne xs i k = true) (hj : (k : Int) ≠ j) (o1 : goI (h1, x.2 ++ [(k : Int)])) (o2 : goI (h2, y.2 ++ [(k : Int)])) :
    OI N xs i j (k + 1) (h1, x.2 ++ [(k : Int)]) (h2, y.2 ++ [(k : Int)]) := ⟨hk, by simp only; rw [h.one, oneK_yes hn], by simp only; rw [h.two, twoK_yes (by simp [inTwo, hn, hj])], o1, o2⟩
theorem OI.fst {N : Nat} {xs : List Int} {i j : Int} {k : Nat} {x y : HD × List Int} {h1 : HD} (h : OI N xs i j k x y) (hk : k < N) (hn : inOne xs i k = true) (hj : ¬ (k : Int) ≠ j) (o1 : goI (h1, x.2 ++ [(k : Int)])) :
    OI N xs i j (k + 1) (h1, x.2 ++ [(k : Int)]) y := ⟨hk, by simp only; rw [h.one, oneK_yes hn], by rw [h.two, twoK_no (by simp [inTwo]; intro _; omega)], o1, h.oy⟩
theorem inOne_yes {xs : List Int} {i : Int} {k : Nat} (h1 : xs.getD k 0 = xs.getD i.toNat 0) (h2 : (k : Int) ≠ i) : inOne xs i k = true := by simp only [inOne, Bool.and_eq_true, decide_eq_true_eq]; exact ⟨h1, h2⟩
theorem inOne_no1 {xs : List Int} {i : Int} {k : Nat} (h1 : ¬ xs.getD k 0 = xs.getD i.toNat 0) : inOne xs i k = false := by unfold inOne; rw [decide_eq_false h1]; rfl
theorem inOne_no2 {xs : List Int} {i : Int} {k : Nat} (h2 : ¬ (k : Int) ≠ i) : inOne xs i k = false := by unfold inOne; rw [decide_eq_false h2]; simp
theorem perm_oi {A B C : Heap} {x y : Nat × Obj} : List.Perm (A ++ (B ++ (x :: y :: C))) (B ++ (x :: (A ++ (y :: C)))) := by
  have h1 : List.Perm (A ++ (B ++ (x :: y :: C))) (B ++ (A ++ (x :: y :: C))) := by
    rw [← List.append_assoc, ← List.append_assoc]
    exact List.perm_append_comm.append_right _
  exact h1.trans (List.perm_middle.append_left B)
theorem fill_01 (a b : Int) : Instr.fill ([(0, 1), (1, 1)][·]?) #[(Value.int .i64 0), .int .i64 0] [(0, Value.int .i64 a), (1, .int .i64 b)] = some #[.int .i64 a, .int .i64 b] := by kernel_rfl
theorem RR_self {N : Nat} {rs : List Rd} {i : Nat} : RR N rs i i = 0 := by unfold RR; omega
theorem rAB_self {N : Nat} {rs : List Rd} (hv : Valid (N : Int) rs) (i : Nat) : rA N rs i i = 0 ∧ rB N rs i i = 1 := by
  have hd := denO_pos hv
  have h := low_eq (a := RR N rs i i) (b := denO N rs) (c := 0) (d := 1) (by omega) (by omega) (by rw [RR_self]; omega)
  have := one_low 0
  rw [this.1, this.2] at h
  exact h
theorem ratioR (w : World) {n : Int} {rs : List Rd} (hv : Valid n rs) {i j : Int} (hi : 0 ≤ i ∧ i < n) (hj : 0 ≤ j ∧ j < n) (hne : i ≠ j) (hij : rootOf n.toNat rs i.toNat = rootOf n.toNat rs j.toNat) {one two : List Int} (h1 : one = oneK (firstsL n rs) i n.toNat) (h2 : two = twoK (firstsL n rs) i j n.toNat) :
    Calls Try.prog 50 #[.int .i64 (detF two.length (lapE rs two)), .int .i64 (detF one.length (lapE rs one))] w (Post (X := Unit) (fun _ => .agg #[.int .i64 (rA n.toNat rs i.toNat j.toNat), .int .i64 (rB n.toNat rs i.toNat j.toNat)]) (fun _ => True) (fun _ => []) w) := by
  obtain ⟨hN, hn⟩ := hv.nat
  have h := res_eq hN (i := i.toNat) (j := j.toNat) (by omega) (by omega) (by omega) hij
  simp only at h
  rw [hn, show ((i.toNat : Nat) : Int) = i by omega, show ((j.toNat : Nat) : Int) = j by omega, ← h1, ← h2] at h
  have hd := denO_pos hN
  have b1 := (lap_dbound hv one h.2.2.1).2
  have b2 := (lap_dbound hv two h.2.2.2).2
  unfold Bn at b1 b2
  have hr := ratio_ok w (detF two.length (lapE rs two)) (detF one.length (lapE rs one)) (by omega) (by omega)
  rw [lowV_eq (c := RR n.toNat rs i.toNat j.toNat) (d := denO n.toNat rs) h.2.1 (by omega) h.1] at hr
  exact hr


set_option maxRecDepth 100000 in
set_option maxHeartbeats 1000000 in
theorem pair_ok (w0 : World) (n : Int) (p : Option Addr) (cap : Nat) (rs : List Rd) (hr : RdsAt w0 p rs) (i j : Int) :
    Calls Try.prog 84 #[sv n p rs.length cap, .int .i64 i, .int .i64 j] w0 (Post (X := Unit) (fun _ => .int .i64 (errE n rs i j)) (fun _ => True) (fun _ => []) w0) := by
  refine calls Try.func84 rfl (n := 39) rfl (by simp) ?_
  refine TC.seq ?_
  refine TC.region ?_
  refine TL.box rfl rfl (by decide) (fun b0 hb0 => ?_)
  refine TL.pure (PV.assign rfl) rfl (by decide) ?_
  refine TL.nil ?_
  refine TQ.thenC ?_
  refine TC.seq ?_
  refine TC.seq ?_
  refine TC.region ?_
  refine TL.pure (PV.loadBox rfl Tb.agg_24 (by repeat (first | exact List.Mem.head _ | refine List.Mem.tail _ ?_ | refine List.mem_append_right _ ?_)) rfl) rfl (by decide) ?_
  refine TL.call rfl Tb.gofn_24 (fun a w hs => rvalidate_ok w _ _ _ _ (hr.new hs.new)) rfl (by decide) (fun _ _ => ?_)
  refine TL.pure (PV.assign rfl) rfl (by decide) ?_
  refine TL.nil ?_
  refine TQ.thenC ?_
  refine TC.seq ?_
  refine TC.region ?_
  refine TL.pure (PV.move rfl) rfl (by decide) ?_
  refine TL.pure (PV.neq rfl rfl) rfl (by decide) ?_
  refine TL.nil ?_
  refine TQ.thenC ?_
  first | refine TC.condD rfl (fun hne => ?_) (fun hne => ?_) | refine TC.cond rfl (fun hne => ?_) (fun hne => ?_)
  · skip
    refine TC.seq ?_
    refine TC.region ?_
    refine TL.pure (PV.move rfl) rfl (by decide) ?_
    refine TL.pure (PV.assign rfl) rfl (by decide) ?_
    refine TL.nil ?_
    refine TQ.thenC ?_
    refine TC.ret ?_
    refine TQ.thenR ?_
    refine TQ.retE1 rfl rfl ?_
    first | exact ⟨(), by rw [errE, if_pos hne], trivial, List.nil_sublist _⟩ | (refine ⟨(), ?_, trivial, List.nil_sublist _⟩; rw [errE, if_neg hne, if_pos (fun hh => by first | omega | (simp_all; done) | (simp_all; omega))]; done) | (refine ⟨(), ?_, trivial, List.nil_sublist _⟩; rw [errE, if_neg hne, if_neg (not_not_intro hij), if_pos hap]; done) | (refine ⟨(), ?_, trivial, List.nil_sublist _⟩; rw [errE, if_neg hne, if_neg (not_not_intro hij), if_neg hap]; done)
  · skip
    refine TC.skip ?_
    refine TQ.thenC ?_
    refine TC.seq ?_
    refine TC.seq ?_
    have hp := Valid.pts (rs := rs) (vof hne)
    refine TC.region ?_
    refine TL.pure (PV.move rfl) rfl (by decide) ?_
    refine TL.pure (PV.fieldAddr rfl Tb.fo_24_0) rfl (by decide) ?_
    refine TL.pure (PV.load rfl Tb.one_3 (by repeat (first | exact List.Mem.head _ | refine List.Mem.tail _ ?_ | refine List.mem_append_right _ ?_)) rfl) rfl (by decide) ?_
    refine TL.pure (PV.sub rfl rfl (by omega)) rfl (by decide) ?_
    refine TL.call rfl Tb.gofn_66 (fun a w hs => within_ok w _ _ _) rfl (by decide) (fun _ _ => ?_)
    refine TL.pure ((by first | exact PV.notD rfl | exact PV.not rfl)) rfl (by decide) ?_
    refine TL.pure (PV.move rfl) rfl (by decide) ?_
    first | refine TL.splitD 20 rfl (fun hi1 => ?_) (fun hi1 => ?_) | refine TL.split 20 rfl (fun hi1 => ?_) (fun hi1 => ?_)
    · skip
      refine TL.skip rfl (fun k hk => by cases hk; decide) ?_
      refine TL.skip rfl (fun k hk => by cases hk; decide) ?_
      refine TL.skip rfl (fun k hk => by cases hk; decide) ?_
      refine TL.skip rfl (fun k hk => by cases hk; decide) ?_
      refine TL.skip rfl (fun k hk => by cases hk; decide) ?_
      refine TL.skip rfl (fun k hk => by cases hk; decide) ?_
      refine TL.pure (PV.pickT rfl rfl) rfl (by decide) ?_
      refine TL.nil ?_
      refine TQ.thenC ?_
      refine TC.condT rfl ?_
      refine TC.seq ?_
      refine TC.region ?_
      refine TL.pure (PV.assign rfl) rfl (by decide) ?_
      refine TL.nil ?_
      refine TQ.thenC ?_
      refine TC.ret ?_
      refine TQ.thenR ?_
      refine TQ.retE1 rfl rfl ?_
      first | exact ⟨(), by rw [errE, if_pos hne], trivial, List.nil_sublist _⟩ | (refine ⟨(), ?_, trivial, List.nil_sublist _⟩; rw [errE, if_neg hne, if_pos (fun hh => by first | omega | (simp_all; done) | (simp_all; omega))]; done) | (refine ⟨(), ?_, trivial, List.nil_sublist _⟩; rw [errE, if_neg hne, if_neg (not_not_intro hij), if_pos hap]; done) | (refine ⟨(), ?_, trivial, List.nil_sublist _⟩; rw [errE, if_neg hne, if_neg (not_not_intro hij), if_neg hap]; done)
    · skip
      refine TL.pure (PV.move rfl) rfl (by decide) ?_
      refine TL.pure (PV.fieldAddr rfl Tb.fo_24_0) rfl (by decide) ?_
      refine TL.pure (PV.load rfl Tb.one_3 (by repeat (first | exact List.Mem.head _ | refine List.Mem.tail _ ?_ | refine List.mem_append_right _ ?_)) rfl) rfl (by decide) ?_
      refine TL.pure (PV.sub rfl rfl (by omega)) rfl (by decide) ?_
      refine TL.call rfl Tb.gofn_66 (fun a w hs => within_ok w _ _ _) rfl (by decide) (fun _ _ => ?_)
      refine TL.pure ((by first | exact PV.notD rfl | exact PV.not rfl)) rfl (by decide) ?_
      refine TL.pure (PV.pickF rfl rfl) rfl (by decide) ?_
      refine TL.nil ?_
      refine TQ.thenC ?_
      first | refine TC.condD rfl (fun hbad => ?_) (fun hbad => ?_) | refine TC.cond rfl (fun hbad => ?_) (fun hbad => ?_)
      · skip
        refine TC.seq ?_
        refine TC.region ?_
        refine TL.pure (PV.assign rfl) rfl (by decide) ?_
        refine TL.nil ?_
        refine TQ.thenC ?_
        refine TC.ret ?_
        refine TQ.thenR ?_
        refine TQ.retE1 rfl rfl ?_
        first | exact ⟨(), by rw [errE, if_pos hne], trivial, List.nil_sublist _⟩ | (refine ⟨(), ?_, trivial, List.nil_sublist _⟩; rw [errE, if_neg hne, if_pos (fun hh => by first | omega | (simp_all; done) | (simp_all; omega))]; done) | (refine ⟨(), ?_, trivial, List.nil_sublist _⟩; rw [errE, if_neg hne, if_neg (not_not_intro hij), if_pos hap]; done) | (refine ⟨(), ?_, trivial, List.nil_sublist _⟩; rw [errE, if_neg hne, if_neg (not_not_intro hij), if_neg hap]; done)
      · skip
        refine TC.skip ?_
        refine TQ.thenC ?_
        refine TC.seq ?_
        refine TC.seq ?_
        have hij : (0 ≤ i ∧ i < n) ∧ (0 ≤ j ∧ j < n) := by first | omega | (simp_all; done) | (simp_all; omega)
        have hfl := firstsL_len n rs
        refine TC.region ?_
        refine TL.pure (PV.loadBox rfl Tb.agg_24 (by repeat (first | exact List.Mem.head _ | refine List.Mem.tail _ ?_ | refine List.mem_append_right _ ?_)) rfl) rfl (by decide) ?_
        refine TL.call rfl Tb.gofn_62 (fun a w hs => whole_ok w _ _ _ _ (hr.new hs.new) (vof hne)) rfl (by decide) (fun bF _ => ?_)
        refine TL.pure (PV.assign rfl) rfl (by decide) ?_
        refine TL.nil ?_
        refine TQ.thenC ?_
        refine TC.seq ?_
        refine TC.any Tb.mixed rfl rfl ?_
        refine TA.op (OpOK.pure (PV.move rfl) rfl (by decide)) (by decide) ?_
        refine TA.op (OpOK.pure (PV.move rfl) rfl (by decide)) (by decide) ?_
        refine TA.op (OpOK.pure (PV.index1 rfl rfl Tb.elm_31 (Int.toNat_of_nonneg (by omega)).symm (by omega)) rfl (by decide)) (by decide) ?_
        refine TA.op (OpOK.pure (PV.loadI rfl Tb.one_3 (by repeat (first | exact List.Mem.head _ | refine List.Mem.tail _ ?_ | refine List.mem_append_right _ ?_)) (by omega)) rfl (by decide)) (by decide) ?_
        refine TA.op (OpOK.pure (PV.move rfl) rfl (by decide)) (by decide) ?_
        refine TA.op (OpOK.pure (PV.move rfl) rfl (by decide)) (by decide) ?_
        refine TA.op (OpOK.pure (PV.index1 rfl rfl Tb.elm_31 (Int.toNat_of_nonneg (by omega)).symm (by omega)) rfl (by decide)) (by decide) ?_
        refine TA.op (OpOK.pure (PV.loadI rfl Tb.one_3 (by repeat (first | exact List.Mem.head _ | refine List.Mem.tail _ ?_ | refine List.mem_append_right _ ?_)) (by omega)) rfl (by decide)) (by decide) ?_
        refine TA.op (OpOK.pure (PV.neq rfl rfl) rfl (by decide)) (by decide) ?_
        show TQ _ _ _ _ _
        refine TQ.thenC ?_
        first | refine TC.condD rfl (fun hap => ?_) (fun hap => ?_) | refine TC.cond rfl (fun hap => ?_) (fun hap => ?_)
        · skip
          refine TC.seq ?_
          refine TC.region ?_
          refine TL.pure (PV.assign rfl) rfl (by decide) ?_
          refine TL.nil ?_
          refine TQ.thenC ?_
          refine TC.ret ?_
          refine TQ.thenR ?_
          refine TQ.retE1 rfl rfl ?_
          first | exact ⟨(), by rw [errE, if_pos hne], trivial, List.nil_sublist _⟩ | (refine ⟨(), ?_, trivial, List.nil_sublist _⟩; rw [errE, if_neg hne, if_pos (fun hh => by first | omega | (simp_all; done) | (simp_all; omega))]; done) | (refine ⟨(), ?_, trivial, List.nil_sublist _⟩; rw [errE, if_neg hne, if_neg (not_not_intro hij), if_pos hap]; done) | (refine ⟨(), ?_, trivial, List.nil_sublist _⟩; rw [errE, if_neg hne, if_neg (not_not_intro hij), if_neg hap]; done)
        · skip
          refine TC.skip ?_
          refine TQ.thenC ?_
          refine TC.seq ?_
          refine TC.region ?_
          refine TL.pure (PV.assign rfl) rfl (by decide) ?_
          refine TL.nil ?_
          refine TQ.thenC ?_
          refine TC.ret ?_
          refine TQ.retE1 rfl rfl ?_
          first | exact ⟨(), by rw [errE, if_pos hne], trivial, List.nil_sublist _⟩ | (refine ⟨(), ?_, trivial, List.nil_sublist _⟩; rw [errE, if_neg hne, if_pos (fun hh => by first | omega | (simp_all; done) | (simp_all; omega))]; done) | (refine ⟨(), ?_, trivial, List.nil_sublist _⟩; rw [errE, if_neg hne, if_neg (not_not_intro hij), if_pos hap]; done) | (refine ⟨(), ?_, trivial, List.nil_sublist _⟩; rw [errE, if_neg hne, if_neg (not_not_intro hij), if_neg hap]; done)

set_option maxRecDepth 100000 in
set_option maxHeartbeats 4000000 in
theorem rresistance_ok (w0 : World) (n : Int) (p : Option Addr) (cap : Nat) (rs : List Rd) (hr : RdsAt w0 p rs) (hv : Valid n rs) (i j : Int) (hi : 0 ≤ i ∧ i < n) (hj : 0 ≤ j ∧ j < n) (hij : rootOf n.toNat rs i.toNat = rootOf n.toNat rs j.toNat) :
    Calls Try.prog 85 #[sv n p rs.length cap, .int .i64 i, .int .i64 j] w0 (Post (X := Unit) (fun _ => .agg #[.int .i64 (rA n.toNat rs i.toNat j.toNat), .int .i64 (rB n.toNat rs i.toNat j.toNat)]) (fun _ => True) (fun _ => []) w0) := by
  have hp := hv.pts
  have hfl := firstsL_len n rs
  refine calls Try.func85 rfl (n := 57) rfl (by simp) ?_
  refine TC.seq ?_
  refine TC.region ?_
  refine TL.box rfl rfl (by decide) (fun b0 hb0 => ?_)
  refine TL.alloc Tb.zero_46 rfl (by decide) (fun b1 hb1 => ?_)
  refine TL.nil ?_
  refine TQ.thenC ?_
  refine TC.seq ?_
  refine TC.seq ?_
  refine TC.region ?_
  refine TL.pure (PV.move rfl) rfl (by decide) ?_
  refine TL.pure (PV.move rfl) rfl (by decide) ?_
  refine TL.pure (PV.eql rfl rfl) rfl (by decide) ?_
  refine TL.nil ?_
  refine TQ.thenC ?_
  first | refine TC.condD rfl (fun hne => ?_) (fun hne => ?_) | refine TC.cond rfl (fun hne => ?_) (fun hne => ?_)
  · skip
    refine TC.seq ?_
    refine TC.region ?_
    refine TL.pure (PV.build rfl Tb.zero_46 Tb.pl_46 (fill_01 _ _)) rfl (by decide) ?_
    refine TL.storeAgg rfl rfl Tb.cells_46 (by repeat (first | exact Upd.head _ | apply Upd.tail | apply Upd.appR)) rfl rfl rfl rfl rfl ?_
    refine TL.nil ?_
    refine TQ.thenC ?_
    refine TC.ret ?_
    refine TQ.thenR ?_
    refine TQ.retR rfl (Res.agg rfl Tb.agg_46 (by repeat (first | exact List.Mem.head _ | refine List.Mem.tail _ ?_ | refine List.mem_append_right _ ?_)) rfl Res.nil) ?_
    simp only [tup]
    exact ⟨(), by rw [show j = i by omega, (rAB_self hv.nat.1 i.toNat).1, (rAB_self hv.nat.1 i.toNat).2], trivial, List.nil_sublist _⟩
  · skip
    refine TC.skip ?_
    refine TQ.thenC ?_
    refine TC.seq ?_
    refine TC.region ?_
    refine TL.pure (PV.loadBox rfl Tb.agg_24 (by repeat (first | exact List.Mem.head _ | refine List.Mem.tail _ ?_ | refine List.mem_append_right _ ?_)) rfl) rfl (by decide) ?_
    refine TL.call rfl Tb.gofn_62 (fun a w hs => whole_ok w _ _ _ _ (hr.new hs.new) hv) rfl (by decide) (fun bF _ => ?_)
    refine TL.pure (PV.assign rfl) rfl (by decide) ?_
    refine TL.nil ?_
    refine TQ.thenC ?_
    refine TC.seq ?_
    refine TC.region ?_
    refine TL.pure (PV.assign rfl) rfl (by decide) ?_
    refine TL.pure (PV.assign rfl) rfl (by decide) ?_
    refine TL.nil ?_
    refine TQ.thenC ?_
    refine TC.seq ?_
    refine TC.seq ?_
    refine TC.region ?_
    refine TL.pure (PV.assign rfl) rfl (by decide) ?_
    refine TL.nil ?_
    refine TQ.thenC ?_
    refine TC.block ?_
    refine TC.lit [(1, _), (2, _), (3, _), (6, _), (7, _), (8, _), (9, _), (10, _)] (by repeat (first | exact True.intro | refine And.intro rfl ?_)) ?_
    refine TC.loopK [1, 2, 3, 6, 7] (X := Nat × (HD × List Int) × (HD × List Int)) (fun x => OI n.toNat (firstsL n rs) i j x.1 x.2.1 x.2.2) (fun x => [(10, .int .i64 x.1), (8, gvI x.2.1), (9, gvI x.2.2)]) (fun x => gbI x.2.1 ++ (gbI x.2.2 ++ [arrI bF (firstsL n rs), (b1, .cells #[.int .i64 0, .int .i64 0] 46 (0, 0)), (b0, .cells #[.int .i64 n, .slice p rs.length cap] 24 (0, 0))])) (fun x => n.toNat - x.1) (0, (none, []), (none, [])) (OI.zero _ _ _ _) (by repeat (first | exact True.intro | refine And.intro rfl ?_)) (by repeat (first | exact List.Sublist.slnil | exact List.nil_sublist _ | exact List.Sublist.refl _ | refine List.Sublist.cons_cons _ ?_ | refine List.Sublist.cons _ ?_ | refine List.Sublist.trans ?_ (List.sublist_append_right _ _))) ?_
    intro x hx
    have hxle := hx.le
    refine TC.seq ?_
    refine TC.seq ?_
    refine TC.region ?_
    refine TL.pure (PV.move rfl) rfl (by decide) ?_
    refine TL.pure (PV.fieldAddr rfl Tb.fo_24_0) rfl (by decide) ?_
    refine TL.pure (PV.load rfl Tb.one_3 (by repeat (first | exact List.Mem.head _ | refine List.Mem.tail _ ?_ | refine List.mem_append_right _ ?_)) rfl) rfl (by decide) ?_
    refine TL.pure (PV.lss rfl rfl) rfl (by decide) ?_
    refine TL.nil ?_
    refine TQ.thenC ?_
    first | refine TC.condD rfl (fun hlt => ?_) (fun hlt => ?_) | refine TC.cond rfl (fun hlt => ?_) (fun hlt => ?_)
    · skip
      refine TC.skip ?_
      refine TQ.thenC ?_
      refine TC.seq ?_
      refine TC.block ?_
      refine TC.seq ?_
      have hxl : x.1 < n.toNat := by omega
      have hln := hx.len
      refine TC.any Tb.mixed rfl rfl ?_
      refine TA.op (OpOK.pure (PV.move rfl) rfl (by decide)) (by decide) ?_
      refine TA.op (OpOK.pure (PV.move rfl) rfl (by decide)) (by decide) ?_
      refine TA.op (OpOK.pure (PV.index1 rfl rfl Tb.elm_31 rfl (by omega)) rfl (by decide)) (by decide) ?_
      refine TA.op (OpOK.pure (PV.loadI rfl Tb.one_3 (by repeat (first | exact List.Mem.head _ | refine List.Mem.tail _ ?_ | refine List.mem_append_right _ ?_)) (by omega)) rfl (by decide)) (by decide) ?_
      refine TA.op (OpOK.pure (PV.move rfl) rfl (by decide)) (by decide) ?_
      refine TA.op (OpOK.pure (PV.move rfl) rfl (by decide)) (by decide) ?_
      refine TA.op (OpOK.pure (PV.index1 rfl rfl Tb.elm_31 (Int.toNat_of_nonneg (by omega)).symm (by omega)) rfl (by decide)) (by decide) ?_
      refine TA.op (OpOK.pure (PV.loadI rfl Tb.one_3 (by repeat (first | exact List.Mem.head _ | refine List.Mem.tail _ ?_ | refine List.mem_append_right _ ?_)) (by omega)) rfl (by decide)) (by decide) ?_
      refine TA.op (OpOK.pure (PV.eql rfl rfl) rfl (by decide)) (by decide) ?_
      refine TA.op (OpOK.pure (PV.move rfl) rfl (by decide)) (by decide) ?_
      first | refine TA.splitD 32 rfl (fun heq => ?_) (fun heq => ?_) | refine TA.split 32 rfl (fun heq => ?_) (fun heq => ?_)
      · skip
        refine TA.op (OpOK.pure (PV.move rfl) rfl (by decide)) (by decide) ?_
        refine TA.op (OpOK.pure (PV.move rfl) rfl (by decide)) (by decide) ?_
        refine TA.op (OpOK.pure (PV.neq rfl rfl) rfl (by decide)) (by decide) ?_
        refine TA.op (OpOK.pure (PV.pickT rfl rfl) rfl (by decide)) (by decide) ?_
        show TQ _ _ _ _ _
        refine TQ.thenC ?_
        first | refine TC.condD rfl (fun hin => ?_) (fun hin => ?_) | refine TC.cond rfl (fun hin => ?_) (fun hin => ?_)
        · skip
          refine TC.seq ?_
          refine TC.region ?_
          refine TL.pure (PV.move rfl) rfl (by decide) ?_
          refine TL.pure (PV.move rfl) rfl (by decide) ?_
          refine TL.buildSlice rfl Tb.sl_31 Tb.zi_3 (by decide) (fill_i _) (by decide) rfl (by decide) (fun bI hbI => ?_)
          refine TL.appendI rfl rfl (by repeat (first | exact List.Mem.head _ | refine List.Mem.tail _ ?_ | refine List.mem_append_right _ ?_)) hx.ox (by repeat (first | exact TakeH.here _ _ _ _ | apply TakeH.tail | apply TakeH.app)) (by have := hx.len; omega) rfl (by decide) (fun hI1_ hI1 => ?_)
          refine TL.pure (PV.assign rfl) rfl (by decide) ?_
          refine TL.nil ?_
          refine TQ.thenC ?_
          refine TC.seq ?_
          refine TC.region ?_
          refine TL.pure (PV.move rfl) rfl (by decide) ?_
          refine TL.pure (PV.move rfl) rfl (by decide) ?_
          refine TL.pure (PV.neq rfl rfl) rfl (by decide) ?_
          refine TL.nil ?_
          refine TQ.thenC ?_
          first | refine TC.condD rfl (fun hjj => ?_) (fun hjj => ?_) | refine TC.cond rfl (fun hjj => ?_) (fun hjj => ?_)
          · skip
            refine TC.region ?_
            refine TL.pure (PV.move rfl) rfl (by decide) ?_
            refine TL.pure (PV.move rfl) rfl (by decide) ?_
            refine TL.buildSlice rfl Tb.sl_31 Tb.zi_3 (by decide) (fill_i _) (by decide) rfl (by decide) (fun bI2 hbI2 => ?_)
            refine TL.appendI rfl rfl (by repeat (first | exact List.Mem.head _ | refine List.Mem.tail _ ?_ | refine List.mem_append_right _ ?_)) hx.oy (by repeat (first | exact TakeH.here _ _ _ _ | apply TakeH.tail | apply TakeH.app)) (by have := hx.len; omega) rfl (by decide) (fun hI2_ hI2 => ?_)
            refine TL.pure (PV.assign rfl) rfl (by decide) ?_
            refine TL.nil ?_
            refine TQ.blkN ?_
            refine TQ.thenC ?_
            refine TC.region ?_
            refine TL.pure (PV.move rfl) rfl (by decide) ?_
            refine TL.pure (PV.add rfl rfl (by omega)) rfl (by decide) ?_
            refine TL.pure (PV.assign rfl) rfl (by decide) ?_
            refine TL.nil ?_
            refine TQ.thenN ?_
            first | refine TQ.perm (perm_oi (A := gbI (hI1_, x.2.1.2 ++ [(x.1 : Int)])) (B := gbI (hI2_, x.2.2.2 ++ [(x.1 : Int)]))) ?_ | skip
            refine TQ.backK (x.1 + 1, _, _) (by repeat (first | exact True.intro | refine And.intro rfl ?_)) (by repeat (first | exact True.intro | refine And.intro rfl ?_)) (by first | exact List.Sublist.refl _ | exact List.Sublist.append_left (List.Sublist.append_left (List.Sublist.cons _ (List.Sublist.cons _ (List.Sublist.refl _))) _) _ | exact List.Sublist.append_left (List.Sublist.cons _ (List.Sublist.refl _)) _) (by first | exact hx.no hxl (inOne_no1 heq) | exact hx.no hxl (inOne_no2 hin) | exact hx.both hxl (inOne_yes heq hin) hjj hI1 hI2 | exact hx.fst hxl (inOne_yes heq hin) hjj hI1) (by simp only; omega)
          · skip
            refine TC.skip ?_
            refine TQ.blkN ?_
            refine TQ.thenC ?_
            refine TC.region ?_
            refine TL.pure (PV.move rfl) rfl (by decide) ?_
            refine TL.pure (PV.add rfl rfl (by omega)) rfl (by decide) ?_
            refine TL.pure (PV.assign rfl) rfl (by decide) ?_
            refine TL.nil ?_
            refine TQ.thenN ?_
            first | refine TQ.perm (perm_oi (A := gbI (hI1_, x.2.1.2 ++ [(x.1 : Int)])) (B := gbI (hI2_, x.2.2.2 ++ [(x.1 : Int)]))) ?_ | skip
            refine TQ.backK (x.1 + 1, _, _) (by repeat (first | exact True.intro | refine And.intro rfl ?_)) (by repeat (first | exact True.intro | refine And.intro rfl ?_)) (by first | exact List.Sublist.refl _ | exact List.Sublist.append_left (List.Sublist.append_left (List.Sublist.cons _ (List.Sublist.cons _ (List.Sublist.refl _))) _) _ | exact List.Sublist.append_left (List.Sublist.cons _ (List.Sublist.refl _)) _) (by first | exact hx.no hxl (inOne_no1 heq) | exact hx.no hxl (inOne_no2 hin) | exact hx.both hxl (inOne_yes heq hin) hjj hI1 hI2 | exact hx.fst hxl (inOne_yes heq hin) hjj hI1) (by simp only; omega)
        · skip
          refine TC.skip ?_
          refine TQ.blkN ?_
          refine TQ.thenC ?_
          refine TC.region ?_
          refine TL.pure (PV.move rfl) rfl (by decide) ?_
          refine TL.pure (PV.add rfl rfl (by omega)) rfl (by decide) ?_
          refine TL.pure (PV.assign rfl) rfl (by decide) ?_
          refine TL.nil ?_
          refine TQ.thenN ?_
          first | refine TQ.perm (perm_oi (A := gbI (hI1_, x.2.1.2 ++ [(x.1 : Int)])) (B := gbI (hI2_, x.2.2.2 ++ [(x.1 : Int)]))) ?_ | skip
          refine TQ.backK (x.1 + 1, _, _) (by repeat (first | exact True.intro | refine And.intro rfl ?_)) (by repeat (first | exact True.intro | refine And.intro rfl ?_)) (by first | exact List.Sublist.refl _ | exact List.Sublist.append_left (List.Sublist.append_left (List.Sublist.cons _ (List.Sublist.cons _ (List.Sublist.refl _))) _) _ | exact List.Sublist.append_left (List.Sublist.cons _ (List.Sublist.refl _)) _) (by first | exact hx.no hxl (inOne_no1 heq) | exact hx.no hxl (inOne_no2 hin) | exact hx.both hxl (inOne_yes heq hin) hjj hI1 hI2 | exact hx.fst hxl (inOne_yes heq hin) hjj hI1) (by simp only; omega)
      · skip
        refine TA.op (OpOK.skip rfl) (by decide) ?_
        refine TA.op (OpOK.skip rfl) (by decide) ?_
        refine TA.op (OpOK.skip rfl) (by decide) ?_
        refine TA.op (OpOK.pure (PV.pickF rfl rfl) rfl (by decide)) (by decide) ?_
        show TQ _ _ _ _ _
        refine TQ.thenC ?_
        refine TC.condF rfl ?_
        refine TC.skip ?_
        refine TQ.blkN ?_
        refine TQ.thenC ?_
        refine TC.region ?_
        refine TL.pure (PV.move rfl) rfl (by decide) ?_
        refine TL.pure (PV.add rfl rfl (by omega)) rfl (by decide) ?_
        refine TL.pure (PV.assign rfl) rfl (by decide) ?_
        refine TL.nil ?_
        refine TQ.thenN ?_
        first | refine TQ.perm (perm_oi (A := gbI (hI1_, x.2.1.2 ++ [(x.1 : Int)])) (B := gbI (hI2_, x.2.2.2 ++ [(x.1 : Int)]))) ?_ | skip
        refine TQ.backK (x.1 + 1, _, _) (by repeat (first | exact True.intro | refine And.intro rfl ?_)) (by repeat (first | exact True.intro | refine And.intro rfl ?_)) (by first | exact List.Sublist.refl _ | exact List.Sublist.append_left (List.Sublist.append_left (List.Sublist.cons _ (List.Sublist.cons _ (List.Sublist.refl _))) _) _ | exact List.Sublist.append_left (List.Sublist.cons _ (List.Sublist.refl _)) _) (by first | exact hx.no hxl (inOne_no1 heq) | exact hx.no hxl (inOne_no2 hin) | exact hx.both hxl (inOne_yes heq hin) hjj hI1 hI2 | exact hx.fst hxl (inOne_yes heq hin) hjj hI1) (by simp only; omega)
    · skip
      refine TC.exit ?_
      refine TQ.thenE ?_
      refine TQ.thenE ?_
      refine TQ.blkS ?_
      refine TQ.thenC ?_
      refine TC.seq ?_
      refine TC.lit [(3, _), (6, _), (8, _), (9, _)] (by repeat (first | exact True.intro | refine And.intro rfl ?_)) ?_
      have hxe : x.1 = n.toNat := by omega
      rw [hxe] at hx
      have h1x : x.2.1.2 = oneK (firstsL n rs) i n.toNat := hx.one
      have h2x : x.2.2.2 = twoK (firstsL n rs) i j n.toNat := hx.two
      obtain ⟨hN, hn⟩ := hv.nat
      have hres := res_eq hN (i := i.toNat) (j := j.toNat) (by omega) (by omega) (by omega) hij
      simp only at hres
      rw [hn, show ((i.toNat : Nat) : Int) = i by omega, show ((j.toNat : Nat) : Int) = j by omega, ← h1x, ← h2x] at hres
      refine TC.mix [true, true, false, false, true, true, false, false, false, false] [(b0, .cells #[.int .i64 n, .slice p rs.length cap] 24 (0, 0))] 6 Tb.mixed rfl (by kernel_rfl) (by kernel_rfl) (by kernel_rfl) (by kernel_rfl) (by repeat (first | exact List.Sublist.slnil | exact List.nil_sublist _ | exact List.Sublist.refl _ | refine List.Sublist.cons_cons _ ?_ | refine List.Sublist.cons _ ?_ | refine List.Sublist.trans ?_ (List.sublist_append_right _ _))) ?_
      refine TB.op (SOK.pure (PV.loadBox rfl Tb.agg_24 (by repeat (first | exact List.Mem.head _ | refine List.Mem.tail _ ?_ | refine List.mem_append_right _ ?_)) rfl) rfl) (by decide) ?_
      refine TB.op (SOK.pure (PV.move rfl) rfl) (by decide) ?_
      refine TB.no ?_
      refine TB.no ?_
      refine TB.op (SOK.pure (PV.loadBox rfl Tb.agg_24 (by repeat (first | exact List.Mem.head _ | refine List.Mem.tail _ ?_ | refine List.mem_append_right _ ?_)) rfl) rfl) (by decide) ?_
      refine TB.op (SOK.pure (PV.move rfl) rfl) (by decide) ?_
      refine TB.no ?_
      refine TB.no ?_
      refine TB.no ?_
      refine TB.no ?_
      refine TB.fin ?_
      refine TX.step [2] (by kernel_rfl) (by decide) ⟨⟨_, rfl, ?_⟩, trivial⟩
      refine TL.call rfl Tb.gofn_100 (fun a w hs => lapG w _ _ _ _ (hr.new hs.new) hv x.2.2 hx.oy (by have := hx.len; omega) (IntsAt.g hs.new (fun y hy => by first | exact List.mem_append_left _ hy | exact List.mem_append_right _ (List.mem_append_left _ hy) | exact List.mem_append_right _ (List.mem_append_right _ (List.mem_append_left _ hy)) | (simp only [List.mem_append]; simp [hy])) hx.oy)) rfl (by decide) (fun z2 hz2 => ?_)
      refine TL.nil ?_
      refine TX.next (.inl (by repeat (first | exact List.Sublist.slnil | exact List.nil_sublist _ | exact List.Sublist.refl _ | refine List.Sublist.cons_cons _ ?_ | refine List.Sublist.cons _ ?_ | refine List.Sublist.trans ?_ (List.sublist_append_right _ _)))) ?_
      refine TX.step [3] (by kernel_rfl) (by decide) ⟨⟨_, rfl, ?_⟩, trivial⟩
      refine TL.call rfl Tb.gofn_101 (fun a w hs => detLap hv hres.2.2.2 hs.new (fun y hy => by first | exact List.mem_append_left _ hy | exact List.mem_append_right _ (List.mem_append_left _ hy) | exact List.mem_append_right _ (List.mem_append_right _ (List.mem_append_left _ hy)) | (simp only [List.mem_append]; simp [hy])) (fun y hy => by first | exact List.mem_append_left _ hy | exact List.mem_append_right _ (List.mem_append_left _ hy) | exact List.mem_append_right _ (List.mem_append_right _ (List.mem_append_left _ hy)) | (simp only [List.mem_append]; simp [hy])) hz2) rfl (by decide) (fun _ _ => ?_)
      refine TL.nil ?_
      refine TX.next (.inl (by repeat (first | exact List.Sublist.slnil | exact List.nil_sublist _ | exact List.Sublist.refl _ | refine List.Sublist.cons_cons _ ?_ | refine List.Sublist.cons _ ?_ | refine List.Sublist.trans ?_ (List.sublist_append_right _ _)))) ?_
      refine TX.step [6] (by kernel_rfl) (by decide) ⟨⟨_, rfl, ?_⟩, trivial⟩
      refine TL.call rfl Tb.gofn_100 (fun a w hs => lapG w _ _ _ _ (hr.new hs.new) hv x.2.1 hx.ox (by have := hx.len; omega) (IntsAt.g hs.new (fun y hy => by first | exact List.mem_append_left _ hy | exact List.mem_append_right _ (List.mem_append_left _ hy) | exact List.mem_append_right _ (List.mem_append_right _ (List.mem_append_left _ hy)) | (simp only [List.mem_append]; simp [hy])) hx.ox)) rfl (by decide) (fun z1 hz1 => ?_)
      refine TL.nil ?_
      refine TX.next (.inl (by repeat (first | exact List.Sublist.slnil | exact List.nil_sublist _ | exact List.Sublist.refl _ | refine List.Sublist.cons_cons _ ?_ | refine List.Sublist.cons _ ?_ | refine List.Sublist.trans ?_ (List.sublist_append_right _ _)))) ?_
      refine TX.step [7] (by kernel_rfl) (by decide) ⟨⟨_, rfl, ?_⟩, trivial⟩
      refine TL.call rfl Tb.gofn_101 (fun a w hs => detLap hv hres.2.2.1 hs.new (fun y hy => by first | exact List.mem_append_left _ hy | exact List.mem_append_right _ (List.mem_append_left _ hy) | exact List.mem_append_right _ (List.mem_append_right _ (List.mem_append_left _ hy)) | (simp only [List.mem_append]; simp [hy])) (fun y hy => by first | exact List.mem_append_left _ hy | exact List.mem_append_right _ (List.mem_append_left _ hy) | exact List.mem_append_right _ (List.mem_append_right _ (List.mem_append_left _ hy)) | (simp only [List.mem_append]; simp [hy])) hz1) rfl (by decide) (fun _ _ => ?_)
      refine TL.nil ?_
      refine TX.next (.inl (by repeat (first | exact List.Sublist.slnil | exact List.nil_sublist _ | exact List.Sublist.refl _ | refine List.Sublist.cons_cons _ ?_ | refine List.Sublist.cons _ ?_ | refine List.Sublist.trans ?_ (List.sublist_append_right _ _)))) ?_
      refine TX.step [8] (by kernel_rfl) (by decide) ⟨⟨_, rfl, ?_⟩, trivial⟩
      refine TL.call rfl Tb.gofn_50 (fun a w hs => ratioR w hv hi hj hne hij h1x h2x) rfl (by decide) (fun _ _ => ?_)
      refine TL.nil ?_
      refine TX.next (.inl (by repeat (first | exact List.Sublist.slnil | exact List.nil_sublist _ | exact List.Sublist.refl _ | refine List.Sublist.cons_cons _ ?_ | refine List.Sublist.cons _ ?_ | refine List.Sublist.trans ?_ (List.sublist_append_right _ _)))) ?_
      refine TX.step [9] (by kernel_rfl) (by decide) ⟨⟨_, rfl, ?_⟩, trivial⟩
      refine TL.storeAgg rfl rfl Tb.cells_46 (by repeat (first | exact Upd.head _ | apply Upd.tail | apply Upd.appR)) rfl rfl rfl rfl rfl ?_
      refine TL.nil ?_
      refine TX.next (.inr (by kernel_rfl)) ?_
      refine TX.done (by kernel_rfl) ?_
      refine TQ.thenC ?_
      refine TC.ret ?_
      refine TQ.retR rfl (Res.agg rfl Tb.agg_46 (by repeat (first | exact List.Mem.head _ | refine List.Mem.tail _ ?_ | refine List.mem_append_right _ ?_)) rfl Res.nil) ?_
      simp only [tup]
      first | exact ⟨(), rfl, trivial, List.nil_sublist _⟩ | exact ⟨(), trivial, trivial, List.nil_sublist _⟩ | (refine ⟨(), ?_, trivial, List.nil_sublist _⟩; simp)

end Go.Proofs.Ytmmgcajegokkoaa
