/- Order and Way, and the reference's: contracts. -/
import Derived.Test.YtkkipbkkijoneaaDt
set_option linter.unusedVariables false
set_option linter.unusedSimpArgs false
namespace Go.Proofs.Ytkkipbkkijoneaa
open Go.Sx Go.RowKit Go.Sand

def smC (cs : List Int) (k : Nat) : Int := sm k fun i => cs.getD i 0
theorem smC_bd {cs : List Int} (h : ∀ k, 0 ≤ cs.getD k 0 ∧ cs.getD k 0 ≤ 40) {k : Nat} (hk : k ≤ 1000) : 0 ≤ smC cs k ∧ smC cs k ≤ 40000 := by
  have h1 := sm_bd (f := fun i => cs.getD i 0) (B := 40) (by decide) (n := k) (fun i _ => by have := h i; omega)
  have h2 := sm_nonneg (f := fun i => cs.getD i 0) (n := k) (fun i _ => (h i).1)
  unfold smC
  omega
theorem smC_set {cs : List Int} {i : Nat} (hi : i < cs.length) : smC (cs.set i (cs.getD i 0 - 1)) (cs.set i (cs.getD i 0 - 1)).length = smC cs cs.length - 1 := by
  unfold smC
  rw [List.length_set]
  have h1 : sm cs.length (fun j => (cs.set i (cs.getD i 0 - 1)).getD j 0) = sm cs.length (fun j => cs.getD j 0 + (-1) * (if j = i then 1 else 0)) := sm_congr fun j hj => by
    rw [getD_set hi]
    by_cases e : i = j
    · subst e; simp; omega
    · rw [if_neg e, if_neg (fun h => e h.symm)]; omega
  have h2 := sm_pt (f := fun _ => (-1 : Int)) 1 i cs.length
  rw [if_pos hi] at h2
  rw [h1, sm_add, h2]
  rfl
abbrev flO (ss : List St) (L : Nat) (s : List Int × List Int) : List Int × Bool := fl (nxO ss) (fun _ => true) ss.length L s
abbrev flW (ss : List St) (goal : List Int) (L : Nat) (m : List Int) : List Int × Bool := fl (nxW ss) (fun m => decide (m = goal)) ss.length L m
def ordR (n : Int) (ss : List St) (m cs : List Int) : List Int × Bool × Int :=
  if filI n ss [m] ≠ 0 then ([], false, filI n ss [m]) else if numB ss.length 0 40 cs = true then if 8 < smC cs cs.length then ([], false, 3) else ((flO ss (smC cs cs.length).toNat (m, cs)).1, (flO ss (smC cs cs.length).toNat (m, cs)).2, 0) else ([], false, 1)
theorem ord_1 {n : Int} {ss : List St} {m cs : List Int} (h : filI n ss [m] ≠ 0) : ordR n ss m cs = ([], false, filI n ss [m]) := if_pos h
theorem ord_2 {n : Int} {ss : List St} {m cs : List Int} (h : ¬ filI n ss [m] ≠ 0) (h2 : numB ss.length 0 40 cs = false) : ordR n ss m cs = ([], false, 1) := by unfold ordR; rw [if_neg h, if_neg (by rw [h2]; decide)]
theorem ord_3 {n : Int} {ss : List St} {m cs : List Int} (h : ¬ filI n ss [m] ≠ 0) (h2 : numB ss.length 0 40 cs = true) (h3 : 8 < smC cs cs.length) : ordR n ss m cs = ([], false, 3) := by unfold ordR; rw [if_neg h, if_pos h2, if_pos h3]
theorem ord_4 {n : Int} {ss : List St} {m cs : List Int} (h : ¬ filI n ss [m] ≠ 0) (h2 : numB ss.length 0 40 cs = true) {L : Nat} (h3 : smC cs cs.length = L) (h4 : L ≤ 8) : ordR n ss m cs = ((flO ss L (m, cs)).1, (flO ss L (m, cs)).2, 0) := by
  unfold ordR
  rw [if_neg h, if_pos h2, if_neg (by omega), h3, Int.toNat_natCast]
theorem ordR_l {n : Int} {ss : List St} {m cs : List Int} : (ordR n ss m cs).1.length ≤ 1000000 := by
  unfold ordR
  split
  · exact Nat.zero_le _
  · split
    · split
      · exact Nat.zero_le _
      · exact Nat.le_trans (fl_len (nx := nxO ss) (en := fun _ => true) (steps := ss.length) (smC cs cs.length).toNat (m, cs)) (by omega)
    · exact Nat.zero_le _
/-- The first list of at most so many steps, from a length on. -/
def wyG (ss : List St) (goal m : List Int) : Nat → Nat → List Int × Bool
  | 0, _ => ([], false)
  | r + 1, k => if (flW ss goal k m).2 = true then ((flW ss goal k m).1, true) else wyG ss goal m r (k + 1)
theorem wyG_yes {ss : List St} {goal m : List Int} {N k : Nat} (hk : k < N) (h : (flW ss goal k m).2 = true) : wyG ss goal m (N - k) k = ((flW ss goal k m).1, true) := by
  obtain ⟨r, hr⟩ : ∃ r, N - k = r + 1 := ⟨N - k - 1, by omega⟩
  rw [hr, wyG, if_pos h]
theorem wyG_no {ss : List St} {goal m : List Int} {N k : Nat} (hk : k < N) (h : ¬ (flW ss goal k m).2 = true) : wyG ss goal m (N - k) k = wyG ss goal m (N - (k + 1)) (k + 1) := by
  obtain ⟨r, hr⟩ : ∃ r, N - k = r + 1 := ⟨N - k - 1, by omega⟩
  rw [hr, show N - (k + 1) = r by omega, wyG, if_neg h]
theorem wyG_end {ss : List St} {goal m : List Int} {N k : Nat} (hk : N ≤ k) : wyG ss goal m (N - k) k = ([], false) := by rw [show N - k = 0 by omega, wyG]
theorem wyG_len (ss : List St) (goal m : List Int) : ∀ r k, (wyG ss goal m r k).1.length ≤ k + r
  | 0, k => Nat.zero_le _
  | r + 1, k => by
    rw [wyG]
    split
    · exact Nat.le_trans (fl_len (nx := nxW ss) (en := fun m => decide (m = goal)) (steps := ss.length) k m) (by omega)
    · have := wyG_len ss goal m r (k + 1)
      omega
def wayR (n : Int) (ss : List St) (m goal : List Int) (most : Int) : List Int × Bool × Int :=
  if filI n ss [m, goal] ≠ 0 then ([], false, filI n ss [m, goal]) else if wiB most 0 5 = true then ((wyG ss goal m (most + 1).toNat 0).1, (wyG ss goal m (most + 1).toNat 0).2, 0) else ([], false, 1)
theorem way_1 {n : Int} {ss : List St} {m goal : List Int} {most : Int} (h : filI n ss [m, goal] ≠ 0) : wayR n ss m goal most = ([], false, filI n ss [m, goal]) := if_pos h
theorem way_2 {n : Int} {ss : List St} {m goal : List Int} {most : Int} (h : ¬ filI n ss [m, goal] ≠ 0) (h2 : ¬ wiB most 0 5 = true) : wayR n ss m goal most = ([], false, 1) := by unfold wayR; rw [if_neg h, if_neg h2]
theorem way_3 {n : Int} {ss : List St} {m goal : List Int} {most : Int} (h : ¬ filI n ss [m, goal] ≠ 0) {N : Nat} (h2 : wiB most 0 5 = true) (hN : most + 1 = N) : wayR n ss m goal most = ((wyG ss goal m (N - 0) 0).1, (wyG ss goal m (N - 0) 0).2, 0) := by
  unfold wayR
  rw [if_neg h, if_pos h2, hN, Int.toNat_natCast]
  rfl
theorem wayR_l {n : Int} {ss : List St} {m goal : List Int} {most : Int} : (wayR n ss m goal most).1.length ≤ 1000000 := by
  unfold wayR
  split
  · exact Nat.zero_le _
  · split
    · rename_i h2
      have h3 : 0 ≤ most ∧ most ≤ 5 := of_decide_eq_true h2
      have := wyG_len ss goal m (most + 1).toNat 0
      simp only
      omega
    · exact Nat.zero_le _
theorem filI_two {n : Int} {ss : List St} {m goal : List Int} : filI n ss [m, goal] = if filI n ss [m] ≠ 0 then filI n ss [m] else if numB n 0 50 goal = true then 0 else 1 := by
  unfold filI
  by_cases h : validI n ss ≠ 0
  · rw [if_pos h, if_pos h, if_pos h]
  · rw [if_neg h, if_neg h]
    by_cases h1 : numB n 0 50 m = true
    · by_cases h2 : numB n 0 50 goal = true
      · simp [h1, h2]
      · simp [h1, h2]
    · simp [h1]
theorem pad_dec {a b : List Int} (hl : a.length = b.length) : decide (pad6 a = pad6 b) = decide (a = b) := decide_eq_decide.2 ⟨pad_inj hl, fun h => by rw [h]⟩
theorem goal_fil {n : Int} {ss : List St} {m goal : List Int} (h : filI n ss [m] ≠ 0) : filI n ss [m, goal] = filI n ss [m] := by rw [filI_two, if_pos h]
theorem goal_0 {n : Int} {ss : List St} {m goal : List Int} (h : ¬ filI n ss [m] ≠ 0) (h2 : numB n 0 50 goal = true) : ¬ filI n ss [m, goal] ≠ 0 := by rw [filI_two, if_neg h, if_pos h2]; decide
theorem goal_1 {n : Int} {ss : List St} {m goal : List Int} (h : ¬ filI n ss [m] ≠ 0) (h2 : numB n 0 50 goal = false) {most : Int} : wayR n ss m goal most = ([], false, 1) := by
  have : filI n ss [m, goal] = 1 := by rw [filI_two, if_neg h, if_neg (by rw [h2]; decide)]
  rw [way_1 (by rw [this]; decide), this]
theorem eq70_guard (x y : Operand) (xs ys : List Int) (w : World) : (eqGuard .eql 70 x y (.agg (intsA xs)) (.agg (intsA ys))).run Try.prog w = .ok () w := by simp [eqGuard]
theorem key_70 : KeyT Try.prog 70 6 := ⟨3, 3, (Try.prog.info? 3).get (by kernel_rfl), by kernel_rfl, by kernel_rfl, (Option.some_get _).symm, by kernel_rfl, by kernel_rfl, rfl⟩
theorem eq70 {xs ys : List Int} (hx : xs.length = 6) (hy : ys.length = 6) (w : World) : (binOp .eql 70 (.agg (intsA xs)) (.agg (intsA ys))).run Try.prog w = .ok (.bool (decide (xs = ys))) w := by
  have h := run_eqK key_70 hx hy w
  rw [show (Op.equal 70 (.agg (intsA xs)) (.agg (intsA ys))) = Op.equalIn 10000 70 (.agg (intsA xs)) (.agg (intsA ys)) from rfl] at h
  rw [run_eql_struct, h]
  rfl


set_option maxRecDepth 100000 in
theorem orderE_ok (w0 : World) (xs : List Int) :
    Calls Try.prog 82 #[.agg (intsA xs)] w0 (Post (X := Unit) (fun _ => .bool true) (fun _ => True) (fun _ => []) w0) := by
  refine calls Try.func82 rfl (n := 3) rfl (by simp) ?_
  refine TC.seq ?_
  refine TC.region ?_
  refine TL.box rfl rfl (by decide) (fun b0 hb0 => ?_)
  refine TL.pure (PV.assign rfl) rfl (by decide) ?_
  refine TL.nil ?_
  refine TQ.thenC ?_
  refine TC.seq ?_
  refine TC.region ?_
  refine TL.pure (PV.assign rfl) rfl (by decide) ?_
  refine TL.nil ?_
  refine TQ.thenC ?_
  refine TC.ret ?_
  refine TQ.retE1 rfl rfl ?_
  exact ⟨(), rfl, trivial, List.nil_sublist _⟩

set_option maxRecDepth 100000 in
set_option maxHeartbeats 2000000 in
theorem Order_ok (w0 : World) (n : Int) (p : Option Addr) (cp : Nat) (ss : List St) (hr : StsAt w0 p ss) (hS : SmS ss) (vx : Value) (xs : List Int) (hv : IsI w0 vx xs) (hl : xs.length ≤ 1000000) (vz : Value) (cs : List Int) (hw : IsI w0 vz cs) (hcl : cs.length ≤ 1000000) :
    Calls Try.prog 35 #[yv n p ss.length cp, vx, vz] w0 (Post (X := HD) (fun h => .tuple #[gval h (ordR n ss xs cs).1.length, .bool (ordR n ss xs cs).2.1, .int .i64 (ordR n ss xs cs).2.2]) (fun h => goI (h, (ordR n ss xs cs).1)) (fun h => gbI (h, (ordR n ss xs cs).1)) w0) := by
  obtain ⟨pl, cl, rfl, hx⟩ := hv
  obtain ⟨pz, cz, rfl, hz⟩ := hw
  refine calls Try.func35 rfl (n := 60) rfl (by simp) ?_
  refine TC.seq ?_
  refine TC.region ?_
  refine TL.box rfl rfl (by decide) (fun b0 hb0 => ?_)
  refine TL.pure (PV.assign rfl) rfl (by decide) ?_
  refine TL.pure (PV.assign rfl) rfl (by decide) ?_
  refine TL.pure (PV.assign rfl) rfl (by decide) ?_
  refine TL.nil ?_
  refine TQ.thenC ?_
  refine TC.seq ?_
  refine TC.seq ?_
  refine TC.region ?_
  refine TL.pure (PV.loadBox rfl Tb.agg_24 (by repeat (first | exact List.Mem.head _ | refine List.Mem.tail _ ?_ | refine List.mem_append_right _ ?_)) rfl) rfl (by decide) ?_
  refine TL.pure (PV.move rfl) rfl (by decide) ?_
  refine TL.buildSlice (cs := #[.slice pl xs.length cl]) rfl Tb.sl_97 Tb.zi_25 (by decide) (fill_o _ _ _) (by decide) rfl (by decide) (fun bS hbS => ?_)
  refine TL.call rfl Tb.gofn_73 (fun a w hs => valFil_ok w _ _ _ _ (hr.new hs.new) hS _ _ 1 [xs] (LsAt.one hs.new (by repeat (first | exact List.Mem.head _ | refine List.Mem.tail _ ?_ | refine List.mem_append_right _ ?_)) (hx.new hs.new)) rfl (one_len hl) (by simp)) rfl (by decide) (fun _ _ => ?_)
  refine TL.pure (PV.assign rfl) rfl (by decide) ?_
  refine TL.nil ?_
  refine TQ.thenC ?_
  refine TC.seq ?_
  refine TC.region ?_
  refine TL.pure (PV.move rfl) rfl (by decide) ?_
  refine TL.pure (PV.neq rfl rfl) rfl (by decide) ?_
  refine TL.nil ?_
  refine TQ.thenC ?_
  first | refine TC.condD rfl (fun a1 => ?_) (fun a1 => ?_) | refine TC.cond rfl (fun a1 => ?_) (fun a1 => ?_)
  · skip
    refine TC.seq ?_
    refine TC.region ?_
    refine TL.pure (PV.move rfl) rfl (by decide) ?_
    refine TL.pure (PV.assign rfl) rfl (by decide) ?_
    refine TL.pure (PV.assign rfl) rfl (by decide) ?_
    refine TL.pure (PV.assign rfl) rfl (by decide) ?_
    refine TL.nil ?_
    refine TQ.thenC ?_
    refine TC.ret ?_
    refine TQ.thenR ?_
    refine TQ.retE3 rfl rfl rfl rfl ?_
    exact ⟨none, by rw [ord_1 a1]; rfl, by rw [ord_1 a1]; exact goI_nil, List.nil_sublist _⟩
  · skip
    refine TC.skip ?_
    refine TQ.thenC ?_
    refine TC.seq ?_
    refine TC.seq ?_
    refine TC.region ?_
    refine TL.pure (PV.loadBox rfl Tb.agg_24 (by repeat (first | exact List.Mem.head _ | refine List.Mem.tail _ ?_ | refine List.mem_append_right _ ?_)) rfl) rfl (by decide) ?_
    refine TL.pure (PV.move rfl) rfl (by decide) ?_
    refine TL.call rfl Tb.gofn_78 (fun a w hs => areCounts_ok w _ _ _ _ (hr.new hs.new) _ _ _ (hz.new hs.new) hcl) rfl (by decide) (fun _ _ => ?_)
    refine TL.pure ((by first | exact PV.notD rfl | exact PV.not rfl)) rfl (by decide) ?_
    refine TL.nil ?_
    refine TQ.thenC ?_
    first | refine TC.condD rfl (fun a2 => ?_) (fun a2 => ?_) | refine TC.cond rfl (fun a2 => ?_) (fun a2 => ?_)
    · skip
      refine TC.seq ?_
      refine TC.region ?_
      refine TL.pure (PV.assign rfl) rfl (by decide) ?_
      refine TL.pure (PV.assign rfl) rfl (by decide) ?_
      refine TL.pure (PV.assign rfl) rfl (by decide) ?_
      refine TL.nil ?_
      refine TQ.thenC ?_
      refine TC.ret ?_
      refine TQ.thenR ?_
      refine TQ.retE3 rfl rfl rfl rfl ?_
      exact ⟨none, by rw [ord_2 a1 (by simpa using a2)]; rfl, by rw [ord_2 a1 (by simpa using a2)]; exact goI_nil, List.nil_sublist _⟩
    · skip
      refine TC.skip ?_
      refine TQ.thenC ?_
      refine TC.seq ?_
      have hV := vm_of a1
      have hnu : numB ss.length 0 40 cs = true := by simpa using a2
      have hxl := num_len hnu
      have hcb := num_at hnu (by decide)
      have hsl := hV.len
      refine TC.region ?_
      refine TL.pure (PV.assign rfl) rfl (by decide) ?_
      refine TL.nil ?_
      refine TQ.thenC ?_
      refine TC.seq ?_
      refine TC.seq ?_
      refine TC.region ?_
      refine TL.pure (PV.move rfl) rfl (by decide) ?_
      refine TL.pure (PV.len rfl Tb.sl_25) rfl (by decide) ?_
      refine TL.pure (PV.move rfl) rfl (by decide) ?_
      refine TL.nil ?_
      refine TQ.thenC ?_
      refine TC.block ?_
      refine TC.lit [(1, _), (2, _), (3, _), (6, _), (7, _), (8, _), (10, _), (28, _), (29, _), (30, _)] (by repeat (first | exact True.intro | refine And.intro rfl ?_)) ?_
      refine TC.loopG [1, 2, 3, 6, 7, 8, 28, 29] (X := Nat) (fun k => k ≤ cs.length) (fun k => [(30, .int .i64 k), (10, .int .i64 (smC cs k))]) (fun k => cs.length - k) 0 (Nat.zero_le _) (by repeat (first | exact True.intro | refine And.intro rfl ?_)) ?_
      intro k hk
      refine TC.lit [(1, _), (2, _), (3, _), (6, _), (7, _), (8, _), (10, _), (28, _), (29, _), (30, _)] (by repeat (first | exact True.intro | refine And.intro rfl ?_)) ?_
      refine TC.seq ?_
      refine TC.region ?_
      refine TL.pure (PV.lss rfl rfl) rfl (by decide) ?_
      refine TL.nil ?_
      refine TQ.thenC ?_
      refine TC.seq ?_
      first | refine TC.condD rfl (fun hlt => ?_) (fun hlt => ?_) | refine TC.cond rfl (fun hlt => ?_) (fun hlt => ?_)
      · skip
        refine TC.skip ?_
        refine TQ.thenC ?_
        refine TC.seq ?_
        refine TC.block ?_
        refine TC.seq ?_
        obtain ⟨q2, hq2p, hq2⟩ := hz k (by omega)
        have hsb := smC_bd hcb (k := k) (by omega)
        have hcbk := hcb k
        refine TC.region ?_
        refine TL.pure (PV.indexA rfl hq2p rfl Tb.elm_25 rfl (by omega)) rfl (by decide) ?_
        refine TL.pure (PV.loadOld rfl Tb.one_3 hq2) rfl (by decide) ?_
        refine TL.pure (PV.assign rfl) rfl (by decide) ?_
        refine TL.nil ?_
        refine TQ.thenC ?_
        refine TC.region ?_
        refine TL.pure (PV.move rfl) rfl (by decide) ?_
        refine TL.pure (PV.move rfl) rfl (by decide) ?_
        refine TL.pure (PV.add rfl rfl (by omega)) rfl (by decide) ?_
        refine TL.pure (PV.assign rfl) rfl (by decide) ?_
        refine TL.nil ?_
        refine TQ.blkN ?_
        refine TQ.thenC ?_
        refine TC.region ?_
        refine TL.pure (PV.add rfl rfl (by omega)) rfl (by decide) ?_
        refine TL.pure (PV.move rfl) rfl (by decide) ?_
        refine TL.nil ?_
        refine TQ.thenN ?_
        refine TQ.backK (k + 1) (by repeat (first | exact True.intro | refine And.intro rfl ?_)) (by repeat (first | exact True.intro | refine And.intro rfl ?_)) (by repeat (first | exact List.Sublist.slnil | exact List.nil_sublist _ | exact List.Sublist.refl _ | refine List.Sublist.cons_cons _ ?_ | refine List.Sublist.cons _ ?_ | refine List.Sublist.trans ?_ (List.sublist_append_right _ _))) (by omega) (by omega)
      · skip
        refine TC.exit ?_
        refine TQ.thenE ?_
        refine TQ.thenE ?_
        refine TQ.blkS ?_
        refine TQ.thenC ?_
        refine TC.seq ?_
        refine TC.seq ?_
        have hke : k = cs.length := by omega
        rw [hke]
        refine TC.region ?_
        refine TL.pure (PV.move rfl) rfl (by decide) ?_
        refine TL.pure (PV.gtr rfl rfl) rfl (by decide) ?_
        refine TL.nil ?_
        refine TQ.thenC ?_
        first | refine TC.condD rfl (fun a3 => ?_) (fun a3 => ?_) | refine TC.cond rfl (fun a3 => ?_) (fun a3 => ?_)
        · skip
          refine TC.seq ?_
          refine TC.region ?_
          refine TL.pure (PV.assign rfl) rfl (by decide) ?_
          refine TL.pure (PV.assign rfl) rfl (by decide) ?_
          refine TL.pure (PV.assign rfl) rfl (by decide) ?_
          refine TL.nil ?_
          refine TQ.thenC ?_
          refine TC.ret ?_
          refine TQ.thenR ?_
          refine TQ.retE3 rfl rfl rfl rfl ?_
          exact ⟨none, by rw [ord_3 a1 hnu (by omega)]; rfl, by rw [ord_3 a1 hnu (by omega)]; exact goI_nil, List.nil_sublist _⟩
        · skip
          refine TC.skip ?_
          refine TQ.thenC ?_
          refine TC.seq ?_
          obtain ⟨L, hsL⟩ : ∃ L : Nat, smC cs cs.length = L := ⟨(smC cs cs.length).toNat, by have := smC_bd hcb (k := cs.length) (by omega); omega⟩
          have hL8 : L ≤ 8 := by omega
          have hp6 := pad_len hV.l6
          have e9 := ord_4 a1 hnu hsL hL8
          have hpe : (pad6 xs ++ pad6 cs).length = 12 := by rw [List.length_append, hp6, pad_len (by omega)]
          refine TC.region ?_
          refine TL.pure (PV.move rfl) rfl (by decide) ?_
          refine TL.call rfl Tb.gofn_63 (fun a w hs => fillingOf_ok w _ _ _ (hx.new hs.new) hV.l6) rfl (by decide) (fun _ _ => ?_)
          refine TL.pure (PV.build rfl Tb.zero_83 Tb.pl_83 (fill_plan hp6)) rfl (by decide) ?_
          refine TL.alloc Tb.zero_83 rfl (by decide) (fun bp hbp => ?_)
          refine TL.storeAgg (vs := (pad6 xs ++ List.replicate 6 0).map (Value.int .i64)) rfl rfl Tb.cells_83 (by repeat (first | exact Upd.head _ | apply Upd.tail | apply Upd.appR)) (map_len (by rw [List.length_append, hp6]; rfl)) rfl (ints_one _) rfl rfl ?_
          refine TL.nil ?_
          refine TQ.thenC ?_
          refine TC.seq ?_
          refine TC.region ?_
          refine TL.pure (PV.fieldAddr rfl Tb.fo_83_1) rfl (by decide) ?_
          refine TL.pure (PV.sliceAllO (o := 6) rfl arr_69 (by decide)) rfl (by decide) ?_
          refine TL.pure (PV.move rfl) rfl (by decide) ?_
          refine TL.copyIO (o := 6) (xs := cs) (arr := intsA (pad6 xs ++ List.replicate 6 0)) (e := 3) rfl rfl Tb.sl_25 sz_3 hz (by omega) (by rw [intsA_size, List.length_append, hp6]; decide) (by rw [plan_put hp6 (by omega)]; exact (by repeat (first | exact Upd.head _ | apply Upd.tail | apply Upd.appR))) rfl (by decide) ?_
          refine TL.nil ?_
          refine TQ.thenC ?_
          refine TC.seq ?_
          refine TC.region ?_
          refine TL.pure (PV.makeFuncB (pre := []) (caps := [_]) rfl rfl) rfl (by decide) ?_
          refine TL.pure (PV.assign rfl) rfl (by decide) ?_
          refine TL.nil ?_
          refine TQ.thenC ?_
          refine TC.seq ?_
          refine TC.region ?_
          refine TL.pure (PV.loadBox (cs := (pad6 xs ++ pad6 cs).map (Value.int .i64)) rfl Tb.agg_83 (by repeat (first | exact List.Mem.head _ | refine List.Mem.tail _ ?_ | refine List.mem_append_right _ ?_)) (map_len hpe)) rfl (by decide) ?_
          refine TL.pure (PV.fieldAddr rfl Tb.fo_24_1) rfl (by decide) ?_
          refine TL.pure (PV.load rfl Tb.one_22 (by repeat (first | exact List.Mem.head _ | refine List.Mem.tail _ ?_ | refine List.mem_append_right _ ?_)) rfl) rfl (by decide) ?_
          refine TL.pure (PV.len rfl Tb.sl_22) rfl (by decide) ?_
          refine TL.pure (PV.move rfl) rfl (by decide) ?_
          refine TL.pure (PV.move rfl) rfl (by decide) ?_
          refine TL.call rfl Tb.gofn_81 (fun a w hs => (by rw [hsL]; exact firstplan_ok _ _ 80 82 [] [.pointer (some ⟨b0, 0, none⟩)] [] [] encO (InvO n ss) (nxO ss) (fun _ => true) ss.length hsl (fun s h i s' hi hs9 => h.next hi hs9) (fun s h => enc_len h) L hL8 w ⟨rfl, Tb.gofn_80, fun w2 G2 hn2 s i hs2 hi => orderF_ok w2 n p cp ss (hr.new (hs.new.trans hn2)) s hs2 i hi ⟨b0, 0, none⟩ ((hs.new.trans hn2).cell (by repeat (first | exact List.Mem.head _ | refine List.Mem.tail _ ?_ | refine List.mem_append_right _ ?_)) rfl) ((hs.new.trans hn2).cell (by repeat (first | exact List.Mem.head _ | refine List.Mem.tail _ ?_ | refine List.mem_append_right _ ?_)) rfl)⟩ ⟨rfl, Tb.gofn_82, fun w2 G2 hn2 s _ => orderE_ok w2 _⟩ (xs, cs) ⟨hV, by show cs.length = ss.length; omega, hcb⟩)) rfl (by decide) (fun h9 hh9 => ?_)
          refine TL.pure (PV.move rfl) rfl (by decide) ?_
          refine TL.pure (PV.extract rfl rfl) rfl (by decide) ?_
          refine TL.pure (PV.extract rfl rfl) rfl (by decide) ?_
          refine TL.pure (PV.assign rfl) rfl (by decide) ?_
          refine TL.pure (PV.assign rfl) rfl (by decide) ?_
          refine TL.nil ?_
          refine TQ.thenC ?_
          refine TC.seq ?_
          refine TC.region ?_
          refine TL.pure (PV.move rfl) rfl (by decide) ?_
          refine TL.pure (PV.move rfl) rfl (by decide) ?_
          refine TL.pure (PV.assign rfl) rfl (by decide) ?_
          refine TL.pure (PV.assign rfl) rfl (by decide) ?_
          refine TL.pure (PV.assign rfl) rfl (by decide) ?_
          refine TL.nil ?_
          refine TQ.thenC ?_
          refine TC.ret ?_
          refine TQ.retE3 rfl rfl rfl rfl ?_
          exact ⟨h9, by rw [e9], by rw [e9]; exact hh9, by rw [e9]; exact List.sublist_append_left _ _⟩

set_option maxRecDepth 100000 in
set_option maxHeartbeats 4000000 in
theorem rorder_step (w0 : World) (n : Int) (p : Option Addr) (cp : Nat) (ss : List St) (hr : StsAt w0 p ss) (hS : SmS ss) (vx : Value) (xs : List Int) (hv : IsI w0 vx xs) (vz : Value) (cs : List Int) (hw : IsI w0 vz cs) (hV : InvO n ss (xs, cs)) (L : Nat) (hL : L ≤ 8) (hsL : smC cs cs.length = L) (ih : ∀ L' : Nat, L = L' + 1 → ∀ w G, New w0 w G → ∀ (vx : Value) (xs : List Int) (hv : IsI w vx xs) (vz : Value) (cs : List Int) (hw : IsI w vz cs), InvO n ss (xs, cs) → smC cs cs.length = L' → Calls Try.prog 83 #[yv n p ss.length cp, vx, vz] w (Post (X := HD) (fun h => .tuple #[gval h (flO ss L' (xs, cs)).1.length, .bool (flO ss L' (xs, cs)).2]) (fun h => goI (h, (flO ss L' (xs, cs)).1)) (fun h => gbI (h, (flO ss L' (xs, cs)).1)) w)) :
    Calls Try.prog 83 #[yv n p ss.length cp, vx, vz] w0 (Post (X := HD) (fun h => .tuple #[gval h (flO ss L (xs, cs)).1.length, .bool (flO ss L (xs, cs)).2]) (fun h => goI (h, (flO ss L (xs, cs)).1)) (fun h => gbI (h, (flO ss L (xs, cs)).1)) w0) := by
  obtain ⟨pl, cl, rfl, hx⟩ := hv
  obtain ⟨pz, cz, rfl, hz⟩ := hw
  have hcl : cs.length = ss.length := hV.len
  have hcb := hV.bd
  have hsl := hV.vm.toVY.len
  simp only at hcb
  refine calls Try.func83 rfl (n := 71) rfl (by simp) ?_
  refine TC.seq ?_
  refine TC.region ?_
  refine TL.box rfl rfl (by decide) (fun b0 hb0 => ?_)
  refine TL.pure (PV.assign rfl) rfl (by decide) ?_
  refine TL.pure (PV.assign rfl) rfl (by decide) ?_
  refine TL.nil ?_
  refine TQ.thenC ?_
  refine TC.seq ?_
  refine TC.region ?_
  refine TL.pure (PV.assign rfl) rfl (by decide) ?_
  refine TL.nil ?_
  refine TQ.thenC ?_
  refine TC.seq ?_
  refine TC.seq ?_
  refine TC.region ?_
  refine TL.pure (PV.assign rfl) rfl (by decide) ?_
  refine TL.nil ?_
  refine TQ.thenC ?_
  refine TC.block ?_
  refine TC.lit [(1, _), (2, _), (3, _), (6, _), (7, _), (8, _), (9, _)] (by repeat (first | exact True.intro | refine And.intro rfl ?_)) ?_
  refine TC.loopK [1, 2, 3, 6, 7] (X := Nat) (fun k => k ≤ cs.length) (fun k => [(9, .int .i64 k), (8, .int .i64 (smC cs k))]) (fun k => [(b0, Obj.cells #[.int .i64 n, .slice p ss.length cp] 24 (0, 0))]) (fun k => cs.length - k) 0 (Nat.zero_le _) (by repeat (first | exact True.intro | refine And.intro rfl ?_)) (by repeat (first | exact List.Sublist.slnil | exact List.nil_sublist _ | exact List.Sublist.refl _ | refine List.Sublist.cons_cons _ ?_ | refine List.Sublist.cons _ ?_ | refine List.Sublist.trans ?_ (List.sublist_append_right _ _))) ?_
  intro k hk
  refine TC.lit [(1, _), (2, _), (3, _), (6, _), (7, _), (8, _), (9, _)] (by repeat (first | exact True.intro | refine And.intro rfl ?_)) ?_
  refine TC.seq ?_
  refine TC.seq ?_
  refine TC.region ?_
  refine TL.pure (PV.move rfl) rfl (by decide) ?_
  refine TL.pure (PV.move rfl) rfl (by decide) ?_
  refine TL.pure (PV.len rfl Tb.sl_25) rfl (by decide) ?_
  refine TL.pure (PV.lss rfl rfl) rfl (by decide) ?_
  refine TL.nil ?_
  refine TQ.thenC ?_
  first | refine TC.condD rfl (fun hlt => ?_) (fun hlt => ?_) | refine TC.cond rfl (fun hlt => ?_) (fun hlt => ?_)
  · skip
    refine TC.skip ?_
    refine TQ.thenC ?_
    refine TC.seq ?_
    refine TC.block ?_
    obtain ⟨q2, hq2p, hq2⟩ := hz k (by omega)
    have hsb := smC_bd hcb (k := k) (by omega)
    have hcbk := hcb k
    refine TC.region ?_
    refine TL.pure (PV.move rfl) rfl (by decide) ?_
    refine TL.pure (PV.move rfl) rfl (by decide) ?_
    refine TL.pure (PV.move rfl) rfl (by decide) ?_
    refine TL.pure (PV.indexA rfl hq2p rfl Tb.elm_25 rfl (by omega)) rfl (by decide) ?_
    refine TL.pure (PV.loadOld rfl Tb.one_3 hq2) rfl (by decide) ?_
    refine TL.pure (PV.add rfl rfl (by omega)) rfl (by decide) ?_
    refine TL.pure (PV.assign rfl) rfl (by decide) ?_
    refine TL.nil ?_
    refine TQ.blkN ?_
    refine TQ.thenC ?_
    refine TC.region ?_
    refine TL.pure (PV.move rfl) rfl (by decide) ?_
    refine TL.pure (PV.add rfl rfl (by omega)) rfl (by decide) ?_
    refine TL.pure (PV.assign rfl) rfl (by decide) ?_
    refine TL.nil ?_
    refine TQ.thenN ?_
    refine TQ.backK (k + 1) (by repeat (first | exact True.intro | refine And.intro rfl ?_)) (by repeat (first | exact True.intro | refine And.intro rfl ?_)) (by repeat (first | exact List.Sublist.slnil | exact List.nil_sublist _ | exact List.Sublist.refl _ | refine List.Sublist.cons_cons _ ?_ | refine List.Sublist.cons _ ?_ | refine List.Sublist.trans ?_ (List.sublist_append_right _ _))) (by omega) (by omega)
  · skip
    refine TC.exit ?_
    refine TQ.thenE ?_
    refine TQ.thenE ?_
    refine TQ.blkS ?_
    refine TQ.thenC ?_
    refine TC.seq ?_
    refine TC.seq ?_
    have hke : k = cs.length := by omega
    rw [hke, hsL]
    refine TC.region ?_
    refine TL.pure (PV.move rfl) rfl (by decide) ?_
    refine TL.pure (PV.eql rfl rfl) rfl (by decide) ?_
    refine TL.nil ?_
    refine TQ.thenC ?_
    first | refine TC.condD rfl (fun a1 => ?_) (fun a1 => ?_) | refine TC.cond rfl (fun a1 => ?_) (fun a1 => ?_)
    · skip
      refine TC.seq ?_
      refine TC.region ?_
      refine TL.pure (PV.assign rfl) rfl (by decide) ?_
      refine TL.pure (PV.assign rfl) rfl (by decide) ?_
      refine TL.nil ?_
      refine TQ.thenC ?_
      refine TC.ret ?_
      refine TQ.thenR ?_
      refine TQ.retE2 rfl rfl rfl ?_
      obtain rfl : L = 0 := by omega
      exact ⟨none, rfl, goI_nil, List.nil_sublist _⟩
    · skip
      refine TC.skip ?_
      refine TQ.thenC ?_
      refine TC.seq ?_
      refine TC.seq ?_
      refine TC.region ?_
      refine TL.pure (PV.assign rfl) rfl (by decide) ?_
      refine TL.nil ?_
      refine TQ.thenC ?_
      refine TC.block ?_
      -- live and written in the loop, not told: [6, 7]
      refine TC.lit [(1, _), (2, _), (3, _), (10, _)] (by repeat (first | exact True.intro | refine And.intro rfl ?_)) ?_
      obtain ⟨M, rfl⟩ : ∃ M, L = M + 1 := ⟨L - 1, by omega⟩
      refine TC.loopK [1, 2, 3] (X := Nat) (fun k => k ≤ ss.length ∧ flO ss (M + 1) (xs, cs) = flG (nxO ss) (flO ss M) (xs, cs) (ss.length - k) k) (fun k => [(10, .int .i64 k)]) (fun k => [(b0, Obj.cells #[.int .i64 n, .slice p ss.length cp] 24 (0, 0))]) (fun k => ss.length - k) 0 ⟨Nat.zero_le _, rfl⟩ (by repeat (first | exact True.intro | refine And.intro rfl ?_)) (by repeat (first | exact List.Sublist.slnil | exact List.nil_sublist _ | exact List.Sublist.refl _ | refine List.Sublist.cons_cons _ ?_ | refine List.Sublist.cons _ ?_ | refine List.Sublist.trans ?_ (List.sublist_append_right _ _))) ?_
      intro k hk
      refine TC.lit [(1, _), (2, _), (3, _), (10, _)] (by repeat (first | exact True.intro | refine And.intro rfl ?_)) ?_
      refine TC.seq ?_
      refine TC.seq ?_
      refine TC.region ?_
      refine TL.pure (PV.move rfl) rfl (by decide) ?_
      refine TL.pure (PV.move rfl) rfl (by decide) ?_
      refine TL.pure (PV.len rfl Tb.sl_25) rfl (by decide) ?_
      refine TL.pure (PV.lss rfl rfl) rfl (by decide) ?_
      refine TL.nil ?_
      refine TQ.thenC ?_
      first | refine TC.condD rfl (fun hlt2 => ?_) (fun hlt2 => ?_) | refine TC.cond rfl (fun hlt2 => ?_) (fun hlt2 => ?_)
      · skip
        refine TC.skip ?_
        refine TQ.thenC ?_
        refine TC.seq ?_
        refine TC.block ?_
        refine TC.seq ?_
        refine TC.seq ?_
        obtain ⟨q2, hq2p, hq2⟩ := hz k (by omega)
        have hcbk := hcb k
        refine TC.region ?_
        refine TL.pure (PV.move rfl) rfl (by decide) ?_
        refine TL.pure (PV.move rfl) rfl (by decide) ?_
        refine TL.pure (PV.indexA rfl hq2p rfl Tb.elm_25 rfl (by omega)) rfl (by decide) ?_
        refine TL.pure (PV.loadOld rfl Tb.one_3 hq2) rfl (by decide) ?_
        refine TL.pure (PV.eql rfl rfl) rfl (by decide) ?_
        refine TL.nil ?_
        refine TQ.thenC ?_
        first | refine TC.condD rfl (fun a2 => ?_) (fun a2 => ?_) | refine TC.cond rfl (fun a2 => ?_) (fun a2 => ?_)
        · skip
          have hnn : nxO ss (xs, cs) k = none := if_neg (fun h => by have := h.2; simp only at this; omega)
          have hfl : flG (nxO ss) (flO ss M) (xs, cs) (ss.length - k) k = flG (nxO ss) (flO ss M) (xs, cs) (ss.length - (k + 1)) (k + 1) := flG_none (by omega) hnn
          refine TC.exit ?_
          refine TQ.thenE ?_
          refine TQ.blkS ?_
          refine TQ.thenC ?_
          refine TC.region ?_
          refine TL.pure (PV.move rfl) rfl (by decide) ?_
          refine TL.pure (PV.add rfl rfl (by omega)) rfl (by decide) ?_
          refine TL.pure (PV.assign rfl) rfl (by decide) ?_
          refine TL.nil ?_
          refine TQ.thenN ?_
          refine TQ.backK (k + 1) (by repeat (first | exact True.intro | refine And.intro rfl ?_)) (by repeat (first | exact True.intro | refine And.intro rfl ?_)) (by repeat (first | exact List.Sublist.slnil | exact List.nil_sublist _ | exact List.Sublist.refl _ | refine List.Sublist.cons_cons _ ?_ | refine List.Sublist.cons _ ?_ | refine List.Sublist.trans ?_ (List.sublist_append_right _ _))) ⟨by omega, by rw [hk.2, hfl]⟩ (by omega)
        · skip
          refine TC.skip ?_
          refine TQ.thenC ?_
          refine TC.seq ?_
          refine TC.region ?_
          refine TL.pure (PV.loadBox rfl Tb.agg_24 (by repeat (first | exact List.Mem.head _ | refine List.Mem.tail _ ?_ | refine List.mem_append_right _ ?_)) rfl) rfl (by decide) ?_
          refine TL.pure (PV.move rfl) rfl (by decide) ?_
          refine TL.pure (PV.move rfl) rfl (by decide) ?_
          refine TL.call rfl Tb.gofn_69 (fun a w hs => rdo_ok w _ _ _ _ (hr.new hs.new) _ _ (IsI.of (hx.new hs.new)) hV.vm k (by omega)) rfl (by decide) (fun h8 hh8 => ?_)
          refine TL.pure (PV.move rfl) rfl (by decide) ?_
          refine TL.pure (PV.extract rfl rfl) rfl (by decide) ?_
          refine TL.pure (PV.extract rfl rfl) rfl (by decide) ?_
          refine TL.pure (PV.assign rfl) rfl (by decide) ?_
          refine TL.pure (PV.assign rfl) rfl (by decide) ?_
          refine TL.nil ?_
          refine TQ.thenC ?_
          refine TC.seq ?_
          refine TC.seq ?_
          refine TC.region ?_
          refine TL.pure (PV.move rfl) rfl (by decide) ?_
          refine TL.pure (PV.neq rfl rfl) rfl (by decide) ?_
          refine TL.nil ?_
          refine TQ.thenC ?_
          first | refine TC.condD rfl (fun a3 => ?_) (fun a3 => ?_) | refine TC.cond rfl (fun a3 => ?_) (fun a3 => ?_)
          · skip
            have hnn : nxO ss (xs, cs) k = none := if_neg (fun h => a3 h.1)
            have hfl : flG (nxO ss) (flO ss M) (xs, cs) (ss.length - k) k = flG (nxO ss) (flO ss M) (xs, cs) (ss.length - (k + 1)) (k + 1) := flG_none (by omega) hnn
            refine TC.exit ?_
            refine TQ.thenE ?_
            refine TQ.blkS ?_
            refine TQ.thenC ?_
            refine TC.region ?_
            refine TL.pure (PV.move rfl) rfl (by decide) ?_
            refine TL.pure (PV.add rfl rfl (by omega)) rfl (by decide) ?_
            refine TL.pure (PV.assign rfl) rfl (by decide) ?_
            refine TL.nil ?_
            refine TQ.thenN ?_
            refine TQ.backK (k + 1) (by repeat (first | exact True.intro | refine And.intro rfl ?_)) (by repeat (first | exact True.intro | refine And.intro rfl ?_)) (by repeat (first | exact List.Sublist.slnil | exact List.nil_sublist _ | exact List.Sublist.refl _ | refine List.Sublist.cons_cons _ ?_ | refine List.Sublist.cons _ ?_ | refine List.Sublist.trans ?_ (List.sublist_append_right _ _))) ⟨by omega, by rw [hk.2, hfl]⟩ (by omega)
          · skip
            have a3 := Decidable.of_not_not a3
            have hsm : nxO ss (xs, cs) k = some (doN xs (ss.getD k default), cs.set k (cs.getD k 0 - 1)) := if_pos ⟨a3, by simp only; omega⟩
            have hI2 := hV.next (by omega) hsm
            rw [doL_0 a3] at hh8
            rw [doL_0 a3]
            have hst := smC_set (cs := cs) (i := k) (by omega)
            have hlm : (flO ss M (doN xs (ss.getD k default), cs.set k (cs.getD k 0 - 1))).1.length ≤ M := fl_len M _
            refine TC.skip ?_
            refine TQ.thenC ?_
            refine TC.seq ?_
            refine TC.region ?_
            refine TL.buildSlice0 Tb.sl_25 Tb.zi_3 rfl (by decide) (fun bA hbA => ?_)
            refine TL.pure (PV.move rfl) rfl (by decide) ?_
            refine TL.append0 (m := cs.length) (news := ival cs) rfl rfl Tb.sl_25 Tb.zi_3 rfl (Take.head _) (fun w' hN => ints_src Tb.sl_25 rfl (hz.new hN)) (by omega) (by omega) rfl (by decide) (fun h7 hh7 => ?_)
            refine TL.pure (PV.assign rfl) rfl (by decide) ?_
            refine TL.nil ?_
            refine TQ.thenC ?_
            refine TC.seq ?_
            have hok7 : goI (h7, cs.set k (cs.getD k 0 - 1)) := go_lenI hh7 (by rw [List.length_set])
            refine TC.region ?_
            refine TL.pure (PV.move rfl) rfl (by decide) ?_
            refine TL.pure (PV.move rfl) rfl (by decide) ?_
            refine TL.pure (PV.indexG (j := k) rfl rfl hh7 Tb.elm_25 rfl (by omega)) rfl (by decide) ?_
            refine TL.pure (PV.loadGI (y := (h7, cs)) (j := k) (v := cs.getD k 0) rfl Tb.one_3 (fun yy hyy => by repeat (first | exact List.mem_append_left _ hyy | exact List.mem_append_left _ (List.mem_append_right _ hyy) | exact List.mem_append_left _ (List.mem_append_left _ hyy) | refine List.mem_append_right _ ?_ | refine List.Mem.tail _ ?_)) hh7 (by show k < cs.length; omega) rfl) rfl (by decide) ?_
            refine TL.pure (PV.sub rfl rfl (by omega)) rfl (by decide) ?_
            refine TL.pure (PV.indexG (j := k) rfl rfl hh7 Tb.elm_25 rfl (by omega)) rfl (by decide) ?_
            refine TL.putI (h := h7) (xs := cs) (xs' := cs.set k (cs.getD k 0 - 1)) (j := k) rfl rfl Tb.cells_3 hh7 rfl (by repeat (first | exact PutH.here _ _ _ _ | apply PutH.tail | apply PutH.app)) (by omega) rfl rfl ?_
            refine TL.nil ?_
            refine TQ.thenC ?_
            refine TC.seq ?_
            refine TC.region ?_
            refine TL.pure (PV.loadBox rfl Tb.agg_24 (by repeat (first | exact List.Mem.head _ | refine List.Mem.tail _ ?_ | refine List.mem_append_right _ ?_)) rfl) rfl (by decide) ?_
            refine TL.pure (PV.move rfl) rfl (by decide) ?_
            refine TL.pure (PV.move rfl) rfl (by decide) ?_
            refine TL.call rfl Tb.gofn_83 (fun a w hs => ih M rfl w _ hs.new _ (doN xs (ss.getD k default)) (IsI.g (h := h8) hs.new (fun yy hyy => by repeat (first | exact List.mem_append_left _ hyy | exact List.mem_append_left _ (List.mem_append_right _ hyy) | exact List.mem_append_left _ (List.mem_append_left _ hyy) | refine List.mem_append_right _ ?_ | refine List.Mem.tail _ ?_)) hh8) _ (cs.set k (cs.getD k 0 - 1)) (IsI.gl (by rw [List.length_set]) hs.new (fun yy hyy => by repeat (first | exact List.mem_append_left _ hyy | exact List.mem_append_left _ (List.mem_append_right _ hyy) | exact List.mem_append_left _ (List.mem_append_left _ hyy) | refine List.mem_append_right _ ?_ | refine List.Mem.tail _ ?_)) hok7) hI2 (by rw [hst, hsL]; omega)) rfl (by decide) (fun h9 hh9 => ?_)
            refine TL.pure (PV.move rfl) rfl (by decide) ?_
            refine TL.pure (PV.extract rfl rfl) rfl (by decide) ?_
            refine TL.pure (PV.extract rfl rfl) rfl (by decide) ?_
            refine TL.pure (PV.assign rfl) rfl (by decide) ?_
            refine TL.pure (PV.assign rfl) rfl (by decide) ?_
            refine TL.nil ?_
            refine TQ.thenC ?_
            refine TC.seq ?_
            refine TC.region ?_
            refine TL.pure (PV.move rfl) rfl (by decide) ?_
            refine TL.nil ?_
            refine TQ.thenC ?_
            first | refine TC.condD rfl (fun hok => ?_) (fun hok => ?_) | refine TC.cond rfl (fun hok => ?_) (fun hok => ?_)
            · skip
              refine TC.seq ?_
              refine TC.region ?_
              refine TL.pure (PV.move rfl) rfl (by decide) ?_
              refine TL.buildSlice (cs := #[.int .i64 k]) rfl Tb.sl_25 Tb.zi_3 (by decide) (fill_i _) (by decide) rfl (by decide) (fun bE hbE => ?_)
              refine TL.pure (PV.move rfl) rfl (by decide) ?_
              refine TL.cons1 (bE := bE) (v := k) (h := h9) (rest := (flO ss M (doN xs (ss.getD k default), cs.set k (cs.getD k 0 - 1))).1) rfl rfl (by repeat (first | exact Take.head _ | apply Take.tail | apply Take.appR)) (fun yy hyy => by repeat (first | exact List.mem_append_left _ hyy | exact List.mem_append_left _ (List.mem_append_right _ hyy) | exact List.mem_append_left _ (List.mem_append_left _ hyy) | refine List.mem_append_right _ ?_ | refine List.Mem.tail _ ?_)) hh9 (by omega) rfl (by decide) (fun hh hho => ?_)
              refine TL.pure (PV.assign rfl) rfl (by decide) ?_
              refine TL.pure (PV.assign rfl) rfl (by decide) ?_
              refine TL.nil ?_
              refine TQ.thenC ?_
              refine TC.ret ?_
              refine TQ.blkR ?_
              refine TQ.thenR ?_
              refine TQ.thenR ?_
              refine TQ.blkR ?_
              refine TQ.thenR ?_
              refine TQ.retE2 rfl rfl rfl ?_
              have e9 : flO ss (M + 1) (xs, cs) = ((k : Int) :: (flO ss M (doN xs (ss.getD k default), cs.set k (cs.getD k 0 - 1))).1, true) := hk.2.trans (flG_yes (by omega) hsm hok)
              exact ⟨hh, by rw [e9], by rw [e9]; exact hho, by rw [e9]; exact List.sublist_append_left _ _⟩
            · skip
              have hfl : flG (nxO ss) (flO ss M) (xs, cs) (ss.length - k) k = flG (nxO ss) (flO ss M) (xs, cs) (ss.length - (k + 1)) (k + 1) := flG_no (by omega) hsm (by simpa using hok)
              refine TC.skip ?_
              refine TQ.blkN ?_
              refine TQ.thenC ?_
              refine TC.region ?_
              refine TL.pure (PV.move rfl) rfl (by decide) ?_
              refine TL.pure (PV.add rfl rfl (by omega)) rfl (by decide) ?_
              refine TL.pure (PV.assign rfl) rfl (by decide) ?_
              refine TL.nil ?_
              refine TQ.thenN ?_
              refine TQ.backK (k + 1) (by repeat (first | exact True.intro | refine And.intro rfl ?_)) (by repeat (first | exact True.intro | refine And.intro rfl ?_)) (by repeat (first | exact List.Sublist.slnil | exact List.nil_sublist _ | exact List.Sublist.refl _ | refine List.Sublist.cons_cons _ ?_ | refine List.Sublist.cons _ ?_ | refine List.Sublist.trans ?_ (List.sublist_append_right _ _))) ⟨by omega, by rw [hk.2, hfl]⟩ (by omega)
      · skip
        refine TC.exit ?_
        refine TQ.thenE ?_
        refine TQ.thenE ?_
        refine TQ.blkS ?_
        refine TQ.thenC ?_
        refine TC.seq ?_
        refine TC.region ?_
        refine TL.pure (PV.assign rfl) rfl (by decide) ?_
        refine TL.pure (PV.assign rfl) rfl (by decide) ?_
        refine TL.nil ?_
        refine TQ.thenC ?_
        refine TC.ret ?_
        refine TQ.retE2 rfl rfl rfl ?_
        have e9 : flO ss (M + 1) (xs, cs) = ([], false) := hk.2.trans (flG_end (by omega))
        exact ⟨none, by rw [e9]; rfl, by rw [e9]; exact goI_nil, List.nil_sublist _⟩

theorem rorder_ok (n : Int) (p : Option Addr) (cp : Nat) (ss : List St) (hS : SmS ss) : ∀ (L : Nat), L ≤ 8 → ∀ (w0 : World), StsAt w0 p ss → ∀ (vx : Value) (xs : List Int) (hv : IsI w0 vx xs) (vz : Value) (cs : List Int) (hw : IsI w0 vz cs), InvO n ss (xs, cs) → smC cs cs.length = L →
    Calls Try.prog 83 #[yv n p ss.length cp, vx, vz] w0 (Post (X := HD) (fun h => .tuple #[gval h (flO ss L (xs, cs)).1.length, .bool (flO ss L (xs, cs)).2]) (fun h => goI (h, (flO ss L (xs, cs)).1)) (fun h => gbI (h, (flO ss L (xs, cs)).1)) w0)
  | 0, hL, w0, hr, vx, xs, hv, vz, cs, hw, hV, hsL => rorder_step w0 n p cp ss hr hS vx xs hv vz cs hw hV 0 hL hsL (fun L' h => by omega)
  | L + 1, hL, w0, hr, vx, xs, hv, vz, cs, hw, hV, hsL => rorder_step w0 n p cp ss hr hS vx xs hv vz cs hw hV (L + 1) hL hsL (fun L' h w G hn vx xs hv vz cs hw hV hsL => by
      obtain rfl : L = L' := by omega
      exact rorder_ok n p cp ss hS L (by omega) w (hr.new hn) vx xs hv vz cs hw hV hsL)

set_option maxRecDepth 100000 in
set_option maxHeartbeats 2000000 in
theorem rOrder_ok (w0 : World) (n : Int) (p : Option Addr) (cp : Nat) (ss : List St) (hr : StsAt w0 p ss) (hS : SmS ss) (vx : Value) (xs : List Int) (hv : IsI w0 vx xs) (hl : xs.length ≤ 1000000) (vz : Value) (cs : List Int) (hw : IsI w0 vz cs) (hcl : cs.length ≤ 1000000) :
    Calls Try.prog 36 #[yv n p ss.length cp, vx, vz] w0 (Post (X := HD) (fun h => .tuple #[gval h (ordR n ss xs cs).1.length, .bool (ordR n ss xs cs).2.1, .int .i64 (ordR n ss xs cs).2.2]) (fun h => goI (h, (ordR n ss xs cs).1)) (fun h => gbI (h, (ordR n ss xs cs).1)) w0) := by
  obtain ⟨pl, cl, rfl, hx⟩ := hv
  obtain ⟨pz, cz, rfl, hz⟩ := hw
  refine calls Try.func36 rfl (n := 49) rfl (by simp) ?_
  refine TC.seq ?_
  refine TC.region ?_
  refine TL.box rfl rfl (by decide) (fun b0 hb0 => ?_)
  refine TL.pure (PV.assign rfl) rfl (by decide) ?_
  refine TL.pure (PV.assign rfl) rfl (by decide) ?_
  refine TL.pure (PV.assign rfl) rfl (by decide) ?_
  refine TL.nil ?_
  refine TQ.thenC ?_
  refine TC.seq ?_
  refine TC.seq ?_
  refine TC.region ?_
  refine TL.pure (PV.loadBox rfl Tb.agg_24 (by repeat (first | exact List.Mem.head _ | refine List.Mem.tail _ ?_ | refine List.mem_append_right _ ?_)) rfl) rfl (by decide) ?_
  refine TL.pure (PV.move rfl) rfl (by decide) ?_
  refine TL.call rfl Tb.gofn_75 (fun a w hs => rfilled_ok w _ _ _ _ (hr.new hs.new) hS _ _ _ (hx.new hs.new) hl) rfl (by decide) (fun _ _ => ?_)
  refine TL.pure (PV.assign rfl) rfl (by decide) ?_
  refine TL.nil ?_
  refine TQ.thenC ?_
  refine TC.seq ?_
  refine TC.region ?_
  refine TL.pure (PV.move rfl) rfl (by decide) ?_
  refine TL.pure (PV.neq rfl rfl) rfl (by decide) ?_
  refine TL.nil ?_
  refine TQ.thenC ?_
  first | refine TC.condD rfl (fun a1 => ?_) (fun a1 => ?_) | refine TC.cond rfl (fun a1 => ?_) (fun a1 => ?_)
  · skip
    refine TC.seq ?_
    refine TC.region ?_
    refine TL.pure (PV.move rfl) rfl (by decide) ?_
    refine TL.pure (PV.assign rfl) rfl (by decide) ?_
    refine TL.pure (PV.assign rfl) rfl (by decide) ?_
    refine TL.pure (PV.assign rfl) rfl (by decide) ?_
    refine TL.nil ?_
    refine TQ.thenC ?_
    refine TC.ret ?_
    refine TQ.thenR ?_
    refine TQ.retE3 rfl rfl rfl rfl ?_
    exact ⟨none, by rw [ord_1 a1]; rfl, by rw [ord_1 a1]; exact goI_nil, List.nil_sublist _⟩
  · skip
    refine TC.skip ?_
    refine TQ.thenC ?_
    refine TC.seq ?_
    refine TC.seq ?_
    refine TC.region ?_
    refine TL.pure (PV.move rfl) rfl (by decide) ?_
    refine TL.pure (PV.fieldAddr rfl Tb.fo_24_1) rfl (by decide) ?_
    refine TL.pure (PV.load rfl Tb.one_22 (by repeat (first | exact List.Mem.head _ | refine List.Mem.tail _ ?_ | refine List.mem_append_right _ ?_)) rfl) rfl (by decide) ?_
    refine TL.pure (PV.len rfl Tb.sl_22) rfl (by decide) ?_
    refine TL.call rfl Tb.gofn_72 (fun a w hs => rall_ok w _ _ _ (hz.new hs.new) hcl _ _ _) rfl (by decide) (fun _ _ => ?_)
    refine TL.pure ((by first | exact PV.notD rfl | exact PV.not rfl)) rfl (by decide) ?_
    refine TL.nil ?_
    refine TQ.thenC ?_
    first | refine TC.condD rfl (fun a2 => ?_) (fun a2 => ?_) | refine TC.cond rfl (fun a2 => ?_) (fun a2 => ?_)
    · skip
      refine TC.seq ?_
      refine TC.region ?_
      refine TL.pure (PV.assign rfl) rfl (by decide) ?_
      refine TL.pure (PV.assign rfl) rfl (by decide) ?_
      refine TL.pure (PV.assign rfl) rfl (by decide) ?_
      refine TL.nil ?_
      refine TQ.thenC ?_
      refine TC.ret ?_
      refine TQ.thenR ?_
      refine TQ.retE3 rfl rfl rfl rfl ?_
      exact ⟨none, by rw [ord_2 a1 (by simpa using a2)]; rfl, by rw [ord_2 a1 (by simpa using a2)]; exact goI_nil, List.nil_sublist _⟩
    · skip
      refine TC.skip ?_
      refine TQ.thenC ?_
      refine TC.seq ?_
      have hV := vm_of a1
      have hnu : numB ss.length 0 40 cs = true := by simpa using a2
      have hxl := num_len hnu
      have hcb := num_at hnu (by decide)
      have hsl := hV.len
      refine TC.region ?_
      refine TL.pure (PV.assign rfl) rfl (by decide) ?_
      refine TL.nil ?_
      refine TQ.thenC ?_
      refine TC.seq ?_
      refine TC.seq ?_
      refine TC.region ?_
      refine TL.pure (PV.assign rfl) rfl (by decide) ?_
      refine TL.nil ?_
      refine TQ.thenC ?_
      refine TC.block ?_
      refine TC.lit [(1, _), (2, _), (3, _), (6, _), (7, _), (8, _), (10, _), (11, _)] (by repeat (first | exact True.intro | refine And.intro rfl ?_)) ?_
      refine TC.loopG [1, 2, 3, 6, 7, 8] (X := Nat) (fun k => k ≤ cs.length) (fun k => [(11, .int .i64 k), (10, .int .i64 (smC cs k))]) (fun k => cs.length - k) 0 (Nat.zero_le _) (by repeat (first | exact True.intro | refine And.intro rfl ?_)) ?_
      intro k hk
      refine TC.lit [(1, _), (2, _), (3, _), (6, _), (7, _), (8, _), (10, _), (11, _)] (by repeat (first | exact True.intro | refine And.intro rfl ?_)) ?_
      refine TC.seq ?_
      refine TC.seq ?_
      refine TC.region ?_
      refine TL.pure (PV.move rfl) rfl (by decide) ?_
      refine TL.pure (PV.move rfl) rfl (by decide) ?_
      refine TL.pure (PV.len rfl Tb.sl_25) rfl (by decide) ?_
      refine TL.pure (PV.lss rfl rfl) rfl (by decide) ?_
      refine TL.nil ?_
      refine TQ.thenC ?_
      first | refine TC.condD rfl (fun hlt => ?_) (fun hlt => ?_) | refine TC.cond rfl (fun hlt => ?_) (fun hlt => ?_)
      · skip
        refine TC.skip ?_
        refine TQ.thenC ?_
        refine TC.seq ?_
        refine TC.block ?_
        obtain ⟨q2, hq2p, hq2⟩ := hz k (by omega)
        have hsb := smC_bd hcb (k := k) (by omega)
        have hcbk := hcb k
        refine TC.region ?_
        refine TL.pure (PV.move rfl) rfl (by decide) ?_
        refine TL.pure (PV.move rfl) rfl (by decide) ?_
        refine TL.pure (PV.move rfl) rfl (by decide) ?_
        refine TL.pure (PV.indexA rfl hq2p rfl Tb.elm_25 rfl (by omega)) rfl (by decide) ?_
        refine TL.pure (PV.loadOld rfl Tb.one_3 hq2) rfl (by decide) ?_
        refine TL.pure (PV.add rfl rfl (by omega)) rfl (by decide) ?_
        refine TL.pure (PV.assign rfl) rfl (by decide) ?_
        refine TL.nil ?_
        refine TQ.blkN ?_
        refine TQ.thenC ?_
        refine TC.region ?_
        refine TL.pure (PV.move rfl) rfl (by decide) ?_
        refine TL.pure (PV.add rfl rfl (by omega)) rfl (by decide) ?_
        refine TL.pure (PV.assign rfl) rfl (by decide) ?_
        refine TL.nil ?_
        refine TQ.thenN ?_
        refine TQ.backK (k + 1) (by repeat (first | exact True.intro | refine And.intro rfl ?_)) (by repeat (first | exact True.intro | refine And.intro rfl ?_)) (by repeat (first | exact List.Sublist.slnil | exact List.nil_sublist _ | exact List.Sublist.refl _ | refine List.Sublist.cons_cons _ ?_ | refine List.Sublist.cons _ ?_ | refine List.Sublist.trans ?_ (List.sublist_append_right _ _))) (by omega) (by omega)
      · skip
        refine TC.exit ?_
        refine TQ.thenE ?_
        refine TQ.thenE ?_
        refine TQ.blkS ?_
        refine TQ.thenC ?_
        refine TC.seq ?_
        refine TC.seq ?_
        have hke : k = cs.length := by omega
        rw [hke]
        refine TC.region ?_
        refine TL.pure (PV.move rfl) rfl (by decide) ?_
        refine TL.pure (PV.gtr rfl rfl) rfl (by decide) ?_
        refine TL.nil ?_
        refine TQ.thenC ?_
        first | refine TC.condD rfl (fun a3 => ?_) (fun a3 => ?_) | refine TC.cond rfl (fun a3 => ?_) (fun a3 => ?_)
        · skip
          refine TC.seq ?_
          refine TC.region ?_
          refine TL.pure (PV.assign rfl) rfl (by decide) ?_
          refine TL.pure (PV.assign rfl) rfl (by decide) ?_
          refine TL.pure (PV.assign rfl) rfl (by decide) ?_
          refine TL.nil ?_
          refine TQ.thenC ?_
          refine TC.ret ?_
          refine TQ.thenR ?_
          refine TQ.retE3 rfl rfl rfl rfl ?_
          exact ⟨none, by rw [ord_3 a1 hnu (by omega)]; rfl, by rw [ord_3 a1 hnu (by omega)]; exact goI_nil, List.nil_sublist _⟩
        · skip
          refine TC.skip ?_
          refine TQ.thenC ?_
          refine TC.seq ?_
          obtain ⟨L, hsL⟩ : ∃ L : Nat, smC cs cs.length = L := ⟨(smC cs cs.length).toNat, by have := smC_bd hcb (k := cs.length) (by omega); omega⟩
          have hL8 : L ≤ 8 := by omega
          have e9 := ord_4 a1 hnu hsL hL8
          refine TC.region ?_
          refine TL.pure (PV.loadBox rfl Tb.agg_24 (by repeat (first | exact List.Mem.head _ | refine List.Mem.tail _ ?_ | refine List.mem_append_right _ ?_)) rfl) rfl (by decide) ?_
          refine TL.pure (PV.move rfl) rfl (by decide) ?_
          refine TL.pure (PV.move rfl) rfl (by decide) ?_
          refine TL.call rfl Tb.gofn_83 (fun a w hs => rorder_ok n p cp ss hS L hL8 w (hr.new hs.new) _ _ (IsI.of (hx.new hs.new)) _ _ (IsI.of (hz.new hs.new)) ⟨hV, by show cs.length = ss.length; omega, hcb⟩ hsL) rfl (by decide) (fun h9 hh9 => ?_)
          refine TL.pure (PV.move rfl) rfl (by decide) ?_
          refine TL.pure (PV.extract rfl rfl) rfl (by decide) ?_
          refine TL.pure (PV.extract rfl rfl) rfl (by decide) ?_
          refine TL.pure (PV.assign rfl) rfl (by decide) ?_
          refine TL.pure (PV.assign rfl) rfl (by decide) ?_
          refine TL.nil ?_
          refine TQ.thenC ?_
          refine TC.seq ?_
          refine TC.region ?_
          refine TL.pure (PV.move rfl) rfl (by decide) ?_
          refine TL.pure (PV.move rfl) rfl (by decide) ?_
          refine TL.pure (PV.assign rfl) rfl (by decide) ?_
          refine TL.pure (PV.assign rfl) rfl (by decide) ?_
          refine TL.pure (PV.assign rfl) rfl (by decide) ?_
          refine TL.nil ?_
          refine TQ.thenC ?_
          refine TC.ret ?_
          refine TQ.retE3 rfl rfl rfl rfl ?_
          exact ⟨h9, by rw [e9], by rw [e9]; exact hh9, by rw [e9]; exact List.sublist_append_left _ _⟩

end Go.Proofs.Ytkkipbkkijoneaa
