/- Which lists are flows, and their values: contract. -/
import Derived.Test.YtnlbngbbddhgeaaQFk
set_option linter.unusedVariables false
set_option linter.unusedSimpArgs false
namespace Go.Proofs.Ytnlbngbbddhgeaa
open Go.Sx Go.RowKit

def fit1 (rs : List Bd) (fs : List Int) (k : Nat) : Bool := decide (0 ≤ fs.getD k 0 ∧ fs.getD k 0 ≤ (rs.getD k default).m)
def kp1 (s t : Nat) (l : List Fl.E) (u : Nat) : Bool := decide (u = s ∨ u = t ∨ Fl.out u l = 0)
def cfL (rs : List Bd) (fs : List Int) : List Fl.E := mkL rs fun j => fs.getD j 0
def cfV (n s t : Nat) (rs : List Bd) (fs : List Int) : Int × Int :=
  if fs.length ≠ rs.length then (0, 1) else if (List.range rs.length).all (fit1 rs fs) = true then (if (List.range n).all (kp1 s t (cfL rs fs)) = true then (Fl.out s (cfL rs fs), 0) else (0, 7)) else (0, 6)
theorem all_next {f : Nat → Bool} {k : Nat} (h : (List.range k).all f = true) (h2 : f k = true) : (List.range (k + 1)).all f = true := by
  rw [List.range_succ, List.all_append, h]; simp [h2]
theorem all_get {f : Nat → Bool} {n k : Nat} (h : (List.range n).all f = true) (hk : k < n) : f k = true := List.all_eq_true.1 h k (List.mem_range.2 hk)
theorem cf_len {n s t : Nat} {rs : List Bd} {fs : List Int} (h : fs.length ≠ rs.length) : cfV n s t rs fs = (0, 1) := if_pos h
theorem cf_fit {n s t : Nat} {rs : List Bd} {fs : List Int} (h : fs.length = rs.length) {k : Nat} (hk : k < rs.length) (hf : ¬ (0 ≤ fs.getD k 0 ∧ fs.getD k 0 ≤ (rs.getD k default).m)) : cfV n s t rs fs = (0, 6) := by
  unfold cfV
  rw [if_neg (by omega), if_neg (fun h9 => hf (of_decide_eq_true (all_get h9 hk)))]
theorem cf_kp {n s t : Nat} {rs : List Bd} {fs : List Int} (h : fs.length = rs.length) (hf : (List.range rs.length).all (fit1 rs fs) = true) {u : Nat} (hu : u < n) (hk : ¬ (u = s ∨ u = t ∨ Fl.out u (cfL rs fs) = 0)) : cfV n s t rs fs = (0, 7) := by
  unfold cfV
  rw [if_neg (by omega), if_pos hf, if_neg (fun h9 => hk (of_decide_eq_true (all_get h9 hu)))]
theorem cf_ok {n s t : Nat} {rs : List Bd} {fs : List Int} (h : fs.length = rs.length) (hf : (List.range rs.length).all (fit1 rs fs) = true) (hk : (List.range n).all (kp1 s t (cfL rs fs)) = true) : cfV n s t rs fs = (Fl.out s (cfL rs fs), 0) := by
  unfold cfV
  rw [if_neg (by omega), if_pos hf, if_pos hk]


set_option maxRecDepth 100000 in
set_option maxHeartbeats 1000000 in
theorem CheckFlow_v (w0 : World) (n s t : Nat) (p : Option Addr) (cap : Nat) (rs : List Bd) (hr : BdsAt w0 p rs) (hv : Vd n s t rs) (hd0 : dI n s t rs = 0) (pf : Option Addr) (cf : Nat) (fs : List Int) (hf : IntsAt w0 pf fs) (hl9 : fs.length ≤ 1000000) :
    Calls Try.prog 18 #[dnV n s t p rs.length cap, .slice pf fs.length cf] w0 (Post (X := Unit) (fun _ => .tuple #[.int .i64 (cfV n s t rs fs).1, .int .i64 (cfV n s t rs fs).2]) (fun _ => True) (fun _ => []) w0) := by
  have hlen := hv.len
  have hn8 := hv.n8
  have hs0 := hv.s0
  refine calls Try.func18 rfl (n := 76) rfl (by simp) ?_
  refine TC.seq ?_
  refine TC.region ?_
  refine TL.box rfl rfl (by decide) (fun b0 hb0 => ?_)
  refine TL.pure (PV.assign rfl) rfl (by decide) ?_
  refine TL.pure (PV.assign rfl) rfl (by decide) ?_
  refine TL.nil ?_
  refine TQ.thenC ?_
  refine TC.seq ?_
  refine TC.seq ?_
  refine TC.region ?_
  refine TL.pure (PV.loadBox rfl Tb.agg_24 (by repeat (first | exact List.Mem.head _ | refine List.Mem.tail _ ?_ | refine List.mem_append_right _ ?_)) rfl) rfl (by decide) ?_
  refine TL.call rfl Tb.gofn_20 (fun a w hs => validate_ok w n s t p cap rs (hr.new hs.new)) rfl (by decide) (fun _ _ => ?_)
  refine TL.pure (PV.assign rfl) rfl (by decide) ?_
  refine TL.nil ?_
  refine TQ.thenC ?_
  refine TC.seq ?_
  refine TC.region ?_
  refine TL.pure (PV.move rfl) rfl (by decide) ?_
  refine TL.pure (PV.neq rfl rfl) rfl (by decide) ?_
  refine TL.nil ?_
  refine TQ.thenC ?_
  first | refine TC.condD rfl (fun hv9 => ?_) (fun hv9 => ?_) | refine TC.cond rfl (fun hv9 => ?_) (fun hv9 => ?_)
  · skip
    refine TC.seq ?_
    refine TC.region ?_
    refine TL.pure (PV.move rfl) rfl (by decide) ?_
    refine TL.pure (PV.assign rfl) rfl (by decide) ?_
    refine TL.pure (PV.assign rfl) rfl (by decide) ?_
    refine TL.nil ?_
    refine TQ.thenC ?_
    refine TC.ret ?_
    refine TQ.thenR ?_
    refine TQ.retE2 rfl rfl rfl ?_
    first | exact absurd hd0 hv9 | exact ⟨(), by rw [cf_len (by omega)], trivial, List.nil_sublist _⟩ | exact ⟨(), by rw [cf_fit (k := k) hll (by omega) (by omega)], trivial, List.nil_sublist _⟩ | exact ⟨(), by rw [cf_kp (u := k) hll hfa (by omega) (by omega)], trivial, List.nil_sublist _⟩ | exact ⟨(), by rw [cf_ok hll hfa hka, hog], trivial, List.nil_sublist _⟩
  · skip
    refine TC.skip ?_
    refine TQ.thenC ?_
    refine TC.seq ?_
    refine TC.seq ?_
    refine TC.region ?_
    refine TL.pure (PV.move rfl) rfl (by decide) ?_
    refine TL.pure (PV.len rfl Tb.sl_25) rfl (by decide) ?_
    refine TL.pure (PV.fieldAddr rfl Tb.fo_24_3) rfl (by decide) ?_
    refine TL.pure (PV.load rfl Tb.one_22 (by repeat (first | exact List.Mem.head _ | refine List.Mem.tail _ ?_ | refine List.mem_append_right _ ?_)) rfl) rfl (by decide) ?_
    refine TL.pure (PV.len rfl Tb.sl_22) rfl (by decide) ?_
    refine TL.pure (PV.neq rfl rfl) rfl (by decide) ?_
    refine TL.nil ?_
    refine TQ.thenC ?_
    first | refine TC.condD rfl (fun hne => ?_) (fun hne => ?_) | refine TC.cond rfl (fun hne => ?_) (fun hne => ?_)
    · skip
      refine TC.seq ?_
      refine TC.region ?_
      refine TL.pure (PV.assign rfl) rfl (by decide) ?_
      refine TL.pure (PV.assign rfl) rfl (by decide) ?_
      refine TL.nil ?_
      refine TQ.thenC ?_
      refine TC.ret ?_
      refine TQ.thenR ?_
      refine TQ.retE2 rfl rfl rfl ?_
      first | exact absurd hd0 hv9 | exact ⟨(), by rw [cf_len (by omega)], trivial, List.nil_sublist _⟩ | exact ⟨(), by rw [cf_fit (k := k) hll (by omega) (by omega)], trivial, List.nil_sublist _⟩ | exact ⟨(), by rw [cf_kp (u := k) hll hfa (by omega) (by omega)], trivial, List.nil_sublist _⟩ | exact ⟨(), by rw [cf_ok hll hfa hka, hog], trivial, List.nil_sublist _⟩
    · skip
      have hll : fs.length = rs.length := by omega
      refine TC.skip ?_
      refine TQ.thenC ?_
      refine TC.seq ?_
      refine TC.seq ?_
      refine TC.region ?_
      refine TL.pure (PV.fieldAddr rfl Tb.fo_24_3) rfl (by decide) ?_
      refine TL.pure (PV.load rfl Tb.one_22 (by repeat (first | exact List.Mem.head _ | refine List.Mem.tail _ ?_ | refine List.mem_append_right _ ?_)) rfl) rfl (by decide) ?_
      refine TL.pure (PV.len rfl Tb.sl_22) rfl (by decide) ?_
      refine TL.pure (PV.move rfl) rfl (by decide) ?_
      refine TL.nil ?_
      refine TQ.thenC ?_
      refine TC.block ?_
      -- live and written in the loop, not told: [4, 5]
      refine TC.loopK [1, 2, 24, 25] (X := Nat) (fun k => k ≤ rs.length ∧ (List.range k).all (fit1 rs fs) = true) (fun k => [(26, .int .i64 k)]) (fun k => [(b0, Obj.cells #[.int .i64 (n : Nat), .int .i64 (s : Nat), .int .i64 (t : Nat), .slice p rs.length cap] 24 (0, 0))]) (fun k => rs.length - k) 0 ⟨Nat.zero_le _, rfl⟩ (by repeat (first | exact True.intro | refine And.intro rfl ?_)) (by repeat (first | exact List.Sublist.slnil | exact List.nil_sublist _ | exact List.Sublist.refl _ | refine List.Sublist.cons_cons _ ?_ | refine List.Sublist.cons _ ?_ | refine List.Sublist.trans ?_ (List.sublist_append_right _ _))) ?_
      intro k hk
      refine TC.seq ?_
      refine TC.region ?_
      refine TL.pure (PV.lss rfl rfl) rfl (by decide) ?_
      refine TL.nil ?_
      refine TQ.thenC ?_
      refine TC.seq ?_
      first | refine TC.condD rfl (fun hlt => ?_) (fun hlt => ?_) | refine TC.cond rfl (fun hlt => ?_) (fun hlt => ?_)
      · skip
        refine TC.skip ?_
        refine TQ.thenC ?_
        refine TC.seq ?_
        refine TC.block ?_
        refine TC.seq ?_
        obtain ⟨q, hqp, hq⟩ := hr k (by omega)
        obtain ⟨qf, hfp, hfq⟩ := hf k (by omega)
        refine TC.region ?_
        refine TL.pure (PV.move rfl) rfl (by decide) ?_
        refine TL.pure (PV.indexA rfl hqp rfl Tb.elm_22 rfl (by omega)) rfl (by decide) ?_
        refine TL.pure (PV.loadAggA rfl Tb.agg_40 rfl hq) rfl (by decide) ?_
        refine TL.alloc Tb.zero_40 rfl (by decide) (fun b1 hb1 => ?_)
        refine TL.pure (PV.assign rfl) rfl (by decide) ?_
        refine TL.storeAgg rfl rfl Tb.cells_40 (by repeat (first | exact Upd.head _ | apply Upd.tail | apply Upd.appR)) rfl rfl rfl rfl rfl ?_
        refine TL.nil ?_
        refine TQ.thenC ?_
        refine TC.seq ?_
        refine TC.mixV [true, true, true, true, true, true, true, true, true, true, true, true, true, true] [(b1, Obj.cells #[.int .i64 (rs.getD k default).a, .int .i64 (rs.getD k default).b, .int .i64 (rs.getD k default).m] 40 (0, 0)), (b0, Obj.cells #[.int .i64 (n : Nat), .int .i64 (s : Nat), .int .i64 (t : Nat), .slice p rs.length cap] 24 (0, 0))] 14 Tb.mixed rfl (by kernel_rfl) (by kernel_rfl) (by kernel_rfl) (by kernel_rfl) (by repeat (first | exact List.Sublist.slnil | exact List.nil_sublist _ | exact List.Sublist.refl _ | refine List.Sublist.cons_cons _ ?_ | refine List.Sublist.cons _ ?_ | refine List.Sublist.trans ?_ (List.sublist_append_right _ _))) ?_
        refine TV.virt 0 rfl rfl (by decide) rfl (by kernel_rfl) (SOK.pure (PV.move rfl) rfl) ?_
        refine TV.virt 1 rfl rfl (by decide) rfl (by kernel_rfl) (SOK.pure (PV.move rfl) rfl) ?_
        refine TV.virt 2 rfl rfl (by decide) rfl (by kernel_rfl) (SOK.pure (PV.indexA rfl hfp rfl Tb.elm_25 rfl (by omega)) rfl) ?_
        refine TV.virt 3 rfl rfl (by decide) rfl (by kernel_rfl) (SOK.pure (PV.loadOld rfl Tb.one_3 hfq) rfl) ?_
        refine TV.virt 4 rfl rfl (by decide) rfl (by kernel_rfl) (SOK.pure (PV.lss rfl rfl) rfl) ?_
        refine TV.virt 5 rfl rfl (by decide) rfl (by kernel_rfl) (SOK.pure (PV.move rfl) rfl) ?_
        first | refine TV.splitD 36 rfl (fun e1 => ?_) (fun e1 => ?_) | refine TV.split 36 rfl (fun e1 => ?_) (fun e1 => ?_)
        · skip
          refine TV.virt 6 rfl rfl (by decide) rfl (by kernel_rfl) (SOK.skip rfl) ?_
          refine TV.virt 7 rfl rfl (by decide) rfl (by kernel_rfl) (SOK.skip rfl) ?_
          refine TV.virt 8 rfl rfl (by decide) rfl (by kernel_rfl) (SOK.skip rfl) ?_
          refine TV.virt 9 rfl rfl (by decide) rfl (by kernel_rfl) (SOK.skip rfl) ?_
          refine TV.virt 10 rfl rfl (by decide) rfl (by kernel_rfl) (SOK.skip rfl) ?_
          refine TV.virt 11 rfl rfl (by decide) rfl (by kernel_rfl) (SOK.skip rfl) ?_
          refine TV.virt 12 rfl rfl (by decide) rfl (by kernel_rfl) (SOK.skip rfl) ?_
          refine TV.virt 13 rfl rfl (by decide) rfl (by kernel_rfl) (SOK.pure (PV.pickT rfl rfl) rfl) ?_
          refine TV.done (by kernel_rfl) ?_
          refine TQ.thenC ?_
          refine TC.condT rfl ?_
          refine TC.seq ?_
          refine TC.region ?_
          refine TL.pure (PV.assign rfl) rfl (by decide) ?_
          refine TL.pure (PV.assign rfl) rfl (by decide) ?_
          refine TL.nil ?_
          refine TQ.thenC ?_
          refine TC.ret ?_
          refine TQ.blkR ?_
          refine TQ.thenR ?_
          refine TQ.thenR ?_
          refine TQ.blkR ?_
          refine TQ.thenR ?_
          refine TQ.retE2 rfl rfl rfl ?_
          first | exact absurd hd0 hv9 | exact ⟨(), by rw [cf_len (by omega)], trivial, List.nil_sublist _⟩ | exact ⟨(), by rw [cf_fit (k := k) hll (by omega) (by omega)], trivial, List.nil_sublist _⟩ | exact ⟨(), by rw [cf_kp (u := k) hll hfa (by omega) (by omega)], trivial, List.nil_sublist _⟩ | exact ⟨(), by rw [cf_ok hll hfa hka, hog], trivial, List.nil_sublist _⟩
        · skip
          refine TV.virt 6 rfl rfl (by decide) rfl (by kernel_rfl) (SOK.pure (PV.move rfl) rfl) ?_
          refine TV.virt 7 rfl rfl (by decide) rfl (by kernel_rfl) (SOK.pure (PV.move rfl) rfl) ?_
          refine TV.virt 8 rfl rfl (by decide) rfl (by kernel_rfl) (SOK.pure (PV.indexA rfl hfp rfl Tb.elm_25 rfl (by omega)) rfl) ?_
          refine TV.virt 9 rfl rfl (by decide) rfl (by kernel_rfl) (SOK.pure (PV.loadOld rfl Tb.one_3 hfq) rfl) ?_
          refine TV.virt 10 rfl rfl (by decide) rfl (by kernel_rfl) (SOK.pure (PV.fieldAddr rfl Tb.fo_40_2) rfl) ?_
          refine TV.virt 11 rfl rfl (by decide) rfl (by kernel_rfl) (SOK.pure (PV.load rfl Tb.one_3 (by repeat (first | exact List.Mem.head _ | refine List.Mem.tail _ ?_ | refine List.mem_append_right _ ?_)) rfl) rfl) ?_
          refine TV.virt 12 rfl rfl (by decide) rfl (by kernel_rfl) (SOK.pure (PV.gtr rfl rfl) rfl) ?_
          refine TV.virt 13 rfl rfl (by decide) rfl (by kernel_rfl) (SOK.pure (PV.pickF rfl rfl) rfl) ?_
          refine TV.done (by kernel_rfl) ?_
          refine TQ.thenC ?_
          first | refine TC.condD rfl (fun hbad => ?_) (fun hbad => ?_) | refine TC.cond rfl (fun hbad => ?_) (fun hbad => ?_)
          · skip
            refine TC.seq ?_
            refine TC.region ?_
            refine TL.pure (PV.assign rfl) rfl (by decide) ?_
            refine TL.pure (PV.assign rfl) rfl (by decide) ?_
            refine TL.nil ?_
            refine TQ.thenC ?_
            refine TC.ret ?_
            refine TQ.blkR ?_
            refine TQ.thenR ?_
            refine TQ.thenR ?_
            refine TQ.blkR ?_
            refine TQ.thenR ?_
            refine TQ.retE2 rfl rfl rfl ?_
            first | exact absurd hd0 hv9 | exact ⟨(), by rw [cf_len (by omega)], trivial, List.nil_sublist _⟩ | exact ⟨(), by rw [cf_fit (k := k) hll (by omega) (by omega)], trivial, List.nil_sublist _⟩ | exact ⟨(), by rw [cf_kp (u := k) hll hfa (by omega) (by omega)], trivial, List.nil_sublist _⟩ | exact ⟨(), by rw [cf_ok hll hfa hka, hog], trivial, List.nil_sublist _⟩
          · skip
            have hfit : fit1 rs fs k = true := decide_eq_true (by omega)
            refine TC.skip ?_
            refine TQ.blkN ?_
            refine TQ.thenC ?_
            refine TC.region ?_
            refine TL.pure (PV.add rfl rfl (by omega)) rfl (by decide) ?_
            refine TL.pure (PV.move rfl) rfl (by decide) ?_
            refine TL.nil ?_
            refine TQ.thenN ?_
            refine TQ.backK (k + 1) (by repeat (first | exact True.intro | refine And.intro rfl ?_)) (by repeat (first | exact True.intro | refine And.intro rfl ?_)) (by repeat (first | exact List.Sublist.slnil | exact List.nil_sublist _ | exact List.Sublist.refl _ | refine List.Sublist.cons_cons _ ?_ | refine List.Sublist.cons _ ?_ | refine List.Sublist.trans ?_ (List.sublist_append_right _ _))) ⟨by omega, all_next hk.2 hfit⟩ (by omega)
      · skip
        refine TC.exit ?_
        refine TQ.thenE ?_
        refine TQ.thenE ?_
        refine TQ.blkS ?_
        refine TQ.thenC ?_
        refine TC.seq ?_
        have hfa : (List.range rs.length).all (fit1 rs fs) = true := (show k = rs.length by omega) ▸ hk.2
        have hb20 : ∀ j, j < rs.length → 0 ≤ fs.getD j 0 ∧ fs.getD j 0 ≤ 20 := fun j hj => by have h1 := hv.at hj; have h2 : 0 ≤ fs.getD j 0 ∧ fs.getD j 0 ≤ (rs.getD j default).m := of_decide_eq_true (all_get hfa hj); omega
        refine TC.region ?_
        refine TL.pure (PV.loadBox rfl Tb.agg_24 (by repeat (first | exact List.Mem.head _ | refine List.Mem.tail _ ?_ | refine List.mem_append_right _ ?_)) rfl) rfl (by decide) ?_
        refine TL.pure (PV.move rfl) rfl (by decide) ?_
        refine TL.call rfl Tb.gofn_56 (fun a w hs => outflows_ok w n s t p cap rs (hr.new hs.new) hv pf cf fs.length fs (hf.new hs.new) hll rfl hb20) rfl (by decide) (fun bO _ => ?_)
        refine TL.pure (PV.assign rfl) rfl (by decide) ?_
        refine TL.nil ?_
        refine TQ.thenC ?_
        refine TC.seq ?_
        refine TC.seq ?_
        refine TC.region ?_
        refine TL.pure (PV.move rfl) rfl (by decide) ?_
        refine TL.pure (PV.len rfl Tb.sl_25) rfl (by decide) ?_
        refine TL.pure (PV.move rfl) rfl (by decide) ?_
        refine TL.nil ?_
        refine TQ.thenC ?_
        refine TC.block ?_
        -- live and written in the loop, not told: [4, 5]
        refine TC.loopK [2, 9, 49, 50] (X := Nat) (fun k => k ≤ n ∧ (List.range k).all (kp1 s t (cfL rs fs)) = true) (fun k => [(51, .int .i64 k)]) (fun k => [(bO, Obj.cells (intsA (outL n (cfL rs fs))) 3 (0, 0)), (b0, Obj.cells #[.int .i64 (n : Nat), .int .i64 (s : Nat), .int .i64 (t : Nat), .slice p rs.length cap] 24 (0, 0))]) (fun k => n - k) 0 ⟨Nat.zero_le _, rfl⟩ (by repeat (first | exact True.intro | refine And.intro rfl ?_)) (List.Sublist.refl _) ?_
        intro k hk
        refine TC.seq ?_
        refine TC.region ?_
        refine TL.pure (PV.lss rfl rfl) rfl (by decide) ?_
        refine TL.nil ?_
        refine TQ.thenC ?_
        refine TC.seq ?_
        first | refine TC.condD rfl (fun hlt2 => ?_) (fun hlt2 => ?_) | refine TC.cond rfl (fun hlt2 => ?_) (fun hlt2 => ?_)
        · skip
          refine TC.skip ?_
          refine TQ.thenC ?_
          refine TC.seq ?_
          refine TC.block ?_
          refine TC.seq ?_
          have hog := outL_get (n := n) (u := k) (l := cfL rs fs) (by omega)
          refine TC.region ?_
          refine TL.pure (PV.move rfl) rfl (by decide) ?_
          refine TL.pure (PV.index (j := k) rfl rfl Tb.elm_25 rfl (by omega)) rfl (by decide) ?_
          refine TL.pure (PV.loadIo (xs := outL n (cfL rs fs)) k rfl (off1 _) Tb.one_3 (by repeat (first | exact List.Mem.head _ | refine List.Mem.tail _ ?_ | refine List.mem_append_right _ ?_)) (by rw [outL_len]; omega)) rfl (by decide) ?_
          refine TL.pure (PV.assign rfl) rfl (by decide) ?_
          refine TL.pure (PV.assign rfl) rfl (by decide) ?_
          refine TL.nil ?_
          refine TQ.thenC ?_
          refine TC.seq ?_
          refine TC.region ?_
          refine TL.pure (PV.move rfl) rfl (by decide) ?_
          refine TL.pure (PV.fieldAddr rfl Tb.fo_24_1) rfl (by decide) ?_
          refine TL.pure (PV.load rfl Tb.one_3 (by repeat (first | exact List.Mem.head _ | refine List.Mem.tail _ ?_ | refine List.mem_append_right _ ?_)) rfl) rfl (by decide) ?_
          refine TL.pure (PV.neq rfl rfl) rfl (by decide) ?_
          refine TL.pure (PV.move rfl) rfl (by decide) ?_
          first | refine TL.splitD 60 rfl (fun e2 => ?_) (fun e2 => ?_) | refine TL.split 60 rfl (fun e2 => ?_) (fun e2 => ?_)
          · skip
            refine TL.pure (PV.move rfl) rfl (by decide) ?_
            refine TL.pure (PV.fieldAddr rfl Tb.fo_24_2) rfl (by decide) ?_
            refine TL.pure (PV.load rfl Tb.one_3 (by repeat (first | exact List.Mem.head _ | refine List.Mem.tail _ ?_ | refine List.mem_append_right _ ?_)) rfl) rfl (by decide) ?_
            refine TL.pure (PV.neq rfl rfl) rfl (by decide) ?_
            refine TL.pure (PV.pickT rfl rfl) rfl (by decide) ?_
            refine TL.pure (PV.move rfl) rfl (by decide) ?_
            first | refine TL.splitD 66 rfl (fun e3 => ?_) (fun e3 => ?_) | refine TL.split 66 rfl (fun e3 => ?_) (fun e3 => ?_)
            · skip
              refine TL.pure (PV.move rfl) rfl (by decide) ?_
              refine TL.pure (PV.neq rfl rfl) rfl (by decide) ?_
              refine TL.pure (PV.pickT rfl rfl) rfl (by decide) ?_
              refine TL.nil ?_
              refine TQ.thenC ?_
              first | refine TC.condD rfl (fun hbad2 => ?_) (fun hbad2 => ?_) | refine TC.cond rfl (fun hbad2 => ?_) (fun hbad2 => ?_)
              · skip
                refine TC.seq ?_
                refine TC.region ?_
                refine TL.pure (PV.assign rfl) rfl (by decide) ?_
                refine TL.pure (PV.assign rfl) rfl (by decide) ?_
                refine TL.nil ?_
                refine TQ.thenC ?_
                refine TC.ret ?_
                refine TQ.blkR ?_
                refine TQ.thenR ?_
                refine TQ.thenR ?_
                refine TQ.blkR ?_
                refine TQ.thenR ?_
                refine TQ.retE2 rfl rfl rfl ?_
                first | exact absurd hd0 hv9 | exact ⟨(), by rw [cf_len (by omega)], trivial, List.nil_sublist _⟩ | exact ⟨(), by rw [cf_fit (k := k) hll (by omega) (by omega)], trivial, List.nil_sublist _⟩ | exact ⟨(), by rw [cf_kp (u := k) hll hfa (by omega) (by omega)], trivial, List.nil_sublist _⟩ | exact ⟨(), by rw [cf_ok hll hfa hka, hog], trivial, List.nil_sublist _⟩
              · skip
                have hkp : kp1 s t (cfL rs fs) k = true := decide_eq_true (by omega)
                refine TC.skip ?_
                refine TQ.blkN ?_
                refine TQ.thenC ?_
                refine TC.region ?_
                refine TL.pure (PV.add rfl rfl (by omega)) rfl (by decide) ?_
                refine TL.pure (PV.move rfl) rfl (by decide) ?_
                refine TL.nil ?_
                refine TQ.thenN ?_
                refine TQ.backK (k + 1) (by repeat (first | exact True.intro | refine And.intro rfl ?_)) (by repeat (first | exact True.intro | refine And.intro rfl ?_)) (List.Sublist.refl _) ⟨by omega, all_next hk.2 hkp⟩ (by omega)
            · skip
              refine TL.skip rfl (fun k hk => by cases hk; decide) ?_
              refine TL.skip rfl (fun k hk => by cases hk; decide) ?_
              refine TL.pure (PV.pickF rfl rfl) rfl (by decide) ?_
              refine TL.nil ?_
              refine TQ.thenC ?_
              refine TC.condF rfl ?_
              have hkp : kp1 s t (cfL rs fs) k = true := decide_eq_true (by omega)
              refine TC.skip ?_
              refine TQ.blkN ?_
              refine TQ.thenC ?_
              refine TC.region ?_
              refine TL.pure (PV.add rfl rfl (by omega)) rfl (by decide) ?_
              refine TL.pure (PV.move rfl) rfl (by decide) ?_
              refine TL.nil ?_
              refine TQ.thenN ?_
              refine TQ.backK (k + 1) (by repeat (first | exact True.intro | refine And.intro rfl ?_)) (by repeat (first | exact True.intro | refine And.intro rfl ?_)) (List.Sublist.refl _) ⟨by omega, all_next hk.2 hkp⟩ (by omega)
          · skip
            refine TL.skip rfl (fun k hk => by cases hk; decide) ?_
            refine TL.skip rfl (fun k hk => by cases hk; decide) ?_
            refine TL.skip rfl (fun k hk => by cases hk; decide) ?_
            refine TL.skip rfl (fun k hk => by cases hk; decide) ?_
            refine TL.pure (PV.pickF rfl rfl) rfl (by decide) ?_
            refine TL.pure (PV.move rfl) rfl (by decide) ?_
            refine TL.skip rfl (fun k hk => by cases hk; decide) ?_
            refine TL.skip rfl (fun k hk => by cases hk; decide) ?_
            refine TL.pure (PV.pickF rfl rfl) rfl (by decide) ?_
            refine TL.nil ?_
            refine TQ.thenC ?_
            refine TC.condF rfl ?_
            have hkp : kp1 s t (cfL rs fs) k = true := decide_eq_true (by omega)
            refine TC.skip ?_
            refine TQ.blkN ?_
            refine TQ.thenC ?_
            refine TC.region ?_
            refine TL.pure (PV.add rfl rfl (by omega)) rfl (by decide) ?_
            refine TL.pure (PV.move rfl) rfl (by decide) ?_
            refine TL.nil ?_
            refine TQ.thenN ?_
            refine TQ.backK (k + 1) (by repeat (first | exact True.intro | refine And.intro rfl ?_)) (by repeat (first | exact True.intro | refine And.intro rfl ?_)) (List.Sublist.refl _) ⟨by omega, all_next hk.2 hkp⟩ (by omega)
        · skip
          refine TC.exit ?_
          refine TQ.thenE ?_
          refine TQ.thenE ?_
          refine TQ.blkS ?_
          refine TQ.thenC ?_
          refine TC.seq ?_
          have hog := outL_get (n := n) (u := s) (l := cfL rs fs) (by omega)
          have hka : (List.range n).all (kp1 s t (cfL rs fs)) = true := (show k = n by omega) ▸ hk.2
          refine TC.region ?_
          refine TL.pure (PV.move rfl) rfl (by decide) ?_
          refine TL.pure (PV.fieldAddr rfl Tb.fo_24_1) rfl (by decide) ?_
          refine TL.pure (PV.load rfl Tb.one_3 (by repeat (first | exact List.Mem.head _ | refine List.Mem.tail _ ?_ | refine List.mem_append_right _ ?_)) rfl) rfl (by decide) ?_
          refine TL.pure (PV.index (j := s) rfl rfl Tb.elm_25 rfl (by omega)) rfl (by decide) ?_
          refine TL.pure (PV.loadIo (xs := outL n (cfL rs fs)) s rfl (off1 _) Tb.one_3 (by repeat (first | exact List.Mem.head _ | refine List.Mem.tail _ ?_ | refine List.mem_append_right _ ?_)) (by rw [outL_len]; omega)) rfl (by decide) ?_
          refine TL.pure (PV.assign rfl) rfl (by decide) ?_
          refine TL.pure (PV.assign rfl) rfl (by decide) ?_
          refine TL.nil ?_
          refine TQ.thenC ?_
          refine TC.ret ?_
          refine TQ.retE2 rfl rfl rfl ?_
          first | exact absurd hd0 hv9 | exact ⟨(), by rw [cf_len (by omega)], trivial, List.nil_sublist _⟩ | exact ⟨(), by rw [cf_fit (k := k) hll (by omega) (by omega)], trivial, List.nil_sublist _⟩ | exact ⟨(), by rw [cf_kp (u := k) hll hfa (by omega) (by omega)], trivial, List.nil_sublist _⟩ | exact ⟨(), by rw [cf_ok hll hfa hka, hog], trivial, List.nil_sublist _⟩

end Go.Proofs.Ytnlbngbbddhgeaa
