/- Passes: which there are. The functions' contracts. -/
import Derived.Test.YtfgjojoipbbacaaQDV
import Derived.Test.YtfgjojoipbbacaaQSw
import Derived.Test.YtfgjojoipbbacaaQSv
set_option linter.unusedVariables false
set_option linter.unusedSimpArgs false
namespace Go.Proofs.Ytfgjojoipbbacaa
open Go.Sx Go.RowKit

theorem nearI {w0 : World} {p : Option Addr} {cap : Nat} {ls : List (List Int)} (hr : LsAt w0 p ls) (hb : 1 ≤ ls.length ∧ ls.length ≤ 6) {c : Int} (hc : 0 ≤ c ∧ c ≤ (ls.length : Int) - 1) :
    Calls Try.prog 104 #[bv p ls.length cap, .int .i64 c] w0 (Post (X := Nat × List Value) (fun x => .slice (some ⟨x.1, 0, none⟩) (nearL ls c.toNat).length 3) (fun _ => True) (fun x => [(x.1, .cells ((nearL ls c.toNat).map (Value.int .i64) ++ x.2).toArray 3 (0, 0))]) w0) := by
  have h := near_ok w0 p cap ls hr hb c.toNat (by omega)
  rw [show ((c.toNat : Nat) : Int) = c by omega] at h
  exact h
theorem ps_1 {ls : List (List Int)} {q : Ps} (h : ¬ (0 ≤ q.c ∧ q.c ≤ (ls.length : Int) - 1)) : psB ls q = false := decide_eq_false (fun h2 => h (by omega))
theorem ps_2 {ls : List (List Int)} {q : Ps} (h : ¬ (1 ≤ q.h ∧ q.h ≤ (dep ls : Int) - 1)) : psB ls q = false := decide_eq_false (fun h2 => h (by omega))
theorem ps_3 {ls : List (List Int)} {q : Ps} (h1 : 0 ≤ q.c ∧ q.c ≤ (ls.length : Int) - 1) (h2 : 1 ≤ q.h ∧ q.h ≤ (dep ls : Int) - 1) : psB ls q = decide (q.t ∈ nearL ls q.c.toNat) := by
  rw [Bool.eq_iff_iff, decide_eq_true_eq]
  unfold psB nearL
  rw [decide_eq_true_eq, List.mem_filter]
  unfold nrB wiB
  rw [decide_eq_true_eq]
  simp only [List.mem_cons, List.not_mem_nil, or_false]
  omega
theorem nearL_len (ls : List (List Int)) (c : Nat) : (nearL ls c).length ≤ 3 := by
  unfold nearL
  exact Nat.le_trans (List.length_filter_le _ _) (by simp)


set_option maxRecDepth 100000 in
set_option maxHeartbeats 8000000 in
theorem isPass_ok (w0 : World) (p : Option Addr) (cap : Nat) (ls : List (List Int)) (hr : LsAt w0 p ls) (hv : VB ls) (q : Ps) :
    Calls Try.prog 92 #[bv p ls.length cap, (rval rP q)] w0 (Post (X := Unit) (fun _ => .bool (psB ls q)) (fun _ => True) (fun _ => []) w0) := by
  refine calls Try.func92 rfl (n := 26) rfl (by simp) ?_
  refine TC.seq ?_
  refine TC.region ?_
  refine TL.box rfl rfl (by decide) (fun b0 hb0 => ?_)
  refine TL.box rfl rfl (by decide) (fun b1 hb1 => ?_)
  refine TL.pure (PV.assign rfl) rfl (by decide) ?_
  refine TL.nil ?_
  refine TQ.thenC ?_
  refine TC.seqK [] (X := Unit) (fun x => True) (fun x => [(4, .bool (psB ls q))]) (fun x => []) ?_ ?_
  · skip
    refine TC.mixV [true, true, true, false, true, true, true, true, false, true, false, true, true, true, true, true, false, true, true, false, true, true] [(b1, Obj.cells (rP.cells q).toArray 90 (0, 0)), (b0, Obj.cells #[.slice p ls.length cap] 24 (0, 0))] 22 Tb.mixed rfl (by kernel_rfl) (by kernel_rfl) (by kernel_rfl) (by kernel_rfl) (by repeat (first | exact List.Sublist.slnil | exact List.nil_sublist _ | exact List.Sublist.refl _ | refine List.Sublist.cons_cons _ ?_ | refine List.Sublist.cons _ ?_ | refine List.Sublist.trans ?_ (List.sublist_append_right _ _))) ?_
    refine TV.virt 0 rfl rfl (by decide) rfl (by kernel_rfl) (SOK.pure (PV.loadBox rfl Tb.agg_24 (by repeat (first | exact List.Mem.head _ | refine List.Mem.tail _ ?_ | refine List.mem_append_right _ ?_)) rfl) rfl) ?_
    refine TV.virt 1 rfl rfl (by decide) rfl (by kernel_rfl) (SOK.pure (PV.fieldAddr rfl Tb.fo_90_0) rfl) ?_
    refine TV.virt 2 rfl rfl (by decide) rfl (by kernel_rfl) (SOK.pure (PV.load rfl Tb.one_3 (by repeat (first | exact List.Mem.head _ | refine List.Mem.tail _ ?_ | refine List.mem_append_right _ ?_)) rfl) rfl) ?_
    refine TV.step [3] (by kernel_rfl) (by decide) rfl ⟨⟨_, rfl, ?_⟩, trivial⟩
    refine TL.call rfl Tb.gofn_88 (fun a w hs => isColumn_ok w _ _ _ (hr.new hs.new) hv.n q.c) rfl (by decide) (fun _ _ => ?_)
    refine TL.nil ?_
    refine TV.next (.inl (by repeat (first | exact List.Sublist.slnil | exact List.nil_sublist _ | exact List.Sublist.refl _ | refine List.Sublist.cons_cons _ ?_ | refine List.Sublist.cons _ ?_ | refine List.Sublist.trans ?_ (List.sublist_append_right _ _)))) ?_
    refine TV.virt 4 rfl rfl (by decide) rfl (by kernel_rfl) (SOK.pure (PV.move rfl) rfl) ?_
    first | refine TV.splitD 9 rfl (fun g1 => ?_) (fun g1 => ?_) | refine TV.split 9 rfl (fun g1 => ?_) (fun g1 => ?_)
    · skip
      refine TV.virt 5 rfl rfl (by decide) rfl (by kernel_rfl) (SOK.pure (PV.fieldAddr rfl Tb.fo_90_1) rfl) ?_
      refine TV.virt 6 rfl rfl (by decide) rfl (by kernel_rfl) (SOK.pure (PV.load rfl Tb.one_3 (by repeat (first | exact List.Mem.head _ | refine List.Mem.tail _ ?_ | refine List.mem_append_right _ ?_)) rfl) rfl) ?_
      refine TV.virt 7 rfl rfl (by decide) rfl (by kernel_rfl) (SOK.pure (PV.loadBox rfl Tb.agg_24 (by repeat (first | exact List.Mem.head _ | refine List.Mem.tail _ ?_ | refine List.mem_append_right _ ?_)) rfl) rfl) ?_
      refine TV.step [8] (by kernel_rfl) (by decide) rfl ⟨⟨_, rfl, ?_⟩, trivial⟩
      refine TL.call rfl Tb.gofn_62 (fun a w hs => depth_ok w _ _ _ (hr.new hs.new) (by have := hv.n; omega)) rfl (by decide) (fun _ _ => ?_)
      refine TL.nil ?_
      refine TV.next (.inl (by repeat (first | exact List.Sublist.slnil | exact List.nil_sublist _ | exact List.Sublist.refl _ | refine List.Sublist.cons_cons _ ?_ | refine List.Sublist.cons _ ?_ | refine List.Sublist.trans ?_ (List.sublist_append_right _ _)))) ?_
      have hdd := hv.d
      refine TV.virt 9 rfl rfl (by decide) rfl (by kernel_rfl) (SOK.pure (PV.sub rfl rfl (by omega)) rfl) ?_
      refine TV.step [10] (by kernel_rfl) (by decide) rfl ⟨⟨_, rfl, ?_⟩, trivial⟩
      refine TL.call rfl Tb.gofn_65 (fun a w hs => isWithin_ok w _ _ _) rfl (by decide) (fun _ _ => ?_)
      refine TL.nil ?_
      refine TV.next (.inl (by repeat (first | exact List.Sublist.slnil | exact List.nil_sublist _ | exact List.Sublist.refl _ | refine List.Sublist.cons_cons _ ?_ | refine List.Sublist.cons _ ?_ | refine List.Sublist.trans ?_ (List.sublist_append_right _ _)))) ?_
      refine TV.virt 11 rfl rfl (by decide) rfl (by kernel_rfl) (SOK.pure (PV.pickT rfl rfl) rfl) ?_
      refine TV.virt 12 rfl rfl (by decide) rfl (by kernel_rfl) (SOK.pure (PV.move rfl) rfl) ?_
      first | refine TV.splitD 17 rfl (fun g2 => ?_) (fun g2 => ?_) | refine TV.split 17 rfl (fun g2 => ?_) (fun g2 => ?_)
      · skip
        refine TV.virt 13 rfl rfl (by decide) rfl (by kernel_rfl) (SOK.pure (PV.loadBox rfl Tb.agg_24 (by repeat (first | exact List.Mem.head _ | refine List.Mem.tail _ ?_ | refine List.mem_append_right _ ?_)) rfl) rfl) ?_
        refine TV.virt 14 rfl rfl (by decide) rfl (by kernel_rfl) (SOK.pure (PV.fieldAddr rfl Tb.fo_90_0) rfl) ?_
        refine TV.virt 15 rfl rfl (by decide) rfl (by kernel_rfl) (SOK.pure (PV.load rfl Tb.one_3 (by repeat (first | exact List.Mem.head _ | refine List.Mem.tail _ ?_ | refine List.mem_append_right _ ?_)) rfl) rfl) ?_
        refine TV.virt 17 rfl rfl (by decide) rfl (by kernel_rfl) (SOK.pure (PV.fieldAddr rfl Tb.fo_90_2) rfl) ?_
        refine TV.virt 18 rfl rfl (by decide) rfl (by kernel_rfl) (SOK.pure (PV.load rfl Tb.one_3 (by repeat (first | exact List.Mem.head _ | refine List.Mem.tail _ ?_ | refine List.mem_append_right _ ?_)) rfl) rfl) ?_
        refine TV.step [16] (by kernel_rfl) (by decide) rfl ⟨⟨_, rfl, ?_⟩, trivial⟩
        refine TL.call rfl Tb.gofn_104 (fun a w hs => nearI (hr.new hs.new) hv.n g1) rfl (by decide) (fun x9 _ => ?_)
        refine TL.nil ?_
        refine TV.next (.inl (by repeat (first | exact List.Sublist.slnil | exact List.nil_sublist _ | exact List.Sublist.refl _ | refine List.Sublist.cons_cons _ ?_ | refine List.Sublist.cons _ ?_ | refine List.Sublist.trans ?_ (List.sublist_append_right _ _)))) ?_
        refine TV.step [19] (by kernel_rfl) (by decide) rfl ⟨⟨_, rfl, ?_⟩, trivial⟩
        refine TL.call rfl Tb.gofn_89 (fun a w hs => containsI_ok w (some ⟨x9.1, 0, none⟩) 3 (nearL ls q.c.toNat) (IntsAt.blk hs.new (by repeat (first | exact List.Mem.head _ | refine List.Mem.tail _ ?_ | refine List.mem_append_right _ ?_))) (Nat.le_trans (nearL_len _ _) (by decide)) q.t) rfl (by decide) (fun _ _ => ?_)
        refine TL.nil ?_
        refine TV.next (.inl (by repeat (first | exact List.Sublist.slnil | exact List.nil_sublist _ | exact List.Sublist.refl _ | refine List.Sublist.cons_cons _ ?_ | refine List.Sublist.cons _ ?_ | refine List.Sublist.trans ?_ (List.sublist_append_right _ _)))) ?_
        refine TV.virt 20 rfl rfl (by decide) rfl (by kernel_rfl) (SOK.pure (PV.pickT rfl rfl) rfl) ?_
        refine TV.virt 21 rfl rfl (by decide) rfl (by kernel_rfl) (SOK.pure (PV.assign rfl) rfl) ?_
        refine TV.done (by kernel_rfl) ?_
        refine TQ.thenN ?_
        refine TQ.midK () (by refine ⟨?_, trivial⟩; first | (show _ = some (Value.bool (psB ls q)); rw [ps_1 (by assumption)]; rfl) | (show _ = some (Value.bool (psB ls q)); rw [ps_2 (by assumption)]; rfl) | (show _ = some (Value.bool (psB ls q)); rw [ps_3 (by assumption) (by assumption)]; rfl)) (by repeat (first | exact True.intro | refine And.intro rfl ?_)) (by repeat (first | exact List.Sublist.slnil | exact List.nil_sublist _ | exact List.Sublist.refl _ | refine List.Sublist.cons_cons _ ?_ | refine List.Sublist.cons _ ?_ | refine List.Sublist.trans ?_ (List.sublist_append_right _ _))) (by first | trivial | omega)
      · skip
        refine TV.virt 13 rfl rfl (by decide) rfl (by kernel_rfl) (SOK.skip rfl) ?_
        refine TV.virt 14 rfl rfl (by decide) rfl (by kernel_rfl) (SOK.skip rfl) ?_
        refine TV.virt 15 rfl rfl (by decide) rfl (by kernel_rfl) (SOK.skip rfl) ?_
        refine TV.virt 17 rfl rfl (by decide) rfl (by kernel_rfl) (SOK.skip rfl) ?_
        refine TV.virt 18 rfl rfl (by decide) rfl (by kernel_rfl) (SOK.skip rfl) ?_
        refine TV.step [16] (by kernel_rfl) (by decide) rfl ⟨⟨_, rfl, ?_⟩, trivial⟩
        refine TL.skip rfl (fun k hk => by cases hk; decide) ?_
        refine TL.nil ?_
        refine TV.next (.inl (by repeat (first | exact List.Sublist.slnil | exact List.nil_sublist _ | exact List.Sublist.refl _ | refine List.Sublist.cons_cons _ ?_ | refine List.Sublist.cons _ ?_ | refine List.Sublist.trans ?_ (List.sublist_append_right _ _)))) ?_
        refine TV.step [19] (by kernel_rfl) (by decide) rfl ⟨⟨_, rfl, ?_⟩, trivial⟩
        refine TL.skip rfl (fun k hk => by cases hk; decide) ?_
        refine TL.nil ?_
        refine TV.next (.inl (by repeat (first | exact List.Sublist.slnil | exact List.nil_sublist _ | exact List.Sublist.refl _ | refine List.Sublist.cons_cons _ ?_ | refine List.Sublist.cons _ ?_ | refine List.Sublist.trans ?_ (List.sublist_append_right _ _)))) ?_
        refine TV.virt 20 rfl rfl (by decide) rfl (by kernel_rfl) (SOK.pure (PV.pickF rfl rfl) rfl) ?_
        refine TV.virt 21 rfl rfl (by decide) rfl (by kernel_rfl) (SOK.pure (PV.assign rfl) rfl) ?_
        refine TV.done (by kernel_rfl) ?_
        refine TQ.thenN ?_
        refine TQ.midK () (by refine ⟨?_, trivial⟩; first | (show _ = some (Value.bool (psB ls q)); rw [ps_1 (by assumption)]; rfl) | (show _ = some (Value.bool (psB ls q)); rw [ps_2 (by assumption)]; rfl) | (show _ = some (Value.bool (psB ls q)); rw [ps_3 (by assumption) (by assumption)]; rfl)) (by repeat (first | exact True.intro | refine And.intro rfl ?_)) (by repeat (first | exact List.Sublist.slnil | exact List.nil_sublist _ | exact List.Sublist.refl _ | refine List.Sublist.cons_cons _ ?_ | refine List.Sublist.cons _ ?_ | refine List.Sublist.trans ?_ (List.sublist_append_right _ _))) (by first | trivial | omega)
    · skip
      refine TV.virt 5 rfl rfl (by decide) rfl (by kernel_rfl) (SOK.skip rfl) ?_
      refine TV.virt 6 rfl rfl (by decide) rfl (by kernel_rfl) (SOK.skip rfl) ?_
      refine TV.virt 7 rfl rfl (by decide) rfl (by kernel_rfl) (SOK.skip rfl) ?_
      refine TV.step [8] (by kernel_rfl) (by decide) rfl ⟨⟨_, rfl, ?_⟩, trivial⟩
      refine TL.skip rfl (fun k hk => by cases hk; decide) ?_
      refine TL.nil ?_
      refine TV.next (.inl (by repeat (first | exact List.Sublist.slnil | exact List.nil_sublist _ | exact List.Sublist.refl _ | refine List.Sublist.cons_cons _ ?_ | refine List.Sublist.cons _ ?_ | refine List.Sublist.trans ?_ (List.sublist_append_right _ _)))) ?_
      have hdd := hv.d
      refine TV.virt 9 rfl rfl (by decide) rfl (by kernel_rfl) (SOK.skip rfl) ?_
      refine TV.step [10] (by kernel_rfl) (by decide) rfl ⟨⟨_, rfl, ?_⟩, trivial⟩
      refine TL.skip rfl (fun k hk => by cases hk; decide) ?_
      refine TL.nil ?_
      refine TV.next (.inl (by repeat (first | exact List.Sublist.slnil | exact List.nil_sublist _ | exact List.Sublist.refl _ | refine List.Sublist.cons_cons _ ?_ | refine List.Sublist.cons _ ?_ | refine List.Sublist.trans ?_ (List.sublist_append_right _ _)))) ?_
      refine TV.virt 11 rfl rfl (by decide) rfl (by kernel_rfl) (SOK.pure (PV.pickF rfl rfl) rfl) ?_
      refine TV.virt 12 rfl rfl (by decide) rfl (by kernel_rfl) (SOK.pure (PV.move rfl) rfl) ?_
      refine TV.virt 13 rfl rfl (by decide) rfl (by kernel_rfl) (SOK.skip rfl) ?_
      refine TV.virt 14 rfl rfl (by decide) rfl (by kernel_rfl) (SOK.skip rfl) ?_
      refine TV.virt 15 rfl rfl (by decide) rfl (by kernel_rfl) (SOK.skip rfl) ?_
      refine TV.virt 17 rfl rfl (by decide) rfl (by kernel_rfl) (SOK.skip rfl) ?_
      refine TV.virt 18 rfl rfl (by decide) rfl (by kernel_rfl) (SOK.skip rfl) ?_
      refine TV.step [16] (by kernel_rfl) (by decide) rfl ⟨⟨_, rfl, ?_⟩, trivial⟩
      refine TL.skip rfl (fun k hk => by cases hk; decide) ?_
      refine TL.nil ?_
      refine TV.next (.inl (by repeat (first | exact List.Sublist.slnil | exact List.nil_sublist _ | exact List.Sublist.refl _ | refine List.Sublist.cons_cons _ ?_ | refine List.Sublist.cons _ ?_ | refine List.Sublist.trans ?_ (List.sublist_append_right _ _)))) ?_
      refine TV.step [19] (by kernel_rfl) (by decide) rfl ⟨⟨_, rfl, ?_⟩, trivial⟩
      refine TL.skip rfl (fun k hk => by cases hk; decide) ?_
      refine TL.nil ?_
      refine TV.next (.inl (by repeat (first | exact List.Sublist.slnil | exact List.nil_sublist _ | exact List.Sublist.refl _ | refine List.Sublist.cons_cons _ ?_ | refine List.Sublist.cons _ ?_ | refine List.Sublist.trans ?_ (List.sublist_append_right _ _)))) ?_
      refine TV.virt 20 rfl rfl (by decide) rfl (by kernel_rfl) (SOK.pure (PV.pickF rfl rfl) rfl) ?_
      refine TV.virt 21 rfl rfl (by decide) rfl (by kernel_rfl) (SOK.pure (PV.assign rfl) rfl) ?_
      refine TV.done (by kernel_rfl) ?_
      refine TQ.thenN ?_
      refine TQ.midK () (by refine ⟨?_, trivial⟩; first | (show _ = some (Value.bool (psB ls q)); rw [ps_1 (by assumption)]; rfl) | (show _ = some (Value.bool (psB ls q)); rw [ps_2 (by assumption)]; rfl) | (show _ = some (Value.bool (psB ls q)); rw [ps_3 (by assumption) (by assumption)]; rfl)) (by repeat (first | exact True.intro | refine And.intro rfl ?_)) (by repeat (first | exact List.Sublist.slnil | exact List.nil_sublist _ | exact List.Sublist.refl _ | refine List.Sublist.cons_cons _ ?_ | refine List.Sublist.cons _ ?_ | refine List.Sublist.trans ?_ (List.sublist_append_right _ _))) (by first | trivial | omega)
  · skip
    intro _ _
    refine TC.ret ?_
    refine TQ.retE1 rfl rfl ?_
    exact ⟨(), rfl, trivial, List.nil_sublist _⟩

end Go.Proofs.Ytfgjojoipbbacaa
