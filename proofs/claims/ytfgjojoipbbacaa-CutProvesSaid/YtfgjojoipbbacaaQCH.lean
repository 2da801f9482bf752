/- Open: contract. -/
import Derived.Test.YtfgjojoipbbacaaQCG
set_option linter.unusedVariables false
set_option linter.unusedSimpArgs false
namespace Go.Proofs.Ytfgjojoipbbacaa
open Go.Sx Go.RowKit


set_option maxRecDepth 100000 in
set_option maxHeartbeats 1000000 in
theorem Open_ok (w0 : World) (p : Option Addr) (cap : Nat) (ls : List (List Int)) (hr : LsAt w0 p ls) (pl : Option Addr) (cl : Nat) (xs : List Int) (hx : IntsAt w0 pl xs) :
    Calls Try.prog 51 #[bv p ls.length cap, .slice pl xs.length cl] w0 (Post (X := HD) (fun h => .tuple #[gval h (opnI ls xs).length, .int .i64 (holI ls xs)]) (fun h => goI (h, opnI ls xs)) (fun h => gbI (h, opnI ls xs)) w0) := by
  refine calls Try.func51 rfl (n := 17) rfl (by simp) ?_
  refine TC.seq ?_
  refine TC.region ?_
  refine TL.box rfl rfl (by decide) (fun b0 hb0 => ?_)
  refine TL.pure (PV.assign rfl) rfl (by decide) ?_
  refine TL.pure (PV.assign rfl) rfl (by decide) ?_
  refine TL.nil ?_
  refine TQ.thenC ?_
  refine TC.seq ?_
  refine TC.seq ?_
  refine TC.region ?_
  refine TL.pure (PV.loadBox rfl Tb.agg_24 (by repeat (first | exact List.Mem.head _ | refine List.Mem.tail _ ?_ | refine List.mem_append_right _ ?_)) rfl) rfl (by decide) ?_
  refine TL.pure (PV.move rfl) rfl (by decide) ?_
  refine TL.call rfl Tb.gofn_23 (fun a w hs => checkHollow_ok w _ _ _ (hr.new hs.new) _ _ _ (hx.new hs.new)) rfl (by decide) (fun _ _ => ?_)
  refine TL.pure (PV.assign rfl) rfl (by decide) ?_
  refine TL.nil ?_
  refine TQ.thenC ?_
  refine TC.seq ?_
  refine TC.region ?_
  refine TL.pure (PV.move rfl) rfl (by decide) ?_
  refine TL.pure (PV.neq rfl rfl) rfl (by decide) ?_
  refine TL.nil ?_
  refine TQ.thenC ?_
  first | refine TC.condD rfl (fun hbad => ?_) (fun hbad => ?_) | refine TC.cond rfl (fun hbad => ?_) (fun hbad => ?_)
  · skip
    refine TC.seq ?_
    refine TC.region ?_
    refine TL.pure (PV.move rfl) rfl (by decide) ?_
    refine TL.pure (PV.assign rfl) rfl (by decide) ?_
    refine TL.pure (PV.assign rfl) rfl (by decide) ?_
    refine TL.nil ?_
    refine TQ.thenC ?_
    refine TC.ret ?_
    refine TQ.thenR ?_
    refine TQ.retE2 rfl rfl rfl ?_
    have e9 : opnI ls xs = [] := if_neg hbad
    exact ⟨none, by rw [e9]; rfl, by rw [e9]; exact ⟨rfl, rfl⟩, List.nil_sublist _⟩
  · skip
    refine TC.skip ?_
    refine TQ.thenC ?_
    refine TC.seq ?_
    have hb := (hol_nb hbad).1
    have hn := hb.vb.n
    have hl9 := hb.len
    have e9 : opnI ls xs = opN ls (pad6 xs) ls.length := if_pos (Decidable.of_not_not hbad)
    refine TC.mix [true, true, false, false, false, false] _ 4 Tb.mixed rfl (by kernel_rfl) (by kernel_rfl) (by kernel_rfl) (by kernel_rfl) (List.Sublist.refl _) ?_
    refine TB.op (SOK.pure (PV.loadBox rfl Tb.agg_24 (by repeat (first | exact List.Mem.head _ | refine List.Mem.tail _ ?_ | refine List.mem_append_right _ ?_)) rfl) rfl) (by decide) ?_
    refine TB.op (SOK.pure (PV.move rfl) rfl) (by decide) ?_
    refine TB.no ?_
    refine TB.no ?_
    refine TB.no ?_
    refine TB.no ?_
    refine TB.fin ?_
    refine TX.step [2] (by kernel_rfl) (by decide) ⟨⟨_, rfl, ?_⟩, trivial⟩
    refine TL.call rfl Tb.gofn_84 (fun a w hs => hollowOf_ok w _ _ _ (hx.new hs.new) (by omega)) rfl (by decide) (fun _ _ => ?_)
    refine TL.nil ?_
    refine TX.next (.inl (by repeat (first | exact List.Sublist.slnil | exact List.nil_sublist _ | exact List.Sublist.refl _ | refine List.Sublist.cons_cons _ ?_ | refine List.Sublist.cons _ ?_ | refine List.Sublist.trans ?_ (List.sublist_append_right _ _)))) ?_
    refine TX.step [3] (by kernel_rfl) (by decide) ⟨⟨_, rfl, ?_⟩, trivial⟩
    refine TL.call rfl Tb.gofn_86 (fun a w hs => open_ok w _ _ _ (hr.new hs.new) hn _ (pad_len (by omega))) rfl (by decide) (fun h9 hh9 => ?_)
    refine TL.nil ?_
    refine TX.next (.inl (by repeat (first | exact List.Sublist.slnil | exact List.nil_sublist _ | exact List.Sublist.refl _ | refine List.Sublist.cons_cons _ ?_ | refine List.Sublist.cons _ ?_ | refine List.Sublist.trans ?_ (List.sublist_append_right _ _)))) ?_
    refine TX.step [4] (by kernel_rfl) (by decide) ⟨⟨_, rfl, ?_⟩, trivial⟩
    refine TL.pure (PV.assign rfl) rfl (by decide) ?_
    refine TL.nil ?_
    refine TX.next (.inr (by kernel_rfl)) ?_
    refine TX.step [5] (by kernel_rfl) (by decide) ⟨⟨_, rfl, ?_⟩, trivial⟩
    refine TL.pure (PV.assign rfl) rfl (by decide) ?_
    refine TL.nil ?_
    refine TX.next (.inr (by kernel_rfl)) ?_
    refine TX.done (by kernel_rfl) ?_
    refine TQ.thenC ?_
    refine TC.ret ?_
    refine TQ.retE2 rfl rfl rfl ?_
    exact ⟨h9, by rw [e9, Decidable.of_not_not hbad], by rw [e9]; exact hh9, by rw [e9]; exact List.sublist_append_left _ _⟩

end Go.Proofs.Ytfgjojoipbbacaa
