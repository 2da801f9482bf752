/- A search anew, and the closure that finds a way: contracts. -/
import Derived.Test.YtnlbngbbddhgeaaQFf
import Derived.Test.YtnlbngbbddhgeaaQDf
set_option linter.unusedVariables false
set_option linter.unusedSimpArgs false
namespace Go.Proofs.Ytnlbngbbddhgeaa
open Go.Sx Go.RowKit

theorem un_rep (N : Nat) : un (List.replicate N false) = N := by simp [un]
theorem sn_rep (N v : Nat) : sn (List.replicate N false) v = false := by
  unfold sn
  rw [List.getD_eq_getElem?_getD, List.getElem?_replicate]
  split <;> rfl
theorem Pth.start {L : List Fl.E} {N s : Nat} : Pth L s [] s 20 (List.replicate N false) :=
  ⟨rfl, by omega, fun j hj => by simp at hj, by rw [un_rep, List.length_replicate]; simp⟩


set_option maxRecDepth 100000 in
theorem newSearch_ok (w0 : World) (N : Nat) (x1 x2 x3 : Value) (pR : Option Addr) (lR cR : Nat) (g : Int) (hN8 : N ≤ 8) :
    Calls Try.prog 64 #[.agg #[.int .i64 (N : Nat), x1, x2, x3], .slice pR lR cR, .int .i64 g] w0 (Post (X := Nat) (fun b => .agg #[.slice pR lR cR, .int .i64 g, .slice (some ⟨b, 0, none⟩) N N]) (fun _ => True) (fun b => [(b, Obj.cells (boolsA (List.replicate N false)) 4 (0, 0))]) w0) := by
  refine calls Try.func64 rfl (n := 13) rfl (by simp) ?_
  refine TC.seq ?_
  refine TC.region ?_
  refine TL.box rfl rfl (by decide) (fun b0 hb0 => ?_)
  refine TL.alloc Tb.zero_72 rfl (by decide) (fun b1 hb1 => ?_)
  refine TL.nil ?_
  refine TQ.thenC ?_
  refine TC.seq ?_
  refine TC.region ?_
  refine TL.pure (PV.move rfl) rfl (by decide) ?_
  refine TL.pure (PV.move rfl) rfl (by decide) ?_
  refine TL.pure (PV.fieldAddr rfl Tb.fo_24_0) rfl (by decide) ?_
  refine TL.pure (PV.load rfl Tb.one_3 (by repeat (first | exact List.Mem.head _ | refine List.Mem.tail _ ?_ | refine List.mem_append_right _ ?_)) rfl) rfl (by decide) ?_
  refine TL.makeB (k := N) rfl rfl Tb.sl_70 Tb.zi_4 rfl (by omega) (by omega) rfl (by decide) (fun bM hbM => ?_)
  refine TL.pure (PV.build rfl Tb.zero_72 Tb.pl_72 rfl) rfl (by decide) ?_
  refine TL.storeAgg rfl rfl Tb.cells_72 (by repeat (first | exact Upd.head _ | apply Upd.tail | apply Upd.appR)) rfl rfl rfl rfl rfl ?_
  refine TL.nil ?_
  refine TQ.thenC ?_
  refine TC.ret ?_
  refine TQ.retR rfl (Res.agg rfl Tb.agg_72 (by repeat (first | exact List.Mem.head _ | refine List.Mem.tail _ ?_ | refine List.mem_append_right _ ?_)) rfl Res.nil) ?_
  simp only [tup]
  exact ⟨bM, rfl, trivial, (by repeat (first | exact List.Sublist.slnil | exact List.nil_sublist _ | exact List.Sublist.refl _ | refine List.Sublist.cons_cons _ ?_ | refine List.Sublist.cons _ ?_ | refine List.Sublist.trans ?_ (List.sublist_append_right _ _)))⟩

end Go.Proofs.Ytnlbngbbddhgeaa
