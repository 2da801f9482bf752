/- What runs, as a list; a flow that is as great as can be: contracts. -/
import Derived.Test.YtnlbngbbddhgeaaQFh
set_option linter.unusedVariables false
set_option linter.unusedSimpArgs false
namespace Go.Proofs.Ytnlbngbbddhgeaa
open Go.Sx Go.RowKit

def RsAt (w : World) (b : Nat) (L : List Fl.E) : Prop := ∀ k, k < L.length → E4At w b (0 + k * 4) (L.getD k default)
theorem RsAt.own {w0 w : World} {G : Heap} {b : Nat} {L : List Fl.E} (hn : New w0 w G) (hm : (b, rsO L) ∈ G) : RsAt w b L := fun k hk => E4At.own hn hm hk
section
variable {P : Program} {n : Nat} {w0 : World} {E : Env} {G : Heap} {ty : TypeId} {pos : String} {aft : Array Edge} {g : Option (Nat × Bool)} {ops : Array Oper} {Q : Exit → Act → World → Prop} {l : List Oper}
theorem TL.storeIo {dd : Option Nat} {x y : Operand} {b off t : Nat} {xs : List Int} {e : TypeId} {v : Int} {G' : Heap} (j : Nat) (xs' : List Int) (hxs : xs.set j v = xs') (hx : evo E x = some (.pointer (some ⟨b, off, none⟩))) (ho : off = j) (hy : evo E y = some (.int .i64 v))
    (hsz : cellsN P t = some 1) (hu : Upd b (.cells (intsA xs) e (0, 0)) (.cells (intsA xs') e (0, 0)) G G') (hlt : j < xs.length)
    (hg : wants ops E g = some true) (hdd : dd = none) (h : TL P n w0 ops Q l E G') : TL P n w0 ops Q (⟨dd, .store t x y, ty, pos, aft, g⟩ :: l) E G := by
  subst ho; subst hxs; exact TL.storeI hx hy hsz hu hlt hg hdd h
end
theorem map_r (L : List Fl.E) : (List.range L.length).map (fun j => (L.getD j default).r) = L.map (·.r) := by
  apply List.ext_getElem
  · simp
  · intro i h1 h2
    simp at h1
    simp [List.getD, h1]


set_option maxRecDepth 100000 in
set_option maxHeartbeats 1000000 in
theorem amounts_ok (w0 : World) (b cl : Nat) (L : List Fl.E) (hq : RsAt w0 b L) (hl : L.length ≤ 100) :
    Calls Try.prog 67 #[.slice (some ⟨b, 0, none⟩) L.length cl] w0 (Post (X := Nat) (fun x => .slice (some ⟨x, 0, none⟩) L.length L.length) (fun _ => True) (fun x => [(x, Obj.cells (intsA (L.map (·.r))) 3 (0, 0))]) w0) := by
  refine calls Try.func67 rfl (n := 23) rfl (by simp) ?_
  refine TC.seq ?_
  refine TC.region ?_
  refine TL.pure (PV.assign rfl) rfl (by decide) ?_
  refine TL.nil ?_
  refine TQ.thenC ?_
  refine TC.seq ?_
  refine TC.region ?_
  refine TL.pure (PV.move rfl) rfl (by decide) ?_
  refine TL.pure (PV.len rfl Tb.sl_65) rfl (by decide) ?_
  refine TL.makeI (k := L.length) rfl rfl Tb.sl_25 Tb.zi_3 rfl (by omega) (by omega) rfl (by decide) (fun bM hbM => ?_)
  refine TL.pure (PV.assign rfl) rfl (by decide) ?_
  refine TL.nil ?_
  refine TQ.thenC ?_
  refine TC.seq ?_
  refine TC.seq ?_
  refine TC.region ?_
  refine TL.pure (PV.move rfl) rfl (by decide) ?_
  refine TL.pure (PV.len rfl Tb.sl_65) rfl (by decide) ?_
  refine TL.pure (PV.move rfl) rfl (by decide) ?_
  refine TL.nil ?_
  refine TQ.thenC ?_
  refine TC.block ?_
  refine TC.loopK [2, 3, 9, 10] (X := Nat) (fun k => k ≤ L.length) (fun k => [(11, .int .i64 k)]) (fun k => [(bM, Obj.cells (intsA (fillG (fun j => (L.getD j default).r) 0 L.length k)) 3 (0, 0))]) (fun k => L.length - k) 0 (Nat.zero_le _) (by repeat (first | exact True.intro | refine And.intro rfl ?_)) (by rw [fillG_zero]; exact List.Sublist.refl _) ?_
  intro k hk
  refine TC.seq ?_
  refine TC.region ?_
  refine TL.pure (PV.lss rfl rfl) rfl (by decide) ?_
  refine TL.nil ?_
  refine TQ.thenC ?_
  refine TC.seq ?_
  first | refine TC.condD rfl (fun hlt => ?_) (fun hlt => ?_) | refine TC.cond rfl (fun hlt => ?_) (fun hlt => ?_)
  · skip
    refine TC.skip ?_
    refine TQ.thenC ?_
    refine TC.seq ?_
    refine TC.block ?_
    refine TC.seq ?_
    refine TC.region ?_
    refine TL.pure (PV.move rfl) rfl (by decide) ?_
    refine TL.pure (PV.index (j := k) rfl rfl Tb.elm_65 rfl (by omega)) rfl (by decide) ?_
    refine TL.pure (PV.loadE4o rfl Tb.agg_92 (hq k (by omega))) rfl (by decide) ?_
    refine TL.alloc Tb.zero_92 rfl (by decide) (fun b0 hb0 => ?_)
    refine TL.pure (PV.assign rfl) rfl (by decide) ?_
    refine TL.storeAgg rfl rfl Tb.cells_92 (by repeat (first | exact Upd.head _ | apply Upd.tail | apply Upd.appR)) rfl rfl rfl rfl rfl ?_
    refine TL.nil ?_
    refine TQ.thenC ?_
    refine TC.region ?_
    refine TL.pure (PV.move rfl) rfl (by decide) ?_
    refine TL.pure (PV.move rfl) rfl (by decide) ?_
    refine TL.pure (PV.fieldAddr rfl Tb.fo_92_1) rfl (by decide) ?_
    refine TL.pure (PV.load rfl Tb.one_3 (by repeat (first | exact List.Mem.head _ | refine List.Mem.tail _ ?_ | refine List.mem_append_right _ ?_)) rfl) rfl (by decide) ?_
    refine TL.pure (PV.index (j := k) rfl rfl Tb.elm_25 rfl (by omega)) rfl (by decide) ?_
    refine TL.storeIo (xs := fillG (fun j => (L.getD j default).r) 0 L.length k) k (fillG (fun j => (L.getD j default).r) 0 L.length (k + 1)) (fillG_set (f := (fun j => (L.getD j default).r)) (by omega)) rfl (off1 _) rfl Tb.cells_3 (by repeat (first | exact Upd.head _ | apply Upd.tail | apply Upd.appR)) (by rw [fillG_len]; omega) rfl rfl ?_
    refine TL.nil ?_
    refine TQ.blkN ?_
    refine TQ.thenC ?_
    refine TC.region ?_
    refine TL.pure (PV.add rfl rfl (by omega)) rfl (by decide) ?_
    refine TL.pure (PV.move rfl) rfl (by decide) ?_
    refine TL.nil ?_
    refine TQ.thenN ?_
    refine TQ.backK (k + 1) (by repeat (first | exact True.intro | refine And.intro rfl ?_)) (by repeat (first | exact True.intro | refine And.intro rfl ?_)) (by repeat (first | exact List.Sublist.slnil | exact List.nil_sublist _ | exact List.Sublist.refl _ | refine List.Sublist.cons_cons _ ?_ | refine List.Sublist.cons _ ?_ | refine List.Sublist.trans ?_ (List.sublist_append_right _ _))) (by omega) (by omega)
  · skip
    refine TC.exit ?_
    refine TQ.thenE ?_
    refine TQ.thenE ?_
    refine TQ.blkS ?_
    refine TQ.thenC ?_
    refine TC.seq ?_
    have hke : k = L.length := by omega
    refine TC.region ?_
    refine TL.pure (PV.move rfl) rfl (by decide) ?_
    refine TL.pure (PV.assign rfl) rfl (by decide) ?_
    refine TL.nil ?_
    refine TQ.thenC ?_
    refine TC.ret ?_
    refine TQ.retE1 rfl rfl ?_
    exact ⟨bM, rfl, trivial, by rw [hke, fillG_all, map_r]; exact List.Sublist.refl _⟩

end Go.Proofs.Ytnlbngbbddhgeaa
