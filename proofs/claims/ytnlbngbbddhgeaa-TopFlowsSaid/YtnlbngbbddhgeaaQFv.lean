/- What is told of a net that is not valid, and laws of flows and cuts: contracts. -/
import Derived.Test.YtnlbngbbddhgeaaQFu
set_option linter.unusedVariables false
set_option linter.unusedSimpArgs false
namespace Go.Proofs.Ytnlbngbbddhgeaa
open Go.Sx Go.RowKit


theorem nsplit {n s t : Int} {rs : List Bd} (h : dI n s t rs = 0) : ∃ n' s' t' : Nat, n = n' ∧ s = s' ∧ t = t' := by
  have hv := dI_is h
  exact ⟨n.toNat, s.toNat, t.toNat, by have := hv.n1; omega, by have := hv.s0; omega, by have := hv.t0; omega⟩
theorem Flow_i {w0 : World} {n s t : Nat} {p : Option Addr} {cap : Nat} {rs : List Bd} (hr : BdsAt w0 p rs) (hv : Vd n s t rs) :
    Calls Try.prog 24 #[dnV n s t p rs.length cap] w0 (Post (X := Nat × List Fl.E) (fun x => .tuple #[.slice (some ⟨x.1, 0, none⟩) rs.length rs.length, .int .i64 0]) (fun x => Mx n s t rs x.2 ∧ cfV n s t rs (x.2.map (·.r)) = (Fl.mw s t (dr0 rs), 0) ∧ (x.2.map (·.r)).length = rs.length) (fun x => [(x.1, Obj.cells (intsA (x.2.map (·.r))) 3 (0, 0))]) w0) :=
  (Flow_v w0 n s t p cap rs hr hv hv.dI).mono fun e w' ⟨x, h1, h2, h3⟩ => ⟨x, h1, ⟨h2.1, by rw [h2.1.cfv, h2.1.mw h2.2], by rw [List.length_map]; exact h2.1.len⟩, h3⟩
theorem PV.neqI {P : Program} {n : Nat} {w0 : World} {E : Env} {G : Heap} {d : Option Nat} {ty : TypeId} {pos : String} {aft : Array Edge} {g : Option (Nat × Bool)} {x y : Operand} {i : Int} {t t' : TypeId} (hx : evo E x = some (.int .i64 i)) (hy : evo E y = some (.int .i64 i)) : PV P n w0 E G ⟨d, .binOp .neq t x y t', ty, pos, aft, g⟩ (.bool false) := by
  have := PV.neq (P := P) (n := n) (w0 := w0) (G := G) (d := d) (t := t) (t' := t') (ty := ty) (pos := pos) (aft := aft) (g := g) hx hy
  rwa [decide_eq_false (fun h => h rfl)] at this
/-- A flow that is told is at most the most. -/
theorem cfV_flow {n s t : Nat} {rs : List Bd} (hv : Vd n s t rs) {fs : List Int} (h : (cfV n s t rs fs).2 = 0) : Fl.Flow n s t (cfL rs fs) ∧ (cfV n s t rs fs).1 = Fl.out s (cfL rs fs) := by
  unfold cfV at h ⊢
  split at h
  · exact absurd h (by decide)
  · rename_i h1
    split at h
    · rename_i h2
      split at h
      · rename_i h3
        rw [if_neg h1, if_pos h2, if_pos h3]
        refine ⟨⟨hv.w1.sn, hv.w1.tn, fun e he => ?_, fun e he => ?_, fun u hu h4 h5 => ?_⟩, rfl⟩
        · obtain ⟨k, hk, rfl⟩ := mkL_mem he
          have := hv.at hk
          simp only [mkE]; omega
        · obtain ⟨k, hk, rfl⟩ := mkL_mem he
          have := of_decide_eq_true (all_get h2 hk)
          simp only [mkE]; omega
        · have := of_decide_eq_true (all_get h3 hu)
          omega
      · exact absurd h (by decide)
    · exact absurd h (by decide)
set_option maxRecDepth 100000 in
theorem Long_ok (w0 : World) (x0 x1 x2 : Value) (p : Option Addr) (K c : Nat) :
    Calls Try.prog 16 #[.agg #[x0, x1, x2, .slice p K c]] w0 (Post (X := Unit) (fun _ => .bool (decide (100 < (K : Int)))) (fun _ => True) (fun _ => []) w0) := by
  refine calls Try.func16 rfl (n := 7) rfl (by simp) ?_
  refine TC.seq ?_
  refine TC.region ?_
  refine TL.box rfl rfl (by decide) (fun b0 hb0 => ?_)
  refine TL.pure (PV.assign rfl) rfl (by decide) ?_
  refine TL.nil ?_
  refine TQ.thenC ?_
  refine TC.seq ?_
  refine TC.region ?_
  refine TL.pure (PV.fieldAddr rfl Tb.fo_24_3) rfl (by decide) ?_
  refine TL.pure (PV.load rfl Tb.one_22 (by repeat (first | exact List.Mem.head _ | refine List.Mem.tail _ ?_ | refine List.mem_append_right _ ?_)) rfl) rfl (by decide) ?_
  refine TL.pure (PV.len rfl Tb.sl_22) rfl (by decide) ?_
  refine TL.pure (PV.gtr rfl rfl) rfl (by decide) ?_
  refine TL.pure (PV.assign rfl) rfl (by decide) ?_
  refine TL.nil ?_
  refine TQ.thenC ?_
  refine TC.ret ?_
  refine TQ.retE1 rfl rfl ?_
  exact ⟨(), rfl, trivial, List.nil_sublist _⟩

set_option maxRecDepth 100000 in
theorem Flow_n (w0 : World) (n s t : Int) (p : Option Addr) (cap : Nat) (rs : List Bd) (hr : BdsAt w0 p rs) (hd0 : dI n s t rs ≠ 0) :
    Calls Try.prog 24 #[dnV n s t p rs.length cap] w0 (Post (X := Unit) (fun _ => .tuple #[.slice none 0 0, .int .i64 (dI n s t rs)]) (fun _ => True) (fun _ => []) w0) := by
  refine calls Try.func24 rfl (n := 35) rfl (by simp) ?_
  refine TC.seq ?_
  refine TC.region ?_
  refine TL.box rfl rfl (by decide) (fun b0 hb0 => ?_)
  refine TL.pure (PV.assign rfl) rfl (by decide) ?_
  refine TL.pure (PV.assign rfl) rfl (by decide) ?_
  refine TL.nil ?_
  refine TQ.thenC ?_
  refine TC.seq ?_
  refine TC.seq ?_
  refine TC.region ?_
  refine TL.pure (PV.loadBox rfl Tb.agg_24 (by repeat (first | exact List.Mem.head _ | refine List.Mem.tail _ ?_ | refine List.mem_append_right _ ?_)) rfl) rfl (by decide) ?_
  refine TL.call rfl Tb.gofn_20 (fun a w hs => validate_ok w n s t p cap rs (hr.new hs.new)) rfl (by decide) (fun _ _ => ?_)
  refine TL.pure (PV.assign rfl) rfl (by decide) ?_
  refine TL.nil ?_
  refine TQ.thenC ?_
  refine TC.seq ?_
  refine TC.region ?_
  refine TL.pure (PV.move rfl) rfl (by decide) ?_
  refine TL.pure (PV.neq rfl rfl) rfl (by decide) ?_
  refine TL.nil ?_
  refine TQ.thenC ?_
  first | refine TC.condD rfl (fun hv9 => ?_) (fun hv9 => ?_) | refine TC.cond rfl (fun hv9 => ?_) (fun hv9 => ?_)
  · skip
    refine TC.seq ?_
    refine TC.region ?_
    refine TL.pure (PV.move rfl) rfl (by decide) ?_
    refine TL.pure (PV.assign rfl) rfl (by decide) ?_
    refine TL.pure (PV.assign rfl) rfl (by decide) ?_
    refine TL.nil ?_
    refine TQ.thenC ?_
    refine TC.ret ?_
    refine TQ.thenR ?_
    refine TQ.retE2 rfl rfl rfl ?_
    first | exact ⟨(), rfl, trivial, List.nil_sublist _⟩ | exact ⟨(), trivial, trivial, List.nil_sublist _⟩
  · skip
    exact absurd hd0 hv9

end Go.Proofs.Ytnlbngbbddhgeaa
