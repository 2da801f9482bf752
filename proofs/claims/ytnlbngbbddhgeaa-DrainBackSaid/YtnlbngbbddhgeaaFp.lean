/- What the laws know of their example: contracts. -/
import Derived.Test.YtnlbngbbddhgeaaFo
set_option linter.unusedVariables false
set_option linter.unusedSimpArgs false
namespace Go.Proofs.Ytnlbngbbddhgeaa
open Go.Sx Go.RowKit

def exL : List Bd := [⟨0, 1, 3⟩, ⟨0, 1, 4⟩, ⟨1, 2, 5⟩]
theorem exV : Vd 3 0 2 exL := dI_is (by decide)
theorem cut_dr {n s t : Nat} {rs : List Bd} {L : List Fl.E} (h : Mx n s t rs L) (S : Nat → Bool) : Fl.cutW S L = Fl.cutW S (dr0 rs) := by
  have hl := h.len
  refine Fl.cutW_same S (by rw [mkL_len]; exact hl) fun k h1 h2 => ?_
  have h3 := h.same k (by omega)
  rw [getD_get h1] at h3
  have h4 : (dr0 rs)[k] = mkE (rs.getD k default) 0 := by simp [dr0, mkL]
  rw [h4]; exact h3
theorem exCut (S : Nat → Bool) (h0 : S 0 = true) (h2 : S 2 = false) : Fl.cutW S (dr0 exL) = if S 1 = true then 5 else 7 := by
  have : dr0 exL = [⟨0, 1, 3, 0⟩, ⟨0, 1, 4, 0⟩, ⟨1, 2, 5, 0⟩] := rfl
  rw [this]
  simp only [Fl.cutW, h0, h2]
  cases S 1 <;> simp
theorem exMost {L : List Fl.E} (h : Mx 3 0 2 exL L) (hs : Shut L 3 0 2) : Fl.out 0 L = 5 := by
  obtain ⟨⟨S, h1, h2, h3⟩, h4⟩ := h.most hs
  have h5 := h4 (fun v => decide (v ≤ 1)) (by decide) (by decide)
  rw [cut_dr h, exCut _ (by decide) (by decide)] at h5
  rw [cut_dr h, exCut S h1 h2] at h3
  have h6 : Fl.out 0 L ≤ 5 := h5
  split at h3 <;> omega
theorem exAt {w0 w : World} {G : Heap} {b : Nat} (hn : New w0 w G) (hm : (b, Obj.cells #[.int .i64 0, .int .i64 1, .int .i64 3, .int .i64 0, .int .i64 1, .int .i64 4, .int .i64 1, .int .i64 2, .int .i64 5] 40 (0, 0)) ∈ G) : BdsAt w (some ⟨b, 0, none⟩) exL := fun j hj => by
  refine ⟨⟨b, 0, none⟩, rfl, fun i v hv => ?_⟩
  rw [addr_add_add, add_off, Nat.zero_add]
  have hi : i < 3 := (List.getElem?_eq_some_iff.1 hv).1
  have hj3 : j < 3 := hj
  refine hn.cell hm ?_
  match j, i, hj3, hi with
  | 0, 0, _, _ => exact hv
  | 0, 1, _, _ => exact hv
  | 0, 2, _, _ => exact hv
  | 1, 0, _, _ => exact hv
  | 1, 1, _, _ => exact hv
  | 1, 2, _, _ => exact hv
  | 2, 0, _, _ => exact hv
  | 2, 1, _, _ => exact hv
  | 2, 2, _, _ => exact hv
theorem Most_x {w0 w : World} {G : Heap} {b : Nat} (hn : New w0 w G) (hm : (b, Obj.cells #[.int .i64 0, .int .i64 1, .int .i64 3, .int .i64 0, .int .i64 1, .int .i64 4, .int .i64 1, .int .i64 2, .int .i64 5] 40 (0, 0)) ∈ G) :
    Calls Try.prog 22 #[.agg #[.int .i64 3, .int .i64 0, .int .i64 2, .slice (some ⟨b, 0, none⟩) 3 3]] w (Post (X := Unit) (fun _ => .tuple #[.int .i64 5, .int .i64 0]) (fun _ => True) (fun _ => []) w) :=
  (Most_v w 3 0 2 (some ⟨b, 0, none⟩) 3 exL (exAt hn hm) exV (by decide)).mono fun e w' ⟨L, h1, h2, h3⟩ => ⟨(), by rw [h1]; show Ending.returned (.tuple #[.int .i64 (Fl.out 0 L), .int .i64 0]) = _; rw [exMost h2.1 h2.2], trivial, h3⟩
theorem Across_x {w0 w : World} {G : Heap} {b b2 : Nat} (hn : New w0 w G) (hm : (b, Obj.cells #[.int .i64 0, .int .i64 1, .int .i64 3, .int .i64 0, .int .i64 1, .int .i64 4, .int .i64 1, .int .i64 2, .int .i64 5] 40 (0, 0)) ∈ G) (hm2 : (b2, Obj.cells (intsA [0]) 3 (0, 0)) ∈ G) :
    Calls Try.prog 25 #[.agg #[.int .i64 3, .int .i64 0, .int .i64 2, .slice (some ⟨b, 0, none⟩) 3 3], .slice (some ⟨b2, 0, none⟩) 1 1] w (Post (X := Unit) (fun _ => .tuple #[.int .i64 7, .int .i64 0]) (fun _ => True) (fun _ => []) w) :=
  (Across_v w 3 0 2 (some ⟨b, 0, none⟩) 3 exL (exAt hn hm) exV (by decide) (some ⟨b2, 0, none⟩) 1 [0] (IntsAt.arr hn hm2) (by decide)).mono fun e w' ⟨_, h1, h2, h3⟩ => ⟨(), by rw [h1, if_pos (by decide), if_pos (by decide), exCut _ (by decide) (by decide)]; rfl, trivial, h3⟩
section
variable {P : Program} {n : Nat} {w0 : World} {E : Env} {G : Heap} {d : Option Nat} {ty : TypeId} {pos : String} {aft : Array Edge} {g : Option (Nat × Bool)} {x y : Operand} {i : Int} {t t' : TypeId}
theorem PV.eqlI (hx : evo E x = some (.int .i64 i)) (hy : evo E y = some (.int .i64 i)) : PV P n w0 E G ⟨d, .binOp .eql t x y t', ty, pos, aft, g⟩ (.bool true) := by
  have := PV.eql (P := P) (n := n) (w0 := w0) (G := G) (d := d) (t := t) (t' := t') (ty := ty) (pos := pos) (aft := aft) (g := g) hx hy
  rwa [decide_eq_true rfl] at this
end


set_option maxRecDepth 100000 in
theorem example_ok (w0 : World) :
    Calls Try.prog 55 #[] w0 (Post (X := Nat) (fun b => .agg #[.int .i64 3, .int .i64 0, .int .i64 2, .slice (some ⟨b, 0, none⟩) 3 3]) (fun _ => True) (fun b => [(b, Obj.cells #[.int .i64 0, .int .i64 1, .int .i64 3, .int .i64 0, .int .i64 1, .int .i64 4, .int .i64 1, .int .i64 2, .int .i64 5] 40 (0, 0))]) w0) := by
  refine calls Try.func55 rfl (n := 6) rfl (by simp) ?_
  refine TC.seq ?_
  refine TC.region ?_
  refine TL.alloc Tb.zero_24 rfl (by decide) (fun b0 hb0 => ?_)
  refine TL.nil ?_
  refine TQ.thenC ?_
  refine TC.seq ?_
  refine TC.region ?_
  refine TL.pure (PV.build rfl Tb.zero_40 Tb.pl_40 rfl) rfl (by decide) ?_
  refine TL.pure (PV.build rfl Tb.zero_40 Tb.pl_40 rfl) rfl (by decide) ?_
  refine TL.pure (PV.build rfl Tb.zero_40 Tb.pl_40 rfl) rfl (by decide) ?_
  refine TL.buildSlice (cs := #[.int .i64 0, .int .i64 1, .int .i64 3, .int .i64 0, .int .i64 1, .int .i64 4, .int .i64 1, .int .i64 2, .int .i64 5]) rfl Tb.sl_22 Tb.zi_40 (by decide) (by kernel_rfl) (by decide) rfl (by decide) (fun bE hbE => ?_)
  refine TL.pure (PV.build rfl Tb.zero_24 Tb.pl_24 rfl) rfl (by decide) ?_
  refine TL.storeAgg rfl rfl Tb.cells_24 (by repeat (first | exact Upd.head _ | apply Upd.tail | apply Upd.appR)) rfl rfl (by first | rfl | exact sv_one _ _ _) rfl rfl ?_
  refine TL.nil ?_
  refine TQ.thenC ?_
  refine TC.ret ?_
  refine TQ.retR rfl (Res.agg rfl Tb.agg_24 (by repeat (first | exact List.Mem.head _ | refine List.Mem.tail _ ?_ | refine List.mem_append_right _ ?_)) rfl Res.nil) ?_
  simp only [tup]
  exact ⟨bE, rfl, trivial, (by repeat (first | exact List.Sublist.slnil | exact List.nil_sublist _ | exact List.Sublist.refl _ | refine List.Sublist.cons_cons _ ?_ | refine List.Sublist.cons _ ?_ | refine List.Sublist.trans ?_ (List.sublist_append_right _ _)))⟩

set_option maxRecDepth 100000 in
theorem known_ok (w0 : World) :
    Calls Try.prog 17 #[] w0 (Post (X := Unit) (fun _ => .bool true) (fun _ => True) (fun _ => []) w0) := by
  refine calls Try.func17 rfl (n := 30) rfl (by simp) ?_
  refine TC.seq ?_
  refine TC.region ?_
  refine TL.pure (PV.assign rfl) rfl (by decide) ?_
  refine TL.nil ?_
  refine TQ.thenC ?_
  refine TC.seq ?_
  refine TC.region ?_
  refine TL.call rfl Tb.gofn_55 (fun a w hs => example_ok w) rfl (by decide) (fun bA _ => ?_)
  refine TL.call rfl Tb.gofn_22 (fun a w hs => Most_x hs.new (by repeat (first | exact List.Mem.head _ | refine List.Mem.tail _ ?_ | refine List.mem_append_right _ ?_))) rfl (by decide) (fun _ _ => ?_)
  refine TL.pure (PV.move rfl) rfl (by decide) ?_
  refine TL.pure (PV.extract rfl rfl) rfl (by decide) ?_
  refine TL.pure (PV.extract rfl rfl) rfl (by decide) ?_
  refine TL.pure (PV.assign rfl) rfl (by decide) ?_
  refine TL.pure (PV.assign rfl) rfl (by decide) ?_
  refine TL.nil ?_
  refine TQ.thenC ?_
  refine TC.seq ?_
  refine TC.region ?_
  refine TL.call rfl Tb.gofn_55 (fun a w hs => example_ok w) rfl (by decide) (fun bB _ => ?_)
  refine TL.buildSlice (cs := intsA [0]) rfl Tb.sl_25 Tb.zi_3 (by decide) (by kernel_rfl) (by decide) rfl (by decide) (fun bE hbE => ?_)
  refine TL.call rfl Tb.gofn_25 (fun a w hs => Across_x hs.new (by repeat (first | exact List.Mem.head _ | refine List.Mem.tail _ ?_ | refine List.mem_append_right _ ?_)) (by repeat (first | exact List.Mem.head _ | refine List.Mem.tail _ ?_ | refine List.mem_append_right _ ?_))) rfl (by decide) (fun _ _ => ?_)
  refine TL.pure (PV.move rfl) rfl (by decide) ?_
  refine TL.pure (PV.extract rfl rfl) rfl (by decide) ?_
  refine TL.pure (PV.extract rfl rfl) rfl (by decide) ?_
  refine TL.pure (PV.assign rfl) rfl (by decide) ?_
  refine TL.pure (PV.assign rfl) rfl (by decide) ?_
  refine TL.nil ?_
  refine TQ.thenC ?_
  refine TC.seq ?_
  refine TC.region ?_
  refine TL.pure (PV.move rfl) rfl (by decide) ?_
  refine TL.pure (PV.eqlI rfl rfl) rfl (by decide) ?_
  refine TL.pure (PV.move rfl) rfl (by decide) ?_
  refine TL.pure (PV.move rfl) rfl (by decide) ?_
  refine TL.pure (PV.eqlI rfl rfl) rfl (by decide) ?_
  refine TL.pure (PV.pickT rfl rfl) rfl (by decide) ?_
  refine TL.pure (PV.move rfl) rfl (by decide) ?_
  refine TL.pure (PV.move rfl) rfl (by decide) ?_
  refine TL.pure (PV.eqlI rfl rfl) rfl (by decide) ?_
  refine TL.pure (PV.pickT rfl rfl) rfl (by decide) ?_
  refine TL.pure (PV.move rfl) rfl (by decide) ?_
  refine TL.pure (PV.move rfl) rfl (by decide) ?_
  refine TL.pure (PV.eqlI rfl rfl) rfl (by decide) ?_
  refine TL.pure (PV.pickT rfl rfl) rfl (by decide) ?_
  refine TL.pure (PV.assign rfl) rfl (by decide) ?_
  refine TL.nil ?_
  refine TQ.thenC ?_
  refine TC.ret ?_
  refine TQ.retE1 rfl rfl ?_
  exact ⟨(), rfl, trivial, List.nil_sublist _⟩

end Go.Proofs.Ytnlbngbbddhgeaa
