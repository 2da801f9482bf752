/- What is left of the drains, as a list that is written in place: contracts. -/
import Derived.Test.YtnlbngbbddhgeaaQFa
set_option linter.unusedVariables false
set_option linter.unusedSimpArgs false
namespace Go.Proofs.Ytnlbngbbddhgeaa
open Go.Sx Go.RowKit

instance : Inhabited Fl.E := ⟨⟨0, 0, 0, 0⟩⟩
def rsO (l : List Fl.E) : Obj := .cells (recA (l.map e4)) 92 (0, 0)
theorem e4_len (l : List Fl.E) : ∀ r ∈ l.map e4, r.length = 4 := fun r hr => by
  obtain ⟨e, _, rfl⟩ := List.mem_map.1 hr
  rfl
theorem e4_getD {l : List Fl.E} {k : Nat} (hk : k < l.length) : (l.map e4).getD k [] = e4 (l.getD k default) := by
  simp [List.getD, hk]
theorem E4At.own {w0 w : World} {G : Heap} {b k : Nat} {l : List Fl.E} (hn : New w0 w G) (hm : (b, rsO l) ∈ G) (hk : k < l.length) : E4At w b (0 + k * 4) (l.getD k default) := fun i v hv => by
  refine hn.cell hm ?_
  have hi : i < 4 := by have := (List.getElem?_eq_some_iff.1 hv).1; exact this
  rw [Nat.zero_add]
  unfold recA
  rw [List.getElem?_toArray, flatten_get (k := 4) (e4_len l) (by rw [List.length_map]; exact hk) hi, e4_getD hk]
  exact hv
def fillG {α : Type} (f : Nat → α) (z : α) (N k : Nat) : List α := (List.range N).map fun j => if j < k then f j else z
theorem fillG_zero {α : Type} (f : Nat → α) (z : α) (N : Nat) : fillG f z N 0 = List.replicate N z := by apply List.ext_getElem <;> simp [fillG]
theorem fillG_len {α : Type} (f : Nat → α) (z : α) (N k : Nat) : (fillG f z N k).length = N := by simp [fillG]
theorem fillG_all {α : Type} (f : Nat → α) (z : α) (N : Nat) : fillG f z N N = (List.range N).map f := by
  apply List.ext_getElem
  · simp [fillG]
  · intro i h1 h2
    simp [fillG] at h1 ⊢
    intro h; omega
theorem fillG_set {α : Type} {f : Nat → α} {z : α} {N k : Nat} (h : k < N) : (fillG f z N k).set k (f k) = fillG f z N (k + 1) := by
  apply List.ext_getElem
  · simp [fillG]
  · intro j h1 h2
    simp only [fillG, List.getElem_set, List.getElem_map, List.getElem_range]
    by_cases hij : k = j
    · subst hij; simp
    · rw [if_neg hij]
      by_cases hlt : j < k
      · rw [if_pos hlt, if_pos (by omega)]
      · rw [if_neg hlt, if_neg (by omega)]
/-- The net with what runs in it. -/
def mkL (rs : List Bd) (f : Nat → Int) : List Fl.E := (List.range rs.length).map fun j => mkE (rs.getD j default) (f j)
theorem mkL_len (rs : List Bd) (f : Nat → Int) : (mkL rs f).length = rs.length := by simp [mkL]
theorem e4_mk {n s t : Int} {rs : List Bd} (h : Vd n s t rs) {k : Nat} (hk : k < rs.length) (x : Int) : e4 (mkE (rs.getD k default) x) = [.int .i64 (rs.getD k default).a, .int .i64 (rs.getD k default).b, .int .i64 (rs.getD k default).m, .int .i64 x] := by
  have := h.at hk
  have h1 : (((rs.getD k default).a.toNat : Nat) : Int) = (rs.getD k default).a := by omega
  have h2 : (((rs.getD k default).b.toNat : Nat) : Int) = (rs.getD k default).b := by omega
  simp only [e4, mkE, h1, h2]
section
variable {P : Program} {n : Nat} {w0 : World} {E : Env} {G : Heap} {ty : TypeId} {pos : String} {aft : Array Edge} {g : Option (Nat × Bool)} {ops : Array Oper} {Q : Exit → Act → World → Prop} {l : List Oper}
theorem TL.storeE {dd : Option Nat} {x y : Operand} {b j t : Nat} {L : List Fl.E} {e : Fl.E} (L' : List Fl.E) (hL : L.set j e = L') {G' : Heap} (hx : evo E x = some (.pointer (some ⟨b, 0 + j * 4, none⟩))) (hy : evo E y = some (.agg (e4 e).toArray))
    (hsz : cellsN P t = some 4) (hu : Upd b (rsO L) (rsO L') G G') (hj : j < L.length) (hg : wants ops E g = some true) (hdd : dd = none) (h : TL P n w0 ops Q l E G') : TL P n w0 ops Q (⟨dd, .store t x y, ty, pos, aft, g⟩ :: l) E G := by
  subst hL
  refine TL.storeR (rl := L.map e4) (vs := e4 e) (j := j) (e := 92) (G' := G') hx hy hsz (e4_len L) ?_ (by rw [List.length_map]; exact hj) rfl rfl hg hdd h
  rw [← List.map_set]
  exact hu
/-- What lies behind a pointer is a record of older memory. -/
theorem PV.loadE4o {d : Option Nat} {x : Operand} {b off : Nat} {t : Nat} {e : Fl.E} (hx : evo E x = some (.pointer (some ⟨b, off, none⟩))) (ht : aggSize P t = some 4) (hq : E4At w0 b off e) :
    PV P n w0 E G ⟨d, .load t x, ty, pos, aft, g⟩ (.agg (e4 e).toArray) :=
  PV.loadAggOld hx ht rfl hq
end


set_option maxRecDepth 100000 in
set_option maxHeartbeats 1000000 in
theorem restsOf_ok (w0 : World) (n s t : Int) (p : Option Addr) (cap : Nat) (rs : List Bd) (hr : BdsAt w0 p rs) (hv : Vd n s t rs) (pf : Option Addr) (cf : Nat) (fs : List Int) (hf : IntsAt w0 pf fs) (hl : fs.length = rs.length) :
    Calls Try.prog 61 #[dnV n s t p rs.length cap, .slice pf fs.length cf] w0 (Post (X := Nat) (fun b => .slice (some ⟨b, 0, none⟩) rs.length rs.length) (fun _ => True) (fun b => [(b, rsO (mkL rs fun j => fs.getD j 0))]) w0) := by
  have hlen := hv.len
  refine calls Try.func61 rfl (n := 30) rfl (by simp) ?_
  refine TC.seq ?_
  refine TC.region ?_
  refine TL.box rfl rfl (by decide) (fun b0 hb0 => ?_)
  refine TL.pure (PV.assign rfl) rfl (by decide) ?_
  refine TL.nil ?_
  refine TQ.thenC ?_
  refine TC.seq ?_
  refine TC.region ?_
  refine TL.pure (PV.move rfl) rfl (by decide) ?_
  refine TL.pure (PV.len rfl Tb.sl_25) rfl (by decide) ?_
  refine TL.makeR (zs := e4 ⟨0, 0, 0, 0⟩) (k := rs.length) rfl rfl Tb.sl_65 Tb.zi_92 rfl (by decide) (by omega) (by omega) (by omega) rfl (by decide) (fun bM hbM => ?_)
  refine TL.pure (PV.assign rfl) rfl (by decide) ?_
  refine TL.nil ?_
  refine TQ.thenC ?_
  refine TC.seq ?_
  refine TC.seq ?_
  refine TC.region ?_
  refine TL.pure (PV.fieldAddr rfl Tb.fo_24_3) rfl (by decide) ?_
  refine TL.pure (PV.load rfl Tb.one_22 (by repeat (first | exact List.Mem.head _ | refine List.Mem.tail _ ?_ | refine List.mem_append_right _ ?_)) rfl) rfl (by decide) ?_
  refine TL.pure (PV.len rfl Tb.sl_22) rfl (by decide) ?_
  refine TL.pure (PV.move rfl) rfl (by decide) ?_
  refine TL.nil ?_
  refine TQ.thenC ?_
  refine TC.block ?_
  refine TC.loopK [1, 4, 5, 12, 13] (X := Nat) (fun k => k ≤ rs.length) (fun k => [(14, .int .i64 k)]) (fun k => [(bM, rsO (fillG (fun j => mkE (rs.getD j default) (fs.getD j 0)) ⟨0, 0, 0, 0⟩ rs.length k)), (b0, Obj.cells #[.int .i64 n, .int .i64 s, .int .i64 t, .slice p rs.length cap] 24 (0, 0))]) (fun k => rs.length - k) 0 (Nat.zero_le _) (by repeat (first | exact True.intro | refine And.intro rfl ?_)) (by rw [fillG_zero]; unfold rsO; rw [List.map_replicate]; exact List.Sublist.refl _) ?_
  intro k hk
  refine TC.seq ?_
  refine TC.region ?_
  refine TL.pure (PV.lss rfl rfl) rfl (by decide) ?_
  refine TL.nil ?_
  refine TQ.thenC ?_
  refine TC.seq ?_
  first | refine TC.condD rfl (fun hlt => ?_) (fun hlt => ?_) | refine TC.cond rfl (fun hlt => ?_) (fun hlt => ?_)
  · skip
    refine TC.skip ?_
    refine TQ.thenC ?_
    refine TC.seq ?_
    refine TC.block ?_
    refine TC.seq ?_
    obtain ⟨q, hqp, hq⟩ := hr k (by omega)
    obtain ⟨qf, hfp, hfq⟩ := hf k (by omega)
    refine TC.region ?_
    refine TL.pure (PV.move rfl) rfl (by decide) ?_
    refine TL.pure (PV.indexA rfl hqp rfl Tb.elm_22 rfl (by omega)) rfl (by decide) ?_
    refine TL.pure (PV.loadAggA rfl Tb.agg_40 rfl hq) rfl (by decide) ?_
    refine TL.alloc Tb.zero_40 rfl (by decide) (fun b1 hb1 => ?_)
    refine TL.pure (PV.assign rfl) rfl (by decide) ?_
    refine TL.storeAgg rfl rfl Tb.cells_40 (by repeat (first | exact Upd.head _ | apply Upd.tail | apply Upd.appR)) rfl rfl rfl rfl rfl ?_
    refine TL.nil ?_
    refine TQ.thenC ?_
    refine TC.mixV [true, true, true, true, true, true, true, true, true, false] [(b1, Obj.cells #[.int .i64 (rs.getD k default).a, .int .i64 (rs.getD k default).b, .int .i64 (rs.getD k default).m] 40 (0, 0)), (b0, Obj.cells #[.int .i64 n, .int .i64 s, .int .i64 t, .slice p rs.length cap] 24 (0, 0))] 10 Tb.mixed rfl (by kernel_rfl) (by kernel_rfl) (by kernel_rfl) (by kernel_rfl) (by repeat (first | exact List.Sublist.slnil | exact List.nil_sublist _ | exact List.Sublist.refl _ | refine List.Sublist.cons_cons _ ?_ | refine List.Sublist.cons _ ?_ | refine List.Sublist.trans ?_ (List.sublist_append_right _ _))) ?_
    refine TV.virt 0 rfl rfl (by decide) rfl (by kernel_rfl) (SOK.pure (PV.move rfl) rfl) ?_
    refine TV.virt 1 rfl rfl (by decide) rfl (by kernel_rfl) (SOK.pure (PV.move rfl) rfl) ?_
    refine TV.virt 2 rfl rfl (by decide) rfl (by kernel_rfl) (SOK.pure (PV.loadBox rfl Tb.agg_40 (by repeat (first | exact List.Mem.head _ | refine List.Mem.tail _ ?_ | refine List.mem_append_right _ ?_)) rfl) rfl) ?_
    refine TV.virt 3 rfl rfl (by decide) rfl (by kernel_rfl) (SOK.pure (PV.move rfl) rfl) ?_
    refine TV.virt 4 rfl rfl (by decide) rfl (by kernel_rfl) (SOK.pure (PV.move rfl) rfl) ?_
    refine TV.virt 5 rfl rfl (by decide) rfl (by kernel_rfl) (SOK.pure (PV.indexA rfl hfp rfl Tb.elm_25 rfl (by omega)) rfl) ?_
    refine TV.virt 6 rfl rfl (by decide) rfl (by kernel_rfl) (SOK.pure (PV.loadOld rfl Tb.one_3 hfq) rfl) ?_
    refine TV.virt 7 rfl rfl (by decide) rfl (by kernel_rfl) (SOK.pure (PV.build rfl Tb.zero_92 Tb.pl_92 rfl) rfl) ?_
    refine TV.virt 8 rfl rfl (by decide) rfl (by kernel_rfl) (SOK.pure (PV.index rfl rfl Tb.elm_65 rfl (by omega)) rfl) ?_
    refine TV.step [9] (by kernel_rfl) (by decide) rfl ⟨⟨_, rfl, ?_⟩, trivial⟩
    refine TL.storeE (L := fillG (fun j => mkE (rs.getD j default) (fs.getD j 0)) ⟨0, 0, 0, 0⟩ rs.length k) (e := mkE (rs.getD k default) (fs.getD k 0)) (fillG (fun j => mkE (rs.getD j default) (fs.getD j 0)) ⟨0, 0, 0, 0⟩ rs.length (k + 1)) (fillG_set (f := (fun j => mkE (rs.getD j default) (fs.getD j 0))) (by omega)) rfl (by rw [e4_mk hv (by omega)]; rfl) Tb.cells_92 (by repeat (first | exact Upd.head _ | apply Upd.tail | apply Upd.appR)) (by rw [fillG_len]; omega) rfl rfl ?_
    refine TL.nil ?_
    refine TV.next (.inr (by kernel_rfl)) ?_
    refine TV.done (by kernel_rfl) ?_
    refine TQ.blkN ?_
    refine TQ.thenC ?_
    refine TC.region ?_
    refine TL.pure (PV.add rfl rfl (by omega)) rfl (by decide) ?_
    refine TL.pure (PV.move rfl) rfl (by decide) ?_
    refine TL.nil ?_
    refine TQ.thenN ?_
    refine TQ.backK (k + 1) (by repeat (first | exact True.intro | refine And.intro rfl ?_)) (by repeat (first | exact True.intro | refine And.intro rfl ?_)) (by repeat (first | exact List.Sublist.slnil | exact List.nil_sublist _ | exact List.Sublist.refl _ | refine List.Sublist.cons_cons _ ?_ | refine List.Sublist.cons _ ?_ | refine List.Sublist.trans ?_ (List.sublist_append_right _ _))) (by omega) (by omega)
  · skip
    refine TC.exit ?_
    refine TQ.thenE ?_
    refine TQ.thenE ?_
    refine TQ.blkS ?_
    refine TQ.thenC ?_
    refine TC.seq ?_
    have hke : k = rs.length := by omega
    refine TC.region ?_
    refine TL.pure (PV.move rfl) rfl (by decide) ?_
    refine TL.pure (PV.assign rfl) rfl (by decide) ?_
    refine TL.nil ?_
    refine TQ.thenC ?_
    refine TC.ret ?_
    refine TQ.retE1 rfl rfl ?_
    exact ⟨bM, rfl, trivial, by rw [hke, fillG_all]; exact List.Sublist.cons_cons _ (List.nil_sublist _)⟩

end Go.Proofs.Ytnlbngbbddhgeaa
