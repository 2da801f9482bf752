/- What goes out of each node: contract. -/
import Derived.Test.YtnlbngbbddhgeaaQFj
set_option linter.unusedVariables false
set_option linter.unusedSimpArgs false
namespace Go.Proofs.Ytnlbngbbddhgeaa
open Go.Sx Go.RowKit

theorem out_snoc (u : Nat) (e : Fl.E) : ∀ l : List Fl.E, Fl.out u (l ++ [e]) = Fl.out u l + ((if e.f = u then e.r else 0) - (if e.t = u then e.r else 0))
  | [] => by simp only [List.nil_append, Fl.out]; omega
  | x :: l => by simp only [List.cons_append, Fl.out, out_snoc u e l]; omega
def outL (n : Nat) (l : List Fl.E) : List Int := (List.range n).map fun u => Fl.out u l
theorem outL_len (n : Nat) (l : List Fl.E) : (outL n l).length = n := by simp [outL]
theorem outL_get {n u : Nat} {l : List Fl.E} (h : u < n) : (outL n l).getD u 0 = Fl.out u l := by simp [outL, List.getD, h]
theorem outL_nil (n : Nat) : outL n [] = List.replicate n 0 := by
  apply List.ext_getElem
  · simp [outL]
  · intro i h1 h2; simp [outL, Fl.out]
theorem outL_step {n : Nat} {l : List Fl.E} {e : Fl.E} (hf : e.f < n) (ht : e.t < n) (hne : e.f ≠ e.t) : ((outL n l).set e.f (Fl.out e.f l + e.r)).set e.t (Fl.out e.t l - e.r) = outL n (l ++ [e]) := by
  apply List.ext_getElem
  · simp [outL]
  · intro i h1 h2
    simp only [outL, List.getElem_set, List.getElem_map, List.getElem_range, out_snoc]
    by_cases e1 : e.t = i
    · subst e1; rw [if_pos rfl, if_neg hne, if_pos rfl]; omega
    · rw [if_neg e1]
      by_cases e2 : e.f = i
      · subst e2; rw [if_pos rfl, if_pos rfl, if_neg e1]; omega
      · rw [if_neg e2, if_neg e2, if_neg e1]; omega
theorem out_bd {u : Nat} : ∀ {l : List Fl.E}, (∀ e ∈ l, 0 ≤ e.r ∧ e.r ≤ 20) → -(20 * (l.length : Int)) ≤ Fl.out u l ∧ Fl.out u l ≤ 20 * (l.length : Int)
  | [], _ => by simp [Fl.out]
  | e :: l, h => by
    have h1 := h e List.mem_cons_self
    have h2 := out_bd (u := u) (l := l) fun x hx => h x (List.mem_cons_of_mem _ hx)
    simp only [Fl.out, List.length_cons]
    split <;> split <;> omega
theorem take_mkL {rs : List Bd} {f : Nat → Int} {k : Nat} (h : k < rs.length) : (mkL rs f).take (k + 1) = (mkL rs f).take k ++ [mkE (rs.getD k default) (f k)] := by
  rw [List.take_succ_eq_append_getElem (by rw [mkL_len]; exact h)]
  congr 1
  simp [mkL, List.getD, h]
theorem take_bd {rs : List Bd} {f : Nat → Int} (hb : ∀ k, k < rs.length → 0 ≤ f k ∧ f k ≤ 20) (k u : Nat) (hl : rs.length ≤ 16) : -320 ≤ Fl.out u ((mkL rs f).take k) ∧ Fl.out u ((mkL rs f).take k) ≤ 320 := by
  have h1 := out_bd (u := u) (l := (mkL rs f).take k) fun e he => by
    obtain ⟨j, hj, rfl⟩ := mkL_mem (List.mem_of_mem_take he)
    exact hb j hj
  have h2 : ((mkL rs f).take k).length ≤ 16 := by rw [List.length_take, mkL_len]; omega
  omega
section
variable {P : Program} {n : Nat} {w0 : World} {E : Env} {G : Heap} {ty : TypeId} {pos : String} {aft : Array Edge} {g : Option (Nat × Bool)}
theorem PV.loadIo {d : Option Nat} {x : Operand} {b off t : Nat} {xs : List Int} {e : TypeId} {fr : Nat × Nat} (j : Nat) (hx : evo E x = some (.pointer (some ⟨b, off, none⟩))) (ho : off = j) (ht : oneB P t = true)
    (hm : (b, Obj.cells (intsA xs) e fr) ∈ G) (hj : j < xs.length) : PV P n w0 E G ⟨d, .load t x, ty, pos, aft, g⟩ (.int .i64 (xs.getD j 0)) := by
  subst ho; exact PV.loadI hx ht hm hj
end


set_option maxRecDepth 100000 in
set_option maxHeartbeats 1000000 in
theorem outflows_ok (w0 : World) (n s t : Nat) (p : Option Addr) (cap : Nat) (rs : List Bd) (hr : BdsAt w0 p rs) (hv : Vd n s t rs) (pf : Option Addr) (cf m : Nat) (fs : List Int) (hf : IntsAt w0 pf fs) (hl : fs.length = rs.length) (hm : m = fs.length) (hb : ∀ k, k < rs.length → 0 ≤ fs.getD k 0 ∧ fs.getD k 0 ≤ 20) :
    Calls Try.prog 56 #[dnV n s t p rs.length cap, .slice pf m cf] w0 (Post (X := Nat) (fun b => .slice (some ⟨b, 0, none⟩) n n) (fun _ => True) (fun b => [(b, Obj.cells (intsA (outL n (mkL rs (fun j => fs.getD j 0)))) 3 (0, 0))]) w0) := by
  have hlen := hv.len
  have hn8 := hv.n8
  refine calls Try.func56 rfl (n := 43) rfl (by simp) ?_
  refine TC.seq ?_
  refine TC.region ?_
  refine TL.box rfl rfl (by decide) (fun b0 hb0 => ?_)
  refine TL.pure (PV.assign rfl) rfl (by decide) ?_
  refine TL.nil ?_
  refine TQ.thenC ?_
  refine TC.seq ?_
  refine TC.region ?_
  refine TL.pure (PV.fieldAddr rfl Tb.fo_24_0) rfl (by decide) ?_
  refine TL.pure (PV.load rfl Tb.one_3 (by repeat (first | exact List.Mem.head _ | refine List.Mem.tail _ ?_ | refine List.mem_append_right _ ?_)) rfl) rfl (by decide) ?_
  refine TL.makeI (k := n) rfl rfl Tb.sl_25 Tb.zi_3 rfl (by omega) (by omega) rfl (by decide) (fun bM hbM => ?_)
  refine TL.pure (PV.assign rfl) rfl (by decide) ?_
  refine TL.nil ?_
  refine TQ.thenC ?_
  refine TC.seq ?_
  refine TC.seq ?_
  refine TC.region ?_
  refine TL.pure (PV.fieldAddr rfl Tb.fo_24_3) rfl (by decide) ?_
  refine TL.pure (PV.load rfl Tb.one_22 (by repeat (first | exact List.Mem.head _ | refine List.Mem.tail _ ?_ | refine List.mem_append_right _ ?_)) rfl) rfl (by decide) ?_
  refine TL.pure (PV.len rfl Tb.sl_22) rfl (by decide) ?_
  refine TL.pure (PV.move rfl) rfl (by decide) ?_
  refine TL.nil ?_
  refine TQ.thenC ?_
  refine TC.block ?_
  refine TC.loopK [1, 4, 5, 12, 13] (X := Nat) (fun k => k ≤ rs.length) (fun k => [(14, .int .i64 k)]) (fun k => [(bM, Obj.cells (intsA (outL n ((mkL rs (fun j => fs.getD j 0)).take k))) 3 (0, 0)), (b0, Obj.cells #[.int .i64 (n : Nat), .int .i64 (s : Nat), .int .i64 (t : Nat), .slice p rs.length cap] 24 (0, 0))]) (fun k => rs.length - k) 0 (Nat.zero_le _) (by repeat (first | exact True.intro | refine And.intro rfl ?_)) (by rw [List.take_zero, outL_nil]; exact List.Sublist.refl _) ?_
  intro k hk
  refine TC.seq ?_
  refine TC.region ?_
  refine TL.pure (PV.lss rfl rfl) rfl (by decide) ?_
  refine TL.nil ?_
  refine TQ.thenC ?_
  refine TC.seq ?_
  first | refine TC.condD rfl (fun hlt => ?_) (fun hlt => ?_) | refine TC.cond rfl (fun hlt => ?_) (fun hlt => ?_)
  · skip
    refine TC.skip ?_
    refine TQ.thenC ?_
    refine TC.seq ?_
    refine TC.block ?_
    refine TC.seq ?_
    obtain ⟨q, hqp, hq⟩ := hr k (by omega)
    obtain ⟨qf, hfp, hfq⟩ := hf k (by omega)
    have hva := hv.at (show k < rs.length by omega)
    have hA : (rs.getD k default).a.toNat < n := by omega
    have hB : (rs.getD k default).b.toNat < n := by omega
    have hAB : (rs.getD k default).a.toNat ≠ (rs.getD k default).b.toNat := by omega
    have hbk := hb k (by omega)
    have hba := take_bd (f := (fun j => fs.getD j 0)) hb k (rs.getD k default).a.toNat hlen
    have hbb := take_bd (f := (fun j => fs.getD j 0)) hb k (rs.getD k default).b.toNat hlen
    have hget : ((outL n ((mkL rs (fun j => fs.getD j 0)).take k)).set (rs.getD k default).a.toNat (Fl.out (rs.getD k default).a.toNat ((mkL rs (fun j => fs.getD j 0)).take k) + fs.getD k 0)).getD (rs.getD k default).b.toNat 0 = Fl.out (rs.getD k default).b.toNat ((mkL rs (fun j => fs.getD j 0)).take k) := by
      rw [List.getD_eq_getElem?_getD, List.getElem?_set_ne hAB, ← List.getD_eq_getElem?_getD, outL_get hB]
    refine TC.region ?_
    refine TL.pure (PV.move rfl) rfl (by decide) ?_
    refine TL.pure (PV.indexA rfl hqp rfl Tb.elm_22 rfl (by omega)) rfl (by decide) ?_
    refine TL.pure (PV.loadAggA rfl Tb.agg_40 rfl hq) rfl (by decide) ?_
    refine TL.alloc Tb.zero_40 rfl (by decide) (fun b1 hb1 => ?_)
    refine TL.pure (PV.assign rfl) rfl (by decide) ?_
    refine TL.storeAgg rfl rfl Tb.cells_40 (by repeat (first | exact Upd.head _ | apply Upd.tail | apply Upd.appR)) rfl rfl rfl rfl rfl ?_
    refine TL.nil ?_
    refine TQ.thenC ?_
    refine TC.seq ?_
    refine TC.mixV [true, true, true, true, false, true, true, true, true, true, true, false] [(b1, Obj.cells #[.int .i64 (rs.getD k default).a, .int .i64 (rs.getD k default).b, .int .i64 (rs.getD k default).m] 40 (0, 0)), (b0, Obj.cells #[.int .i64 (n : Nat), .int .i64 (s : Nat), .int .i64 (t : Nat), .slice p rs.length cap] 24 (0, 0))] 12 Tb.mixed rfl (by kernel_rfl) (by kernel_rfl) (by kernel_rfl) (by kernel_rfl) (by repeat (first | exact List.Sublist.slnil | exact List.nil_sublist _ | exact List.Sublist.refl _ | refine List.Sublist.cons_cons _ ?_ | refine List.Sublist.cons _ ?_ | refine List.Sublist.trans ?_ (List.sublist_append_right _ _))) ?_
    refine TV.virt 0 rfl rfl (by decide) rfl (by kernel_rfl) (SOK.pure (PV.move rfl) rfl) ?_
    refine TV.virt 1 rfl rfl (by decide) rfl (by kernel_rfl) (SOK.pure (PV.fieldAddr rfl Tb.fo_40_0) rfl) ?_
    refine TV.virt 2 rfl rfl (by decide) rfl (by kernel_rfl) (SOK.pure (PV.load rfl Tb.one_3 (by repeat (first | exact List.Mem.head _ | refine List.Mem.tail _ ?_ | refine List.mem_append_right _ ?_)) rfl) rfl) ?_
    refine TV.virt 3 rfl rfl (by decide) rfl (by kernel_rfl) (SOK.pure (PV.index (j := (rs.getD k default).a.toNat) rfl rfl Tb.elm_25 (by omega) hA) rfl) ?_
    refine TV.virt 5 rfl rfl (by decide) rfl (by kernel_rfl) (SOK.pure (PV.move rfl) rfl) ?_
    refine TV.virt 6 rfl rfl (by decide) rfl (by kernel_rfl) (SOK.pure (PV.move rfl) rfl) ?_
    refine TV.virt 7 rfl rfl (by decide) rfl (by kernel_rfl) (SOK.pure (PV.indexA rfl hfp rfl Tb.elm_25 rfl (by omega)) rfl) ?_
    refine TV.virt 8 rfl rfl (by decide) rfl (by kernel_rfl) (SOK.pure (PV.loadOld rfl Tb.one_3 hfq) rfl) ?_
    refine TV.step [4] (by kernel_rfl) (by decide) rfl ⟨⟨_, rfl, ?_⟩, trivial⟩
    refine TL.pure (PV.loadIo (xs := outL n ((mkL rs (fun j => fs.getD j 0)).take k)) (rs.getD k default).a.toNat rfl (off1 _) Tb.one_3 (by repeat (first | exact List.Mem.head _ | refine List.Mem.tail _ ?_ | refine List.mem_append_right _ ?_)) (by rw [outL_len]; exact hA)) rfl (by decide) ?_
    refine TL.nil ?_
    refine TV.next (.inl (by repeat (first | exact List.Sublist.slnil | exact List.nil_sublist _ | exact List.Sublist.refl _ | refine List.Sublist.cons_cons _ ?_ | refine List.Sublist.cons _ ?_ | refine List.Sublist.trans ?_ (List.sublist_append_right _ _)))) ?_
    refine TV.virt 9 rfl rfl (by decide) rfl (by kernel_rfl) (SOK.pure (PV.add rfl rfl (by rw [outL_get hA]; omega)) rfl) ?_
    refine TV.virt 10 rfl rfl (by decide) rfl (by kernel_rfl) (SOK.pure (PV.index (j := (rs.getD k default).a.toNat) rfl rfl Tb.elm_25 (by omega) hA) rfl) ?_
    refine TV.step [11] (by kernel_rfl) (by decide) rfl ⟨⟨_, rfl, ?_⟩, trivial⟩
    refine TL.storeIo (xs := outL n ((mkL rs (fun j => fs.getD j 0)).take k)) (rs.getD k default).a.toNat ((outL n ((mkL rs (fun j => fs.getD j 0)).take k)).set (rs.getD k default).a.toNat (Fl.out (rs.getD k default).a.toNat ((mkL rs (fun j => fs.getD j 0)).take k) + fs.getD k 0)) (by rw [outL_get hA]) rfl (off1 _) rfl Tb.cells_3 (by repeat (first | exact Upd.head _ | apply Upd.tail | apply Upd.appR)) (by rw [outL_len]; exact hA) rfl rfl ?_
    refine TL.nil ?_
    refine TV.next (.inr (by kernel_rfl)) ?_
    refine TV.done (by kernel_rfl) ?_
    refine TQ.thenC ?_
    refine TC.mixV [true, true, true, true, false, true, true, true, true, true, true, false] [(b1, Obj.cells #[.int .i64 (rs.getD k default).a, .int .i64 (rs.getD k default).b, .int .i64 (rs.getD k default).m] 40 (0, 0)), (b0, Obj.cells #[.int .i64 (n : Nat), .int .i64 (s : Nat), .int .i64 (t : Nat), .slice p rs.length cap] 24 (0, 0))] 12 Tb.mixed rfl (by kernel_rfl) (by kernel_rfl) (by kernel_rfl) (by kernel_rfl) (by repeat (first | exact List.Sublist.slnil | exact List.nil_sublist _ | exact List.Sublist.refl _ | refine List.Sublist.cons_cons _ ?_ | refine List.Sublist.cons _ ?_ | refine List.Sublist.trans ?_ (List.sublist_append_right _ _))) ?_
    refine TV.virt 0 rfl rfl (by decide) rfl (by kernel_rfl) (SOK.pure (PV.move rfl) rfl) ?_
    refine TV.virt 1 rfl rfl (by decide) rfl (by kernel_rfl) (SOK.pure (PV.fieldAddr rfl Tb.fo_40_1) rfl) ?_
    refine TV.virt 2 rfl rfl (by decide) rfl (by kernel_rfl) (SOK.pure (PV.load rfl Tb.one_3 (by repeat (first | exact List.Mem.head _ | refine List.Mem.tail _ ?_ | refine List.mem_append_right _ ?_)) rfl) rfl) ?_
    refine TV.virt 3 rfl rfl (by decide) rfl (by kernel_rfl) (SOK.pure (PV.index (j := (rs.getD k default).b.toNat) rfl rfl Tb.elm_25 (by omega) hB) rfl) ?_
    refine TV.virt 5 rfl rfl (by decide) rfl (by kernel_rfl) (SOK.pure (PV.move rfl) rfl) ?_
    refine TV.virt 6 rfl rfl (by decide) rfl (by kernel_rfl) (SOK.pure (PV.move rfl) rfl) ?_
    refine TV.virt 7 rfl rfl (by decide) rfl (by kernel_rfl) (SOK.pure (PV.indexA rfl hfp rfl Tb.elm_25 rfl (by omega)) rfl) ?_
    refine TV.virt 8 rfl rfl (by decide) rfl (by kernel_rfl) (SOK.pure (PV.loadOld rfl Tb.one_3 hfq) rfl) ?_
    refine TV.step [4] (by kernel_rfl) (by decide) rfl ⟨⟨_, rfl, ?_⟩, trivial⟩
    refine TL.pure (PV.loadIo (xs := ((outL n ((mkL rs (fun j => fs.getD j 0)).take k)).set (rs.getD k default).a.toNat (Fl.out (rs.getD k default).a.toNat ((mkL rs (fun j => fs.getD j 0)).take k) + fs.getD k 0))) (rs.getD k default).b.toNat rfl (off1 _) Tb.one_3 (by repeat (first | exact List.Mem.head _ | refine List.Mem.tail _ ?_ | refine List.mem_append_right _ ?_)) (by rw [List.length_set, outL_len]; exact hB)) rfl (by decide) ?_
    refine TL.nil ?_
    refine TV.next (.inl (by repeat (first | exact List.Sublist.slnil | exact List.nil_sublist _ | exact List.Sublist.refl _ | refine List.Sublist.cons_cons _ ?_ | refine List.Sublist.cons _ ?_ | refine List.Sublist.trans ?_ (List.sublist_append_right _ _)))) ?_
    refine TV.virt 9 rfl rfl (by decide) rfl (by kernel_rfl) (SOK.pure (PV.sub rfl rfl (by rw [hget]; omega)) rfl) ?_
    refine TV.virt 10 rfl rfl (by decide) rfl (by kernel_rfl) (SOK.pure (PV.index (j := (rs.getD k default).b.toNat) rfl rfl Tb.elm_25 (by omega) hB) rfl) ?_
    refine TV.step [11] (by kernel_rfl) (by decide) rfl ⟨⟨_, rfl, ?_⟩, trivial⟩
    refine TL.storeIo (xs := ((outL n ((mkL rs (fun j => fs.getD j 0)).take k)).set (rs.getD k default).a.toNat (Fl.out (rs.getD k default).a.toNat ((mkL rs (fun j => fs.getD j 0)).take k) + fs.getD k 0))) (rs.getD k default).b.toNat (outL n ((mkL rs (fun j => fs.getD j 0)).take (k + 1))) (by rw [hget, take_mkL (by omega)]; exact outL_step (e := (mkE (rs.getD k default) (fs.getD k 0))) hA hB hAB) rfl (off1 _) rfl Tb.cells_3 (by repeat (first | exact Upd.head _ | apply Upd.tail | apply Upd.appR)) (by rw [List.length_set, outL_len]; exact hB) rfl rfl ?_
    refine TL.nil ?_
    refine TV.next (.inr (by kernel_rfl)) ?_
    refine TV.done (by kernel_rfl) ?_
    refine TQ.blkN ?_
    refine TQ.thenC ?_
    refine TC.region ?_
    refine TL.pure (PV.add rfl rfl (by omega)) rfl (by decide) ?_
    refine TL.pure (PV.move rfl) rfl (by decide) ?_
    refine TL.nil ?_
    refine TQ.thenN ?_
    refine TQ.backK (k + 1) (by repeat (first | exact True.intro | refine And.intro rfl ?_)) (by repeat (first | exact True.intro | refine And.intro rfl ?_)) (by repeat (first | exact List.Sublist.slnil | exact List.nil_sublist _ | exact List.Sublist.refl _ | refine List.Sublist.cons_cons _ ?_ | refine List.Sublist.cons _ ?_ | refine List.Sublist.trans ?_ (List.sublist_append_right _ _))) (by omega) (by omega)
  · skip
    refine TC.exit ?_
    refine TQ.thenE ?_
    refine TQ.thenE ?_
    refine TQ.blkS ?_
    refine TQ.thenC ?_
    refine TC.seq ?_
    have hke : k = rs.length := by omega
    refine TC.region ?_
    refine TL.pure (PV.move rfl) rfl (by decide) ?_
    refine TL.pure (PV.assign rfl) rfl (by decide) ?_
    refine TL.nil ?_
    refine TQ.thenC ?_
    refine TC.ret ?_
    refine TQ.retE1 rfl rfl ?_
    exact ⟨bM, rfl, trivial, by rw [hke, List.take_of_length_le (by rw [mkL_len]; exact Nat.le_refl _)]; exact List.Sublist.cons_cons _ (List.nil_sublist _)⟩

end Go.Proofs.Ytnlbngbbddhgeaa
