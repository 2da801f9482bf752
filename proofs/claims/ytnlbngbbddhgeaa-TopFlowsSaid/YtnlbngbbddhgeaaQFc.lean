/- More is sent along a way: contracts. -/
import Derived.Test.YtnlbngbbddhgeaaQFb
set_option linter.unusedVariables false
set_option linter.unusedSimpArgs false
namespace Go.Proofs.Ytnlbngbbddhgeaa
open Go.Sx Go.RowKit

def R4 : Rec Fl.E := ⟨e4, 4, fun _ => rfl, fun r v hv => by
  simp only [e4, List.mem_cons, List.not_mem_nil, or_false] at hv
  rcases hv with rfl | rfl | rfl | rfl <;> rfl, by decide⟩
theorem recA_rcs (L : List Fl.E) : recA (L.map e4) = (rcs R4 L).toArray := by rw [rcs_flat]; rfl
theorem rs_nth {L : List Fl.E} {k i : Nat} {v : Value} (hk : k < L.length) (hv : (e4 (L.getD k default))[i]? = some v) : (recA (L.map e4)).toList[0 + k * 4 + i]? = some v := by
  have hi : i < 4 := by have := (List.getElem?_eq_some_iff.1 hv).1; exact this
  rw [Nat.zero_add, recA_rcs]
  show (rcs R4 L)[k * R4.sz + i]? = some v
  rw [rcs_get hk hi]
  exact hv
section
variable {P : Program} {n : Nat} {w0 : World} {E : Env} {G : Heap} {ty : TypeId} {pos : String} {aft : Array Edge} {g : Option (Nat × Bool)} {ops : Array Oper} {Q : Exit → Act → World → Prop} {l : List Oper}
theorem PV.loadF4 {d : Option Nat} {x : Operand} {b k off t : Nat} {v : Value} {L : List Fl.E} (i : Nat) (hx : evo E x = some (.pointer (some ⟨b, off, none⟩))) (ho : off = 0 + k * 4 + i) (ht : oneB P t = true) (hm : (b, rsO L) ∈ G) (hk : k < L.length) (hv : (e4 (L.getD k default))[i]? = some v) :
    PV P n w0 E G ⟨d, .load t x, ty, pos, aft, g⟩ v := by
  subst ho
  exact PV.loadG' hx ht hm (by have := rs_nth hk hv; simpa using this)
theorem TL.storeF4 {dd : Option Nat} {x y : Operand} {b k off t : Nat} {L : List Fl.E} {v : Int} (L' : List Fl.E) (e : Fl.E) (he : e = { L.getD k default with r := v }) (hL : L.set k e = L') {G' : Heap} (hx : evo E x = some (.pointer (some ⟨b, off, none⟩))) (ho : off = 0 + k * 4 + 3) (hy : evo E y = some (.int .i64 v))
    (hsz : cellsN P t = some 1) (hu : Upd b (rsO L) (rsO L') G G') (hj : k < L.length) (hg : wants ops E g = some true) (hdd : dd = none) (h : TL P n w0 ops Q l E G') : TL P n w0 ops Q (⟨dd, .store t x y, ty, pos, aft, g⟩ :: l) E G := by
  subst hL; subst ho
  have hset : (recA (L.map e4)).setIfInBounds (0 + k * 4 + 3) (.int .i64 v) = recA ((L.set k e).map e4) := by
    rw [recA_rcs, recA_rcs, Nat.zero_add]
    have := rcs_setF (R := R4) (f := 3) (show 3 < R4.sz by decide) (v := .int .i64 v) (r := e) (l := L) (j := k) hj (by rw [he]; rfl)
    rw [← this]
    simp
    rfl
  refine TL.store (cs := recA (L.map e4)) hx hy hsz rfl (by rw [hset]; exact hu) ?_ hg hdd h
  rw [recA_rcs, List.size_toArray, rcs_len]
  show 0 + k * 4 + 3 < L.length * 4
  omega
end
/-- What is left of a way, and drains that keep their widths. -/
structure FS (a : Int) (L : List Fl.E) (u : Nat) (ks : List Nat) (v : Nat) : Prop where
  way : Fl.Way L a u ks v
  bd : ∀ e ∈ L, 0 ≤ e.r ∧ e.r ≤ e.w ∧ e.w ≤ 20
  ne : ∀ e ∈ L, e.f ≠ e.t
theorem getD_get {L : List Fl.E} {k : Nat} (h : k < L.length) : L.getD k default = L[k] := by simp [List.getD, h]
theorem FS.step {a : Int} (ha : 0 ≤ a) {L : List Fl.E} {u k v : Nat} {ks : List Nat} (h : FS a L u (k :: ks) v) :
    k < L.length ∧ (u = (L.getD k default).f ∨ u = (L.getD k default).t) ∧ a ≤ (Fl.onw (L.getD k default) u).2 ∧ FS a (L.set k (Fl.snd (L.getD k default) u a)) (Fl.onw (L.getD k default) u).1 ks v ∧
      Fl.fil a L u (k :: ks) = Fl.fil a (L.set k (Fl.snd (L.getD k default) u a)) (Fl.onw (L.getD k default) u).1 ks := by
  obtain ⟨h1, h2, h3, h4, h5⟩ := h.way
  have hm : L[k] ∈ L := List.getElem_mem h2
  have hb := h.bd _ hm
  have hn := h.ne _ hm
  rw [getD_get h2]
  refine ⟨h2, h3, h4, ⟨h5.set h1, ?_, ?_⟩, by rw [Fl.fil, dif_pos h2]⟩
  · intro e he
    rcases List.mem_or_eq_of_mem_set he with h | rfl
    · exact FS.bd ‹_› e h
    · simp only [Fl.snd]
      unfold Fl.onw at h4
      by_cases e1 : u = L[k].f
      · rw [if_pos e1] at h4 ⊢; simp only at h4; omega
      · rw [if_neg e1, if_pos (h3.resolve_left e1)] at h4
        rw [if_neg e1]; simp only at h4; omega
  · intro e he
    rcases List.mem_or_eq_of_mem_set he with h | rfl
    · exact FS.ne ‹_› e h
    · exact hn
theorem drop_get {ks : List Nat} {j : Nat} (h : j < ks.length) : ks.drop j = ks.getD j 0 :: ks.drop (j + 1) := by
  rw [List.drop_eq_getElem_cons h]; simp [List.getD, h]
theorem onw_bd {a : Int} {L : List Fl.E} {u v : Nat} {ks : List Nat} (h : FS a L u ks v) {k : Nat} (hk : k < L.length) : 0 ≤ (L.getD k default).r ∧ (L.getD k default).r ≤ (L.getD k default).w ∧ (L.getD k default).w ≤ 20 := by
  rw [getD_get hk]; exact h.bd _ (List.getElem_mem hk)
abbrev kcs (ks : List Nat) (sp : List Value) : Array Value := ((ks.map fun k : Nat => Value.int .i64 k) ++ sp).toArray
theorem nth_of : ∀ {l : List Value} {i : Nat} {v : Value}, l[i]? = some v → nth l i = some v
  | [], _, _, h => by simp at h
  | u :: _, 0, v, h => by simpa [nth] using h
  | _ :: r, i + 1, v, h => by simpa [nth] using nth_of (l := r) (by simpa using h)
theorem kcs_get {ks : List Nat} {sp : List Value} {j : Nat} (h : j < ks.length) : nth (kcs ks sp).toList j = some (.int .i64 (ks.getD j 0 : Nat)) := by
  unfold kcs
  exact nth_of (by rw [List.getElem?_append_left (by simpa using h)]; simp [List.getD, h])


set_option maxRecDepth 100000 in
theorem send_ok (w0 w : World) (b k : Nat) (L : List Fl.E) (u : Nat) (a : Int) (R : Heap) (hk : k < L.length) (hN : New w0 w ((b, rsO L) :: R)) (ha : 0 ≤ a ∧ a ≤ 20) (hb : 0 ≤ (L.getD k default).r ∧ (L.getD k default).r ≤ 20) :
    Calls Try.prog 90 #[.pointer (some ⟨b, 0 + k * 4, none⟩), .int .i64 u, .int .i64 a] w (Post (X := Unit) (fun _ => .tuple #[]) (fun _ => True) (fun _ => (b, rsO (L.set k (Fl.snd (L.getD k default) u a))) :: R) w0) := by
  refine callsM hN Try.func90 rfl (n := 29) rfl (by simp) ?_
  refine TC.seq ?_
  refine TC.region ?_
  refine TL.pure (PV.move rfl) rfl (by decide) ?_
  refine TL.pure (PV.move rfl) rfl (by decide) ?_
  refine TL.pure (PV.nilCheck rfl) rfl (by decide) ?_
  refine TL.pure (PV.fieldAddr rfl Tb.fo_92_0) rfl (by decide) ?_
  refine TL.pure (PV.fieldAddr rfl Tb.fo_40_0) rfl (by decide) ?_
  refine TL.pure (PV.loadF4 0 rfl (by rfl) Tb.one_3 (by repeat (first | exact List.Mem.head _ | refine List.Mem.tail _ ?_ | refine List.mem_append_right _ ?_)) hk rfl) rfl (by decide) ?_
  refine TL.pure (PV.eql rfl rfl) rfl (by decide) ?_
  refine TL.nil ?_
  refine TQ.thenC ?_
  first | refine TC.condD rfl (fun hf => ?_) (fun hf => ?_) | refine TC.cond rfl (fun hf => ?_) (fun hf => ?_)
  · skip
    refine TC.region ?_
    refine TL.pure (PV.move rfl) rfl (by decide) ?_
    refine TL.pure (PV.nilCheck rfl) rfl (by decide) ?_
    refine TL.pure (PV.fieldAddr rfl Tb.fo_92_1) rfl (by decide) ?_
    refine TL.pure (PV.loadF4 3 rfl (by rfl) Tb.one_3 (by repeat (first | exact List.Mem.head _ | refine List.Mem.tail _ ?_ | refine List.mem_append_right _ ?_)) hk rfl) rfl (by decide) ?_
    refine TL.pure (PV.move rfl) rfl (by decide) ?_
    refine TL.pure (PV.add rfl rfl (by omega)) rfl (by decide) ?_
    refine TL.pure (PV.nilCheck rfl) rfl (by decide) ?_
    refine TL.pure (PV.fieldAddr rfl Tb.fo_92_1) rfl (by decide) ?_
    refine TL.storeF4 (L.set k (Fl.snd (L.getD k default) u a)) (Fl.snd (L.getD k default) u a) (by unfold Fl.snd; rw [if_pos (by omega)]) rfl rfl (by rfl) rfl Tb.cells_3 (by repeat (first | exact Upd.head _ | apply Upd.tail | apply Upd.appR)) hk rfl rfl ?_
    refine TL.nil ?_
    refine TQ.retN rfl (Res.nil) ?_
    exact ⟨(), rfl, trivial, List.Sublist.refl _⟩
  · skip
    refine TC.region ?_
    refine TL.pure (PV.move rfl) rfl (by decide) ?_
    refine TL.pure (PV.nilCheck rfl) rfl (by decide) ?_
    refine TL.pure (PV.fieldAddr rfl Tb.fo_92_1) rfl (by decide) ?_
    refine TL.pure (PV.loadF4 3 rfl (by rfl) Tb.one_3 (by repeat (first | exact List.Mem.head _ | refine List.Mem.tail _ ?_ | refine List.mem_append_right _ ?_)) hk rfl) rfl (by decide) ?_
    refine TL.pure (PV.move rfl) rfl (by decide) ?_
    refine TL.pure (PV.sub rfl rfl (by omega)) rfl (by decide) ?_
    refine TL.pure (PV.nilCheck rfl) rfl (by decide) ?_
    refine TL.pure (PV.fieldAddr rfl Tb.fo_92_1) rfl (by decide) ?_
    refine TL.storeF4 (L.set k (Fl.snd (L.getD k default) u a)) (Fl.snd (L.getD k default) u a) (by unfold Fl.snd; rw [if_neg (by omega)]) rfl rfl (by rfl) rfl Tb.cells_3 (by repeat (first | exact Upd.head _ | apply Upd.tail | apply Upd.appR)) hk rfl rfl ?_
    refine TL.nil ?_
    refine TQ.retN rfl (Res.nil) ?_
    exact ⟨(), rfl, trivial, List.Sublist.refl _⟩

set_option maxRecDepth 100000 in
set_option maxHeartbeats 1000000 in
theorem fill_ok (w0 w : World) (b cl : Nat) (L : List Fl.E) (u v : Nat) (am : Int) (ks : List Nat) (bh ch : Nat) (sp : List Value) (R : Heap) (ha : 0 < am ∧ am ≤ 20) (hks : ks.length ≤ 100) (hs0 : FS am L u ks v) (hN : New w0 w ((b, rsO L) :: (bh, Obj.cells (kcs ks sp) 3 (0, 0)) :: R)) :
    Calls Try.prog 66 #[.slice (some ⟨b, 0, none⟩) L.length cl, .int .i64 u, .agg #[.slice (some ⟨bh, 0, none⟩) ks.length ch, .int .i64 am]] w (Post (X := Unit) (fun _ => .tuple #[]) (fun _ => True) (fun _ => (b, rsO (Fl.fil am L u ks)) :: (bh, Obj.cells (kcs ks sp) 3 (0, 0)) :: R) w0) := by
  refine callsM hN Try.func66 rfl (n := 36) rfl (by simp) ?_
  refine TC.seq ?_
  refine TC.region ?_
  refine TL.box rfl rfl (by decide) (fun b0 hb0 => ?_)
  refine TL.nil ?_
  refine TQ.thenC ?_
  refine TC.seq ?_
  refine TC.region ?_
  refine TL.pure (PV.move rfl) rfl (by decide) ?_
  refine TL.pure (PV.assign rfl) rfl (by decide) ?_
  refine TL.nil ?_
  refine TQ.thenC ?_
  refine TC.seq ?_
  refine TC.region ?_
  refine TL.pure (PV.fieldAddr rfl Tb.fo_68_0) rfl (by decide) ?_
  refine TL.pure (PV.load rfl Tb.one_25 (by repeat (first | exact List.Mem.head _ | refine List.Mem.tail _ ?_ | refine List.mem_append_right _ ?_)) rfl) rfl (by decide) ?_
  refine TL.pure (PV.len rfl Tb.sl_25) rfl (by decide) ?_
  refine TL.pure (PV.move rfl) rfl (by decide) ?_
  refine TL.nil ?_
  refine TQ.thenC ?_
  refine TC.block ?_
  refine TC.perm (List.Perm.swap _ _ _) ?_
  refine TC.loopK [0, 5, 13, 14] (X := List Fl.E × Nat × Nat) (fun x => FS am x.1 x.2.1 (ks.drop x.2.2) v ∧ x.1.length = L.length ∧ Fl.fil am L u ks = Fl.fil am x.1 x.2.1 (ks.drop x.2.2) ∧ x.2.2 ≤ ks.length) (fun x => [(6, .int .i64 (x.2.1 : Nat)), (15, .int .i64 (x.2.2 : Nat))]) (fun x => (b, rsO x.1) :: (b0, Obj.cells #[.slice (some ⟨bh, 0, none⟩) ks.length ch, .int .i64 am] 68 (0, 0)) :: (bh, Obj.cells (kcs ks sp) 3 (0, 0)) :: R) (fun x => ks.length - x.2.2) (L, u, 0) ⟨hs0, rfl, rfl, Nat.zero_le _⟩ (by repeat (first | exact True.intro | refine And.intro rfl ?_)) (List.Sublist.refl _) ?_
  intro x hx
  have hxl := hx.2.1
  have hxk := hx.2.2.2
  refine TC.seq ?_
  refine TC.region ?_
  refine TL.pure (PV.lss rfl rfl) rfl (by decide) ?_
  refine TL.nil ?_
  refine TQ.thenC ?_
  refine TC.seq ?_
  first | refine TC.condD rfl (fun hlt => ?_) (fun hlt => ?_) | refine TC.cond rfl (fun hlt => ?_) (fun hlt => ?_)
  · skip
    refine TC.skip ?_
    refine TQ.thenC ?_
    refine TC.seq ?_
    refine TC.block ?_
    refine TC.seq ?_
    refine TC.region ?_
    refine TL.pure (PV.index (j := x.2.2) rfl rfl Tb.elm_25 rfl (by omega)) rfl (by decide) ?_
    refine TL.pure (PV.load (v := .int .i64 (ks.getD x.2.2 0 : Nat)) rfl Tb.one_3 (by repeat (first | exact List.Mem.head _ | refine List.Mem.tail _ ?_ | refine List.mem_append_right _ ?_)) (by rw [Nat.zero_add, Nat.mul_one]; exact kcs_get (by omega))) rfl (by decide) ?_
    refine TL.pure (PV.assign rfl) rfl (by decide) ?_
    refine TL.nil ?_
    refine TQ.thenC ?_
    refine TC.seq ?_
    have hdg := drop_get (ks := ks) (j := x.2.2) (by omega)
    obtain ⟨hk, hu, har, hs9, hf9⟩ := FS.step (by omega) (hdg ▸ hx.1 : FS am x.1 x.2.1 (ks.getD x.2.2 0 :: ks.drop (x.2.2 + 1)) v)
    have hbd := onw_bd hx.1 hk
    refine TC.region ?_
    refine TL.pure (PV.move rfl) rfl (by decide) ?_
    refine TL.pure (PV.move rfl) rfl (by decide) ?_
    refine TL.pure (PV.index (j := ks.getD x.2.2 0) rfl rfl Tb.elm_65 rfl (by omega)) rfl (by decide) ?_
    refine TL.pure (PV.move rfl) rfl (by decide) ?_
    refine TL.call rfl Tb.gofn_89 (fun a w hs => onward_ok w b (0 + ks.getD x.2.2 0 * 4) (x.1.getD (ks.getD x.2.2 0) default) x.2.1 (E4At.own hs.new (.head _) hk) hbd) rfl (by decide) (fun _ _ => ?_)
    refine TL.pure (PV.move rfl) rfl (by decide) ?_
    refine TL.pure (PV.extract rfl rfl) rfl (by decide) ?_
    refine TL.pure (PV.extract rfl rfl) rfl (by decide) ?_
    refine TL.pure (PV.assign rfl) rfl (by decide) ?_
    refine TL.pure (PV.assign rfl) rfl (by decide) ?_
    refine TL.nil ?_
    refine TQ.thenC ?_
    refine TC.seq ?_
    refine TC.draw 6 Tb.mixed (by kernel_rfl) ?_
    simp only [List.take_succ_cons, List.take_zero, List.drop_succ_cons, List.drop_zero]
    refine TS.pure (PV.move rfl) rfl (by decide) ?_
    refine TS.pure (PV.move rfl) rfl (by decide) ?_
    refine TS.pure (PV.index (j := ks.getD x.2.2 0) rfl rfl Tb.elm_65 rfl (by omega)) rfl (by decide) ?_
    refine TS.pure (PV.move rfl) rfl (by decide) ?_
    refine TS.pure (PV.fieldAddr rfl Tb.fo_68_1) rfl (by decide) ?_
    refine TS.pure (PV.load rfl Tb.one_3 (by repeat (first | exact List.Mem.head _ | refine List.Mem.tail _ ?_ | refine List.mem_append_right _ ?_)) rfl) rfl (by decide) ?_
    refine TS.nil ?_
    refine TL.callW (fun _ : Unit => .tuple #[]) (fun _ => True) (fun _ => (b, rsO (x.1.set (ks.getD x.2.2 0) (Fl.snd (x.1.getD (ks.getD x.2.2 0) default) x.2.1 am))) :: (b0, Obj.cells #[.slice (some ⟨bh, 0, none⟩) ks.length ch, .int .i64 am] 68 (0, 0)) :: (bh, Obj.cells (kcs ks sp) 3 (0, 0)) :: R) rfl Tb.gofn_90 (fun a w hs => send_ok w0 w b (ks.getD x.2.2 0) x.1 x.2.1 am _ hk hs.new (by omega) (by omega)) rfl (by decide) (fun _ _ => ?_)
    refine TL.nil ?_
    refine TQ.thenC ?_
    refine TC.region ?_
    refine TL.pure (PV.move rfl) rfl (by decide) ?_
    refine TL.pure (PV.assign rfl) rfl (by decide) ?_
    refine TL.nil ?_
    refine TQ.blkN ?_
    refine TQ.thenC ?_
    refine TC.region ?_
    refine TL.pure (PV.add rfl rfl (by omega)) rfl (by decide) ?_
    refine TL.pure (PV.move rfl) rfl (by decide) ?_
    refine TL.nil ?_
    refine TQ.thenN ?_
    refine TQ.backK (x.1.set (ks.getD x.2.2 0) (Fl.snd (x.1.getD (ks.getD x.2.2 0) default) x.2.1 am), (Fl.onw (x.1.getD (ks.getD x.2.2 0) default) x.2.1).1, x.2.2 + 1) (by repeat (first | exact True.intro | refine And.intro rfl ?_)) (by repeat (first | exact True.intro | refine And.intro rfl ?_)) (List.Sublist.refl _) ⟨hs9, by simp only [List.length_set]; exact hxl, by rw [hx.2.2.1, hdg]; exact hf9, by simp only; omega⟩ (by simp only; omega)
  · skip
    refine TC.exit ?_
    refine TQ.thenE ?_
    refine TQ.thenE ?_
    refine TQ.blkS ?_
    refine TQ.retN rfl (Res.nil) ?_
    exact ⟨(), rfl, trivial, by rw [hx.2.2.1, List.drop_of_length_le (by omega)]; exact List.Sublist.cons_cons _ (List.sublist_cons_self _ _)⟩

end Go.Proofs.Ytnlbngbbddhgeaa
