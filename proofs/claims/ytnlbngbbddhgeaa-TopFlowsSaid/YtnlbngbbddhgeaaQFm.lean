/- The most that can run: contract. -/
import Derived.Test.YtnlbngbbddhgeaaQFl
set_option linter.unusedVariables false
set_option linter.unusedSimpArgs false
namespace Go.Proofs.Ytnlbngbbddhgeaa
open Go.Sx Go.RowKit

theorem Mx.cf {n s t : Nat} {rs : List Bd} {L : List Fl.E} (h : Mx n s t rs L) : cfL rs (L.map (·.r)) = L := by
  have hl := h.len
  apply List.ext_getElem
  · rw [cfL, mkL_len, hl]
  · intro k h1 h2
    have h3 := h.same k (by omega)
    have h4 : (L.map (·.r)).getD k 0 = L[k].r := by simp [List.getD, h2]
    have h5 : (cfL rs (L.map (·.r)))[k] = mkE (rs.getD k default) ((L.map (·.r)).getD k 0) := by simp [cfL, mkL]
    rw [h5, h4]
    rw [getD_get h2] at h3
    obtain ⟨e1, e2, e3⟩ := h3
    cases hL : L[k] with
    | mk f t w r =>
      rw [hL] at e1 e2 e3
      simp only [mkE] at e1 e2 e3 ⊢
      rw [e1, e2, e3]
theorem Mx.cfv {n s t : Nat} {rs : List Bd} {L : List Fl.E} (h : Mx n s t rs L) : cfV n s t rs (L.map (·.r)) = (Fl.out s L, 0) := by
  have hl := h.len
  have hf : (List.range rs.length).all (fit1 rs (L.map (·.r))) = true := List.all_eq_true.2 fun k hk => by
    have hk1 := List.mem_range.1 hk
    have h2 : k < L.length := by omega
    have h3 := h.same k hk1
    rw [getD_get h2] at h3
    have h4 : (L.map (·.r)).getD k 0 = L[k].r := by simp [List.getD, h2]
    have h5 := h.fl.bd _ (List.getElem_mem h2)
    refine decide_eq_true ?_
    rw [h4]
    have e3 : L[k].w = (rs.getD k default).m := h3.2.2
    omega
  rw [cf_ok (by rw [List.length_map]; exact hl) hf (by
    rw [h.cf]
    exact List.all_eq_true.2 fun u hu => decide_eq_true (by
      by_cases e1 : u = s
      · exact .inl e1
      · by_cases e2 : u = t
        · exact .inr (.inl e2)
        · exact .inr (.inr (h.fl.kp u (List.mem_range.1 hu) e1 e2)))), h.cf]
theorem CheckFlow_m {w0 : World} {n s t : Nat} {p : Option Addr} {cap : Nat} {rs : List Bd} (hr : BdsAt w0 p rs) (hv : Vd n s t rs) (hd0 : dI n s t rs = 0) {pf : Option Addr} {cf m : Nat} {fs : List Int} (hm : fs.length = m) (hf : IntsAt w0 pf fs) (hl9 : fs.length ≤ 1000000) :
    Calls Try.prog 18 #[dnV n s t p rs.length cap, .slice pf m cf] w0 (Post (X := Unit) (fun _ => .tuple #[.int .i64 (cfV n s t rs fs).1, .int .i64 (cfV n s t rs fs).2]) (fun _ => True) (fun _ => []) w0) := by
  subst hm; exact CheckFlow_v w0 n s t p cap rs hr hv hd0 pf cf fs hf hl9
/-- A set that nothing can leave, as Fl has it. -/
theorem Shut.shut {L : List Fl.E} {n s t : Nat} (h : Shut L n s t) (hb : ∀ e ∈ L, 0 ≤ e.r ∧ e.r ≤ e.w) : ∃ S : Nat → Bool, S s = true ∧ S t = false ∧ Fl.shutS S L := by
  obtain ⟨seen, _, h1, h2, h3⟩ := h
  refine ⟨sn seen, h1, h2, fun e he => ?_⟩
  obtain ⟨j, hj, rfl⟩ := List.getElem_of_mem he
  have hbe := hb _ he
  have hg := getD_get hj
  refine ⟨fun hf ht => ?_, fun hf ht => ?_⟩
  · have h4 := h3 _ hf j hj
    rw [hg] at h4
    unfold Fl.onw at h4
    rw [if_pos rfl] at h4
    by_cases e9 : 0 < L[j].w - L[j].r
    · have := h4 e9; rw [ht] at this; cases this
    · omega
  · have h4 := h3 _ ht j hj
    rw [hg] at h4
    unfold Fl.onw at h4
    by_cases e8 : L[j].t = L[j].f
    · rw [e8, hf] at ht; cases ht
    · rw [if_neg e8, if_pos rfl] at h4
      by_cases e9 : 0 < L[j].r
      · have := h4 e9; simp only at this; rw [hf] at this; cases this
      · omega
/-- The most is the width of the narrowest cut. -/
theorem Mx.most {n s t : Nat} {rs : List Bd} {L : List Fl.E} (h : Mx n s t rs L) (hs : Shut L n s t) : (∃ S : Nat → Bool, S s = true ∧ S t = false ∧ Fl.out s L = Fl.cutW S L) ∧ ∀ S : Nat → Bool, S s = true → S t = false → Fl.out s L ≤ Fl.cutW S L := by
  obtain ⟨S, h1, h2, h3⟩ := hs.shut h.fl.bd
  exact ⟨⟨S, h1, h2, h.fl.top h1 h2 h3⟩, fun S h1 h2 => h.fl.le h1 h2⟩


set_option maxRecDepth 100000 in
set_option maxHeartbeats 1000000 in
theorem Most_v (w0 : World) (n s t : Nat) (p : Option Addr) (cap : Nat) (rs : List Bd) (hr : BdsAt w0 p rs) (hv : Vd n s t rs) (hd0 : dI n s t rs = 0) :
    Calls Try.prog 22 #[dnV n s t p rs.length cap] w0 (Post (X := List Fl.E) (fun L => .tuple #[.int .i64 (Fl.out s L), .int .i64 0]) (fun L => Mx n s t rs L ∧ Shut L n s t) (fun _ => []) w0) := by
  have hlen := hv.len
  refine calls Try.func22 rfl (n := 19) rfl (by simp) ?_
  refine TC.seq ?_
  refine TC.region ?_
  refine TL.box rfl rfl (by decide) (fun b0 hb0 => ?_)
  refine TL.pure (PV.assign rfl) rfl (by decide) ?_
  refine TL.pure (PV.assign rfl) rfl (by decide) ?_
  refine TL.nil ?_
  refine TQ.thenC ?_
  refine TC.seq ?_
  refine TC.region ?_
  refine TL.pure (PV.loadBox rfl Tb.agg_24 (by repeat (first | exact List.Mem.head _ | refine List.Mem.tail _ ?_ | refine List.mem_append_right _ ?_)) rfl) rfl (by decide) ?_
  refine TL.call rfl Tb.gofn_24 (fun a w hs => Flow_v w n s t p cap rs (hr.new hs.new) hv hd0) rfl (by decide) (fun x1 hx1 => ?_)
  obtain ⟨b1, L⟩ := x1
  refine TL.pure (PV.move rfl) rfl (by decide) ?_
  refine TL.pure (PV.extract rfl rfl) rfl (by decide) ?_
  refine TL.pure (PV.extract rfl rfl) rfl (by decide) ?_
  refine TL.pure (PV.assign rfl) rfl (by decide) ?_
  refine TL.pure (PV.assign rfl) rfl (by decide) ?_
  refine TL.nil ?_
  refine TQ.thenC ?_
  refine TC.seq ?_
  refine TC.seq ?_
  refine TC.region ?_
  refine TL.pure (PV.move rfl) rfl (by decide) ?_
  refine TL.pure (PV.neq rfl rfl) rfl (by decide) ?_
  refine TL.nil ?_
  refine TQ.thenC ?_
  first | refine TC.condD rfl (fun h0 => ?_) (fun h0 => ?_) | refine TC.cond rfl (fun h0 => ?_) (fun h0 => ?_)
  · skip
    refine TC.seq ?_
    refine TC.region ?_
    refine TL.pure (PV.move rfl) rfl (by decide) ?_
    refine TL.pure (PV.assign rfl) rfl (by decide) ?_
    refine TL.pure (PV.assign rfl) rfl (by decide) ?_
    refine TL.nil ?_
    refine TQ.thenC ?_
    refine TC.ret ?_
    refine TQ.thenR ?_
    refine TQ.retE2 rfl rfl rfl ?_
    exact absurd rfl h0
  · skip
    refine TC.skip ?_
    refine TQ.thenC ?_
    refine TC.seq ?_
    refine TC.region ?_
    refine TL.pure (PV.loadBox rfl Tb.agg_24 (by repeat (first | exact List.Mem.head _ | refine List.Mem.tail _ ?_ | refine List.mem_append_right _ ?_)) rfl) rfl (by decide) ?_
    refine TL.pure (PV.move rfl) rfl (by decide) ?_
    refine TL.call rfl Tb.gofn_18 (fun a w hs => CheckFlow_m (fs := L.map (·.r)) (hr.new hs.new) hv hd0 (by rw [List.length_map]; exact hx1.1.len) (IntsAt.arr hs.new (by repeat (first | exact List.Mem.head _ | refine List.Mem.tail _ ?_ | refine List.mem_append_right _ ?_))) (by rw [List.length_map]; have h9 : L.length = rs.length := hx1.1.len; omega)) rfl (by decide) (fun _ _ => ?_)
    refine TL.pure (PV.extract rfl rfl) rfl (by decide) ?_
    refine TL.pure (PV.extract rfl rfl) rfl (by decide) ?_
    refine TL.pure (PV.assign rfl) rfl (by decide) ?_
    refine TL.pure (PV.assign rfl) rfl (by decide) ?_
    refine TL.nil ?_
    refine TQ.thenC ?_
    refine TC.ret ?_
    refine TQ.retE2 rfl rfl rfl ?_
    exact ⟨L, by rw [hx1.1.cfv], hx1, List.nil_sublist _⟩

end Go.Proofs.Ytnlbngbbddhgeaa
