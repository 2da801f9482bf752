/- Mirrors: the law's contract. -/
import Derived.Test.YtfgjojoipbbacaaDN
set_option linter.unusedVariables false
set_option linter.unusedSimpArgs false
namespace Go.Proofs.Ytfgjojoipbbacaa
open Go.Sx Go.RowKit

end Go.Proofs.Ytfgjojoipbbacaa
namespace Go.Sx
/-- An operation whose guard's own operation was not wanted is not wanted. -/
def undoneB (ops : Array Oper) (E : Env) : Option (Nat × Bool) → Bool
  | none => false
  | some (j, _) => match (ops[j]?).bind (·.dst) with
    | none => false
    | some s => match Sx.look s E with
      | some (.tuple _) => true
      | _ => false
section
variable {P : Program} {n : Nat} {w0 : World} {E : Env} {G : Heap} {a : Act} {w : World} {ops : Array Oper} {Q : Exit → Act → World → Prop} {l : List Oper}
theorem S_undone (h : S n w0 E G a w) {o : Oper} (hw : undoneB ops E o.guard = true) : Region.wanted o (yielded ops a.tmps) = false := by
  unfold Region.wanted
  cases hg : o.guard with
  | none => simp [undoneB, hg] at hw
  | some jw =>
    obtain ⟨j, want⟩ := jw
    simp only [undoneB, hg] at hw
    simp only [yielded]
    cases hs : (ops[j]?).bind (·.dst) with
    | none => simp [hs] at hw
    | some s =>
      simp only [hs] at hw
      cases hl : Sx.look s E with
      | none => simp [hl] at hw
      | some v =>
        have := h.env s v hl
        rw [hl] at hw
        cases v <;> first | (simp [this]; done) | simp at hw
theorem TL.skipU {d : Option Nat} {op : Op} {ty : TypeId} {pos : String} {aft : Array Edge} {g : Option (Nat × Bool)}
    (hg : undoneB ops E g = true) (hd : ∀ k, d = some k → k < n) (h : TL P n w0 ops Q l (match d with | some k => (k, undef) :: E | none => E) G) :
    TL P n w0 ops Q (⟨d, op, ty, pos, aft, g⟩ :: l) E G := by
  intro a w hs
  unfold wpList
  have := S_undone hs (o := ⟨d, op, ty, pos, aft, g⟩) hg
  rw [if_neg (by simp [this])]
  cases d with
  | none => exact h _ _ hs
  | some k => exact h _ _ (hs.put (hd k rfl) undef)
theorem OpOK.skipU {d : Nat} {op : Op} {ty : TypeId} {pos : String} {aft : Array Edge} {g : Option (Nat × Bool)} (hg : undoneB ops E g = true) :
    OpOK P n w0 ops Q G E ⟨some d, op, ty, pos, aft, g⟩ d undef := by
  intro F' hF a w hs
  have := S_undone (hs.env_le hF) (o := ⟨some d, op, ty, pos, aft, g⟩) hg
  rw [if_neg (by simp [this])]
theorem TS.skipU {tl : List Oper} {d : Nat} {op : Op} {ty : TypeId} {pos : String} {aft : Array Edge} {g : Option (Nat × Bool)}
    (hg : undoneB ops E g = true) (hd : d < n) (h : TS P n w0 ops Q tl l ((d, undef) :: E) G) :
    TS P n w0 ops Q tl (⟨some d, op, ty, pos, aft, g⟩ :: l) E G := by
  intro a w hs
  unfold wpStill
  have := S_undone hs (o := ⟨some d, op, ty, pos, aft, g⟩) hg
  rw [if_neg (by simp [this])]
  exact h _ _ (hs.put hd undef)
end

end Go.Sx
namespace Go.Proofs.Ytfgjojoipbbacaa
open Go.Sx Go.RowKit
theorem mirR_len {ls : List (List Int)} : (mirR ls).length ≤ 1000000 := by
  by_cases h : validI ls ≠ 0
  · rw [mirR_no h]; exact Nat.zero_le _
  · rw [mirR_ok h, List.length_reverse]
    have := (vb_of h).n
    omega
theorem mirR_row {ls : List (List Int)} (j : Nat) : ((mirR ls).getD j []).length ≤ 1000000 := by
  by_cases h : validI ls ≠ 0
  · rw [mirR_no h]; exact Nat.zero_le _
  · rw [mirR_ok h]
    have h1 := (vb_of h).rev
    have h2 := row_le h1 j
    have h3 := h1.d
    omega
theorem GrP.caps {l : List (List Int)} {y : HD × List (HD × List Int)} {w0 w : World} {G : Heap} (h : GrP l y) (hn : New w0 w G) (hm : ∀ q ∈ gbP y, q ∈ G) : CapsAt w (gp y.1) l := by
  intro j hj q pj cj ln hq hc
  have hr := h.row hj
  have hl := h.len
  obtain ⟨_ | ⟨b, cap, sp⟩, ps⟩ := y
  · cases hq
  · obtain rfl : (⟨b, 0, none⟩ : Addr) = q := by simpa [gp] using hq
    rw [add_off] at hc
    have h2 : w.cell? ⟨b, 0 + j * 1, none⟩ = some (gvI (ps.getD j (none, []))) := hn.cell (hm _ (.head _)) (by
      have hl' : ps.length = l.length := hl
      rw [List.getElem?_toArray, Nat.zero_add, Nat.mul_one, List.getElem?_append_left (by rw [List.length_map]; omega)]
      simp [List.getD, show j < ps.length by omega])
    rw [h2] at hc
    have ho := hr.1
    simp only at ho
    generalize ps.getD j (none, []) = z at ho hc
    obtain ⟨_ | ⟨b2, c2, s2⟩, xs⟩ := z
    · have : xs.length = 0 := ho.2
      simp only [gvI, gval, Option.some.injEq, Value.slice.injEq] at hc
      omega
    · have h5 := ho.2.2
      simp only [gvI, gval, Option.some.injEq, Value.slice.injEq] at hc
      simp only at h5
      omega
theorem long_row {ls : List (List Int)} {xss : List (List Int)} (h : longB ls xss = false) : ls.length ≤ 50 ∧ ∀ j, (ls.getD j []).length ≤ 50 := by
  unfold longB at h
  simp only [Bool.or_eq_false_iff] at h
  obtain ⟨⟨_, h2⟩, h3⟩ := h
  refine ⟨by have := of_decide_eq_false h3; omega, fun j => ?_⟩
  by_cases hj : j < ls.length
  · have h4 := List.any_eq_false.1 h2 (ls.getD j []) (getD_mem hj)
    simp only [decide_eq_true_eq] at h4
    omega
  · rw [List.getD_eq_getElem?_getD, List.getElem?_eq_none (by omega)]; exact Nat.zero_le _
theorem long_x {ls : List (List Int)} {xs : List Int} (h : longB ls [xs] = false) : xs.length ≤ 100 := by
  unfold longB at h
  simp only [Bool.or_eq_false_iff] at h
  have h4 := List.any_eq_false.1 h.1.1 xs (by simp)
  simp only [decide_eq_true_eq] at h4
  omega
theorem mir_row1 {ls : List (List Int)} {c : Nat} (h : c < (mirR ls).length) : 1 ≤ ((mirR ls).getD c []).length := by
  by_cases h1 : validI ls ≠ 0
  · rw [mirR_no h1] at h; exact absurd h (Nat.not_lt_zero _)
  · rw [mirR_ok h1] at h ⊢
    have hv := (vb_of h1).rev
    have := hv.c c h
    have := hv.d
    omega
theorem mir_eq {ls : List (List Int)} {xs l : List Int} (hl : l = xs.reverse) (h : validI ls = 0) : holI (mirR ls) l = holI ls xs ∧ (if holI (mirR ls) l = 0 then worH (mirR ls) l else 0) = if holI ls xs = 0 then worH ls xs else 0 := by
  subst hl
  rw [mirR_ok (by rw [h]; decide)]
  exact mirrors (by rw [h]; decide) xs
/-- The first number of the first rows is 99. -/
def nnK (m : List (List Int)) (c : Nat) : List (List Int) := (List.range m.length).map fun j => if j < c then (m.getD j []).set 0 99 else m.getD j []
theorem nn_len (m : List (List Int)) (c : Nat) : (nnK m c).length = m.length := by simp [nnK]
theorem nn_at {m : List (List Int)} {c j : Nat} (hj : j < m.length) : (nnK m c).getD j [] = if j < c then (m.getD j []).set 0 99 else m.getD j [] := by simp [nnK, List.getD, hj]
theorem nn_zero (m : List (List Int)) : m = nnK m 0 := lls_ext (by rw [nn_len]) fun j hj => by rw [nn_at hj, if_neg (by omega)]
theorem nn_shp {m : List (List Int)} {y : HD × List (HD × List Int)} (h : GrP m y) (c : Nat) : Shp y.2 (nnK m c) := h.shp (nn_len _ _) fun j hj => by
  rw [nn_at hj]; split <;> simp
theorem nn_put {m : List (List Int)} {c : Nat} (hc : c < m.length) : (nnK m c).set c (((nnK m c).getD c []).set 0 99) = nnK m (c + 1) := by
  refine lls_ext (by rw [List.length_set, nn_len, nn_len]) fun j hj => ?_
  rw [List.length_set, nn_len] at hj
  rw [nn_at (c := c + 1) hj, nn_at hc, if_neg (by omega)]
  simp only [List.getD_eq_getElem?_getD, List.getElem?_set, nn_len]
  by_cases e : c = j
  · subst e; simp [hc]
  · rw [if_neg e]
    have h1 := nn_at (c := c) hj
    simp only [List.getD_eq_getElem?_getD] at h1
    rw [h1]
    by_cases h7 : j < c
    · rw [if_pos h7, if_pos (by omega)]
    · rw [if_neg h7, if_neg (by omega)]
theorem take_oneI {l : List Int} {k : Nat} (h : k < l.length) : l.take (k + 1) = l.take k ++ [l.getD k 0] := by
  rw [List.take_add_one]
  simp [List.getD, h]


set_option maxRecDepth 100000 in
set_option maxHeartbeats 4000000 in
theorem cutMirrors_ok (w0 : World) (p : Option Addr) (cap : Nat) (ls : List (List Int)) (hr : LsAt w0 p ls) (hl2 : ls.length ≤ 9223372036854775807) (hcap : CapsAt w0 p ls) (pl : Option Addr) (cl : Nat) (xs : List Int) (hx : IntsAt w0 pl xs) :
    Calls Try.prog 8 #[bv p ls.length cap, .slice pl xs.length cl] w0 (Post (X := Unit) (fun _ => .bool true) (fun _ => True) (fun _ => []) w0) := by
  refine calls Try.func8 rfl (n := 100) rfl (by simp) ?_
  refine TC.seq ?_
  refine TC.region ?_
  refine TL.box rfl rfl (by decide) (fun b0 hb0 => ?_)
  refine TL.pure (PV.assign rfl) rfl (by decide) ?_
  refine TL.nil ?_
  refine TQ.thenC ?_
  refine TC.seq ?_
  refine TC.seq ?_
  refine TC.region ?_
  refine TL.pure (PV.loadBox rfl Tb.agg_24 (by repeat (first | exact List.Mem.head _ | refine List.Mem.tail _ ?_ | refine List.mem_append_right _ ?_)) rfl) rfl (by decide) ?_
  refine TL.pure (PV.move rfl) rfl (by decide) ?_
  refine TL.buildSlice (cs := #[.slice pl xs.length cl]) rfl Tb.sl_22 Tb.zi_25 (by decide) (fill_o _ _ _) (by decide) rfl (by decide) (fun bS hbS => ?_)
  refine TL.call rfl Tb.gofn_17 (fun a w hs => long_ok w _ _ _ (hr.new hs.new) _ 1 [xs] (LsAt.one hs.new (by repeat (first | exact List.Mem.head _ | refine List.Mem.tail _ ?_ | refine List.mem_append_right _ ?_)) (hx.new hs.new)) (show 1 ≤ 1000 by decide) hl2) rfl (by decide) (fun _ _ => ?_)
  refine TL.nil ?_
  refine TQ.thenC ?_
  first | refine TC.condD rfl (fun hlong => ?_) (fun hlong => ?_) | refine TC.cond rfl (fun hlong => ?_) (fun hlong => ?_)
  · skip
    refine TC.seq ?_
    refine TC.region ?_
    refine TL.call rfl Tb.gofn_18 (fun a w hs => sane_ok w) rfl (by decide) (fun _ _ => ?_)
    refine TL.pure (PV.assign rfl) rfl (by decide) ?_
    refine TL.nil ?_
    refine TQ.thenC ?_
    refine TC.ret ?_
    refine TQ.thenR ?_
    refine TQ.retE1 rfl rfl ?_
    first | exact ⟨(), rfl, trivial, List.nil_sublist _⟩ | contradiction | (exfalso; omega) | (exfalso; first | (have h0 := m2 (by omega); omega) | (have h0 := m1 (by omega); omega)) | (exfalso; (try clear m1 m2); simp_all; done)
  · skip
    refine TC.skip ?_
    refine TQ.thenC ?_
    refine TC.seq ?_
    have hlr := long_row hlong
    have hxl := long_x hlong
    refine TC.region ?_
    refine TL.pure (PV.loadBox rfl Tb.agg_24 (by repeat (first | exact List.Mem.head _ | refine List.Mem.tail _ ?_ | refine List.mem_append_right _ ?_)) rfl) rfl (by decide) ?_
    refine TL.call rfl Tb.gofn_42 (fun a w hs => Copy_ok w _ _ _ (hr.new hs.new) (by omega) (fun j => Nat.le_trans (hlr.2 j) (by decide))) rfl (by decide) (fun o9 ho9 => ?_)
    refine TL.alloc Tb.zero_24 rfl (by decide) (fun b1 hb1 => ?_)
    refine TL.storeAgg rfl rfl Tb.cells_24 (by repeat (first | exact Upd.head _ | apply Upd.tail | apply Upd.appR)) rfl rfl (gvP_all _) rfl rfl ?_
    refine TL.nil ?_
    refine TQ.thenC ?_
    refine TC.seq ?_
    refine TC.region ?_
    refine TL.pure (PV.loadBox rfl Tb.agg_24 (by repeat (first | exact List.Mem.head _ | refine List.Mem.tail _ ?_ | refine List.mem_append_right _ ?_)) rfl) rfl (by decide) ?_
    refine TL.call rfl Tb.gofn_43 (fun a w hs => (by rw [ho9.val]; exact Mirror_ok w _ _ _ (ho9.lsAt hs.new (fun yy hyy => by simp only [List.mem_append, List.mem_cons]; simp [hyy]) (fun yy hyy => by simp only [List.mem_append, List.mem_cons]; simp [hyy])))) rfl (by decide) (fun a9 ha9 => ?_)
    refine TL.pure (PV.move rfl) rfl (by decide) ?_
    refine TL.pure (PV.extract rfl rfl) rfl (by decide) ?_
    refine TL.pure (PV.extract rfl rfl) rfl (by decide) ?_
    refine TL.alloc Tb.zero_24 rfl (by decide) (fun b2 hb2 => ?_)
    refine TL.storeAgg rfl rfl Tb.cells_24 (by repeat (first | exact Upd.head _ | apply Upd.tail | apply Upd.appR)) rfl rfl (gvP_all _) rfl rfl ?_
    refine TL.pure (PV.assign rfl) rfl (by decide) ?_
    refine TL.nil ?_
    refine TQ.thenC ?_
    refine TC.seq ?_
    refine TC.region ?_
    refine TL.pure (PV.loadBox rfl Tb.agg_24 (by repeat (first | exact List.Mem.head _ | refine List.Mem.tail _ ?_ | refine List.mem_append_right _ ?_)) rfl) rfl (by decide) ?_
    refine TL.call rfl Tb.gofn_44 (fun a w hs => rMirror_ok w _ _ _ (hr.new hs.new)) rfl (by decide) (fun b9 hb9 => ?_)
    refine TL.pure (PV.move rfl) rfl (by decide) ?_
    refine TL.pure (PV.extract rfl rfl) rfl (by decide) ?_
    refine TL.pure (PV.extract rfl rfl) rfl (by decide) ?_
    refine TL.alloc Tb.zero_24 rfl (by decide) (fun b3 hb3 => ?_)
    refine TL.storeAgg rfl rfl Tb.cells_24 (by repeat (first | exact Upd.head _ | apply Upd.tail | apply Upd.appR)) rfl rfl (gvP_all _) rfl rfl ?_
    refine TL.pure (PV.assign rfl) rfl (by decide) ?_
    refine TL.nil ?_
    refine TQ.thenC ?_
    refine TC.seq ?_
    refine TC.seq ?_
    refine TC.region ?_
    refine TL.pure (PV.loadBox rfl Tb.agg_24 (by repeat (first | exact List.Mem.head _ | refine List.Mem.tail _ ?_ | refine List.mem_append_right _ ?_)) rfl) rfl (by decide) ?_
    refine TL.pure (PV.loadBox rfl Tb.agg_24 (by repeat (first | exact List.Mem.head _ | refine List.Mem.tail _ ?_ | refine List.mem_append_right _ ?_)) rfl) rfl (by decide) ?_
    refine TL.call rfl Tb.gofn_41 (fun a w hs => (by rw [ha9.val, hb9.val]; exact same_ok w _ _ _ (ha9.lsAt hs.new (fun yy hyy => by simp only [List.mem_append, List.mem_cons]; simp [hyy]) (fun yy hyy => by simp only [List.mem_append, List.mem_cons]; simp [hyy])) _ _ _ (hb9.lsAt hs.new (fun yy hyy => by simp only [List.mem_append, List.mem_cons]; simp [hyy]) (fun yy hyy => by simp only [List.mem_append, List.mem_cons]; simp [hyy])) mirR_row mirR_row mirR_len mirR_len)) rfl (by decide) (fun _ _ => ?_)
    refine TL.pure ((by first | exact PV.notD rfl | exact PV.not rfl)) rfl (by decide) ?_
    refine TL.pure (PV.move rfl) rfl (by decide) ?_
    first | refine TL.splitD 38 rfl (fun h1 => ?_) (fun h1 => ?_) | refine TL.split 38 rfl (fun h1 => ?_) (fun h1 => ?_)
    · skip
      refine TL.skip rfl (fun k hk => by cases hk; decide) ?_
      refine TL.skip rfl (fun k hk => by cases hk; decide) ?_
      refine TL.skip rfl (fun k hk => by cases hk; decide) ?_
      refine TL.pure (PV.pickT rfl rfl) rfl (by decide) ?_
      refine TL.nil ?_
      refine TQ.thenC ?_
      refine TC.condT rfl ?_
      refine TC.seq ?_
      refine TC.region ?_
      refine TL.pure (PV.assign rfl) rfl (by decide) ?_
      refine TL.nil ?_
      refine TQ.thenC ?_
      refine TC.ret ?_
      refine TQ.thenR ?_
      refine TQ.retE1 rfl rfl ?_
      first | exact ⟨(), rfl, trivial, List.nil_sublist _⟩ | contradiction | (exfalso; omega) | (exfalso; first | (have h0 := m2 (by omega); omega) | (have h0 := m1 (by omega); omega)) | (exfalso; (try clear m1 m2); simp_all; done)
    · skip
      refine TL.pure (PV.move rfl) rfl (by decide) ?_
      refine TL.pure (PV.move rfl) rfl (by decide) ?_
      refine TL.pure (PV.neq rfl rfl) rfl (by decide) ?_
      refine TL.pure (PV.pickF rfl rfl) rfl (by decide) ?_
      refine TL.nil ?_
      refine TQ.thenC ?_
      first | refine TC.condD rfl (fun g1 => ?_) (fun g1 => ?_) | refine TC.cond rfl (fun g1 => ?_) (fun g1 => ?_)
      · skip
        refine TC.seq ?_
        refine TC.region ?_
        refine TL.pure (PV.assign rfl) rfl (by decide) ?_
        refine TL.nil ?_
        refine TQ.thenC ?_
        refine TC.ret ?_
        refine TQ.thenR ?_
        refine TQ.retE1 rfl rfl ?_
        first | exact ⟨(), rfl, trivial, List.nil_sublist _⟩ | contradiction | (exfalso; omega) | (exfalso; first | (have h0 := m2 (by omega); omega) | (have h0 := m1 (by omega); omega)) | (exfalso; (try clear m1 m2); simp_all; done)
      · skip
        refine TC.skip ?_
        refine TQ.thenC ?_
        refine TC.seq ?_
        refine TC.region ?_
        refine TL.pure (PV.loadBox rfl Tb.agg_24 (by repeat (first | exact List.Mem.head _ | refine List.Mem.tail _ ?_ | refine List.mem_append_right _ ?_)) rfl) rfl (by decide) ?_
        refine TL.pure (PV.move rfl) rfl (by decide) ?_
        refine TL.call rfl Tb.gofn_19 (fun a w hs => Worth_ok w _ _ _ (hr.new hs.new) _ _ _ (hx.new hs.new) (hcap.new hr hs.new)) rfl (by decide) (fun _ _ => ?_)
        refine TL.pure (PV.move rfl) rfl (by decide) ?_
        refine TL.pure (PV.extract rfl rfl) rfl (by decide) ?_
        refine TL.pure (PV.extract rfl rfl) rfl (by decide) ?_
        refine TL.pure (PV.assign rfl) rfl (by decide) ?_
        refine TL.pure (PV.assign rfl) rfl (by decide) ?_
        refine TL.nil ?_
        refine TQ.thenC ?_
        refine TC.seq ?_
        refine TC.region ?_
        refine TL.pure (PV.assign rfl) rfl (by decide) ?_
        refine TL.nil ?_
        refine TQ.thenC ?_
        refine TC.seq ?_
        refine TC.seq ?_
        refine TC.region ?_
        refine TL.pure (PV.move rfl) rfl (by decide) ?_
        refine TL.pure (PV.len rfl Tb.sl_25) rfl (by decide) ?_
        refine TL.pure (PV.sub rfl rfl (by omega)) rfl (by decide) ?_
        refine TL.pure (PV.assign rfl) rfl (by decide) ?_
        refine TL.nil ?_
        refine TQ.thenC ?_
        refine TC.block ?_
        refine TC.lit [(1, _), (2, _), (4, _), (5, _), (6, _), (7, _), (10, _), (11, _), (12, _), (13, _)] (by repeat (first | exact True.intro | refine And.intro rfl ?_)) ?_
        refine TC.loopK [1, 2, 4, 5, 6, 7, 10, 11] (X := Nat × Int × HD × List Int) (fun x => x.1 ≤ xs.length ∧ x.2.1 = (xs.length : Int) - 1 - x.1 ∧ x.2.2.2 = xs.reverse.take x.1 ∧ goI x.2.2) (fun x => [(13, .int .i64 x.2.1), (12, gvI x.2.2)]) (fun x => gbI x.2.2 ++ ((b2, Obj.cells #[gvP a9] 24 (0, 0)) :: (gbP a9 ++ (bl a9.2 ++ ((b1, Obj.cells #[gvP o9] 24 (0, 0)) :: (gbP o9 ++ (bl o9.2 ++ [(b0, Obj.cells #[.slice p ls.length cap] 24 (0, 0))]))))))) (fun x => xs.length - x.1) (0, (xs.length : Int) - 1, none, []) ⟨Nat.zero_le _, by simp, rfl, goI_nil⟩ (by repeat (first | exact True.intro | refine And.intro rfl ?_)) (by simp only [List.append_assoc, List.nil_append, List.cons_append]; repeat (first | exact List.Sublist.refl _ | refine List.Sublist.cons_cons _ ?_ | refine List.Sublist.cons _ ?_ | refine List.Sublist.append_left ?_ _ | refine List.Sublist.trans ?_ (List.sublist_append_right _ _))) ?_
        intro x hx9
        refine TC.lit [(1, _), (2, _), (4, _), (5, _), (6, _), (7, _), (10, _), (11, _), (12, _), (13, _)] (by repeat (first | exact True.intro | refine And.intro rfl ?_)) ?_
        refine TC.seq ?_
        refine TC.seq ?_
        refine TC.region ?_
        refine TL.pure (PV.move rfl) rfl (by decide) ?_
        refine TL.pure (PV.geq rfl rfl) rfl (by decide) ?_
        refine TL.nil ?_
        refine TQ.thenC ?_
        first | refine TC.condD rfl (fun hge => ?_) (fun hge => ?_) | refine TC.cond rfl (fun hge => ?_) (fun hge => ?_)
        · skip
          refine TC.skip ?_
          refine TQ.thenC ?_
          refine TC.seq ?_
          refine TC.block ?_
          obtain ⟨q2, hq2p, hq2⟩ := hx (xs.length - 1 - x.1) (by omega)
          have hm9 : x.2.1 = ((xs.length - 1 - x.1 : Nat) : Int) := by omega
          refine TC.region ?_
          refine TL.pure (PV.move rfl) rfl (by decide) ?_
          refine TL.pure (PV.move rfl) rfl (by decide) ?_
          refine TL.pure (PV.move rfl) rfl (by decide) ?_
          refine TL.pure (PV.indexA (j := xs.length - 1 - x.1) rfl hq2p rfl Tb.elm_25 hm9 (by omega)) rfl (by decide) ?_
          refine TL.pure (PV.loadOld rfl Tb.one_3 hq2) rfl (by decide) ?_
          refine TL.buildSlice (cs := #[.int .i64 (xs.getD (xs.length - 1 - x.1) 0)]) rfl Tb.sl_25 Tb.zi_3 (by decide) (fill_i _) (by decide) rfl (by decide) (fun bE hbE => ?_)
          refine TL.appendI (x0 := x.2.2) rfl rfl (by repeat (first | exact List.Mem.head _ | refine List.Mem.tail _ ?_ | refine List.mem_append_right _ ?_)) hx9.2.2.2 (by repeat (first | exact TakeH.here _ _ _ _ | apply TakeH.tail | apply TakeH.app)) (by rw [hx9.2.2.1, List.length_take]; omega) rfl (by decide) (fun hh hho => ?_)
          refine TL.pure (PV.assign rfl) rfl (by decide) ?_
          refine TL.nil ?_
          refine TQ.blkN ?_
          refine TQ.thenC ?_
          refine TC.region ?_
          refine TL.pure (PV.move rfl) rfl (by decide) ?_
          refine TL.pure (PV.sub rfl rfl (by omega)) rfl (by decide) ?_
          refine TL.pure (PV.assign rfl) rfl (by decide) ?_
          refine TL.nil ?_
          refine TQ.thenN ?_
          refine TQ.backK (x.1 + 1, x.2.1 - 1, hh, x.2.2.2 ++ [(xs.getD (xs.length - 1 - x.1) 0)]) (by repeat (first | exact True.intro | refine And.intro rfl ?_)) (by repeat (first | exact True.intro | refine And.intro rfl ?_)) (List.Sublist.append_left (List.Sublist.cons _ (List.Sublist.refl _)) _) ⟨by simp only; omega, by simp only; omega, by simp only; rw [hx9.2.2.1, take_oneI (by rw [List.length_reverse]; omega)]; congr 2; simp only [List.getD_eq_getElem?_getD]; rw [List.getElem?_reverse (by omega)], hho⟩ (by simp only; omega)
        · skip
          refine TC.exit ?_
          refine TQ.thenE ?_
          refine TQ.thenE ?_
          refine TQ.blkS ?_
          refine TQ.thenC ?_
          refine TC.seq ?_
          have hxg := hx9.2.2.2
          have hxr : x.2.2.2 = xs.reverse := by rw [hx9.2.2.1, List.take_of_length_le (by rw [List.length_reverse]; omega)]
          refine TC.region ?_
          refine TL.pure (PV.loadBox rfl Tb.agg_24 (by repeat (first | exact List.Mem.head _ | refine List.Mem.tail _ ?_ | refine List.mem_append_right _ ?_)) rfl) rfl (by decide) ?_
          refine TL.pure (PV.move rfl) rfl (by decide) ?_
          refine TL.call rfl Tb.gofn_19 (fun a w hs => (by rw [ha9.val, show gvI x.2.2 = .slice (gp x.2.2.1) x.2.2.2.length (gc x.2.2.1) from gval_eq hxg]; exact Worth_ok w _ _ _ (ha9.lsAt hs.new (fun yy hyy => by simp only [List.mem_append, List.mem_cons]; simp [hyy]) (fun yy hyy => by simp only [List.mem_append, List.mem_cons]; simp [hyy])) _ _ x.2.2.2 (IntsAt.g (x := x.2.2) hs.new (fun yy hyy => by simp only [List.mem_append, List.mem_cons]; simp [hyy]) hxg) (ha9.caps hs.new (fun yy hyy => by simp only [List.mem_append, List.mem_cons]; simp [hyy])))) rfl (by decide) (fun _ _ => ?_)
          refine TL.pure (PV.move rfl) rfl (by decide) ?_
          refine TL.pure (PV.extract rfl rfl) rfl (by decide) ?_
          refine TL.pure (PV.extract rfl rfl) rfl (by decide) ?_
          refine TL.pure (PV.assign rfl) rfl (by decide) ?_
          refine TL.pure (PV.assign rfl) rfl (by decide) ?_
          refine TL.nil ?_
          refine TQ.thenC ?_
          refine TC.seq ?_
          refine TC.seq ?_
          have m1 := fun h => (mir_eq (ls := ls) hxr h).1
          have m2 := fun h => (mir_eq (ls := ls) hxr h).2
          refine TC.region ?_
          refine TL.pure (PV.move rfl) rfl (by decide) ?_
          refine TL.pure (PV.eql rfl rfl) rfl (by decide) ?_
          refine TL.pure (PV.move rfl) rfl (by decide) ?_
          first | refine TL.splitD 71 rfl (fun h4 => ?_) (fun h4 => ?_) | refine TL.split 71 rfl (fun h4 => ?_) (fun h4 => ?_)
          · skip
            refine TL.pure (PV.move rfl) rfl (by decide) ?_
            refine TL.pure (PV.move rfl) rfl (by decide) ?_
            refine TL.pure (PV.neq rfl rfl) rfl (by decide) ?_
            refine TL.pure (PV.move rfl) rfl (by decide) ?_
            first | refine TL.splitD 75 rfl (fun h5 => ?_) (fun h5 => ?_) | refine TL.split 75 rfl (fun h5 => ?_) (fun h5 => ?_)
            · skip
              refine TL.skip rfl (fun k hk => by cases hk; decide) ?_
              refine TL.skip rfl (fun k hk => by cases hk; decide) ?_
              refine TL.skip rfl (fun k hk => by cases hk; decide) ?_
              refine TL.pure (PV.pickT rfl rfl) rfl (by decide) ?_
              refine TL.pure (PV.pickT rfl rfl) rfl (by decide) ?_
              refine TL.nil ?_
              refine TQ.thenC ?_
              refine TC.condT rfl ?_
              refine TC.seq ?_
              refine TC.region ?_
              refine TL.pure (PV.assign rfl) rfl (by decide) ?_
              refine TL.nil ?_
              refine TQ.thenC ?_
              refine TC.ret ?_
              refine TQ.thenR ?_
              refine TQ.retE1 rfl rfl ?_
              first | exact ⟨(), rfl, trivial, List.nil_sublist _⟩ | contradiction | (exfalso; omega) | (exfalso; first | (have h0 := m2 (by omega); omega) | (have h0 := m1 (by omega); omega)) | (exfalso; (try clear m1 m2); simp_all; done)
            · skip
              refine TL.pure (PV.move rfl) rfl (by decide) ?_
              refine TL.pure (PV.move rfl) rfl (by decide) ?_
              refine TL.pure (PV.neq rfl rfl) rfl (by decide) ?_
              refine TL.pure (PV.pickF rfl rfl) rfl (by decide) ?_
              refine TL.pure (PV.pickT rfl rfl) rfl (by decide) ?_
              refine TL.nil ?_
              refine TQ.thenC ?_
              first | refine TC.condD rfl (fun g2 => ?_) (fun g2 => ?_) | refine TC.cond rfl (fun g2 => ?_) (fun g2 => ?_)
              · skip
                refine TC.seq ?_
                refine TC.region ?_
                refine TL.pure (PV.assign rfl) rfl (by decide) ?_
                refine TL.nil ?_
                refine TQ.thenC ?_
                refine TC.ret ?_
                refine TQ.thenR ?_
                refine TQ.retE1 rfl rfl ?_
                first | exact ⟨(), rfl, trivial, List.nil_sublist _⟩ | contradiction | (exfalso; omega) | (exfalso; first | (have h0 := m2 (by omega); omega) | (have h0 := m1 (by omega); omega)) | (exfalso; (try clear m1 m2); simp_all; done)
              · skip
                refine TC.skip ?_
                refine TQ.thenC ?_
                refine TC.seq ?_
                refine TC.seq ?_
                have hal := ha9.len
                have hml := mirR_len (ls := ls)
                refine TC.region ?_
                refine TL.pure (PV.assign rfl) rfl (by decide) ?_
                refine TL.nil ?_
                refine TQ.thenC ?_
                refine TC.block ?_
                refine TC.lit [(2, _), (4, _), (5, _), (6, _), (16, _)] (by repeat (first | exact True.intro | refine And.intro rfl ?_)) ?_
                refine TC.loopK [2, 4, 5, 6] (X := Nat) (fun c => c ≤ (mirR ls).length) (fun c => [(16, .int .i64 c)]) (fun c => ((b2, Obj.cells #[gvP a9] 24 (0, 0)) :: (gbP a9 ++ (bl (mkR a9.2 (nnK (mirR ls) c)) ++ ((b1, Obj.cells #[gvP o9] 24 (0, 0)) :: (gbP o9 ++ (bl o9.2 ++ [(b0, Obj.cells #[.slice p ls.length cap] 24 (0, 0))]))))))) (fun c => (mirR ls).length - c) 0 (Nat.zero_le _) (by repeat (first | exact True.intro | refine And.intro rfl ?_)) (by rw [← nn_zero, ← ha9.eq, mkR_self]; exact List.sublist_append_right _ _) ?_
                intro c hc
                refine TC.lit [(2, _), (4, _), (5, _), (6, _), (16, _)] (by repeat (first | exact True.intro | refine And.intro rfl ?_)) ?_
                refine TC.seq ?_
                refine TC.seq ?_
                refine TC.region ?_
                refine TL.pure (PV.move rfl) rfl (by decide) ?_
                refine TL.pure (PV.fieldAddr rfl Tb.fo_24_0) rfl (by decide) ?_
                refine TL.pure (PV.load rfl Tb.one_22 (by repeat (first | exact List.Mem.head _ | refine List.Mem.tail _ ?_ | refine List.mem_append_right _ ?_)) rfl) rfl (by decide) ?_
                refine TL.pure (PV.lenG rfl ha9.ok Tb.sl_22) rfl (by decide) ?_
                refine TL.pure (PV.lss rfl rfl) rfl (by decide) ?_
                refine TL.nil ?_
                refine TQ.thenC ?_
                first | refine TC.condD rfl (fun hlt => ?_) (fun hlt => ?_) | refine TC.cond rfl (fun hlt => ?_) (fun hlt => ?_)
                · skip
                  refine TC.skip ?_
                  refine TQ.thenC ?_
                  refine TC.seq ?_
                  refine TC.block ?_
                  have hr1 := mir_row1 (ls := ls) (c := c) (by omega)
                  obtain ⟨hro, hrl⟩ := row_at ha9 (show c < (mirR ls).length by omega)
                  refine TC.region ?_
                  refine TL.pure (PV.fieldAddr rfl Tb.fo_24_0) rfl (by decide) ?_
                  refine TL.pure (PV.load rfl Tb.one_22 (by repeat (first | exact List.Mem.head _ | refine List.Mem.tail _ ?_ | refine List.mem_append_right _ ?_)) rfl) rfl (by decide) ?_
                  refine TL.pure (PV.move rfl) rfl (by decide) ?_
                  refine TL.pure (PV.indexG (j := c) rfl rfl ha9.ok Tb.elm_22 rfl (by omega)) rfl (by decide) ?_
                  refine TL.pure (PV.loadGP (y := a9) (j := c) (v := gvI (a9.2.getD c (none, []))) rfl Tb.one_25 (fun yy hyy => by simp only [List.mem_append, List.mem_cons]; simp [hyy]) ha9.ok (by omega) rfl) rfl (by decide) ?_
                  refine TL.pure (PV.indexG (j := 0) rfl rfl hro Tb.elm_25 rfl (by omega)) rfl (by decide) ?_
                  refine TL.putL (l0 := mirR ls) (yy := a9) (m := nnK (mirR ls) c) (m' := nnK (mirR ls) (c + 1)) (c := c) (j := 0) (v := 99) rfl rfl Tb.cells_3 ha9 (nn_shp ha9 c) (by omega) (by rw [nn_at (by omega), if_neg (by omega)]; omega) (nn_put (by omega)) (by repeat (first | exact PutL.here _ | apply PutL.tail | apply PutL.app)) rfl rfl ?_
                  refine TL.nil ?_
                  refine TQ.blkN ?_
                  refine TQ.thenC ?_
                  refine TC.region ?_
                  refine TL.pure (PV.move rfl) rfl (by decide) ?_
                  refine TL.pure (PV.add rfl rfl (by omega)) rfl (by decide) ?_
                  refine TL.pure (PV.assign rfl) rfl (by decide) ?_
                  refine TL.nil ?_
                  refine TQ.thenN ?_
                  refine TQ.backK (c + 1) (by repeat (first | exact True.intro | refine And.intro rfl ?_)) (by repeat (first | exact True.intro | refine And.intro rfl ?_)) (List.Sublist.refl _) (by omega) (by omega)
                · skip
                  refine TC.exit ?_
                  refine TQ.thenE ?_
                  refine TQ.thenE ?_
                  refine TQ.blkS ?_
                  refine TQ.thenC ?_
                  refine TC.seq ?_
                  refine TC.region ?_
                  refine TL.pure (PV.loadBox rfl Tb.agg_24 (by repeat (first | exact List.Mem.head _ | refine List.Mem.tail _ ?_ | refine List.mem_append_right _ ?_)) rfl) rfl (by decide) ?_
                  refine TL.pure (PV.loadBox rfl Tb.agg_24 (by repeat (first | exact List.Mem.head _ | refine List.Mem.tail _ ?_ | refine List.mem_append_right _ ?_)) rfl) rfl (by decide) ?_
                  refine TL.call rfl Tb.gofn_41 (fun a w hs => (by rw [ho9.val]; have h0 := same_ok w _ (gc o9.1) ls (ho9.lsAt hs.new (fun yy hyy => by simp only [List.mem_append, List.mem_cons]; simp [hyy]) (fun yy hyy => by simp only [List.mem_append, List.mem_cons]; simp [hyy])) p cap ls (hr.new hs.new) (fun j => Nat.le_trans (hlr.2 j) (by decide)) (fun j => Nat.le_trans (hlr.2 j) (by decide)) (by omega) (by omega); rw [decide_eq_true rfl] at h0; exact h0)) rfl (by decide) (fun _ _ => ?_)
                  refine TL.pure (PV.move rfl) rfl (by decide) ?_
                  first | refine TL.splitD 97 rfl (fun h8 => ?_) (fun h8 => ?_) | refine TL.split 97 rfl (fun h8 => ?_) (fun h8 => ?_)
                  · skip
                    refine TL.call rfl Tb.gofn_18 (fun a w hs => sane_ok w) rfl (by decide) (fun _ _ => ?_)
                    refine TL.pure (PV.pickT rfl rfl) rfl (by decide) ?_
                    refine TL.pure (PV.assign rfl) rfl (by decide) ?_
                    refine TL.nil ?_
                    refine TQ.thenC ?_
                    refine TC.ret ?_
                    refine TQ.retE1 rfl rfl ?_
                    first | exact ⟨(), rfl, trivial, List.nil_sublist _⟩ | contradiction | (exfalso; omega) | (exfalso; first | (have h0 := m2 (by omega); omega) | (have h0 := m1 (by omega); omega)) | (exfalso; (try clear m1 m2); simp_all; done)
                  · skip
                    refine TL.skip rfl (fun k hk => by cases hk; decide) ?_
                    refine TL.pure (PV.pickF rfl rfl) rfl (by decide) ?_
                    refine TL.pure (PV.assign rfl) rfl (by decide) ?_
                    refine TL.nil ?_
                    refine TQ.thenC ?_
                    refine TC.ret ?_
                    refine TQ.retE1 rfl rfl ?_
                    first | exact ⟨(), rfl, trivial, List.nil_sublist _⟩ | contradiction | (exfalso; omega) | (exfalso; first | (have h0 := m2 (by omega); omega) | (have h0 := m1 (by omega); omega)) | (exfalso; (try clear m1 m2); simp_all; done)
          · skip
            refine TL.skip rfl (fun k hk => by cases hk; decide) ?_
            refine TL.skip rfl (fun k hk => by cases hk; decide) ?_
            refine TL.skip rfl (fun k hk => by cases hk; decide) ?_
            refine TL.skip rfl (fun k hk => by cases hk; decide) ?_
            refine TL.skipU rfl (fun k hk => by cases hk; decide) ?_
            refine TL.skipU rfl (fun k hk => by cases hk; decide) ?_
            refine TL.skipU rfl (fun k hk => by cases hk; decide) ?_
            refine TL.skip rfl (fun k hk => by cases hk; decide) ?_
            refine TL.pure (PV.pickF rfl rfl) rfl (by decide) ?_
            refine TL.nil ?_
            refine TQ.thenC ?_
            refine TC.condF rfl ?_
            refine TC.skip ?_
            refine TQ.thenC ?_
            refine TC.seq ?_
            refine TC.seq ?_
            have hal := ha9.len
            have hml := mirR_len (ls := ls)
            refine TC.region ?_
            refine TL.pure (PV.assign rfl) rfl (by decide) ?_
            refine TL.nil ?_
            refine TQ.thenC ?_
            refine TC.block ?_
            refine TC.lit [(2, _), (4, _), (5, _), (6, _), (16, _)] (by repeat (first | exact True.intro | refine And.intro rfl ?_)) ?_
            refine TC.loopK [2, 4, 5, 6] (X := Nat) (fun c => c ≤ (mirR ls).length) (fun c => [(16, .int .i64 c)]) (fun c => ((b2, Obj.cells #[gvP a9] 24 (0, 0)) :: (gbP a9 ++ (bl (mkR a9.2 (nnK (mirR ls) c)) ++ ((b1, Obj.cells #[gvP o9] 24 (0, 0)) :: (gbP o9 ++ (bl o9.2 ++ [(b0, Obj.cells #[.slice p ls.length cap] 24 (0, 0))]))))))) (fun c => (mirR ls).length - c) 0 (Nat.zero_le _) (by repeat (first | exact True.intro | refine And.intro rfl ?_)) (by rw [← nn_zero, ← ha9.eq, mkR_self]; exact List.sublist_append_right _ _) ?_
            intro c hc
            refine TC.lit [(2, _), (4, _), (5, _), (6, _), (16, _)] (by repeat (first | exact True.intro | refine And.intro rfl ?_)) ?_
            refine TC.seq ?_
            refine TC.seq ?_
            refine TC.region ?_
            refine TL.pure (PV.move rfl) rfl (by decide) ?_
            refine TL.pure (PV.fieldAddr rfl Tb.fo_24_0) rfl (by decide) ?_
            refine TL.pure (PV.load rfl Tb.one_22 (by repeat (first | exact List.Mem.head _ | refine List.Mem.tail _ ?_ | refine List.mem_append_right _ ?_)) rfl) rfl (by decide) ?_
            refine TL.pure (PV.lenG rfl ha9.ok Tb.sl_22) rfl (by decide) ?_
            refine TL.pure (PV.lss rfl rfl) rfl (by decide) ?_
            refine TL.nil ?_
            refine TQ.thenC ?_
            first | refine TC.condD rfl (fun hlt => ?_) (fun hlt => ?_) | refine TC.cond rfl (fun hlt => ?_) (fun hlt => ?_)
            · skip
              refine TC.skip ?_
              refine TQ.thenC ?_
              refine TC.seq ?_
              refine TC.block ?_
              have hr1 := mir_row1 (ls := ls) (c := c) (by omega)
              obtain ⟨hro, hrl⟩ := row_at ha9 (show c < (mirR ls).length by omega)
              refine TC.region ?_
              refine TL.pure (PV.fieldAddr rfl Tb.fo_24_0) rfl (by decide) ?_
              refine TL.pure (PV.load rfl Tb.one_22 (by repeat (first | exact List.Mem.head _ | refine List.Mem.tail _ ?_ | refine List.mem_append_right _ ?_)) rfl) rfl (by decide) ?_
              refine TL.pure (PV.move rfl) rfl (by decide) ?_
              refine TL.pure (PV.indexG (j := c) rfl rfl ha9.ok Tb.elm_22 rfl (by omega)) rfl (by decide) ?_
              refine TL.pure (PV.loadGP (y := a9) (j := c) (v := gvI (a9.2.getD c (none, []))) rfl Tb.one_25 (fun yy hyy => by simp only [List.mem_append, List.mem_cons]; simp [hyy]) ha9.ok (by omega) rfl) rfl (by decide) ?_
              refine TL.pure (PV.indexG (j := 0) rfl rfl hro Tb.elm_25 rfl (by omega)) rfl (by decide) ?_
              refine TL.putL (l0 := mirR ls) (yy := a9) (m := nnK (mirR ls) c) (m' := nnK (mirR ls) (c + 1)) (c := c) (j := 0) (v := 99) rfl rfl Tb.cells_3 ha9 (nn_shp ha9 c) (by omega) (by rw [nn_at (by omega), if_neg (by omega)]; omega) (nn_put (by omega)) (by repeat (first | exact PutL.here _ | apply PutL.tail | apply PutL.app)) rfl rfl ?_
              refine TL.nil ?_
              refine TQ.blkN ?_
              refine TQ.thenC ?_
              refine TC.region ?_
              refine TL.pure (PV.move rfl) rfl (by decide) ?_
              refine TL.pure (PV.add rfl rfl (by omega)) rfl (by decide) ?_
              refine TL.pure (PV.assign rfl) rfl (by decide) ?_
              refine TL.nil ?_
              refine TQ.thenN ?_
              refine TQ.backK (c + 1) (by repeat (first | exact True.intro | refine And.intro rfl ?_)) (by repeat (first | exact True.intro | refine And.intro rfl ?_)) (List.Sublist.refl _) (by omega) (by omega)
            · skip
              refine TC.exit ?_
              refine TQ.thenE ?_
              refine TQ.thenE ?_
              refine TQ.blkS ?_
              refine TQ.thenC ?_
              refine TC.seq ?_
              refine TC.region ?_
              refine TL.pure (PV.loadBox rfl Tb.agg_24 (by repeat (first | exact List.Mem.head _ | refine List.Mem.tail _ ?_ | refine List.mem_append_right _ ?_)) rfl) rfl (by decide) ?_
              refine TL.pure (PV.loadBox rfl Tb.agg_24 (by repeat (first | exact List.Mem.head _ | refine List.Mem.tail _ ?_ | refine List.mem_append_right _ ?_)) rfl) rfl (by decide) ?_
              refine TL.call rfl Tb.gofn_41 (fun a w hs => (by rw [ho9.val]; have h0 := same_ok w _ (gc o9.1) ls (ho9.lsAt hs.new (fun yy hyy => by simp only [List.mem_append, List.mem_cons]; simp [hyy]) (fun yy hyy => by simp only [List.mem_append, List.mem_cons]; simp [hyy])) p cap ls (hr.new hs.new) (fun j => Nat.le_trans (hlr.2 j) (by decide)) (fun j => Nat.le_trans (hlr.2 j) (by decide)) (by omega) (by omega); rw [decide_eq_true rfl] at h0; exact h0)) rfl (by decide) (fun _ _ => ?_)
              refine TL.pure (PV.move rfl) rfl (by decide) ?_
              first | refine TL.splitD 97 rfl (fun h10 => ?_) (fun h10 => ?_) | refine TL.split 97 rfl (fun h10 => ?_) (fun h10 => ?_)
              · skip
                refine TL.call rfl Tb.gofn_18 (fun a w hs => sane_ok w) rfl (by decide) (fun _ _ => ?_)
                refine TL.pure (PV.pickT rfl rfl) rfl (by decide) ?_
                refine TL.pure (PV.assign rfl) rfl (by decide) ?_
                refine TL.nil ?_
                refine TQ.thenC ?_
                refine TC.ret ?_
                refine TQ.retE1 rfl rfl ?_
                first | exact ⟨(), rfl, trivial, List.nil_sublist _⟩ | contradiction | (exfalso; omega) | (exfalso; first | (have h0 := m2 (by omega); omega) | (have h0 := m1 (by omega); omega)) | (exfalso; (try clear m1 m2); simp_all; done)
              · skip
                refine TL.skip rfl (fun k hk => by cases hk; decide) ?_
                refine TL.pure (PV.pickF rfl rfl) rfl (by decide) ?_
                refine TL.pure (PV.assign rfl) rfl (by decide) ?_
                refine TL.nil ?_
                refine TQ.thenC ?_
                refine TC.ret ?_
                refine TQ.retE1 rfl rfl ?_
                first | exact ⟨(), rfl, trivial, List.nil_sublist _⟩ | contradiction | (exfalso; omega) | (exfalso; first | (have h0 := m2 (by omega); omega) | (have h0 := m1 (by omega); omega)) | (exfalso; (try clear m1 m2); simp_all; done)

end Go.Proofs.Ytfgjojoipbbacaa
