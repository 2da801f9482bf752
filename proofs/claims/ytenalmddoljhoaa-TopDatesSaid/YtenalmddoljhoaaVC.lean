/- Copies of cores, whether two are the same, and a core turned: contracts. -/
import Derived.Test.YtenalmddoljhoaaVB
set_option linter.unusedVariables false
set_option linter.unusedSimpArgs false
namespace Go.Proofs.Ytenalmddoljhoaa
open Go.Sx Go.RowKit

section
variable {P : Program} {n : Nat} {w0 : World} {E : Env} {G : Heap} {d : Option Nat} {ty : TypeId} {pos : String} {aft : Array Edge} {g : Option (Nat × Bool)}
theorem PV.fieldAddrA {x : Operand} {q : Addr} {k : Nat} {t f : Nat} (hx : evo E x = some (.pointer (some q))) (hf : fieldOff P t f = some k) :
    PV P n w0 E G ⟨d, .fieldAddr t x f, ty, pos, aft, g⟩ (.pointer (some (q.add k))) :=
  fun a w hs => by
    unfold fieldOff at hf
    cases hu : P.underlying t with
    | none => simp [hu] at hf
    | some u =>
      cases u <;> simp only [hu] at hf <;> try (simp at hf; done)
      rename_i fs
      cases hfd : fs[f]? with
      | none => simp [hfd] at hf
      | some fd =>
        simp only [hfd] at hf
        cases hi : P.info? fd.type with
        | none => simp [hi] at hf
        | some i =>
          simp only [hi] at hf
          split at hf
          · cases hf
          · rename_i hne
            cases hf
            simp only [execOp, hs.ev hx]
            simp [Instr.fieldAt, run_underlying hu, hfd, Instr.sureAddr, fieldPlace, sizeOf, typeInfo, hi, hne]
end
theorem take_all_eq {α : Type} [Inhabited α] {xs ys : List α} (d : α) (hl : xs.length = ys.length) (h : ∀ j, j < xs.length → xs.getD j d = ys.getD j d) : xs = ys := by
  apply List.ext_getElem hl
  intro i h1 h2
  have := h i h1
  simpa [List.getD, h1, h2] using this

theorem nil22 (a : Option Addr) (k c : Nat) (w : World) : (binOp .eql 22 (.slice a k c) (.slice none 0 0)).run Try.prog w = .ok (.bool a.isNone) w := Go.Lib.run_eql_slice_nil w 22 42 a k c 0 0 Tb.sl_22
theorem eq42n_guard (x y : Operand) (r s : Bd) (w : World) : (eqGuard .neq 42 x y r.val s.val).run Try.prog w = .ok () w :=
  run_eqGuard_agg (w := w) .neq 42 x y _ _ (by kernel_rfl)
theorem eq42_fs : ((Try.prog.fieldsOf 42).toList.map fun f => (f.name != "_", f.type, f.offset)) = [(true, 3, 0), (true, 3, 1), (true, 3, 2)] := by kernel_rfl
theorem eqF3 {P : Program} (w : World) (d : Nat) (a0 a1 a2 c0 c1 c2 : Int) (t : TypeId) {k : IntKind} (ht : P.underlying t = some (.int k)) (ha : (isAgg t).run P w = .ok false w) {fs : List Field} (h : (fs.map fun f => (f.name != "_", f.type, f.offset)) = [(true, t, 0), (true, t, 1), (true, t, 2)]) :
   (Op.eqFields (d + 1) #[.int .i64 a0, .int .i64 a1, .int .i64 a2] #[.int .i64 c0, .int .i64 c1, .int .i64 c2] fs).run P w = .ok (decide (a0 = c0 ∧ a1 = c1 ∧ a2 = c2)) w := by
  rcases fs with _ | ⟨f, _ | ⟨g, _ | ⟨f3, _ | ⟨f4, fs⟩⟩⟩⟩ <;> simp at h
  obtain ⟨⟨h1, h2, h3⟩, ⟨h4, h5, h6⟩, h7, h8, h9⟩ := h
  by_cases e0 : a0 = c0
  · by_cases e1 : a1 = c1
    · by_cases e2 : a2 = c2 <;> simp [Op.eqFields, h1, h2, h3, h4, h5, h6, h7, h8, h9, part, ha, run_equalIn_int w _ _ _ _ _ _ ht, e0, e1, e2]
    · simp [Op.eqFields, h1, h2, h3, h4, h5, h6, part, ha, run_equalIn_int w _ _ _ _ _ _ ht, e0, e1]
  · simp [Op.eqFields, h1, h2, h3, part, ha, run_equalIn_int w _ _ _ _ _ _ ht, e0]
theorem eq42n (r s : Bd) (w : World) : (binOp .neq 42 r.val s.val).run Try.prog w = .ok (.bool (decide (¬ r = s))) w := by
  rw [run_neq_struct, show (10000 : Nat) = 9998 + 1 + 1 from rfl, run_equalIn_agg w _ _ _ _ (by kernel_rfl) (by kernel_rfl), eqF3 w _ _ _ _ _ _ _ 3 (k := .i64) (by kernel_rfl) (by simp [isAgg, run_underlying (show Try.prog.underlying 3 = some (.int .i64) by kernel_rfl)]) eq42_fs]
  have e : (r.a = s.a ∧ r.b = s.b ∧ r.m = s.m) ↔ r = s := by
    constructor
    · obtain ⟨a, b, c⟩ := r
      obtain ⟨a', b', c'⟩ := s
      rintro ⟨h1, h2, h3⟩
      simp at h1 h2 h3
      subst h1; subst h2; subst h3; rfl
    · rintro rfl; exact ⟨rfl, rfl, rfl⟩
  simp [e]
/-- The first k bounds changed. -/
def pm (f : Bd → Bd) (rs : List Bd) (k : Nat) : List Bd := (List.range rs.length).map fun j => if j < k then f (rs.getD j default) else rs.getD j default
theorem pm_len (f : Bd → Bd) (rs : List Bd) (k : Nat) : (pm f rs k).length = rs.length := by simp [pm]
theorem pm_get (f : Bd → Bd) {rs : List Bd} {j : Nat} (k : Nat) (hj : j < rs.length) : (pm f rs k).getD j default = if j < k then f (rs.getD j default) else rs.getD j default := by simp [pm, List.getD, hj]
theorem pm_zero (f : Bd → Bd) (rs : List Bd) : pm f rs 0 = rs := by
  apply List.ext_getElem
  · simp [pm]
  · intro i h1 h2
    simp [pm, List.getD, h2]
theorem pm_all (f : Bd → Bd) (rs : List Bd) : pm f rs rs.length = rs.map f := by
  apply List.ext_getElem
  · simp [pm]
  · intro i h1 h2
    simp only [pm, List.length_map, List.length_range] at h1
    simp [pm, List.getD, h1]
theorem pm_set (f : Bd → Bd) {rs : List Bd} {k : Nat} (hk : k < rs.length) : (pm f rs k).set k (f (rs.getD k default)) = pm f rs (k + 1) := by
  apply List.ext_getElem
  · simp [pm]
  · intro j h1 h2
    simp only [pm, List.getElem_set, List.getElem_map, List.getElem_range]
    by_cases hij : k = j
    · subst hij; simp
    · rw [if_neg hij]
      by_cases hj : j < k
      · rw [if_pos hj, if_pos (by omega)]
      · rw [if_neg hj, if_neg (by omega)]
def flipR (r : Bd) : Bd := ⟨r.b, r.a, r.m⟩
theorem set_get {l : List Bd} {k : Nat} (hk : k < l.length) (r : Bd) : (l.set k r).getD k default = r := by simp [List.getD, hk]
theorem flip_put {rs : List Bd} {k : Nat} (hk : k < rs.length) :
    ((pm flipR rs k).set k (setF ((pm flipR rs k).getD k default) 0 (rs.getD k default).b)).set k (setF (((pm flipR rs k).set k (setF ((pm flipR rs k).getD k default) 0 (rs.getD k default).b)).getD k default) 1 (rs.getD k default).a) = pm flipR rs (k + 1) := by
  rw [set_get (by rw [pm_len]; exact hk), List.set_set, pm_get flipR k hk, if_neg (by omega), ← pm_set flipR hk]
  rfl
/-- What comes of a change: the core, or nothing. -/
structure CF (e n : Int) (L : List Bd) (x : Int × HD × List Bd) : Prop where
  num : x.1 = if e = 0 then n else 0
  eq : x.2.2 = if e = 0 then L else []
  ok : goB x.2.1 x.2.2
theorem CF.bad {e n : Int} {L : List Bd} (h : e ≠ 0) : CF e n L (0, none, []) := ⟨by rw [if_neg h], by rw [if_neg h], ⟨rfl, rfl⟩⟩
theorem CF.good {e n : Int} {L : List Bd} {h : HD} (he : e = 0) (ho : goB h L) : CF e n L (n, h, L) := ⟨by rw [if_pos he], by rw [if_pos he], ho⟩
theorem CF.same {e n : Int} {L : List Bd} {x y : Int × HD × List Bd} (hx : CF e n L x) (hy : CF e n L y) : x.1 = y.1 ∧ x.2.2 = y.2.2 := ⟨hx.num.trans hy.num.symm, hx.eq.trans hy.eq.symm⟩
theorem CF.len {e n : Int} {L : List Bd} {x : Int × HD × List Bd} (hx : CF e n L x) : x.2.2.length ≤ L.length := by
  rw [hx.eq]; split
  · exact Nat.le_refl _
  · simp
def eqB (n1 n2 : Int) (l1 l2 : List Bd) : Bool := decide (n1 = n2 ∧ l1 = l2)
theorem flip_valid {n : Int} {rs : List Bd} (h : Valid n rs) : Valid n (rs.map flipR) := by
  have h1 := h.pts
  have h2 := h.len
  have h3 : (rs.map flipR).all (okB n) = true := List.all_eq_true.2 fun r hr => by
    obtain ⟨q, hq, rfl⟩ := List.mem_map.1 hr
    obtain ⟨e1, e2, e3, e4⟩ := ok_spec (List.all_eq_true.1 h.all q hq)
    exact ok_of e2 e1 (Ne.symm e3) e4
  unfold Valid validateI
  rw [if_neg (by omega), if_neg (by rw [List.length_map]; omega), if_pos h3]
theorem flip_flip (rs : List Bd) : (rs.map flipR).map flipR = rs := by
  rw [List.map_map]
  conv => rhs; rw [← List.map_id rs]
  exact List.map_congr_left fun r _ => rfl
theorem bdsNone {w : World} {p : Option Addr} {rs : List Bd} {K : Nat} (hK : rs.length = K) (hp : p = none) (hr : BdsAt w p rs) : K = 0 ∧ rs = [] := by
  subst hp
  have := bds_nil hr
  subst this
  exact ⟨hK.symm, rfl⟩


set_option maxRecDepth 100000 in
theorem clone_ok (w0 : World) (p : Option Addr) (c K : Nat) (rs : List Bd) (hK : rs.length = K) (hr : BdsAt w0 p rs) (hl : K ≤ 100000) :
    Calls Try.prog 89 #[.slice p K c] w0 (Post (X := HD) (fun h => gval h K) (fun h => goB h rs) (fun h => gbB 42 h rs) w0) := by
  refine calls Try.func89 rfl (n := 8) rfl (by simp) ?_
  refine TC.seq ?_
  refine TC.region ?_
  refine TL.pure (PV.assign rfl) rfl (by decide) ?_
  refine TL.nil ?_
  refine TQ.thenC ?_
  refine TC.seq ?_
  refine TC.seq ?_
  refine TC.region ?_
  refine TL.pure (PV.move rfl) rfl (by decide) ?_
  refine TL.pure (PV.cmp rfl rfl (nilS_guard _ _ _ _ _ _) (nil22 _ _ _)) rfl (by decide) ?_
  refine TL.nil ?_
  refine TQ.thenC ?_
  first | refine TC.condD rfl (fun hnil => ?_) (fun hnil => ?_) | refine TC.cond rfl (fun hnil => ?_) (fun hnil => ?_)
  · skip
    refine TC.seq ?_
    refine TC.region ?_
    refine TL.pure (PV.assign rfl) rfl (by decide) ?_
    refine TL.nil ?_
    refine TQ.thenC ?_
    refine TC.ret ?_
    refine TQ.thenR ?_
    refine TQ.retE1 rfl rfl ?_
    have hp0 : p = none := by cases p <;> simp_all
    obtain ⟨e1, e2⟩ := bdsNone hK hp0 hr
    subst e1; subst e2
    exact ⟨none, rfl, ⟨rfl, rfl⟩, List.nil_sublist _⟩
  · skip
    refine TC.skip ?_
    refine TQ.thenC ?_
    refine TC.seq ?_
    refine TC.region ?_
    refine TL.buildSlice0 Tb.sl_22 Tb.zi_42 rfl (by decide) (fun bE hbE => ?_)
    refine TL.pure (PV.move rfl) rfl (by decide) ?_
    refine TL.appendBS Tb.sl_22 Tb.zi_42 rfl rfl (h0 := some (bE, 0, [])) (ys := []) (K0 := 0) (K := K) rfl rfl rfl hK (fun w' hN => hr.new hN) ⟨rfl, rfl, Nat.le_refl _⟩ (TakeH.here (some (bE, 0, [])) 42 [] _) (by omega) rfl (by decide) (fun h1 hh1 _ => ?_)
    refine TL.pure (PV.assign rfl) rfl (by decide) ?_
    refine TL.nil ?_
    refine TQ.thenC ?_
    refine TC.ret ?_
    refine TQ.retE1 rfl rfl ?_
    exact ⟨h1, by rw [Nat.zero_add], hh1, List.sublist_append_left _ _⟩

set_option maxRecDepth 100000 in
theorem copied_ok (w0 : World) (n : Int) (p : Option Addr) (c K : Nat) (rs : List Bd) (hK : rs.length = K) (hr : BdsAt w0 p rs) (hl : K ≤ 100000) :
    Calls Try.prog 81 #[.agg #[.int .i64 n, .slice p K c]] w0 (Post (X := HD) (fun h => .agg #[.int .i64 n, gval h K]) (fun h => goB h rs) (fun h => gbB 42 h rs) w0) := by
  refine calls Try.func81 rfl (n := 9) rfl (by simp) ?_
  refine TC.seq ?_
  refine TC.region ?_
  refine TL.box rfl rfl (by decide) (fun b0 hb0 => ?_)
  refine TL.alloc Tb.zero_24 rfl (by decide) (fun b1 hb1 => ?_)
  refine TL.nil ?_
  refine TQ.thenC ?_
  refine TC.seq ?_
  refine TC.mix [true, true, true, true, false, false, false] _ 3 Tb.mixed rfl (by kernel_rfl) (by kernel_rfl) (by kernel_rfl) (by kernel_rfl) (List.Sublist.refl _) ?_
  refine TB.op (SOK.pure (PV.fieldAddr rfl Tb.fo_24_0) rfl) (by decide) ?_
  refine TB.op (SOK.pure (PV.load rfl Tb.one_3 (by repeat (first | exact List.Mem.head _ | refine List.Mem.tail _ ?_ | refine List.mem_append_right _ ?_)) rfl) rfl) (by decide) ?_
  refine TB.op (SOK.pure (PV.fieldAddr rfl Tb.fo_24_1) rfl) (by decide) ?_
  refine TB.op (SOK.pure (PV.load rfl Tb.one_22 (by repeat (first | exact List.Mem.head _ | refine List.Mem.tail _ ?_ | refine List.mem_append_right _ ?_)) rfl) rfl) (by decide) ?_
  refine TB.no ?_
  refine TB.no ?_
  refine TB.no ?_
  refine TB.fin ?_
  refine TX.step [4] (by kernel_rfl) (by decide) ⟨⟨_, rfl, ?_⟩, trivial⟩
  refine TL.call rfl Tb.gofn_89 (fun a w hs => clone_ok w p c K rs hK (hr.new hs.new) hl) rfl (by decide) (fun h1 hh1 => ?_)
  refine TL.nil ?_
  refine TX.next (.inl (by repeat (first | exact List.Sublist.slnil | exact List.nil_sublist _ | exact List.Sublist.refl _ | refine List.Sublist.cons_cons _ ?_ | refine List.Sublist.cons _ ?_ | refine List.Sublist.trans ?_ (List.sublist_append_right _ _)))) ?_
  refine TX.step [5] (by kernel_rfl) (by decide) ⟨⟨_, rfl, ?_⟩, trivial⟩
  refine TL.pure (PV.build rfl Tb.zero_24 Tb.pl_24 (fill_sv _ _ _)) rfl (by decide) ?_
  refine TL.nil ?_
  refine TX.next (.inl (by repeat (first | exact List.Sublist.slnil | exact List.nil_sublist _ | exact List.Sublist.refl _ | refine List.Sublist.cons_cons _ ?_ | refine List.Sublist.cons _ ?_ | refine List.Sublist.trans ?_ (List.sublist_append_right _ _)))) ?_
  refine TX.step [6] (by kernel_rfl) (by decide) ⟨⟨_, rfl, ?_⟩, trivial⟩
  refine TL.storeAgg rfl rfl Tb.cells_24 (by repeat (first | exact Upd.head _ | apply Upd.tail | apply Upd.appR)) rfl rfl (by first | rfl | exact sv_one _ _ _) rfl rfl ?_
  refine TL.nil ?_
  refine TX.next (.inr (by kernel_rfl)) ?_
  refine TX.done (by kernel_rfl) ?_
  refine TQ.thenC ?_
  refine TC.ret ?_
  refine TQ.retR rfl (Res.agg rfl Tb.agg_24 (by repeat (first | exact List.Mem.head _ | refine List.Mem.tail _ ?_ | refine List.mem_append_right _ ?_)) rfl Res.nil) ?_
  simp only [tup]
  exact ⟨h1, rfl, hh1, by first | exact List.sublist_append_left _ _ | (refine List.Sublist.trans ?_ (List.sublist_append_right _ _); exact List.sublist_append_left _ _)⟩

set_option maxRecDepth 100000 in
theorem Copy_ok (w0 : World) (n : Int) (p : Option Addr) (c K : Nat) (rs : List Bd) (hK : rs.length = K) (hr : BdsAt w0 p rs) (hl : K ≤ 100000) :
    Calls Try.prog 48 #[.agg #[.int .i64 n, .slice p K c]] w0 (Post (X := HD) (fun h => .agg #[.int .i64 n, gval h K]) (fun h => goB h rs) (fun h => gbB 42 h rs) w0) := by
  refine calls Try.func48 rfl (n := 10) rfl (by simp) ?_
  refine TC.seq ?_
  refine TC.region ?_
  refine TL.box rfl rfl (by decide) (fun b0 hb0 => ?_)
  refine TL.alloc Tb.zero_24 rfl (by decide) (fun b1 hb1 => ?_)
  refine TL.nil ?_
  refine TQ.thenC ?_
  refine TC.seq ?_
  refine TC.mix [true, true, false, true, true, false, false, false] _ 4 Tb.mixed rfl (by kernel_rfl) (by kernel_rfl) (by kernel_rfl) (by kernel_rfl) (List.Sublist.refl _) ?_
  refine TB.op (SOK.pure (PV.fieldAddr rfl Tb.fo_24_0) rfl) (by decide) ?_
  refine TB.op (SOK.pure (PV.load rfl Tb.one_3 (by repeat (first | exact List.Mem.head _ | refine List.Mem.tail _ ?_ | refine List.mem_append_right _ ?_)) rfl) rfl) (by decide) ?_
  refine TB.no ?_
  refine TB.op (SOK.pure (PV.fieldAddr rfl Tb.fo_24_1) rfl) (by decide) ?_
  refine TB.op (SOK.pure (PV.load rfl Tb.one_22 (by repeat (first | exact List.Mem.head _ | refine List.Mem.tail _ ?_ | refine List.mem_append_right _ ?_)) rfl) rfl) (by decide) ?_
  refine TB.no ?_
  refine TB.no ?_
  refine TB.no ?_
  refine TB.fin ?_
  refine TX.step [2] (by kernel_rfl) (by decide) ⟨⟨_, rfl, ?_⟩, trivial⟩
  refine TL.buildSlice0 Tb.sl_22 Tb.zi_42 rfl (by decide) (fun bE hbE => ?_)
  refine TL.nil ?_
  refine TX.next (.inl (by repeat (first | exact List.Sublist.slnil | exact List.nil_sublist _ | exact List.Sublist.refl _ | refine List.Sublist.cons_cons _ ?_ | refine List.Sublist.cons _ ?_ | refine List.Sublist.trans ?_ (List.sublist_append_right _ _)))) ?_
  refine TX.step [5] (by kernel_rfl) (by decide) ⟨⟨_, rfl, ?_⟩, trivial⟩
  refine TL.appendBS Tb.sl_22 Tb.zi_42 rfl rfl (h0 := some (bE, 0, [])) (ys := []) (K0 := 0) (K := K) rfl rfl rfl hK (fun w' hN => hr.new hN) ⟨rfl, rfl, Nat.le_refl _⟩ (TakeH.here (some (bE, 0, [])) 42 [] _) (by omega) rfl (by decide) (fun h1 hh1 _ => ?_)
  refine TL.nil ?_
  refine TX.next (.inl (by repeat (first | exact List.Sublist.slnil | exact List.nil_sublist _ | exact List.Sublist.refl _ | refine List.Sublist.cons_cons _ ?_ | refine List.Sublist.cons _ ?_ | refine List.Sublist.trans ?_ (List.sublist_append_right _ _)))) ?_
  refine TX.step [6] (by kernel_rfl) (by decide) ⟨⟨_, rfl, ?_⟩, trivial⟩
  refine TL.pure (PV.build rfl Tb.zero_24 Tb.pl_24 (fill_sv _ _ _)) rfl (by decide) ?_
  refine TL.nil ?_
  refine TX.next (.inl (by repeat (first | exact List.Sublist.slnil | exact List.nil_sublist _ | exact List.Sublist.refl _ | refine List.Sublist.cons_cons _ ?_ | refine List.Sublist.cons _ ?_ | refine List.Sublist.trans ?_ (List.sublist_append_right _ _)))) ?_
  refine TX.step [7] (by kernel_rfl) (by decide) ⟨⟨_, rfl, ?_⟩, trivial⟩
  refine TL.storeAgg rfl rfl Tb.cells_24 (by repeat (first | exact Upd.head _ | apply Upd.tail | apply Upd.appR)) rfl rfl (by first | rfl | exact sv_one _ _ _) rfl rfl ?_
  refine TL.nil ?_
  refine TX.next (.inr (by kernel_rfl)) ?_
  refine TX.done (by kernel_rfl) ?_
  refine TQ.thenC ?_
  refine TC.ret ?_
  refine TQ.retR rfl (Res.agg rfl Tb.agg_24 (by repeat (first | exact List.Mem.head _ | refine List.Mem.tail _ ?_ | refine List.mem_append_right _ ?_)) rfl Res.nil) ?_
  simp only [tup]
  exact ⟨h1, by simp only [Nat.zero_add], hh1, List.sublist_append_left _ _⟩

set_option maxRecDepth 100000 in
set_option maxHeartbeats 1000000 in
theorem sameB_ok (w0 : World) (p1 p2 : Option Addr) (c1 c2 : Nat) (rs1 rs2 : List Bd) (h1 : BdsAt w0 p1 rs1) (h2 : BdsAt w0 p2 rs2) (hl : rs1.length ≤ 100000) (hl2 : rs2.length ≤ 100000) :
    Calls Try.prog 45 #[.slice p1 rs1.length c1, .slice p2 rs2.length c2] w0 (Post (X := Unit) (fun _ => .bool (decide (rs1 = rs2))) (fun _ => True) (fun _ => []) w0) := by
  refine calls Try.func45 rfl (n := 26) rfl (by simp) ?_
  refine TC.seq ?_
  refine TC.region ?_
  refine TL.pure (PV.assign rfl) rfl (by decide) ?_
  refine TL.nil ?_
  refine TQ.thenC ?_
  refine TC.seq ?_
  refine TC.seq ?_
  refine TC.region ?_
  refine TL.pure (PV.move rfl) rfl (by decide) ?_
  refine TL.pure (PV.len rfl Tb.sl_22) rfl (by decide) ?_
  refine TL.pure (PV.move rfl) rfl (by decide) ?_
  refine TL.pure (PV.len rfl Tb.sl_22) rfl (by decide) ?_
  refine TL.pure (PV.neq rfl rfl) rfl (by decide) ?_
  refine TL.nil ?_
  refine TQ.thenC ?_
  first | refine TC.condD rfl (fun hne => ?_) (fun hne => ?_) | refine TC.cond rfl (fun hne => ?_) (fun hne => ?_)
  · skip
    refine TC.seq ?_
    refine TC.region ?_
    refine TL.pure (PV.assign rfl) rfl (by decide) ?_
    refine TL.nil ?_
    refine TQ.thenC ?_
    refine TC.ret ?_
    refine TQ.thenR ?_
    refine TQ.retE1 rfl rfl ?_
    exact ⟨(), by rw [decide_eq_false (fun h => by subst h; omega)], trivial, List.nil_sublist _⟩
  · skip
    refine TC.skip ?_
    refine TQ.thenC ?_
    refine TC.seq ?_
    refine TC.seq ?_
    refine TC.region ?_
    refine TL.pure (PV.assign rfl) rfl (by decide) ?_
    refine TL.nil ?_
    refine TQ.thenC ?_
    refine TC.block ?_
    -- live and written in the loop, not told: [4]
    refine TC.loopG [0, 1] (X := Nat) (fun k => k ≤ rs1.length ∧ ∀ j, j < k → rs1.getD j default = rs2.getD j default) (fun k => [(5, .int .i64 k)]) (fun k => rs1.length - k) 0 ⟨Nat.zero_le _, fun j hj => by omega⟩ (by repeat (first | exact True.intro | refine And.intro rfl ?_)) ?_
    intro k hk
    refine TC.seq ?_
    refine TC.seq ?_
    refine TC.region ?_
    refine TL.pure (PV.move rfl) rfl (by decide) ?_
    refine TL.pure (PV.move rfl) rfl (by decide) ?_
    refine TL.pure (PV.len rfl Tb.sl_22) rfl (by decide) ?_
    refine TL.pure (PV.lss rfl rfl) rfl (by decide) ?_
    refine TL.nil ?_
    refine TQ.thenC ?_
    first | refine TC.condD rfl (fun hlt => ?_) (fun hlt => ?_) | refine TC.cond rfl (fun hlt => ?_) (fun hlt => ?_)
    · skip
      refine TC.skip ?_
      refine TQ.thenC ?_
      refine TC.seq ?_
      refine TC.block ?_
      refine TC.seq ?_
      obtain ⟨q, hqp, hq⟩ := h1 k (by omega)
      obtain ⟨q2, hq2p, hq2⟩ := h2 k (by omega)
      refine TC.any Tb.mixed rfl rfl ?_
      refine TA.op (OpOK.pure (PV.move rfl) rfl (by decide)) (by decide) ?_
      refine TA.op (OpOK.pure (PV.move rfl) rfl (by decide)) (by decide) ?_
      refine TA.op (OpOK.pure (PV.indexA rfl hqp rfl Tb.elm_22 rfl (by omega)) rfl (by decide)) (by decide) ?_
      refine TA.op (OpOK.pure (PV.loadAggA rfl Tb.agg_42 rfl hq) rfl (by decide)) (by decide) ?_
      refine TA.op (OpOK.pure (PV.move rfl) rfl (by decide)) (by decide) ?_
      refine TA.op (OpOK.pure (PV.move rfl) rfl (by decide)) (by decide) ?_
      refine TA.op (OpOK.pure (PV.indexA rfl hq2p rfl Tb.elm_22 rfl (by omega)) rfl (by decide)) (by decide) ?_
      refine TA.op (OpOK.pure (PV.loadAggA rfl Tb.agg_42 rfl hq2) rfl (by decide)) (by decide) ?_
      refine TA.op (OpOK.pure (PV.cmp rfl rfl (eq42n_guard _ _ (rs1.getD k default) (rs2.getD k default)) (eq42n (rs1.getD k default) (rs2.getD k default))) rfl (by decide)) (by decide) ?_
      show TQ _ _ _ _ _
      refine TQ.thenC ?_
      first | refine TC.condD rfl (fun heq => ?_) (fun heq => ?_) | refine TC.cond rfl (fun heq => ?_) (fun heq => ?_)
      · skip
        refine TC.seq ?_
        refine TC.region ?_
        refine TL.pure (PV.assign rfl) rfl (by decide) ?_
        refine TL.nil ?_
        refine TQ.thenC ?_
        refine TC.ret ?_
        refine TQ.blkR ?_
        refine TQ.thenR ?_
        refine TQ.thenR ?_
        refine TQ.blkR ?_
        refine TQ.thenR ?_
        refine TQ.retE1 rfl rfl ?_
        exact ⟨(), by rw [decide_eq_false (fun h => heq (by rw [h]))], trivial, List.nil_sublist _⟩
      · skip
        refine TC.skip ?_
        refine TQ.blkN ?_
        refine TQ.thenC ?_
        refine TC.region ?_
        refine TL.pure (PV.move rfl) rfl (by decide) ?_
        refine TL.pure (PV.add rfl rfl (by omega)) rfl (by decide) ?_
        refine TL.pure (PV.assign rfl) rfl (by decide) ?_
        refine TL.nil ?_
        refine TQ.thenN ?_
        refine TQ.backK (k + 1) (by repeat (first | exact True.intro | refine And.intro rfl ?_)) (by repeat (first | exact True.intro | refine And.intro rfl ?_)) (by repeat (first | exact List.Sublist.slnil | exact List.nil_sublist _ | exact List.Sublist.refl _ | refine List.Sublist.cons_cons _ ?_ | refine List.Sublist.cons _ ?_ | refine List.Sublist.trans ?_ (List.sublist_append_right _ _))) ⟨by omega, fun j hj => by by_cases h : j = k; · { rw [h]; exact Decidable.of_not_not heq }; · { exact hk.2 j (by omega) }⟩ (by omega)
    · skip
      refine TC.exit ?_
      refine TQ.thenE ?_
      refine TQ.thenE ?_
      refine TQ.blkS ?_
      refine TQ.thenC ?_
      refine TC.seq ?_
      refine TC.region ?_
      refine TL.pure (PV.assign rfl) rfl (by decide) ?_
      refine TL.nil ?_
      refine TQ.thenC ?_
      refine TC.ret ?_
      refine TQ.retE1 rfl rfl ?_
      exact ⟨(), by rw [decide_eq_true (take_all_eq default (by omega) (fun j hj => hk.2 j (by omega)))], trivial, List.nil_sublist _⟩

set_option maxRecDepth 100000 in
set_option maxHeartbeats 1000000 in
theorem equal_ok (w0 : World) (n1 n2 : Int) (p1 p2 : Option Addr) (c1 c2 : Nat) (rs1 rs2 : List Bd) (h1 : BdsAt w0 p1 rs1) (h2 : BdsAt w0 p2 rs2) (hl : rs1.length ≤ 100000) (hl2 : rs2.length ≤ 100000) :
    Calls Try.prog 51 #[cv n1 p1 rs1.length c1, cv n2 p2 rs2.length c2] w0 (Post (X := Unit) (fun _ => .bool (eqB n1 n2 rs1 rs2)) (fun _ => True) (fun _ => []) w0) := by
  refine calls Try.func51 rfl (n := 17) rfl (by simp) ?_
  refine TC.seq ?_
  refine TC.region ?_
  refine TL.box rfl rfl (by decide) (fun b0 hb0 => ?_)
  refine TL.box rfl rfl (by decide) (fun b1 hb1 => ?_)
  refine TL.pure (PV.assign rfl) rfl (by decide) ?_
  refine TL.nil ?_
  refine TQ.thenC ?_
  refine TC.seq ?_
  refine TC.region ?_
  refine TL.pure (PV.fieldAddr rfl Tb.fo_24_0) rfl (by decide) ?_
  refine TL.pure (PV.load rfl Tb.one_3 (by repeat (first | exact List.Mem.head _ | refine List.Mem.tail _ ?_ | refine List.mem_append_right _ ?_)) rfl) rfl (by decide) ?_
  refine TL.pure (PV.fieldAddr rfl Tb.fo_24_0) rfl (by decide) ?_
  refine TL.pure (PV.load rfl Tb.one_3 (by repeat (first | exact List.Mem.head _ | refine List.Mem.tail _ ?_ | refine List.mem_append_right _ ?_)) rfl) rfl (by decide) ?_
  refine TL.pure (PV.eql rfl rfl) rfl (by decide) ?_
  refine TL.pure (PV.move rfl) rfl (by decide) ?_
  first | refine TL.splitD 10 rfl (fun hn => ?_) (fun hn => ?_) | refine TL.split 10 rfl (fun hn => ?_) (fun hn => ?_)
  · skip
    refine TL.pure (PV.fieldAddr rfl Tb.fo_24_1) rfl (by decide) ?_
    refine TL.pure (PV.load rfl Tb.one_22 (by repeat (first | exact List.Mem.head _ | refine List.Mem.tail _ ?_ | refine List.mem_append_right _ ?_)) rfl) rfl (by decide) ?_
    refine TL.pure (PV.fieldAddr rfl Tb.fo_24_1) rfl (by decide) ?_
    refine TL.pure (PV.load rfl Tb.one_22 (by repeat (first | exact List.Mem.head _ | refine List.Mem.tail _ ?_ | refine List.mem_append_right _ ?_)) rfl) rfl (by decide) ?_
    refine TL.call rfl Tb.gofn_45 (fun a w hs => sameB_ok w _ _ _ _ _ _ (h1.new hs.new) (h2.new hs.new) hl hl2) rfl (by decide) (fun _ _ => ?_)
    refine TL.pure (PV.pickT rfl rfl) rfl (by decide) ?_
    refine TL.pure (PV.assign rfl) rfl (by decide) ?_
    refine TL.nil ?_
    refine TQ.thenC ?_
    refine TC.ret ?_
    refine TQ.retE1 rfl rfl ?_
    first | exact ⟨(), by simp [eqB, hn], trivial, List.nil_sublist _⟩ | exact ⟨(), by unfold eqB; simp_all, trivial, List.nil_sublist _⟩
  · skip
    refine TL.skip rfl (fun k hk => by cases hk; decide) ?_
    refine TL.skip rfl (fun k hk => by cases hk; decide) ?_
    refine TL.skip rfl (fun k hk => by cases hk; decide) ?_
    refine TL.skip rfl (fun k hk => by cases hk; decide) ?_
    refine TL.skip rfl (fun k hk => by cases hk; decide) ?_
    refine TL.pure (PV.pickF rfl rfl) rfl (by decide) ?_
    refine TL.pure (PV.assign rfl) rfl (by decide) ?_
    refine TL.nil ?_
    refine TQ.thenC ?_
    refine TC.ret ?_
    refine TQ.retE1 rfl rfl ?_
    first | exact ⟨(), by simp [eqB, hn], trivial, List.nil_sublist _⟩ | exact ⟨(), by unfold eqB; simp_all, trivial, List.nil_sublist _⟩

set_option maxRecDepth 100000 in
set_option maxHeartbeats 2000000 in
theorem turn_ok (w0 : World) (n : Int) (p : Option Addr) (cap : Nat) (rs : List Bd) (hr : BdsAt w0 p rs) (hl : rs.length ≤ 1000) :
    Calls Try.prog 54 #[cv n p rs.length cap] w0 (Post (X := (Int × HD × List Bd)) (fun x => .tuple #[.agg #[.int .i64 x.1, gval x.2.1 x.2.2.length], .int .i64 (validateI n rs)]) (CF (validateI n rs) n (rs.map flipR)) (fun x => gbB 42 x.2.1 x.2.2) w0) := by
  refine calls Try.func54 rfl (n := 37) rfl (by simp) ?_
  refine TC.seq ?_
  refine TC.region ?_
  refine TL.box rfl rfl (by decide) (fun b0 hb0 => ?_)
  refine TL.alloc Tb.zero_24 rfl (by decide) (fun b1 hb1 => ?_)
  refine TL.pure (PV.assign rfl) rfl (by decide) ?_
  refine TL.nil ?_
  refine TQ.thenC ?_
  refine TC.seq ?_
  refine TC.seq ?_
  refine TC.region ?_
  refine TL.pure (PV.loadBox rfl Tb.agg_24 (by repeat (first | exact List.Mem.head _ | refine List.Mem.tail _ ?_ | refine List.mem_append_right _ ?_)) rfl) rfl (by decide) ?_
  refine TL.call rfl Tb.gofn_21 (fun a w hs => validate_ok w _ _ _ _ (hr.new hs.new)) rfl (by decide) (fun _ _ => ?_)
  refine TL.pure (PV.assign rfl) rfl (by decide) ?_
  refine TL.nil ?_
  refine TQ.thenC ?_
  refine TC.seq ?_
  refine TC.region ?_
  refine TL.pure (PV.move rfl) rfl (by decide) ?_
  refine TL.pure (PV.neq rfl rfl) rfl (by decide) ?_
  refine TL.nil ?_
  refine TQ.thenC ?_
  first | refine TC.condD rfl (fun hne => ?_) (fun hne => ?_) | refine TC.cond rfl (fun hne => ?_) (fun hne => ?_)
  · skip
    refine TC.seq ?_
    refine TC.region ?_
    refine TL.pure (PV.build rfl Tb.zero_24 Tb.pl_24 rfl) rfl (by decide) ?_
    refine TL.pure (PV.move rfl) rfl (by decide) ?_
    refine TL.storeAgg rfl rfl Tb.cells_24 (by repeat (first | exact Upd.head _ | apply Upd.tail | apply Upd.appR)) rfl rfl (by first | rfl | exact sv_one _ _ _) rfl rfl ?_
    refine TL.pure (PV.assign rfl) rfl (by decide) ?_
    refine TL.nil ?_
    refine TQ.thenC ?_
    refine TC.ret ?_
    refine TQ.thenR ?_
    refine TQ.retR rfl (Res.agg rfl Tb.agg_24 (by repeat (first | exact List.Mem.head _ | refine List.Mem.tail _ ?_ | refine List.mem_append_right _ ?_)) rfl (Res.tmp rfl Res.nil)) ?_
    simp only [tup]
    exact ⟨(0, none, []), rfl, CF.bad hne, List.nil_sublist _⟩
  · skip
    refine TC.skip ?_
    refine TQ.thenC ?_
    refine TC.seq ?_
    refine TC.region ?_
    refine TL.pure (PV.loadBox rfl Tb.agg_24 (by repeat (first | exact List.Mem.head _ | refine List.Mem.tail _ ?_ | refine List.mem_append_right _ ?_)) rfl) rfl (by decide) ?_
    refine TL.call rfl Tb.gofn_81 (fun a w hs => copied_ok w n p cap rs.length rs rfl (hr.new hs.new) (by omega)) rfl (by decide) (fun h1 hh1 => ?_)
    refine TL.alloc Tb.zero_24 rfl (by decide) (fun b2 hb2 => ?_)
    refine TL.storeAgg rfl rfl Tb.cells_24 (by repeat (first | exact Upd.head _ | apply Upd.tail | apply Upd.appR)) rfl rfl (by first | rfl | exact sv_one _ _ _) rfl rfl ?_
    refine TL.nil ?_
    refine TQ.thenC ?_
    refine TC.seq ?_
    refine TC.seq ?_
    refine TC.region ?_
    refine TL.pure (PV.fieldAddr rfl Tb.fo_24_1) rfl (by decide) ?_
    refine TL.pure (PV.load rfl Tb.one_22 (by repeat (first | exact List.Mem.head _ | refine List.Mem.tail _ ?_ | refine List.mem_append_right _ ?_)) rfl) rfl (by decide) ?_
    refine TL.pure (PV.len rfl Tb.sl_22) rfl (by decide) ?_
    refine TL.pure (PV.move rfl) rfl (by decide) ?_
    refine TL.nil ?_
    refine TQ.thenC ?_
    refine TC.block ?_
    refine TC.loopK [2, 3, 5, 17, 18] (X := Nat) (fun k => k ≤ rs.length) (fun k => [(19, .int .i64 k)]) (fun k => (b2, .cells #[.int .i64 n, gval h1 rs.length] 24 (0, 0)) :: (gbB 42 h1 (pm flipR rs k) ++ [(b1, .cells #[.int .i64 0, .slice none 0 0] 24 (0, 0)), (b0, .cells #[.int .i64 n, .slice p rs.length cap] 24 (0, 0))])) (fun k => rs.length - k) 0 (Nat.zero_le _) (by repeat (first | exact True.intro | refine And.intro rfl ?_)) (by rw [pm_zero]; exact List.Sublist.refl _) ?_
    intro k hk
    refine TC.seq ?_
    refine TC.region ?_
    refine TL.pure (PV.lss rfl rfl) rfl (by decide) ?_
    refine TL.nil ?_
    refine TQ.thenC ?_
    refine TC.seq ?_
    first | refine TC.condD rfl (fun hlt => ?_) (fun hlt => ?_) | refine TC.cond rfl (fun hlt => ?_) (fun hlt => ?_)
    · skip
      refine TC.skip ?_
      refine TQ.thenC ?_
      refine TC.seq ?_
      refine TC.block ?_
      refine TC.seq ?_
      have hkl : k < rs.length := by omega
      obtain ⟨q, hqp, hqa⟩ := hr k hkl
      refine TC.region ?_
      refine TL.pure (PV.move rfl) rfl (by decide) ?_
      refine TL.pure (PV.indexA rfl hqp rfl Tb.elm_22 rfl (by omega)) rfl (by decide) ?_
      refine TL.pure (PV.loadAggA rfl Tb.agg_42 rfl hqa) rfl (by decide) ?_
      refine TL.alloc Tb.zero_42 rfl (by decide) (fun b3 hb3 => ?_)
      refine TL.pure (PV.assign rfl) rfl (by decide) ?_
      refine TL.storeAgg rfl rfl Tb.cells_42 (by repeat (first | exact Upd.head _ | apply Upd.tail | apply Upd.appR)) rfl rfl rfl rfl rfl ?_
      refine TL.nil ?_
      refine TQ.thenC ?_
      refine TC.region ?_
      refine TL.pure (PV.fieldAddr rfl Tb.fo_24_1) rfl (by decide) ?_
      refine TL.pure (PV.load rfl Tb.one_22 (by repeat (first | exact List.Mem.head _ | refine List.Mem.tail _ ?_ | refine List.mem_append_right _ ?_)) rfl) rfl (by decide) ?_
      refine TL.pure (PV.move rfl) rfl (by decide) ?_
      refine TL.pure (PV.fieldAddr rfl Tb.fo_42_1) rfl (by decide) ?_
      refine TL.pure (PV.load rfl Tb.one_3 (by repeat (first | exact List.Mem.head _ | refine List.Mem.tail _ ?_ | refine List.mem_append_right _ ?_)) rfl) rfl (by decide) ?_
      refine TL.pure (PV.fieldAddr rfl Tb.fo_42_0) rfl (by decide) ?_
      refine TL.pure (PV.load rfl Tb.one_3 (by repeat (first | exact List.Mem.head _ | refine List.Mem.tail _ ?_ | refine List.mem_append_right _ ?_)) rfl) rfl (by decide) ?_
      refine TL.pure (PV.fieldAddr rfl Tb.fo_42_2) rfl (by decide) ?_
      refine TL.pure (PV.load rfl Tb.one_3 (by repeat (first | exact List.Mem.head _ | refine List.Mem.tail _ ?_ | refine List.mem_append_right _ ?_)) rfl) rfl (by decide) ?_
      refine TL.pure (PV.build (cs := (flipR (rs.getD k default)).cells.toArray) rfl Tb.zero_42 Tb.pl_42 rfl) rfl (by decide) ?_
      refine TL.pure (PV.indexG (j := k) rfl rfl hh1 Tb.elm_22 rfl (by omega)) rfl (by decide) ?_
      refine TL.putE (h := h1) (l0 := pm flipR rs k) (j := k) (r := flipR (rs.getD k default)) rfl rfl Tb.cells_42 (goB_len hh1 (pm_len _ _ _)) (by repeat (first | exact PutH.here _ _ _ _ | apply PutH.tail | apply PutH.app)) (by rw [pm_len]; omega) rfl rfl ?_
      rw [pm_set flipR hkl]
      refine TL.nil ?_
      refine TQ.blkN ?_
      refine TQ.thenC ?_
      refine TC.region ?_
      refine TL.pure (PV.add rfl rfl (by omega)) rfl (by decide) ?_
      refine TL.pure (PV.move rfl) rfl (by decide) ?_
      refine TL.nil ?_
      refine TQ.thenN ?_
      refine TQ.backK (k + 1) (by repeat (first | exact True.intro | refine And.intro rfl ?_)) (by repeat (first | exact True.intro | refine And.intro rfl ?_)) (by repeat (first | exact List.Sublist.slnil | exact List.nil_sublist _ | exact List.Sublist.refl _ | exact List.sublist_append_left _ _ | refine List.Sublist.cons_cons _ ?_ | refine (List.append_sublist_append_left _).2 ?_ | refine List.Sublist.cons _ ?_ | refine List.Sublist.trans ?_ (List.sublist_append_right _ _))) (by omega) (by omega)
    · skip
      refine TC.exit ?_
      refine TQ.thenE ?_
      refine TQ.thenE ?_
      refine TQ.blkS ?_
      refine TQ.thenC ?_
      refine TC.seq ?_
      refine TC.region ?_
      refine TL.pure (PV.loadBox rfl Tb.agg_24 (by repeat (first | exact List.Mem.head _ | refine List.Mem.tail _ ?_ | refine List.mem_append_right _ ?_)) rfl) rfl (by decide) ?_
      refine TL.storeAgg rfl rfl Tb.cells_24 (by repeat (first | exact Upd.head _ | apply Upd.tail | apply Upd.appR)) rfl rfl (by first | rfl | exact sv_one _ _ _) rfl rfl ?_
      refine TL.pure (PV.assign rfl) rfl (by decide) ?_
      refine TL.nil ?_
      refine TQ.thenC ?_
      refine TC.ret ?_
      refine TQ.retR rfl (Res.agg rfl Tb.agg_24 (by repeat (first | exact List.Mem.head _ | refine List.Mem.tail _ ?_ | refine List.mem_append_right _ ?_)) rfl (Res.tmp rfl Res.nil)) ?_
      simp only [tup]
      have hk9 : k = rs.length := by omega
      subst hk9
      have hz : validateI n rs = 0 := by omega
      rw [pm_all]
      exact ⟨(n, h1, rs.map flipR), by rw [hz, List.length_map], CF.good hz (goB_len hh1 (List.length_map _)), (by repeat (first | exact List.Sublist.slnil | exact List.nil_sublist _ | exact List.Sublist.refl _ | exact List.sublist_append_left _ _ | refine List.Sublist.cons_cons _ ?_ | refine (List.append_sublist_append_left _).2 ?_ | refine List.Sublist.cons _ ?_ | refine List.Sublist.trans ?_ (List.sublist_append_right _ _)))⟩

theorem turnS (w : World) (n : Int) (h : HD) (K : Nat) (rs : List Bd) (hK : rs.length = K) (ho : goB h rs) (hr : BdsAt w (gp h) rs) (hl : K ≤ 1000) :
    Calls Try.prog 54 #[.agg #[.int .i64 n, gval h K]] w (Post (X := (Int × HD × List Bd)) (fun x => .tuple #[.agg #[.int .i64 x.1, gval x.2.1 x.2.2.length], .int .i64 (validateI n rs)]) (CF (validateI n rs) n (rs.map flipR)) (fun x => gbB 42 x.2.1 x.2.2) w) := by
  have hc := turn_ok w n (gp h) (gc h) rs hr (by omega)
  rw [gvB_eq ho hK]; subst hK
  exact hc

set_option maxRecDepth 100000 in
set_option maxHeartbeats 2000000 in
theorem rTurn_ok (w0 : World) (n : Int) (p : Option Addr) (cap : Nat) (rs : List Bd) (hr : BdsAt w0 p rs) (hl : rs.length ≤ 1000) :
    Calls Try.prog 55 #[cv n p rs.length cap] w0 (Post (X := (Int × HD × List Bd)) (fun x => .tuple #[.agg #[.int .i64 x.1, gval x.2.1 x.2.2.length], .int .i64 (validateI n rs)]) (CF (validateI n rs) n (rs.map flipR)) (fun x => gbB 42 x.2.1 x.2.2) w0) := by
  refine calls Try.func55 rfl (n := 45) rfl (by simp) ?_
  refine TC.seq ?_
  refine TC.region ?_
  refine TL.box rfl rfl (by decide) (fun b0 hb0 => ?_)
  refine TL.alloc Tb.zero_24 rfl (by decide) (fun b1 hb1 => ?_)
  refine TL.pure (PV.assign rfl) rfl (by decide) ?_
  refine TL.nil ?_
  refine TQ.thenC ?_
  refine TC.seq ?_
  refine TC.seq ?_
  refine TC.region ?_
  refine TL.pure (PV.loadBox rfl Tb.agg_24 (by repeat (first | exact List.Mem.head _ | refine List.Mem.tail _ ?_ | refine List.mem_append_right _ ?_)) rfl) rfl (by decide) ?_
  refine TL.call rfl Tb.gofn_22 (fun a w hs => rvalidate_ok w _ _ _ _ (hr.new hs.new)) rfl (by decide) (fun _ _ => ?_)
  refine TL.pure (PV.assign rfl) rfl (by decide) ?_
  refine TL.nil ?_
  refine TQ.thenC ?_
  refine TC.seq ?_
  refine TC.region ?_
  refine TL.pure (PV.move rfl) rfl (by decide) ?_
  refine TL.pure (PV.neq rfl rfl) rfl (by decide) ?_
  refine TL.nil ?_
  refine TQ.thenC ?_
  first | refine TC.condD rfl (fun hne => ?_) (fun hne => ?_) | refine TC.cond rfl (fun hne => ?_) (fun hne => ?_)
  · skip
    refine TC.seq ?_
    refine TC.region ?_
    refine TL.pure (PV.build rfl Tb.zero_24 Tb.pl_24 rfl) rfl (by decide) ?_
    refine TL.pure (PV.move rfl) rfl (by decide) ?_
    refine TL.storeAgg rfl rfl Tb.cells_24 (by repeat (first | exact Upd.head _ | apply Upd.tail | apply Upd.appR)) rfl rfl (by first | rfl | exact sv_one _ _ _) rfl rfl ?_
    refine TL.pure (PV.assign rfl) rfl (by decide) ?_
    refine TL.nil ?_
    refine TQ.thenC ?_
    refine TC.ret ?_
    refine TQ.thenR ?_
    refine TQ.retR rfl (Res.agg rfl Tb.agg_24 (by repeat (first | exact List.Mem.head _ | refine List.Mem.tail _ ?_ | refine List.mem_append_right _ ?_)) rfl (Res.tmp rfl Res.nil)) ?_
    simp only [tup]
    exact ⟨(0, none, []), rfl, CF.bad hne, List.nil_sublist _⟩
  · skip
    refine TC.skip ?_
    refine TQ.thenC ?_
    refine TC.seq ?_
    refine TC.region ?_
    refine TL.pure (PV.loadBox rfl Tb.agg_24 (by repeat (first | exact List.Mem.head _ | refine List.Mem.tail _ ?_ | refine List.mem_append_right _ ?_)) rfl) rfl (by decide) ?_
    refine TL.call rfl Tb.gofn_48 (fun a w hs => Copy_ok w n p cap rs.length rs rfl (hr.new hs.new) (by omega)) rfl (by decide) (fun h1 hh1 => ?_)
    refine TL.alloc Tb.zero_24 rfl (by decide) (fun b2 hb2 => ?_)
    refine TL.storeAgg rfl rfl Tb.cells_24 (by repeat (first | exact Upd.head _ | apply Upd.tail | apply Upd.appR)) rfl rfl (by first | rfl | exact sv_one _ _ _) rfl rfl ?_
    refine TL.nil ?_
    refine TQ.thenC ?_
    refine TC.seq ?_
    refine TC.seq ?_
    refine TC.region ?_
    refine TL.pure (PV.assign rfl) rfl (by decide) ?_
    refine TL.nil ?_
    refine TQ.thenC ?_
    refine TC.block ?_
    refine TC.loopK [1, 2, 3, 5] (X := Nat) (fun k => k ≤ rs.length) (fun k => [(6, .int .i64 k)]) (fun k => (b2, .cells #[.int .i64 n, gval h1 rs.length] 24 (0, 0)) :: (gbB 42 h1 (pm flipR rs k) ++ [(b1, .cells #[.int .i64 0, .slice none 0 0] 24 (0, 0)), (b0, .cells #[.int .i64 n, .slice p rs.length cap] 24 (0, 0))])) (fun k => rs.length - k) 0 (Nat.zero_le _) (by repeat (first | exact True.intro | refine And.intro rfl ?_)) (by rw [pm_zero]; exact List.Sublist.refl _) ?_
    intro k hk
    refine TC.seq ?_
    refine TC.seq ?_
    refine TC.region ?_
    refine TL.pure (PV.move rfl) rfl (by decide) ?_
    refine TL.pure (PV.fieldAddr rfl Tb.fo_24_1) rfl (by decide) ?_
    refine TL.pure (PV.load rfl Tb.one_22 (by repeat (first | exact List.Mem.head _ | refine List.Mem.tail _ ?_ | refine List.mem_append_right _ ?_)) rfl) rfl (by decide) ?_
    refine TL.pure (PV.lenG rfl hh1 Tb.sl_22) rfl (by decide) ?_
    refine TL.pure (PV.lss rfl rfl) rfl (by decide) ?_
    refine TL.nil ?_
    refine TQ.thenC ?_
    first | refine TC.condD rfl (fun hlt => ?_) (fun hlt => ?_) | refine TC.cond rfl (fun hlt => ?_) (fun hlt => ?_)
    · skip
      refine TC.skip ?_
      refine TQ.thenC ?_
      refine TC.seq ?_
      refine TC.block ?_
      have hkl : k < rs.length := by omega
      obtain ⟨q, hqp, hqa⟩ := hr k hkl
      have hq0 := hqa 0 _ rfl
      have hq1 := hqa 1 _ rfl
      refine TC.mix [true, true, true, true, true, true, true, true, true, true, true, true, true, true, true, true, true, true, true, true, false, false, false, false] [(b2, .cells #[.int .i64 n, gval h1 rs.length] 24 (0, 0)), (b1, .cells #[.int .i64 0, .slice none 0 0] 24 (0, 0)), (b0, .cells #[.int .i64 n, .slice p rs.length cap] 24 (0, 0))] 4 Tb.mixed rfl (by kernel_rfl) (by kernel_rfl) (by kernel_rfl) (by kernel_rfl) (by repeat (first | exact List.Sublist.slnil | exact List.nil_sublist _ | exact List.Sublist.refl _ | refine List.Sublist.cons_cons _ ?_ | refine List.Sublist.cons _ ?_ | refine List.Sublist.trans ?_ (List.sublist_append_right _ _))) ?_
      refine TB.op (SOK.pure (PV.fieldAddr rfl Tb.fo_24_1) rfl) (by decide) ?_
      refine TB.op (SOK.pure (PV.load rfl Tb.one_22 (by repeat (first | exact List.Mem.head _ | refine List.Mem.tail _ ?_ | refine List.mem_append_right _ ?_)) rfl) rfl) (by decide) ?_
      refine TB.op (SOK.pure (PV.move rfl) rfl) (by decide) ?_
      refine TB.op (SOK.pure (PV.fieldAddr rfl Tb.fo_24_1) rfl) (by decide) ?_
      refine TB.op (SOK.pure (PV.load rfl Tb.one_22 (by repeat (first | exact List.Mem.head _ | refine List.Mem.tail _ ?_ | refine List.mem_append_right _ ?_)) rfl) rfl) (by decide) ?_
      refine TB.op (SOK.pure (PV.move rfl) rfl) (by decide) ?_
      refine TB.op (SOK.pure (PV.fieldAddr rfl Tb.fo_24_1) rfl) (by decide) ?_
      refine TB.op (SOK.pure (PV.load rfl Tb.one_22 (by repeat (first | exact List.Mem.head _ | refine List.Mem.tail _ ?_ | refine List.mem_append_right _ ?_)) rfl) rfl) (by decide) ?_
      refine TB.op (SOK.pure (PV.move rfl) rfl) (by decide) ?_
      refine TB.op (SOK.pure (PV.indexA rfl hqp rfl Tb.elm_22 rfl (by omega)) rfl) (by decide) ?_
      refine TB.op (SOK.pure (PV.fieldAddrA rfl Tb.fo_42_1) rfl) (by decide) ?_
      refine TB.op (SOK.pure (PV.loadOld rfl Tb.one_3 hq1) rfl) (by decide) ?_
      refine TB.op (SOK.pure (PV.fieldAddr rfl Tb.fo_24_1) rfl) (by decide) ?_
      refine TB.op (SOK.pure (PV.load rfl Tb.one_22 (by repeat (first | exact List.Mem.head _ | refine List.Mem.tail _ ?_ | refine List.mem_append_right _ ?_)) rfl) rfl) (by decide) ?_
      refine TB.op (SOK.pure (PV.move rfl) rfl) (by decide) ?_
      refine TB.op (SOK.pure (PV.indexA rfl hqp rfl Tb.elm_22 rfl (by omega)) rfl) (by decide) ?_
      refine TB.op (SOK.pure (PV.fieldAddrA rfl Tb.fo_42_0) rfl) (by decide) ?_
      refine TB.op (SOK.pure (PV.loadOld rfl Tb.one_3 hq0) rfl) (by decide) ?_
      refine TB.op (SOK.pure (PV.indexG (j := k) rfl rfl hh1 Tb.elm_22 rfl (by omega)) rfl) (by decide) ?_
      refine TB.op (SOK.pure (PV.fieldAddr rfl Tb.fo_42_0) rfl) (by decide) ?_
      refine TB.no ?_
      refine TB.no ?_
      refine TB.no ?_
      refine TB.no ?_
      refine TB.fin ?_
      refine TX.step [20] (by kernel_rfl) (by decide) ⟨⟨_, rfl, ?_⟩, trivial⟩
      refine TL.putF (h := h1) (l0 := pm flipR rs k) (j := k) (f := 0) (v := (rs.getD k default).b) rfl rfl Tb.cells_3 (goB_len hh1 (pm_len _ _ _)) (by repeat (first | exact PutH.here _ _ _ _ | apply PutH.tail | apply PutH.app)) (by rw [pm_len]; omega) (by decide) rfl rfl ?_
      refine TL.nil ?_
      refine TX.next (.inl (by repeat (first | exact List.Sublist.slnil | exact List.nil_sublist _ | exact List.Sublist.refl _ | refine List.Sublist.cons_cons _ ?_ | refine List.Sublist.cons _ ?_ | refine List.Sublist.trans ?_ (List.sublist_append_right _ _)))) ?_
      refine TX.step [21] (by kernel_rfl) (by decide) ⟨⟨_, rfl, ?_⟩, trivial⟩
      refine TL.pure (PV.indexG (j := k) rfl rfl hh1 Tb.elm_22 rfl (by omega)) rfl (by decide) ?_
      refine TL.nil ?_
      refine TX.next (.inr (by kernel_rfl)) ?_
      refine TX.step [22] (by kernel_rfl) (by decide) ⟨⟨_, rfl, ?_⟩, trivial⟩
      refine TL.pure (PV.fieldAddr rfl Tb.fo_42_1) rfl (by decide) ?_
      refine TL.nil ?_
      refine TX.next (.inr (by kernel_rfl)) ?_
      refine TX.step [23] (by kernel_rfl) (by decide) ⟨⟨_, rfl, ?_⟩, trivial⟩
      refine TL.putF (h := h1) (l0 := (pm flipR rs k).set k (setF ((pm flipR rs k).getD k default) 0 (rs.getD k default).b)) (j := k) (f := 1) (v := (rs.getD k default).a) rfl rfl Tb.cells_3 (goB_len hh1 (by rw [List.length_set, pm_len])) (by repeat (first | exact PutH.here _ _ _ _ | apply PutH.tail | apply PutH.app)) (by rw [List.length_set, pm_len]; omega) (by decide) rfl rfl ?_
      rw [flip_put hkl]
      refine TL.nil ?_
      refine TX.next (.inr (by kernel_rfl)) ?_
      refine TX.done (by kernel_rfl) ?_
      refine TQ.blkN ?_
      refine TQ.thenC ?_
      refine TC.region ?_
      refine TL.pure (PV.move rfl) rfl (by decide) ?_
      refine TL.pure (PV.add rfl rfl (by omega)) rfl (by decide) ?_
      refine TL.pure (PV.assign rfl) rfl (by decide) ?_
      refine TL.nil ?_
      refine TQ.thenN ?_
      refine TQ.backK (k + 1) (by repeat (first | exact True.intro | refine And.intro rfl ?_)) (by repeat (first | exact True.intro | refine And.intro rfl ?_)) (by repeat (first | exact List.Sublist.slnil | exact List.nil_sublist _ | exact List.Sublist.refl _ | exact List.sublist_append_left _ _ | refine List.Sublist.cons_cons _ ?_ | refine (List.append_sublist_append_left _).2 ?_ | refine List.Sublist.cons _ ?_ | refine List.Sublist.trans ?_ (List.sublist_append_right _ _))) (by omega) (by omega)
    · skip
      refine TC.exit ?_
      refine TQ.thenE ?_
      refine TQ.thenE ?_
      refine TQ.blkS ?_
      refine TQ.thenC ?_
      refine TC.seq ?_
      refine TC.region ?_
      refine TL.pure (PV.loadBox rfl Tb.agg_24 (by repeat (first | exact List.Mem.head _ | refine List.Mem.tail _ ?_ | refine List.mem_append_right _ ?_)) rfl) rfl (by decide) ?_
      refine TL.storeAgg rfl rfl Tb.cells_24 (by repeat (first | exact Upd.head _ | apply Upd.tail | apply Upd.appR)) rfl rfl (by first | rfl | exact sv_one _ _ _) rfl rfl ?_
      refine TL.pure (PV.assign rfl) rfl (by decide) ?_
      refine TL.nil ?_
      refine TQ.thenC ?_
      refine TC.ret ?_
      refine TQ.retR rfl (Res.agg rfl Tb.agg_24 (by repeat (first | exact List.Mem.head _ | refine List.Mem.tail _ ?_ | refine List.mem_append_right _ ?_)) rfl (Res.tmp rfl Res.nil)) ?_
      simp only [tup]
      have hk9 : k = rs.length := by omega
      subst hk9
      have hz : validateI n rs = 0 := by omega
      rw [pm_all]
      exact ⟨(n, h1, rs.map flipR), by rw [hz, List.length_map], CF.good hz (goB_len hh1 (List.length_map _)), (by repeat (first | exact List.Sublist.slnil | exact List.nil_sublist _ | exact List.Sublist.refl _ | exact List.sublist_append_left _ _ | refine List.Sublist.cons_cons _ ?_ | refine (List.append_sublist_append_left _).2 ?_ | refine List.Sublist.cons _ ?_ | refine List.Sublist.trans ?_ (List.sublist_append_right _ _)))⟩

theorem equalS {w : World} {n1 n2 : Int} {h1 h2 : HD} {K1 K2 : Nat} {rs1 rs2 : List Bd} (hK1 : rs1.length = K1) (hK2 : rs2.length = K2) (ho1 : goB h1 rs1) (ho2 : goB h2 rs2) (hr1 : BdsAt w (gp h1) rs1) (hr2 : BdsAt w (gp h2) rs2) (hl : rs1.length ≤ 100000) (hl2 : rs2.length ≤ 100000) :
    Calls Try.prog 51 #[.agg #[.int .i64 n1, gval h1 K1], .agg #[.int .i64 n2, gval h2 K2]] w (Post (X := Unit) (fun _ => .bool (eqB n1 n2 rs1 rs2)) (fun _ => True) (fun _ => []) w) := by
  have hc := equal_ok w n1 n2 (gp h1) (gp h2) (gc h1) (gc h2) rs1 rs2 hr1 hr2 hl hl2
  rw [gvB_eq ho1 hK1, gvB_eq ho2 hK2]; subst hK1; subst hK2
  exact hc
theorem equalM {w : World} {n1 n2 : Int} {h1 : HD} {p2 : Option Addr} {K1 c2 : Nat} {rs1 rs2 : List Bd} (hK1 : rs1.length = K1) (ho1 : goB h1 rs1) (hr1 : BdsAt w (gp h1) rs1) (hr2 : BdsAt w p2 rs2) (hl : rs1.length ≤ 100000) (hl2 : rs2.length ≤ 100000) :
    Calls Try.prog 51 #[.agg #[.int .i64 n1, gval h1 K1], cv n2 p2 rs2.length c2] w (Post (X := Unit) (fun _ => .bool (eqB n1 n2 rs1 rs2)) (fun _ => True) (fun _ => []) w) := by
  have hc := equal_ok w n1 n2 (gp h1) p2 (gc h1) c2 rs1 rs2 hr1 hr2 hl hl2
  rw [gvB_eq ho1 hK1]; subst hK1
  exact hc
theorem checkS (w : World) (n : Int) (h : HD) (K : Nat) (rs : List Bd) (hK : rs.length = K) (ho : goB h rs) (hr : BdsAt w (gp h) rs) (pd : Option Addr) (cd Kd : Nat) (ds : List Int) (hKd : ds.length = Kd) (hx : IntsAt w pd ds) (hb : Kd ≤ 1000000) :
    Calls Try.prog 23 #[.agg #[.int .i64 n, gval h K], .slice pd Kd cd] w (Post (X := Unit) (fun _ => .int .i64 (checkI n rs ds)) (fun _ => True) (fun _ => []) w) := by
  have hc := check_ok w n (gp h) (gc h) rs hr pd cd Kd ds hKd hx hb
  rw [gvB_eq ho hK]; subst hK
  exact hc
end Go.Proofs.Ytenalmddoljhoaa
