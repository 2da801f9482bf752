/- The best plan, and what it costs: contracts. -/
import Derived.Test.YtghlkndanpegbaaBl
set_option linter.unusedVariables false
set_option linter.unusedSimpArgs false
namespace Go.Proofs.Ytghlkndanpegbaa
open Go.Sx Go.RowKit Go.Sand Go.Tp

section
variable {P : Program} {n : Nat} {w0 : World} {E : Env} {G : Heap} {d : Nat} {ty : TypeId} {pos : String} {aft : Array Edge} {g : Option (Nat × Bool)} {ops : Array Oper} {Q : Exit → Act → World → Prop} {l : List Oper}
/-- The method of a value's own type. -/
def ownMeth (P : Program) (t : TypeId) (name : String) : Option FuncId :=
  match (P.info? t).bind (fun i => i.methods.find? (·.name == name)) with
  | some m => match m.path.toList, m.func with
    | [], some (f, false) => some f
    | _, _ => none
  | none => none
def noPtr (P : Program) (t : TypeId) : Bool := match P.underlying t with
  | some (.pointer _) | none => false
  | _ => true
theorem run_ownMeth {t : TypeId} {name : String} {f : FuncId} (h : ownMeth P t name = some f) (hp : noPtr P t = true) (k : Nat) (v : Value) (w : World) : (method (k + 1) t v name).run P w = Result.ok (f, v) w := by
  unfold ownMeth at h
  cases hi : P.info? t with
  | none => simp [hi] at h
  | some i =>
    simp only [hi, Option.bind_some] at h
    cases hm : i.methods.find? (·.name == name) with
    | none => simp [hm] at h
    | some m =>
      simp only [hm] at h
      split at h
      · rename_i f' e1 e2
        cases h
        unfold noPtr at hp
        cases hu : P.underlying t with
        | none => simp [hu] at hp
        | some u =>
          have hr : ∀ o, (receiverAt t (.val v) false o).run P w = Result.ok v w := fun o => by
            cases u <;> simp only [hu] at hp <;> first | (cases hp; done) | simp [receiverAt, run_underlying hu, Place.get]
          simp [method, typeInfo, hi, hm, e1, e2, follow, hr]
      · cases h
/-- A call of a method through an interface value. -/
theorem TL.callI {X : Type} {t f k : Nat} {nm : String} {v : Value} {xs : List Operand} {ats : Array TypeId} {vs : List Value} (val : X → Value) (F : X → Prop) (D : X → Heap) (hf : Sx.look k E = some (.iface t v)) (hx : evs E xs = some vs) (hm : ownMeth P t nm = some f) (hp : noPtr P t = true) (hfn : goFn P f = true)
    (hc : ∀ a w, S n w0 E G a w → Calls P f (v :: vs).toArray w (Post val F D w)) (hg : wants ops E g = some true) (hd : d < n)
    (h : ∀ x, F x → TL P n w0 ops Q l ((d, val x) :: E) (D x ++ G)) :
    TL P n w0 ops Q (⟨some d, .call { callee := .invoke (.tmp k) nm, args := xs.toArray, argTypes := ats }, ty, pos, aft, g⟩ :: l) E G :=
  TL.step hg fun a w hs => by
    have hmm := hs.evs hx
    have hfe : a.eval (.tmp k) = .iface t v := hs.ev (x := .tmp k) hf
    obtain ⟨j, hj⟩ : ∃ j, P.types.size + Made.depth = j + 1 := ⟨P.types.size + Made.depth - 1, by unfold Made.depth; omega⟩
    have hr : (execOp a.eval ⟨some d, .call { callee := .invoke (.tmp k) nm, args := xs.toArray, argTypes := ats }, ty, pos, aft, g⟩).run P w = .ok (.enter f (v :: vs).toArray) w := by
      have h1 := run_ownMeth hm hp j v w
      simp only [execOp, resolve, List.map_toArray, hmm, hfe]
      simp [invoke, callMethod, hj, h1, run_goFn hfn]
    unfold Oper.wp
    rw [hr]
    refine (hc a w hs).mono ?_
    rintro e w' ⟨x, rfl, hF, hN⟩
    exact h x hF _ _ ((hs.world (hs.new.trans hN)).put hd _)
end
theorem meth_96 : ownMeth Try.prog 96 "turbary/bulk.along" = some 127 := by kernel_rfl
theorem meth_82 : ownMeth Try.prog 82 "turbary/bulk.along" = some 76 := by kernel_rfl
theorem nop_96 : noPtr Try.prog 96 = true := by kernel_rfl
theorem nop_82 : noPtr Try.prog 82 = true := by kernel_rfl

def Imp.isSh : Imp → Bool
  | .pr _ _ _ _ => false
  | .sh _ _ => true
def Imp.shV : Imp → Value
  | .pr _ _ _ _ => .slice none 0 0
  | .sh h l => gval h l.length
def Imp.prV : Imp → Value
  | .pr hu hv us vs => .agg #[gval hu us.length, gval hv vs.length]
  | .sh _ _ => .agg #[.slice none 0 0, .slice none 0 0]
theorem isSh_of {z : Imp} (h : z.isSh = true) : ∃ h l, z = .sh h l := by
  cases z with
  | pr => cases h
  | sh h9 l9 => exact ⟨h9, l9, rfl⟩
theorem isPr_of {z : Imp} (h : z.isSh = false) : ∃ hu hv us vs, z = .pr hu hv us vs := by
  cases z with
  | pr hu hv us vs => exact ⟨hu, hv, us, vs, rfl⟩
  | sh => cases h
theorem und_96 : ∃ fs, Try.prog.underlying 96 = some (.struct fs) := by
  have h : (match Try.prog.underlying 96 with | some (.struct _) => true | _ => false) = true := by kernel_rfl
  split at h
  · rename_i fs e; exact ⟨fs, e⟩
  · cases h
section
variable {n : Nat} {w0 : World} {E : Env} {G : Heap} {ty : TypeId} {pos : String} {aft : Array Edge} {g : Option (Nat × Bool)}
theorem PV.assertSh {d : Option Nat} {x : Operand} {z : Imp} (hx : evo E x = some z.val) : PV Try.prog n w0 E G ⟨d, .typeAssert x 76 82 true, ty, pos, aft, g⟩ (.tuple #[z.shV, .bool z.isSh]) :=
  fun a w hs => by
    have hz := zero_run (P := Try.prog) Tb.zero_82 w
    simp only [execOp, hs.ev hx]
    cases z <;> simp [Instr.typeAssert, run_underlying Tb.sl_82, Imp.val, Imp.shV, Imp.isSh, hz]
theorem PV.assertPr {d : Option Nat} {x : Operand} {z : Imp} (hx : evo E x = some z.val) : PV Try.prog n w0 E G ⟨d, .typeAssert x 76 96 true, ty, pos, aft, g⟩ (.tuple #[z.prV, .bool (!z.isSh)]) :=
  fun a w hs => by
    obtain ⟨fs, hu⟩ := und_96
    have hz := zero_run (P := Try.prog) Tb.zero_96 w
    simp only [execOp, hs.ev hx]
    cases z <;> simp [Instr.typeAssert, run_underlying hu, Imp.val, Imp.prV, Imp.isSh, hz]
end
theorem vp_g {t : Td} {m : List (List Int)} (h : VP t m) : Gr t.s.length t.d.length 120 m := h.g
/-- A round makes a plan cheaper. -/
theorem step_vp {t : Td} {m : List (List Int)} {l : List Pr} {g : Nat → Nat × Nat} (h : VP t m) (hg : GdR t.s.length t.d.length (getM t.c) (getM m) l g) :
    0 < amt (getM m) g l.length ∧ VP t (aloT t.s.length t.d.length m l.length g) ∧ costI t (aloT t.s.length t.d.length m l.length g) < costI t m := by
  have ha : 1 ≤ amt (getM m) g l.length := amt_lo (by decide) _ fun t ht ho => by
    have := hg.odd (t / 2) (by omega)
    rw [show 2 * (t / 2) + 1 = t by omega] at this
    omega
  have hp := alo_pl hg.r h.pl (a := amt (getM m) g l.length) (by omega) fun q hq => amt_le _ hq (by omega)
  have hv : VP t (aloT t.s.length t.d.length m l.length g) := pl_vp h.toVT hp
  refine ⟨by omega, hv, ?_⟩
  have e1 : cst t.s.length t.d.length (getM t.c) (getM (aloT t.s.length t.d.length m l.length g)) = cst t.s.length t.d.length (getM t.c) (alo (getM m) l.length g (amt (getM m) g l.length)) := cst_congr (fun i j hi hj => tab_at _ hi hj) (fun _ _ _ _ => rfl)
  rw [cost_eq hv, cost_eq h, e1, alo_cst hg.r.bd]
  have h1 : amt (getM m) g l.length * rcst (getM t.c) l.length g ≤ 1 * rcst (getM t.c) l.length g := Int.mul_le_mul_of_nonpos_right ha (by have := hg.neg; omega)
  have := hg.neg
  omega
def MnT (t : Td) (n : Int) : Prop := Mn t.s.length t.d.length (fS t) (fD t) (getM t.c) n
open Classical in
noncomputable def mnI (t : Td) : Int := if h : ∃ n, MnT t n then Classical.choose h else 0
theorem mn_eq {t : Td} {n : Int} (h : MnT t n) : mnI t = n := by
  unfold mnI
  have h1 : ∃ n, MnT t n := ⟨n, h⟩
  rw [dif_pos h1]
  exact Mn.eq (Classical.choose_spec h1) h
theorem best_mn {t : Td} {m : List (List Int)} {us vs : List Int} (h : VP t m) (hg : GdP t.s.length t.d.length (getM t.c) (getM m) us vs) : MnT t (costI t m) := by
  rw [cost_eq h]
  exact Mn.of h.pl hg.hon hg.ti
theorem not_best {t : Td} {m : List (List Int)} {l : List Pr} {g : Nat → Nat × Nat} (h : VP t m) (hg : GdR t.s.length t.d.length (getM t.c) (getM m) l g) (hm : MnT t (mnI t)) : costI t m ≠ mnI t := by
  obtain ⟨_, h1, h2⟩ := step_vp h hg
  have h3 := Mn.le hm h1.pl
  rw [← cost_eq h1] at h3
  omega
noncomputable def lstR (t : Td) : Int × Int := if validI t ≠ 0 then (0, validI t) else (mnI t, 0)
noncomputable def ibR (t : Td) (m : List (List Int)) : Bool × Int := if planI t m ≠ 0 then (false, planI t m) else (decide (costI t m = mnI t), 0)
theorem cost_nn {t : Td} {m : List (List Int)} (h : VP t m) : 0 ≤ costI t m := by
  rw [cost_eq h]
  exact h.pl.cst_nn fun i j hi hj => (h.c.bd i j hi hj).1


set_option maxRecDepth 100000 in
set_option maxHeartbeats 4000000 in
theorem best_ok (w0 : World) (vt : Value) (t : Td) (ht : IsT w0 vt t) (hV : VT t) :
    Calls Try.prog 68 #[vt] w0 (Post (X := List (List Int) × (Value × Heap) × (HD × List Int) × (HD × List Int)) (fun y => .tuple #[y.2.1.1, .agg #[gval y.2.2.1.1 y.2.2.1.2.length, gval y.2.2.2.1 y.2.2.2.2.length]]) (fun y => VP t y.1 ∧ RdG y.1 y.2.1 ∧ goI y.2.2.1 ∧ goI y.2.2.2 ∧ GdP t.s.length t.d.length (getM t.c) (getM y.1) y.2.2.1.2 y.2.2.2.2) (fun y => (gbI y.2.2.2 ++ gbI y.2.2.1) ++ y.2.1.2) w0) := by
  obtain ⟨p1, c1, p2, c2, p3, c3, rfl, t1, t2, t3⟩ := ht
  have hns := hV.ns
  have hnd := hV.nd
  refine calls Try.func68 rfl (n := 26) rfl (by simp) ?_
  refine TC.seq ?_
  refine TC.region ?_
  refine TL.box rfl rfl (by decide) (fun b0 hb0 => ?_)
  refine TL.pure (PV.assign rfl) rfl (by decide) ?_
  refine TL.alloc Tb.zero_43 rfl (by decide) (fun b1 hb1 => ?_)
  refine TL.nil ?_
  refine TQ.thenC ?_
  refine TC.seq ?_
  refine TC.region ?_
  refine TL.pure (PV.loadBox rfl Tb.agg_25 (by repeat (first | exact List.Mem.head _ | refine List.Mem.tail _ ?_ | refine List.mem_append_right _ ?_)) rfl) rfl (by decide) ?_
  refine TL.call rfl Tb.gofn_65 (fun a w hs => corner_ok w _ t (IsT.mk (t1.new hs.new) (t2.new hs.new) (t3.new hs.new)) hV) rfl (by decide) (fun z9 hz9 => ?_)
  refine TL.pure (PV.assign rfl) rfl (by decide) ?_
  refine TL.nil ?_
  refine TQ.thenC ?_
  refine TC.block ?_
  -- live and written in the loop, not told: [2]
  refine TC.lit [(1, _), (3, _), (4, _)] (by repeat (first | exact True.intro | refine And.intro rfl ?_)) ?_
  refine TC.loopK [1, 3] (X := List (List Int) × (Value × Heap)) (fun x => VP t x.1 ∧ RdG x.1 x.2) (fun x => [(4, x.2.1)]) (fun x => x.2.2 ++ [(b1, Obj.cells #[.slice none 0 0, .slice none 0 0] 43 (0, 0)), (b0, Obj.cells #[.slice p1 t.s.length c1, .slice p2 t.d.length c2, .slice p3 t.c.length c3] 25 (0, 0))]) (fun x => (costI t x.1).toNat) (cornT t, z9) ⟨cornT_vp hV, hz9⟩ (by repeat (first | exact True.intro | refine And.intro rfl ?_)) (List.Sublist.refl _) ?_
  intro x hx9
  refine TC.lit [(1, _), (3, _), (4, _)] (by repeat (first | exact True.intro | refine And.intro rfl ?_)) ?_
  refine TC.block ?_
  refine TC.seq ?_
  refine TC.region ?_
  refine TL.pure (PV.loadBox rfl Tb.agg_25 (by repeat (first | exact List.Mem.head _ | refine List.Mem.tail _ ?_ | refine List.mem_append_right _ ?_)) rfl) rfl (by decide) ?_
  refine TL.pure (PV.move rfl) rfl (by decide) ?_
  refine TL.call rfl Tb.gofn_70 (fun a w hs => improve_ok w _ t (IsT.mk (t1.new hs.new) (t2.new hs.new) (t3.new hs.new)) hV _ x.1 (hx9.2.at hs.new (fun yy hyy => by repeat (first | exact List.mem_append_left _ hyy | exact List.mem_append_left _ (List.mem_append_right _ hyy) | exact List.mem_append_left _ (List.mem_append_left _ hyy) | refine List.mem_append_right _ ?_ | refine List.Mem.tail _ ?_))) hx9.1.g) rfl (by decide) (fun i9 hi9 => ?_)
  refine TL.nil ?_
  refine TQ.thenC ?_
  refine TC.block ?_
  refine TC.seq ?_
  refine TC.region ?_
  refine TL.pure (PV.assertSh rfl) rfl (by decide) ?_
  refine TL.pure (PV.extract rfl rfl) rfl (by decide) ?_
  refine TL.pure (PV.extract rfl rfl) rfl (by decide) ?_
  refine TL.nil ?_
  refine TQ.thenC ?_
  first | refine TC.condD rfl (fun hsh => ?_) (fun hsh => ?_) | refine TC.cond rfl (fun hsh => ?_) (fun hsh => ?_)
  · skip
    obtain ⟨h9, l9, rfl⟩ := isSh_of hsh
    obtain ⟨hgo, g9, hg9⟩ := hi9
    rw [show Imp.shV (.sh h9 l9) = .slice (gp h9) l9.length (gc h9) from gval_eq hgo]
    obtain ⟨hst1, hst2, hst3⟩ := step_vp hx9.1 hg9
    have hcn := cost_nn hst2
    refine TC.seq ?_
    refine TC.region ?_
    refine TL.pure (PV.assign rfl) rfl (by decide) ?_
    refine TL.nil ?_
    refine TQ.thenC ?_
    refine TC.region ?_
    refine TL.pure (PV.move rfl) rfl (by decide) ?_
    refine TL.pure (PV.move rfl) rfl (by decide) ?_
    refine TL.call rfl Tb.gofn_76 (fun a w hs => along_ok w (gp h9) (gc h9) l9.length g9 (by rw [← hg9.e]; exact RecsAt.s hs.new (fun yy hyy => by repeat (first | exact List.mem_append_left _ hyy | exact List.mem_append_left _ (List.mem_append_right _ hyy) | exact List.mem_append_left _ (List.mem_append_left _ hyy) | refine List.mem_append_right _ ?_ | refine List.Mem.tail _ ?_)) hgo) hg9.l8 _ x.1 (hx9.2.at hs.new (fun yy hyy => by repeat (first | exact List.mem_append_left _ hyy | exact List.mem_append_left _ (List.mem_append_right _ hyy) | exact List.mem_append_left _ (List.mem_append_left _ hyy) | refine List.mem_append_right _ ?_ | refine List.Mem.tail _ ?_))) t.s.length t.d.length hx9.1.g (by omega) (by omega) hg9.r.bd) rfl (by decide) (fun z8 hz8 => ?_)
    refine TL.pure (PV.move rfl) rfl (by decide) ?_
    refine TL.pure (PV.extract rfl rfl) rfl (by decide) ?_
    refine TL.pure (PV.extract rfl rfl) rfl (by decide) ?_
    refine TL.pure (PV.assign rfl) rfl (by decide) ?_
    refine TL.nil ?_
    refine TQ.blkN ?_
    refine TQ.blkN ?_
    refine TQ.thenN ?_
    refine TQ.backK (aloT t.s.length t.d.length x.1 l9.length g9, z8) (by repeat (first | exact True.intro | refine And.intro rfl ?_)) (by repeat (first | exact True.intro | refine And.intro rfl ?_)) (List.Sublist.append_left (List.Sublist.trans (List.sublist_append_right _ _) (List.sublist_append_right _ _)) _) ⟨hst2, hz8⟩ (by simp only; omega)
  · skip
    refine TC.seq ?_
    refine TC.region ?_
    refine TL.pure (PV.assertPr rfl) rfl (by decide) ?_
    refine TL.pure (PV.extract rfl rfl) rfl (by decide) ?_
    refine TL.pure (PV.extract rfl rfl) rfl (by decide) ?_
    refine TL.nil ?_
    refine TQ.thenC ?_
    first | refine TC.condD rfl (fun hpr => ?_) (fun hpr => ?_) | refine TC.cond rfl (fun hpr => ?_) (fun hpr => ?_)
    · skip
      obtain ⟨hu, hv, us, vs, rfl⟩ := isPr_of (z := i9) (by simpa using hpr)
      refine TC.seq ?_
      refine TC.region ?_
      refine TL.alloc Tb.zero_96 rfl (by decide) (fun b2 hb2 => ?_)
      refine TL.storeAgg (vs := [gval hu us.length, gval hv vs.length]) rfl rfl Tb.cells_96 (by repeat (first | exact Upd.head _ | apply Upd.tail | apply Upd.appR)) rfl rfl (gv2_one _ _ _ _) rfl rfl ?_
      refine TL.nil ?_
      refine TQ.thenC ?_
      refine TC.seq ?_
      refine TC.draw 3 Tb.mixed (by kernel_rfl) ?_
      simp only [List.take_succ_cons, List.take_zero, List.drop_succ_cons, List.drop_zero]
      refine TS.pure (PV.move rfl) rfl (by decide) ?_
      refine TS.pure (PV.loadBox (cs := [gval hu us.length, gval hv vs.length]) rfl Tb.agg_96 (by repeat (first | exact List.Mem.head _ | refine List.Mem.tail _ ?_ | refine List.mem_append_right _ ?_)) rfl) rfl (by decide) ?_
      refine TS.pure (PV.assign rfl) rfl (by decide) ?_
      refine TS.nil ?_
      refine TL.storeAgg (vs := [gval hu us.length, gval hv vs.length]) rfl rfl Tb.cells_43 (by repeat (first | exact Upd.head _ | apply Upd.tail | apply Upd.appR)) rfl rfl (gv2_one _ _ _ _) rfl rfl ?_
      refine TL.nil ?_
      refine TQ.thenC ?_
      refine TC.ret ?_
      refine TQ.blkR ?_
      refine TQ.blkR ?_
      refine TQ.thenR ?_
      refine TQ.blkR ?_
      refine TQ.retR rfl (Res.tmp rfl (Res.agg rfl Tb.agg_43 (by repeat (first | exact List.Mem.head _ | refine List.Mem.tail _ ?_ | refine List.mem_append_right _ ?_)) rfl Res.nil)) ?_
      simp only [tup]
      exact ⟨(x.1, x.2, (hu, us), (hv, vs)), rfl, ⟨hx9.1, hx9.2, hi9.1, hi9.2.1, hi9.2.2⟩, List.Sublist.cons _ (List.Sublist.append_left (List.sublist_append_left _ _) _)⟩
    · skip
      exact absurd hpr (by simp_all)

set_option maxRecDepth 100000 in
set_option maxHeartbeats 1000000 in
theorem Least_ok (w0 : World) (vt : Value) (t : Td) (ht : IsT w0 vt t) (hT : SmT t) :
    Calls Try.prog 28 #[vt] w0 (Post (X := Unit) (fun _ => .tuple #[.int .i64 (lstR t).1, .int .i64 (lstR t).2]) (fun _ => True) (fun _ => []) w0) := by
  obtain ⟨p1, c1, p2, c2, p3, c3, rfl, t1, t2, t3⟩ := ht
  refine calls Try.func28 rfl (n := 20) rfl (by simp) ?_
  refine TC.seq ?_
  refine TC.region ?_
  refine TL.box rfl rfl (by decide) (fun b0 hb0 => ?_)
  refine TL.pure (PV.assign rfl) rfl (by decide) ?_
  refine TL.pure (PV.assign rfl) rfl (by decide) ?_
  refine TL.nil ?_
  refine TQ.thenC ?_
  refine TC.seq ?_
  refine TC.seq ?_
  refine TC.region ?_
  refine TL.pure (PV.loadBox rfl Tb.agg_25 (by repeat (first | exact List.Mem.head _ | refine List.Mem.tail _ ?_ | refine List.mem_append_right _ ?_)) rfl) rfl (by decide) ?_
  refine TL.call rfl Tb.gofn_21 (fun a w hs => validate_ok w _ t (IsT.mk (t1.new hs.new) (t2.new hs.new) (t3.new hs.new)) hT) rfl (by decide) (fun _ _ => ?_)
  refine TL.pure (PV.assign rfl) rfl (by decide) ?_
  refine TL.nil ?_
  refine TQ.thenC ?_
  refine TC.seq ?_
  refine TC.region ?_
  refine TL.pure (PV.move rfl) rfl (by decide) ?_
  refine TL.pure (PV.neq rfl rfl) rfl (by decide) ?_
  refine TL.nil ?_
  refine TQ.thenC ?_
  first | refine TC.condD rfl (fun a1 => ?_) (fun a1 => ?_) | refine TC.cond rfl (fun a1 => ?_) (fun a1 => ?_)
  · skip
    refine TC.seq ?_
    refine TC.region ?_
    refine TL.pure (PV.move rfl) rfl (by decide) ?_
    refine TL.pure (PV.assign rfl) rfl (by decide) ?_
    refine TL.pure (PV.assign rfl) rfl (by decide) ?_
    refine TL.nil ?_
    refine TQ.thenC ?_
    refine TC.ret ?_
    refine TQ.thenR ?_
    refine TQ.retE2 rfl rfl rfl ?_
    exact ⟨(), by unfold lstR; rw [if_pos a1], trivial, List.nil_sublist _⟩
  · skip
    refine TC.skip ?_
    refine TQ.thenC ?_
    refine TC.seq ?_
    have hV := vt_of a1
    have hns := hV.ns
    have hnd := hV.nd
    refine TC.region ?_
    refine TL.pure (PV.loadBox rfl Tb.agg_25 (by repeat (first | exact List.Mem.head _ | refine List.Mem.tail _ ?_ | refine List.mem_append_right _ ?_)) rfl) rfl (by decide) ?_
    refine TL.call rfl Tb.gofn_68 (fun a w hs => best_ok w _ t (IsT.mk (t1.new hs.new) (t2.new hs.new) (t3.new hs.new)) hV) rfl (by decide) (fun y9 hy9 => ?_)
    refine TL.pure (PV.move rfl) rfl (by decide) ?_
    refine TL.pure (PV.extract rfl rfl) rfl (by decide) ?_
    refine TL.pure (PV.extract rfl rfl) rfl (by decide) ?_
    refine TL.alloc Tb.zero_43 rfl (by decide) (fun b1 hb1 => ?_)
    refine TL.pure (PV.assign rfl) rfl (by decide) ?_
    refine TL.storeAgg (vs := [gval y9.2.2.1.1 y9.2.2.1.2.length, gval y9.2.2.2.1 y9.2.2.2.2.length]) rfl rfl Tb.cells_43 (by repeat (first | exact Upd.head _ | apply Upd.tail | apply Upd.appR)) rfl rfl (gv2_one _ _ _ _) rfl rfl ?_
    refine TL.nil ?_
    refine TQ.thenC ?_
    refine TC.seq ?_
    refine TC.region ?_
    refine TL.pure (PV.loadBox rfl Tb.agg_25 (by repeat (first | exact List.Mem.head _ | refine List.Mem.tail _ ?_ | refine List.mem_append_right _ ?_)) rfl) rfl (by decide) ?_
    refine TL.pure (PV.move rfl) rfl (by decide) ?_
    refine TL.call rfl Tb.gofn_55 (fun a w hs => costOf_ok w _ t (IsT.mk (t1.new hs.new) (t2.new hs.new) (t3.new hs.new)) _ y9.1 (hy9.2.1.at hs.new (fun yy hyy => by repeat (first | exact List.mem_append_left _ hyy | exact List.mem_append_left _ (List.mem_append_right _ hyy) | exact List.mem_append_left _ (List.mem_append_left _ hyy) | refine List.mem_append_right _ ?_ | refine List.Mem.tail _ ?_))) hV.c hy9.1.g (by omega) (by omega)) rfl (by decide) (fun _ _ => ?_)
    refine TL.pure (PV.assign rfl) rfl (by decide) ?_
    refine TL.pure (PV.assign rfl) rfl (by decide) ?_
    refine TL.nil ?_
    refine TQ.thenC ?_
    refine TC.ret ?_
    refine TQ.retE2 rfl rfl rfl ?_
    exact ⟨(), by unfold lstR; rw [if_neg a1, mn_eq (best_mn hy9.1 hy9.2.2.2.2)], trivial, List.nil_sublist _⟩

set_option maxRecDepth 100000 in
set_option maxHeartbeats 1000000 in
theorem Best_ok (w0 : World) (vt : Value) (t : Td) (ht : IsT w0 vt t) (hT : SmT t) :
    Calls Try.prog 30 #[vt] w0 (Post (X := List (List Int) × (Value × Heap)) (fun y => .tuple #[y.2.1, .int .i64 (validI t)]) (fun y => RdG y.1 y.2 ∧ if validI t ≠ 0 then y.1 = [] else VP t y.1 ∧ costI t y.1 = mnI t) (fun y => y.2.2) w0) := by
  obtain ⟨p1, c1, p2, c2, p3, c3, rfl, t1, t2, t3⟩ := ht
  refine calls Try.func30 rfl (n := 18) rfl (by simp) ?_
  refine TC.seq ?_
  refine TC.region ?_
  refine TL.box rfl rfl (by decide) (fun b0 hb0 => ?_)
  refine TL.pure (PV.assign rfl) rfl (by decide) ?_
  refine TL.pure (PV.assign rfl) rfl (by decide) ?_
  refine TL.nil ?_
  refine TQ.thenC ?_
  refine TC.seq ?_
  refine TC.seq ?_
  refine TC.region ?_
  refine TL.pure (PV.loadBox rfl Tb.agg_25 (by repeat (first | exact List.Mem.head _ | refine List.Mem.tail _ ?_ | refine List.mem_append_right _ ?_)) rfl) rfl (by decide) ?_
  refine TL.call rfl Tb.gofn_21 (fun a w hs => validate_ok w _ t (IsT.mk (t1.new hs.new) (t2.new hs.new) (t3.new hs.new)) hT) rfl (by decide) (fun _ _ => ?_)
  refine TL.pure (PV.assign rfl) rfl (by decide) ?_
  refine TL.nil ?_
  refine TQ.thenC ?_
  refine TC.seq ?_
  refine TC.region ?_
  refine TL.pure (PV.move rfl) rfl (by decide) ?_
  refine TL.pure (PV.neq rfl rfl) rfl (by decide) ?_
  refine TL.nil ?_
  refine TQ.thenC ?_
  first | refine TC.condD rfl (fun a1 => ?_) (fun a1 => ?_) | refine TC.cond rfl (fun a1 => ?_) (fun a1 => ?_)
  · skip
    refine TC.seq ?_
    refine TC.region ?_
    refine TL.pure (PV.move rfl) rfl (by decide) ?_
    refine TL.pure (PV.assign rfl) rfl (by decide) ?_
    refine TL.pure (PV.assign rfl) rfl (by decide) ?_
    refine TL.nil ?_
    refine TQ.thenC ?_
    refine TC.ret ?_
    refine TQ.thenR ?_
    refine TQ.retE2 rfl rfl rfl ?_
    exact ⟨([], (.slice none 0 0, [])), rfl, ⟨RdG.nil, by rw [if_pos a1]⟩, List.nil_sublist _⟩
  · skip
    refine TC.skip ?_
    refine TQ.thenC ?_
    refine TC.seq ?_
    have hV := vt_of a1
    refine TC.region ?_
    refine TL.pure (PV.loadBox rfl Tb.agg_25 (by repeat (first | exact List.Mem.head _ | refine List.Mem.tail _ ?_ | refine List.mem_append_right _ ?_)) rfl) rfl (by decide) ?_
    refine TL.call rfl Tb.gofn_68 (fun a w hs => best_ok w _ t (IsT.mk (t1.new hs.new) (t2.new hs.new) (t3.new hs.new)) hV) rfl (by decide) (fun y9 hy9 => ?_)
    refine TL.pure (PV.move rfl) rfl (by decide) ?_
    refine TL.pure (PV.extract rfl rfl) rfl (by decide) ?_
    refine TL.pure (PV.extract rfl rfl) rfl (by decide) ?_
    refine TL.alloc Tb.zero_43 rfl (by decide) (fun b1 hb1 => ?_)
    refine TL.pure (PV.assign rfl) rfl (by decide) ?_
    refine TL.storeAgg (vs := [gval y9.2.2.1.1 y9.2.2.1.2.length, gval y9.2.2.2.1 y9.2.2.2.2.length]) rfl rfl Tb.cells_43 (by repeat (first | exact Upd.head _ | apply Upd.tail | apply Upd.appR)) rfl rfl (gv2_one _ _ _ _) rfl rfl ?_
    refine TL.nil ?_
    refine TQ.thenC ?_
    refine TC.seq ?_
    refine TC.region ?_
    refine TL.pure (PV.move rfl) rfl (by decide) ?_
    refine TL.pure (PV.assign rfl) rfl (by decide) ?_
    refine TL.pure (PV.assign rfl) rfl (by decide) ?_
    refine TL.nil ?_
    refine TQ.thenC ?_
    refine TC.ret ?_
    refine TQ.retE2 rfl rfl rfl ?_
    exact ⟨(y9.1, y9.2.1), by rw [Decidable.of_not_not a1], ⟨hy9.2.1, by rw [if_neg a1]; exact ⟨hy9.1, (mn_eq (best_mn hy9.1 hy9.2.2.2.2)).symm⟩⟩, List.Sublist.cons _ (List.Sublist.trans (List.sublist_append_right _ _) (List.sublist_append_left _ _))⟩

end Go.Proofs.Ytghlkndanpegbaa
