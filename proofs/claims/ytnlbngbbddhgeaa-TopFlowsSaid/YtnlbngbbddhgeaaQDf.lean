/- Deferred calls of a function's own, panics, and what recovers them: the rules of the walk. -/
import Derived.Test.YtnlbngbbddhgeaaQRf
import Derived.Test.YtnlbngbbddhgeaaQSv
import Derived.Recover
set_option linter.unusedVariables false
set_option linter.unusedSimpArgs false
namespace Go.Sx
open Go.RowKit

section
variable {P : Program} {ds : List Deferred} {n : Nat} {w0 : World} {E : Env} {G : Heap} {ops : Array Oper} {Q : Exit → Act → World → Prop} {c : Code} {K : Act → World → Prop}
variable {ty : TypeId} {pos : String} {aft : Array Edge} {g : Option (Nat × Bool)}

/-- A body with deferred calls. -/
theorem callsDf {f : FuncId} {fn : Func} {vs : List Value} {R : Ending → World → Prop} (hf : P.funcs[f]? = some fn) (hb : fn.body = some c) (hn : fn.ntmps = n) (hl : vs.length ≤ n)
    (h : TG none [] P n w0 c (bodyPostD P fn R) (args 0 vs) []) : Calls P f vs.toArray w0 R :=
  calls_of_wp_defers hf hb ((wpIn_wide (n := 9)).1 (h { tmps := vs.toArray ++ Array.replicate (fn.ntmps - vs.toArray.size) undef, defers := [] } w0 ⟨by simp; omega, rfl, fun k v hk => by
    have := (look_args vs 0 k v hk).2
    simp only [Nat.sub_zero] at this
    rw [Array.getElem?_append_left (by have := (List.getElem?_eq_some_iff.1 this).1; simpa using this)]
    simpa using this, New.refl _⟩))
/-- The same, what the call's own memory already holds being told. -/
theorem callsDfM {f : FuncId} {fn : Func} {vs : List Value} {w : World} {R : Ending → World → Prop} (hN : New w0 w G) (hf : P.funcs[f]? = some fn) (hb : fn.body = some c) (hn : fn.ntmps = n) (hl : vs.length ≤ n)
    (h : TG none [] P n w0 c (bodyPostD P fn R) (args 0 vs) G) : Calls P f vs.toArray w R :=
  calls_of_wp_defers hf hb ((wpIn_wide (n := 9)).1 (h { tmps := vs.toArray ++ Array.replicate (fn.ntmps - vs.toArray.size) undef, defers := [] } w ⟨by simp; omega, rfl, fun k v hk => by
    have := (look_args vs 0 k v hk).2
    simp only [Nat.sub_zero] at this
    rw [Array.getElem?_append_left (by have := (List.getElem?_eq_some_iff.1 this).1; simpa using this)]
    simpa using this, hN⟩))
/-- defer f(xs..): it is put by. -/
theorem TGL.defer {cl : Call} {d : Deferred} {l : List Oper} (hr : ∀ a w, S n w0 E G a w → (resolve a.eval cl ty).run P w = .ok d w) (h : TGL none (d :: ds) P n w0 ops Q l E G) :
    TGL none ds P n w0 ops Q (⟨none, .defer cl, ty, pos, aft, none⟩ :: l) E G := fun a w hs => by
  have hev : (dfs a ds).eval = a.eval := rfl
  have hw : Region.wanted (⟨none, .defer cl, ty, pos, aft, none⟩ : Oper) (yielded ops (dfs a ds).tmps) = true := rfl
  unfold wpListIn
  rw [if_pos hw]
  refine ⟨fun _ _ => trivial, ?_⟩
  have hx : (execOp (dfs a ds).eval ⟨none, .defer cl, ty, pos, aft, none⟩).run P w = .ok (.defer d) w := by
    rw [hev]
    simp only [execOp]
    simp [hr a w hs]
  show Oper.uponIn _ _ _ _ _ _ _ ((Oper.semAt none _ _).run P w)
  rw [Oper.semAt_none, hx, Oper.uponIn_defer]
  have h2 := h a w hs
  have e : ({ dfs a ds with defers := d :: (dfs a ds).defers } : Act).put none undef = dfs a (d :: ds) := by
    show ({ dfs a ds with defers := d :: (a.defers ++ ds) } : Act) = { a with defers := a.defers ++ (d :: ds) }
    rw [hs.defers]; rfl
  rw [e]
  exact h2
theorem resolve_clo {cl : Call} {a : Act} {w : World} {f k : Nat} {caps : List Value} {xs : List Operand} {vs : List Value} {ats : Array TypeId} (hc : cl = { callee := .value (.tmp k), args := xs.toArray, argTypes := ats }) (hs : S n w0 E G a w)
    (hf : look k E = some (.func (.func f) #[] caps.toArray)) (hx : evs E xs = some vs) : (resolve a.eval cl ty).run P w = .ok { target := .fn (.func f) caps.toArray, args := vs.toArray } w := by
  subst hc
  have hm := hs.evs hx
  have hk : a.eval (.tmp k) = .func (.func f) #[] caps.toArray := hs.ev (x := .tmp k) hf
  simp only [resolve, List.map_toArray, hm, hk]
  simp [Deferred.ofValue]
theorem invoke_fn {f : FuncId} {caps vs : List Value} {w : World} (h : goFn P f = true) : (invoke (.fn (.func f) caps.toArray) vs.toArray).run P w = .ok (.enter f (vs ++ caps).toArray) w := by
  show (callFunc f _).run P w = _
  rw [run_goFn h]
  simp

/-- The end with one deferred call. -/
theorem TQ.retD {fn : Func} {R : Ending → World → Prop} {f : FuncId} {caps vs : List Value} {G' : Heap} (hg : goFn P f = true)
    (hc : ∀ w, New w0 w G → CallsD P f (vs ++ caps).toArray .returning w (fun e u' w' => u' = .returning ∧ (∃ v, e = .returned v) ∧ New w0 w' G')) (h : TQ n w0 (bodyPost P fn R .ret) E G') :
    TQ n w0 (QD [{ target := .fn (.func f) caps.toArray, args := vs.toArray }] (bodyPostD P fn R) .ret) E G := fun a w hs => by
  show Leaves P fn a.tmps R (a.defers ++ [_]) .returning w
  rw [hs.defers]
  refine leaves_cons (by simp) (invoke_fn hg) ((hc w hs.new).mono ?_)
  rintro e u' w' ⟨rfl, ⟨v, rfl⟩, hN⟩
  exact (h a w' (hs.world hN)).2
/-- The end of a panic that the one deferred call recovers. -/
theorem TQ.panD {fn : Func} {R : Ending → World → Prop} {f : FuncId} {caps vs : List Value} {G' : Heap} {chain : List PanicEntry} (hg : goFn P f = true)
    (hc : ∀ w, New w0 w G → CallsD P f (vs ++ caps).toArray (.panicking chain) w (fun e u' w' => settle u' = .returning ∧ (∃ v, e = .returned v) ∧ New w0 w' G')) (h : TQ n w0 (bodyPost P fn R .ret) E G') :
    TQ n w0 (QD [{ target := .fn (.func f) caps.toArray, args := vs.toArray }] (bodyPostD P fn R) (.panic chain)) E G := fun a w hs => by
  show Leaves P fn a.tmps R (a.defers ++ [_]) (.panicking chain) w
  rw [hs.defers]
  refine leaves_cons (by simp) (invoke_fn hg) ((hc w hs.new).mono ?_)
  rintro e u' w' ⟨hu, ⟨v, rfl⟩, hN⟩
  show Leaves P fn a.tmps R [] (settle u') w'
  rw [hu]
  exact (h a w' (hs.world hN)).2
theorem bodyD_lo {P : Program} {fn : Func} {X : Type} {val : X → Value} {F : X → Prop} {D : X → Heap} {w0 : World} : ¬ LetsOut (bodyPostD P fn (Post val F D w0)) := fun ⟨_, _, x, h, _⟩ => by cases h

/-- A panic goes through all that stands around it. -/
theorem TQ.panT {ch : List PanicEntry} (h : TQ n w0 (Q (.panic ch)) E G) : TQ n w0 (Exit.then K Q (.panic ch)) E G := h
theorem TQ.panB {i : Nat} {ch : List PanicEntry} (h : TQ n w0 (Q (.panic ch)) E G) : TQ n w0 (Exit.inBlock i Q (.panic ch)) E G := h
theorem TQ.gpanT {ch : List PanicEntry} (h : TQ n w0 (QD ds Q (.panic ch)) E G) : TQ n w0 (QD ds (Exit.then K Q) (.panic ch)) E G := h
/-- panic(x). -/
theorem TL.panic {d : Option Nat} {x : Operand} {v : Value} {l : List Oper} (hx : evo E x = some v) (hv : v ≠ .nilIface) (hr : ∀ w, (Instr.panic v).run P w = .halt (.panic v) w) (hg : wants ops E g = some true)
    (h : TQ n w0 (Q (.panic [{ v, recovered := false }])) E G) : TL P n w0 ops Q (⟨d, .panic x, ty, pos, aft, g⟩ :: l) E G :=
  TL.step hg fun a w hs => by
    have hex : (execOp a.eval ⟨d, .panic x, ty, pos, aft, g⟩).run P w = .halt (.panic v) w := by
      simp only [execOp, hs.ev hx]
      simp [hr]
    unfold Oper.wp
    rw [hex]
    exact h a w hs
/-- A call that comes back or panics. -/
theorem TL.callPan {X Y : Type} {d : Nat} {f : FuncId} {xs : List Operand} {ats : Array TypeId} {vs : List Value} {l : List Oper} (val : X → Value) (F : X → Prop) (G' : X → Heap) (pv : Y → Value) (Fp : Y → Prop) (Gp : Y → Heap) (hx : evs E xs = some vs) (hfn : goFn P f = true)
    (hc : ∀ a w, S n w0 E G a w → Calls P f vs.toArray w (fun e w' => (∃ x, e = .returned (val x) ∧ F x ∧ New w0 w' (G' x)) ∨ (∃ y, e = .panicked [{ v := pv y, recovered := false }] ∧ Fp y ∧ New w0 w' (Gp y)))) (hg : wants ops E g = some true) (hd : d < n)
    (h : ∀ x, F x → TL P n w0 ops Q l ((d, val x) :: E) (G' x)) (hp : ∀ y, Fp y → TQ n w0 (Q (.panic [{ v := pv y, recovered := false }])) E (Gp y)) :
    TL P n w0 ops Q (⟨some d, .call { callee := .value (.func f), args := xs.toArray, argTypes := ats }, ty, pos, aft, g⟩ :: l) E G :=
  TL.step hg fun a w hs => by
    have hm := hs.evs hx
    have hr : (execOp a.eval ⟨some d, .call { callee := .value (.func f), args := xs.toArray, argTypes := ats }, ty, pos, aft, g⟩).run P w = .ok (.enter f vs.toArray) w := by
      simp only [execOp, resolve, List.map_toArray, hm]
      show ((callFunc f (#[] ++ vs.toArray ++ #[])).run P w) = _
      rw [run_goFn hfn]; simp
    unfold Oper.wp
    rw [hr]
    refine (hc a w hs).mono ?_
    rintro e w' (⟨x, rfl, hF, hN⟩ | ⟨y, rfl, hF, hN⟩)
    · exact h x hF _ _ ((hs.world hN).put hd _)
    · exact hp y hF _ _ (hs.world hN)
/-- What a call that comes back or panics ends in. -/
def PostP {X Y : Type} (val : X → Value) (F : X → Prop) (D : X → Heap) (pv : Y → Value) (Fp : Y → Prop) (Dp : Y → Heap) (w : World) (e : Ending) (w' : World) : Prop :=
  (∃ x, e = .returned (val x) ∧ F x ∧ New w w' (D x)) ∨ (∃ y, e = .panicked [{ v := pv y, recovered := false }] ∧ Fp y ∧ New w w' (Dp y))
theorem TQ.panP {fn : Func} {X Y : Type} {val : X → Value} {F : X → Prop} {D : X → Heap} {pv : Y → Value} {Fp : Y → Prop} {Dp : Y → Heap} {v : Value} (h : ∃ y, v = pv y ∧ Fp y ∧ List.Sublist (Dp y) G) :
    TQ n w0 (bodyPost P fn (PostP val F D pv Fp Dp w0) (.panic [{ v, recovered := false }])) E G := fun a w hs =>
  let ⟨y, h1, h2, h3⟩ := h; ⟨hs.defers, .inr ⟨y, by rw [h1], h2, hs.new.sub h3⟩⟩
/-- What is deferred stays out of view of an operation that defers nothing. -/
theorem oper_wp {o : Oper} {a : Act} {w : World} {K K' : Act → World → Prop} {Q : Exit → Act → World → Prop} (hK : ∀ a w, K a w → K' (dfs a ds) w) (h : o.wp P a w K (QD ds Q)) : o.wp P (dfs a ds) w K' Q := by
  unfold Oper.wp at h ⊢
  rw [show (dfs a ds).eval = a.eval from rfl]
  generalize (execOp a.eval o).run P w = res at *
  cases res with
  | ok x w' =>
    cases x
    case value v => show K' ((dfs a ds).put o.dst v) w'; rw [dfs_put]; exact hK _ _ h
    case skip => show K' ((dfs a ds).put o.dst undef) w'; rw [dfs_put]; exact hK _ _ h
    case defer d =>
      show K' ({ dfs a ds with defers := d :: (dfs a ds).defers }.put o.dst undef) w'
      rw [show ({ dfs a ds with defers := d :: (dfs a ds).defers } : Act) = dfs { a with defers := d :: a.defers } ds from rfl, dfs_put]
      exact hK _ _ h
    case enter f ys =>
      refine Calls.mono h ?_
      rintro e w'' he
      cases e with
      | returned v => show K' ((dfs a ds).put o.dst v) w''; rw [dfs_put]; exact hK _ _ he
      | panicked c => exact he
      | outgrown => obtain ⟨a', w3, h3⟩ := he; exact ⟨_, _, h3⟩
    case row f ys =>
      refine Rows.mono h ?_
      intro v w'' he
      rw [dfs_put]; exact hK _ _ he
    all_goals exact h.elim
  | halt x w' => cases x <;> first | exact h | exact h.elim
theorem any_dfs {md : Region.Mode} {ops : Array Oper} {Q : Exit → Act → World → Prop} (hlo : ¬ LetsOut Q) : ∀ (fuel : Nat) (listed : Array Bool) (a : Act) (w : World), wpAny P md ops (QD ds Q) fuel listed a w → wpAny P md ops Q fuel listed (dfs a ds) w
  | 0, _, _, _, h => h
  | fuel + 1, listed, a, w, h => by
    refine ⟨h.1, fun i hi => ?_⟩
    have h2 := h.2 i hi
    unfold wpOp at h2 ⊢
    cases ho : ops[i]? with
    | none => simp only [ho] at h2 ⊢; exact any_dfs hlo fuel _ a w h2
    | some o =>
      simp only [ho] at h2 ⊢
      have hw : Region.wanted o (yielded ops (dfs a ds).tmps) = Region.wanted o (yielded ops a.tmps) := rfl
      rw [hw]
      split
      · rename_i hwt
        rw [if_pos hwt] at h2
        rcases h2 with h2 | ⟨_, a', w', h3⟩
        · exact .inl (oper_wp (fun a w hq => any_dfs hlo fuel _ a w hq) h2)
        · exact absurd ⟨_, _, h3⟩ hlo
      · rename_i hwt
        rw [if_neg hwt] at h2
        rw [dfs_put]
        exact any_dfs hlo fuel _ _ w h2
/-- A region that draws its order, in a body with deferred calls. -/
theorem TG.mixV {id : Nat} {l : List Oper} (st : List Bool) (GJ : Heap) (fuel : Nat) (hlo : ¬ LetsOut Q) (hm : P.follows .mixedOrders = true) (hst : st.length = l.length) (hnd : nodupB (dstsL l) = true) (hed : edgesB l 0 l = true) (hmx : mixB l st = true)
    (hds : (List.range l.length).all (fun i => match l[i]? with | some o => (match o.dst with | some d => decide (d < n) | none => true) | none => true) = true)
    (hGJ : List.Sublist GJ G) (h : TV P n w0 l st GJ (hide (dstsL l) E) (QD ds Q) fuel (List.replicate l.length false) E G) : TG none ds P n w0 (.region id l.toArray true) Q E G :=
  fun a w hs => (wpIn_wide (n := 9)).2 (wp_region_any hm (any_dfs hlo _ _ _ _ (mixV_any st GJ fuel hm hst hnd hed hmx hds hGJ h a w hs)))
end
end Go.Sx
