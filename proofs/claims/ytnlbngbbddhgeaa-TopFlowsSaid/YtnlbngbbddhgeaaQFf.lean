/- The closure that takes back the search's panic. -/
import Derived.Test.YtnlbngbbddhgeaaQFe
import Derived.WalkKit
set_option linter.unusedVariables false
set_option linter.unusedSimpArgs false
namespace Go.Proofs.Ytnlbngbbddhgeaa
open Go.Sx Go.RowKit

theorem visit_all : ∀ m, VOk m
  | 0 => by
    intro w0 w b cl bs N L seen g u s h ks am T gi hnt hsl hu hg hsg hus hgs hp hm hok hN
    have := un_set (seen := seen) (u := u) (by omega) hus
    omega
  | m + 1 => visit_step m (visit_all m)
/-- A panic that has been taken back. -/
def took (y : WV) : FrameMode := .panicking [{ v := y.val, recovered := true }]
theorem settle_took (y : WV) : settle (took y) = .returning := rfl
theorem assert_way (y : WV) (w : World) : (Instr.typeAssert y.val 20 68 true).run Try.prog w = .ok (.tuple #[.agg #[.slice (some ⟨y.bh, 0, none⟩) y.ks.length y.ch, .int .i64 y.am], .bool true]) w := by
  kernel_rfl
theorem assert_nil (w : World) : (Instr.typeAssert .nilIface 20 68 true).run Try.prog w = .ok (.tuple #[.agg #[.slice none 0 0, .int .i64 0], .bool false]) w := by kernel_rfl
/-- The operations behind a recover, as everywhere. -/
theorem opsS_of {P : Program} {ops : Array Oper} {Q : Exit → Act → List Frame → World → Prop} {cs : List Frame} (hlo : ¬ LetsOut (fun e a w => Q e a cs w)) : ∀ (l : List Nat) (a : Act) (w : World), wpOps P ops (fun e a w => Q e a cs w) l a w → wpOpsS P ops Q l a cs w
  | [], a, w, h => h
  | i :: r, a, w, h => by
    unfold wpOps at h
    unfold wpOpsS
    cases ho : ops[i]? with
    | none => simp only [ho] at h ⊢; exact opsS_of hlo r a w h
    | some o =>
      simp only [ho] at h ⊢
      by_cases hw : Region.wanted o (yielded ops a.tmps) = true
      · rw [if_pos hw] at h ⊢
        have h1 := h.resolve_right fun h2 => hlo h2.2
        unfold Oper.wp at h1
        cases hr : (execOp a.eval o).run P w with
        | ok nx w' =>
          rw [hr] at h1
          cases nx
          case recover => exact h1.elim
          case value v => exact opsS_of hlo r _ _ h1
          case skip => exact opsS_of hlo r _ _ h1
          case defer d => exact opsS_of hlo r _ _ h1
          case enter f ys =>
            refine Calls.mono h1 ?_
            intro e w2 he
            cases e with
            | returned v => exact opsS_of hlo r _ _ he
            | panicked c => exact he
            | outgrown => exact absurd he hlo
          case row f ys =>
            refine Rows.mono h1 ?_
            intro v w2 he
            exact opsS_of hlo r _ _ he
          all_goals exact h1.elim
        | halt x w' =>
          rw [hr] at h1
          cases x <;> first | exact h1 | exact h1.elim
      · rw [if_neg hw] at h ⊢
        exact opsS_of hlo r _ _ h
theorem opsS_recover {P : Program} {Q : Exit → Act → List Frame → World → Prop} {cs cs' : List Frame} {a : Act} {w : World} {rv : Value} {d : Nat} {ty : TypeId} {pos : String} {aft : Array Edge} {rest : List Oper} (hlo : ¬ LetsOut (fun e a w => Q e a cs' w))
    (hr : recoverD cs = some (rv, cs') ∨ (recoverD cs = none ∧ rv = .nilIface ∧ cs' = cs))
    (h : wpList P ((⟨some d, .call { callee := .builtin .recover, args := #[], argTypes := #[] }, ty, pos, aft, none⟩ : Oper) :: rest).toArray (fun e a w => Q e a cs' w) rest (a.put (some d) rv) w) :
    wpOpsS P ((⟨some d, .call { callee := .builtin .recover, args := #[], argTypes := #[] }, ty, pos, aft, none⟩ : Oper) :: rest).toArray Q (List.range ((⟨some d, .call { callee := .builtin .recover, args := #[], argTypes := #[] }, ty, pos, aft, none⟩ : Oper) :: rest).toArray.size) a cs w := by
  have hsz : List.range ((⟨some d, .call { callee := .builtin .recover, args := #[], argTypes := #[] }, ty, pos, aft, none⟩ : Oper) :: rest).toArray.size = 0 :: List.range' 1 rest.length := by
    rw [List.size_toArray, List.length_cons, List.range_eq_range', List.range'_succ]
  have hj : ∀ j, rest[j]? = ((⟨some d, .call { callee := .builtin .recover, args := #[], argTypes := #[] }, ty, pos, aft, none⟩ : Oper) :: rest).toArray[1 + j]? := fun j => by rw [Nat.add_comm]; simp
  have hrest := opsS_of (Q := Q) hlo (List.range' 1 rest.length) (a.put (some d) rv) w (by
    rw [wpOps_eq_wpList rest 1 hj]
    exact h)
  rw [hsz]
  unfold wpOpsS
  have hx : (execOp a.eval ⟨some d, .call { callee := .builtin .recover, args := #[], argTypes := #[] }, ty, pos, aft, none⟩).run P w = .ok .recover w := by
    simp only [execOp, resolve]
    simp [invoke, builtin]
  simp only [List.getElem?_toArray, List.getElem?_cons_zero]
  rw [if_pos (show Region.wanted _ _ = true from rfl), hx]
  rcases hr with hr | ⟨hr, rfl, rfl⟩
  · simp only [hr]; exact hrest
  · simp only [hr]; exact hrest
section
variable {n : Nat} {w0 : World} {E : Env} {G : Heap} {ty : TypeId} {pos : String} {aft : Array Edge} {g : Option (Nat × Bool)}
theorem PV.assertW {d : Option Nat} {x : Operand} {u v : Value} {b : Bool} (hx : evo E x = some u) (hr : ∀ w, (Instr.typeAssert u 20 68 true).run Try.prog w = .ok (.tuple #[v, .bool b]) w) : PV Try.prog n w0 E G ⟨d, .typeAssert x 20 68 true, ty, pos, aft, g⟩ (.tuple #[v, .bool b]) :=
  fun a w hs => by
    simp only [execOp, hs.ev hx]
    simp [hr]
end
/-- The closure, entered in a panic or not: it stores what recover gave, if that is a way. -/
theorem caught {w0 w : World} {G : Heap} {bf : Nat} {u : FrameMode} {rv p1 p2 : Value} {b : Bool} (um : FrameMode) (hm : ∀ (c₀ : Frame) (cs : List Frame), c₀.mode = u → recoverD (c₀ :: cs) = some (rv, { c₀ with mode := um } :: cs) ∨ (recoverD (c₀ :: cs) = none ∧ rv = .nilIface ∧ um = u))
    (hr : ∀ w, (Instr.typeAssert rv 20 68 true).run Try.prog w = .ok (.tuple #[.agg #[p1, p2], .bool b]) w) (h1 : [p1, p2].all Value.oneCell' = true) (hN : New w0 w ((bf, Obj.cells #[.slice none 0 0, .int .i64 0] 68 (0, 0)) :: G)) :
    CallsD Try.prog 63 #[.pointer (some ⟨bf, 0, none⟩)] u w (fun e u' w' => u' = um ∧ (∃ v, e = .returned v) ∧ New w0 w' ((bf, Obj.cells #[p1, p2] 68 (0, 0)) :: G)) := by
  refine callsD_of_wpS Try.func63 rfl fun c₀ cs hu => ?_
  apply wpS_region
  refine opsS_recover (cs' := { c₀ with mode := um } :: cs) (rv := rv) ?_ ((hm c₀ cs hu).imp id fun ⟨e1, e2, e3⟩ => ⟨e1, e2, by rw [e3, ← hu]⟩) ?_
  · rintro ⟨_, _, u', ⟨_, ⟨_, h9⟩, _⟩⟩
    cases h9
  have hS : S 6 w0 [(2, rv), (0, .pointer (some ⟨bf, 0, none⟩))] ((bf, Obj.cells #[.slice none 0 0, .int .i64 0] 68 (0, 0)) :: G) (({ tmps := #[Value.pointer (some ⟨bf, 0, none⟩)] ++ Array.replicate 5 undef, defers := [] } : Act).put (some 2) rv) w := by
    refine S.put (n := 6) ⟨rfl, rfl, fun k v hk => ?_, hN⟩ (by decide) rv
    simp only [look_cons, look_nil] at hk
    cases k with
    | zero => simp at hk; subst hk; rfl
    | succ k => simp [Nat.beq] at hk
  refine (?_ : TL Try.prog 6 w0 _ _ _ [(2, rv), (0, .pointer (some ⟨bf, 0, none⟩))] ((bf, Obj.cells #[.slice none 0 0, .int .i64 0] 68 (0, 0)) :: G)) _ _ hS
  refine TL.pure (PV.assertW rfl hr) rfl (by decide) ?_
  refine TL.pure (PV.move rfl) rfl (by decide) ?_
  refine TL.pure (PV.extract rfl rfl) rfl (by decide) ?_
  refine TL.pure (PV.extract rfl rfl) rfl (by decide) ?_
  refine TL.storeAgg rfl rfl Tb.cells_68 (Upd.head _) rfl rfl h1 rfl rfl ?_
  refine TL.nil ?_
  intro a w9 hs9
  exact ⟨hs9.defers, um, rfl, _, Res.toRun (rs := []) (vs := []) rfl Res.nil hs9, rfl, ⟨_, rfl⟩, hs9.new⟩
end Go.Proofs.Ytnlbngbbddhgeaa
