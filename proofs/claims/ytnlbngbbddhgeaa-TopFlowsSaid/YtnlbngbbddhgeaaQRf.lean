/- Ranging over a function: rules. -/
import Derived.Test.YtnlbngbbddhgeaaQSy
import Derived.RangeFuncLeaves
import Derived.RangeFuncSeq
import Derived.RangeFuncRecord
import Derived.TacticsIn
set_option linter.unusedVariables false
set_option linter.unusedSimpArgs false
namespace Go.Sx
open Go.RowKit

/-- Every function may be entered, in a round or not. -/
def FR (r : Option Nat) : Fence := { fn := fun _ => True, depth := none, alive := false, round := r }
theorem calls_fr {r : Option Nat} {m : Nat} {P : Program} {f : FuncId} {as : Array Value} {w : World} {R : Ending → World → Prop} (h : Calls P f as w R) : CallsIn (FR r) m P f as w R := (callsIn_wide (n := m)).2 h
/-- An activation with more deferred calls. -/
def dfs (a : Act) (ds : List Deferred) : Act := { a with defers := a.defers ++ ds }
theorem dfs_put (a : Act) (ds : List Deferred) (o : Option Nat) (v : Value) : (dfs a ds).put o v = dfs (a.put o v) ds := by cases o <;> rfl
def QD (ds : List Deferred) (Q : Exit → Act → World → Prop) : Exit → Act → World → Prop := fun e a w => Q e (dfs a ds) w
theorem lo_then {K : Act → World → Prop} {Q : Exit → Act → World → Prop} (h : ¬ LetsOut Q) : ¬ LetsOut (Exit.then K Q) := h
def noDefer (o : Oper) : Bool := match o.op with | .defer _ => false | _ => true
theorem noDefer_is {o : Oper} (h : noDefer o = true) : ∀ c, o.op ≠ .defer c := fun c e => by simp [noDefer, e] at h

section
variable {P : Program} {r : Option Nat} {ds : List Deferred} {m : Nat} {ops : Array Oper}
theorem oper_in {o : Oper} {a : Act} {w : World} {K K' : Act → World → Prop} {Q : Exit → Act → World → Prop} (hnd : noDefer o = true) (hK : ∀ a w, K a w → K' (dfs a ds) w) (h : o.wp P a w K (QD ds Q)) : o.wpIn (FR r) m P (dfs a ds) w K' Q := by
  unfold Oper.wp at h
  unfold Oper.wpIn
  refine ⟨fun _ _ => trivial, ?_⟩
  rw [Oper.semAt_eq _ _ _ (noDefer_is hnd)]
  rw [show (dfs a ds).eval = a.eval from rfl]
  generalize (execOp a.eval o).run P w = res at *
  cases res with
  | ok x w' =>
    cases x with
    | value v => show K' ((dfs a ds).put o.dst v) w'; rw [dfs_put]; exact hK _ _ h
    | skip => show K' ((dfs a ds).put o.dst undef) w'; rw [dfs_put]; exact hK _ _ h
    | defer d =>
      show K' ({ dfs a ds with defers := d :: (dfs a ds).defers }.put o.dst undef) w'
      rw [show ({ dfs a ds with defers := d :: (dfs a ds).defers } : Act) = dfs { a with defers := d :: a.defers } ds from rfl, dfs_put]
      exact hK _ _ h
    | enter f as =>
      refine ⟨fun h => (by cases h), calls_fr (Calls.mono h ?_)⟩
      rintro e w'' he
      cases e with
      | returned v => show K' ((dfs a ds).put o.dst v) w''; rw [dfs_put]; exact hK _ _ he
      | panicked c => exact he
      | outgrown => obtain ⟨a', w3, h3⟩ := he; exact ⟨_, _, h3⟩
    | row row as =>
      refine ⟨fun h => (by cases h), ?_⟩
      have h' : Rows P row as w' fun v w'' => K (a.put o.dst v) w'' := h
      have h2 : RowsIn (FR r) (m - 1) P row as w' fun v w'' => K (a.put o.dst v) w'' := fun c cs _ => let ⟨v, w3, q, st⟩ := h' c cs; ⟨v, w3, q, stepsIn_wide.2 st⟩
      exact RowsIn.mono h2 (fun v w'' he => by rw [dfs_put]; exact hK _ _ he)
    | _ => exact h.elim
  | halt x w' => cases x <;> first | exact h | exact h.elim
theorem list_in {Q : Exit → Act → World → Prop} (hlo : ¬ LetsOut Q) : ∀ (l : List Oper) {a : Act} {w : World} {K : Act → World → Prop} {l2 : List Oper}, l.all noDefer = true →
    (∀ a w, K a w → wpListIn (FR r) m P ops Q l2 (dfs a ds) w) → wpList P ops (Exit.then K (QD ds Q)) l a w → wpListIn (FR r) m P ops Q (l ++ l2) (dfs a ds) w
  | [], a, w, K, l2, _, hK, h => hK _ _ h
  | o :: l, a, w, K, l2, hn, hK, h => by
    simp only [List.all_cons, Bool.and_eq_true] at hn
    unfold wpList at h
    show wpListIn (FR r) m P ops Q (o :: (l ++ l2)) (dfs a ds) w
    unfold wpListIn
    rw [show (dfs a ds).tmps = a.tmps from rfl]
    by_cases hw : Region.wanted o (yielded ops a.tmps) = true
    · rw [if_pos hw] at h ⊢
      rcases h with h | ⟨_, a', w3, h3⟩
      · exact oper_in hn.1 (fun a w h => list_in hlo l hn.2 hK h) h
      · exact absurd ⟨_, _, h3⟩ hlo
    · rw [if_neg hw] at h ⊢
      refine ⟨fun _ _ => trivial, ?_⟩
      rw [dfs_put]
      exact list_in hlo l hn.2 hK h
end

/-- Code in a round or not, with deferred calls. -/
def TG (r : Option Nat) (ds : List Deferred) (P : Program) (n : Nat) (w0 : World) (c : Code) (Q : Exit → Act → World → Prop) (E : Env) (G : Heap) : Prop :=
  ∀ a w, S n w0 E G a w → c.wpIn (FR r) 9 P Q (dfs a ds) w
def TGL (r : Option Nat) (ds : List Deferred) (P : Program) (n : Nat) (w0 : World) (ops : Array Oper) (Q : Exit → Act → World → Prop) (l : List Oper) (E : Env) (G : Heap) : Prop :=
  ∀ a w, S n w0 E G a w → wpListIn (FR r) 9 P ops Q l (dfs a ds) w
section
variable {P : Program} {r : Option Nat} {ds : List Deferred} {n : Nat} {w0 : World} {E : Env} {G : Heap} {ops : Array Oper} {Q : Exit → Act → World → Prop} {c c1 c2 : Code} {K : Act → World → Prop}
theorem TG.seq (h : TG r ds P n w0 c1 (Exit.then (c2.wpIn (FR r) 9 P Q) Q) E G) : TG r ds P n w0 (.seq c1 c2) Q E G := fun a w hs => wpIn_seq (h a w hs)
theorem TG.block {id : Nat} (h : TG r ds P n w0 c (Exit.inBlock id Q) E G) : TG r ds P n w0 (.block id c) Q E G := fun a w hs => wpIn_block (h a w hs)
theorem TG.skip (h : TQ n w0 (QD ds Q .normal) E G) : TG r ds P n w0 .skip Q E G := fun a w hs => wpIn_skip (h a w hs)
theorem TG.ret (h : TQ n w0 (QD ds Q .ret) E G) : TG r ds P n w0 .ret Q E G := fun a w hs => wpIn_ret (h a w hs)
theorem TG.exit {id : Nat} (h : TQ n w0 (QD ds Q (.exit id)) E G) : TG r ds P n w0 (.exit id) Q E G := fun a w hs => wpIn_exit (h a w hs)
theorem TG.cond {x : Operand} {b : Bool} (hx : evo E x = some (.bool b)) (ht : b = true → TG r ds P n w0 c1 Q E G) (hf : b = false → TG r ds P n w0 c2 Q E G) : TG r ds P n w0 (.cond x c1 c2) Q E G :=
  fun a w hs => wpIn_cond_split (a := dfs a ds) (hs.ev hx) (fun h => ht h a w hs) (fun h => hf h a w hs)
theorem TG.condD {x : Operand} {p : Prop} [Decidable p] (hx : evo E x = some (.bool (decide p))) (ht : p → TG r ds P n w0 c1 Q E G) (hf : ¬ p → TG r ds P n w0 c2 Q E G) : TG r ds P n w0 (.cond x c1 c2) Q E G :=
  TG.cond hx (fun h => ht (of_decide_eq_true h)) (fun h => hf (of_decide_eq_false h))
theorem TG.condT {x : Operand} (hx : evo E x = some (.bool true)) (ht : TG r ds P n w0 c1 Q E G) : TG r ds P n w0 (.cond x c1 c2) Q E G := TG.cond hx (fun _ => ht) (fun h => by cases h)
theorem TG.condF {x : Operand} (hx : evo E x = some (.bool false)) (hf : TG r ds P n w0 c2 Q E G) : TG r ds P n w0 (.cond x c1 c2) Q E G := TG.cond hx (fun h => by cases h) (fun _ => hf)
theorem TG.perm {G' : Heap} (hp : List.Perm G' G) (h : TG r ds P n w0 c Q E G') : TG r ds P n w0 c Q E G := fun a w hs => h a w (hs.world (hs.new.perm hp))
theorem TGL.perm {l : List Oper} {G' : Heap} (hp : List.Perm G' G) (h : TGL r ds P n w0 ops Q l E G') : TGL r ds P n w0 ops Q l E G := fun a w hs => h a w (hs.world (hs.new.perm hp))
/-- Operations as everywhere. -/
theorem TGL.opsAll {l : List Oper} (hlo : ¬ LetsOut Q) (hn : l.all noDefer = true) (h : TL P n w0 ops (QD ds Q) l E G) : TGL r ds P n w0 ops Q l E G := fun a w hs => by
  have := list_in (r := r) (m := 9) (ds := ds) (ops := ops) (P := P) hlo l (K := QD ds Q .normal) (l2 := []) (a := a) (w := w) hn (fun a w h => h) (by
    have h2 := h a w hs
    have e : Exit.then (QD ds Q .normal) (QD ds Q) = QD ds Q := by funext e a w; cases e <;> rfl
    rw [e]; exact h2)
  rwa [List.append_nil] at this
/-- Operations as everywhere, then others. -/
theorem TGL.pre (k : Nat) {l : List Oper} (hlo : ¬ LetsOut Q) (hn : (l.take k).all noDefer = true) (h : TL P n w0 ops (Exit.then (fun a w => wpListIn (FR r) 9 P ops Q (l.drop k) (dfs a ds) w) (QD ds Q)) (l.take k) E G) : TGL r ds P n w0 ops Q l E G := fun a w hs => by
  have := list_in (r := r) (m := 9) (ds := ds) (ops := ops) (P := P) hlo (l.take k) (l2 := l.drop k) (a := a) (w := w) hn (fun a w h => h) (h a w hs)
  rwa [List.take_append_drop] at this
theorem TQ.thenL {l : List Oper} (h : TGL r ds P n w0 ops Q l E G) : TQ n w0 (Exit.then (fun a w => wpListIn (FR r) 9 P ops Q l (dfs a ds) w) (QD ds Q) .normal) E G := h
theorem TG.regionL {id : Nat} {l : List Oper} (h : TGL r ds P n w0 l.toArray Q l E G) : TG r ds P n w0 (.region id l.toArray false) Q E G := fun a w hs => wpIn_region_lit (h a w hs)
theorem TG.region {id : Nat} {l : List Oper} (hlo : ¬ LetsOut Q) (hn : l.all noDefer = true) (h : TL P n w0 l.toArray (QD ds Q) l E G) : TG r ds P n w0 (.region id l.toArray false) Q E G := TG.regionL (TGL.opsAll hlo hn h)
theorem TQ.thenG (h : TG r ds P n w0 c Q E G) : TQ n w0 (QD ds (Exit.then (c.wpIn (FR r) 9 P Q) Q) .normal) E G := h
end

/-- What a round of such a loop comes to. -/
def BackG {X : Type} (n : Nat) (w0 : World) (ds : List Deferred) (F : X → Prop) (M : X → Env) (D : X → Heap) (m : X → Nat) (k : Nat) (a : Act) (w : World) : Prop := ∃ b, a = dfs b ds ∧ Back n w0 F M D m k b w
section
variable {P : Program} {r : Option Nat} {ds : List Deferred} {n : Nat} {w0 : World} {E : Env} {G : Heap} {Q : Exit → Act → World → Prop} {c : Code}
/-! Leaving a function that has ranged over a function. -/
theorem New.put {w : World} {l : Nat} {o o' : Obj} {A B : Heap} (h : New w0 w (A ++ (l, o) :: B)) : New w0 (w.putObj l o') (A ++ (l, o') :: B) := by
  have hm : (l, o) ∈ A ++ (l, o) :: B := by simp
  have hlt := h.lt hm
  exact h.turn (Upd.appR A (Upd.head B)) (World.putObj_heap_same hlt) (fun k hk => World.putObj_heap_other hk) rfl rfl rfl (by simp) rfl
end
/-- What an iterator does with whatever body it is given: the blocks of 'kept' stay as they are. -/
def Iter {α : Type} (P : Program) (gf : FuncId) (lb : List Value) (encs : α → List Value) (w0 : World) (kept : Heap) (Done Part : List α → Prop) : Prop :=
  ∀ ⦃X Y : Type⦄ (w : World) (l : Nat) (F : List α → X → Prop) (H : X → Heap) (Fx : List α → Y → Prop) (Hx : Y → Heap) (s0 : X),
    (∀ s, ∀ p ∈ kept, p ∈ H s) →
    (∀ pre x s w' (own : Heap), Part (pre ++ [x]) → F pre s → New w0 w' (H s ++ own) →
      YieldAt (FR none) 8 P l (encs x).toArray w' (fun e w'' => (e = .returned (.bool true) ∧ ∃ s', F (pre ++ [x]) s' ∧ New w0 w'' (H s' ++ own)) ∨ (e = .returned (.bool false) ∧ ∃ y, Fx (pre ++ [x]) y ∧ New w0 w'' (Hx y ++ own)))) →
    F [] s0 → New w0 w (H s0) →
    CallsIn (FR none) 9 P gf ((.func (.yield l) #[] #[]) :: lb).toArray w (fun e w' => (∃ v, e = .returned v) ∧ ((∃ xs s, Done xs ∧ F xs s ∧ New w0 w' (H s)) ∨ (∃ xs y, Part xs ∧ Fx xs y ∧ New w0 w' (Hx y))))
def bindE : List Nat → List Value → Env → Env
  | p :: ps, v :: vs, E => bindE ps vs ((p, v) :: E)
  | _, _, E => E
/-- How a round may be left. -/
def RB {α X Y : Type} (w0 : World) (F : List α → X → Prop) (D : X → Heap) (Fx : List α → Y → Prop) (Dx : Y → Heap) (T : Heap) (xs : List α) : Exit → Act → World → Prop
  | .normal, _, w => ∃ s, F xs s ∧ New w0 w (D s ++ T)
  | .ret, _, w => ∃ y, Fx xs y ∧ New w0 w (Dx y ++ T)
  | _, _, _ => False
def QN : Exit → Act → World → Prop := fun _ _ _ => False
section
variable {P : Program} {n : Nat} {w0 : World} {E : Env} {G : Heap} {Q : Exit → Act → World → Prop}
end

section
variable {P : Program} {n : Nat} {w0 : World} {E : Env} {G : Heap} {Q : Exit → Act → World → Prop}
theorem TQ.leave {α X Y : Type} {F : List α → X → Prop} {D : X → Heap} {Fx : List α → Y → Prop} {Dx : Y → Heap} {T : Heap} {xs : List α} (y : Y) (hF : Fx xs y) (hg : List.Sublist (Dx y ++ T) G) : TQ n w0 (QD [] (RB w0 F D Fx Dx T xs) .ret) E G := fun a w hs => ⟨y, hF, hs.new.sub hg⟩
end
end Go.Sx
