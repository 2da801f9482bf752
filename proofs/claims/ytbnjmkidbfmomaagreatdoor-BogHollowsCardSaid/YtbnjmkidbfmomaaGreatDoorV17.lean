/- Rf Rg -/
import Derived.Test.YtbnjmkidbfmomaaGreatDoorV02
import Derived.Test.YtbnjmkidbfmomaaGreatDoorV03
import Derived.Test.YtbnjmkidbfmomaaGreatDoorV06
import Derived.RangeFuncLeaves
import Derived.RangeFuncSeq
import Derived.RangeFuncRecord
import Derived.TacticsIn
import Derived.OrdersIn
set_option linter.unusedVariables false
set_option linter.unusedSimpArgs false
set_option maxRecDepth 100000
namespace Go.Sx
open Go.RowKit
def FR (r : Option Nat) : Fence := { fn := fun _ => True, depth := none, alive := false, round := r }
theorem room_fr (r : Option Nat) (k : Nat) : (FR r).room k := fun d h => by cases h
theorem calls_fr {r : Option Nat} {m : Nat} {P : Program} {f : FuncId} {az : Array Value} {w : World} {R : Ending → World → Prop} (h : Calls P f az w R) : CallsIn (FR r) m P f az w R := (callsIn_wide (n := m)).2 h
theorem fr_calls {m : Nat} {P : Program} {f : FuncId} {az : Array Value} {w : World} {R : Ending → World → Prop} (h : CallsIn (FR none) m P f az w R) : Calls P f az w R := (callsIn_wide (n := m)).1 h
theorem round_fr {r : Option Nat} {m m' : Nat} {P : Program} {l : Nat} {f : FuncId} {tmps : Array Value} {az body : Code} {w : World} {R : Ending → World → Prop} (h : RoundIn (FR r) m P l f tmps az body w R) : RoundIn (FR r) m' P l f tmps az body w R :=
  ⟨h.1, fun c cs _ => h.2 c cs (room_fr _ _)⟩
theorem wp_fr {r : Option Nat} {m m' : Nat} {P : Program} {c : Code} {Q : Exit → Act → World → Prop} {a : Act} {w : World} (h : c.wpIn (FR r) m P Q a w) : c.wpIn (FR r) m' P Q a w :=
  fun b k cs hro hb _ => h b k cs hro hb (room_fr _ _)
def dfs (a : Act) (ds : List Deferred) : Act := { a with defers := a.defers ++ ds }
theorem dfs_put (a : Act) (ds : List Deferred) (o : Option Nat) (v : Value) : (dfs a ds).put o v = dfs (a.put o v) ds := by cases o <;> rfl
theorem dfs_nil (a : Act) : dfs a [] = a := by cases a; simp [dfs]
def QD (ds : List Deferred) (Q : Exit → Act → World → Prop) : Exit → Act → World → Prop := fun e a w => Q e (dfs a ds) w
theorem lo_then {K : Act → World → Prop} {Q : Exit → Act → World → Prop} (h : ¬ LetsOut Q) : ¬ LetsOut (Exit.then K Q) := h
theorem lo_blk {i : Nat} {Q : Exit → Act → World → Prop} (h : ¬ LetsOut Q) : ¬ LetsOut (Exit.inBlock i Q) := h
def noDefer (o : Oper) : Bool := match o.op with | .defer _ => false | _ => true
theorem noDefer_is {o : Oper} (h : noDefer o = true) : ∀ c, o.op ≠ .defer c := fun c e => by simp [noDefer, e] at h
section
variable {P : Program} {r : Option Nat} {ds : List Deferred} {m : Nat} {ops : Array Oper}
theorem oper_in {o : Oper} {a : Act} {w : World} {K K' : Act → World → Prop} {Q : Exit → Act → World → Prop} (hnd : noDefer o = true) (hK : ∀ a w, K a w → K' (dfs a ds) w) (h : o.wp P a w K (QD ds Q)) : o.wpIn (FR r) m P (dfs a ds) w K' Q := by
  unfold Oper.wp at h
  unfold Oper.wpIn
  refine ⟨fun _ _ => trivial, ?_⟩
  rw [Oper.semAt_eq _ _ _ (noDefer_is hnd)]
  rw [show (dfs a ds).eval = a.eval from rfl]
  generalize (execOp a.eval o).run P w = res at *
  cases res with
  | ok x w' =>
    cases x with
    | value v => show K' ((dfs a ds).put o.dst v) w'; rw [dfs_put]; exact hK _ _ h
    | skip => show K' ((dfs a ds).put o.dst undef) w'; rw [dfs_put]; exact hK _ _ h
    | defer d =>
      show K' ({ dfs a ds with defers := d :: (dfs a ds).defers }.put o.dst undef) w'
      rw [show ({ dfs a ds with defers := d :: (dfs a ds).defers } : Act) = dfs { a with defers := d :: a.defers } ds from rfl, dfs_put]
      exact hK _ _ h
    | enter f az =>
      refine ⟨fun h => (by cases h), calls_fr (Calls.mono h ?_)⟩
      rintro e w'' he
      cases e with
      | returned v => show K' ((dfs a ds).put o.dst v) w''; rw [dfs_put]; exact hK _ _ he
      | panicked c => exact he
      | outgrown => obtain ⟨a', w3, h3⟩ := he; exact ⟨_, _, h3⟩
    | row row az =>
      refine ⟨fun h => (by cases h), ?_⟩
      have h' : Rows P row az w' fun v w'' => K (a.put o.dst v) w'' := h
      have h2 : RowsIn (FR r) (m - 1) P row az w' fun v w'' => K (a.put o.dst v) w'' := fun c cs _ => let ⟨v, w3, q, st⟩ := h' c cs; ⟨v, w3, q, stepsIn_wide.2 st⟩
      exact RowsIn.mono h2 (fun v w'' he => by rw [dfs_put]; exact hK _ _ he)
    | _ => exact h.elim
  | halt x w' => cases x <;> first | exact h | exact h.elim
theorem list_in {Q : Exit → Act → World → Prop} (hlo : ¬ LetsOut Q) : ∀ (l : List Oper) {a : Act} {w : World} {K : Act → World → Prop} {l2 : List Oper}, l.all noDefer = true →
    (∀ a w, K a w → wpListIn (FR r) m P ops Q l2 (dfs a ds) w) → wpList P ops (Exit.then K (QD ds Q)) l a w → wpListIn (FR r) m P ops Q (l ++ l2) (dfs a ds) w
  | [], a, w, K, l2, _, hK, h => hK _ _ h
  | o :: l, a, w, K, l2, hn, hK, h => by
    simp only [List.all_cons, Bool.and_eq_true] at hn
    unfold wpList at h
    show wpListIn (FR r) m P ops Q (o :: (l ++ l2)) (dfs a ds) w
    unfold wpListIn
    rw [show (dfs a ds).tmps = a.tmps from rfl]
    by_cases hw : Region.wanted o (yielded ops a.tmps) = true
    · rw [if_pos hw] at h ⊢
      rcases h with h | ⟨_, a', w3, h3⟩
      · exact oper_in hn.1 (fun a w h => list_in hlo l hn.2 hK h) h
      · exact absurd ⟨_, _, h3⟩ hlo
    · rw [if_neg hw] at h ⊢
      refine ⟨fun _ _ => trivial, ?_⟩
      rw [dfs_put]
      exact list_in hlo l hn.2 hK h
end
def TG (r : Option Nat) (ds : List Deferred) (P : Program) (n : Nat) (w0 : World) (c : Code) (Q : Exit → Act → World → Prop) (E : Env) (G : Heap) : Prop :=
  ∀ a w, S n w0 E G a w → c.wpIn (FR r) 9 P Q (dfs a ds) w
def TGL (r : Option Nat) (ds : List Deferred) (P : Program) (n : Nat) (w0 : World) (ops : Array Oper) (Q : Exit → Act → World → Prop) (l : List Oper) (E : Env) (G : Heap) : Prop :=
  ∀ a w, S n w0 E G a w → wpListIn (FR r) 9 P ops Q l (dfs a ds) w
section
variable {P : Program} {r : Option Nat} {ds : List Deferred} {n : Nat} {w0 : World} {E : Env} {G : Heap} {ops : Array Oper} {Q : Exit → Act → World → Prop} {c c1 c2 : Code} {K : Act → World → Prop}
theorem TG.seq (h : TG r ds P n w0 c1 (Exit.then (c2.wpIn (FR r) 9 P Q) Q) E G) : TG r ds P n w0 (.seq c1 c2) Q E G := fun a w hs => wpIn_seq (h a w hs)
theorem TG.block {id : Nat} (h : TG r ds P n w0 c (Exit.inBlock id Q) E G) : TG r ds P n w0 (.block id c) Q E G := fun a w hs => wpIn_block (h a w hs)
theorem TG.skip (h : TQ n w0 (QD ds Q .normal) E G) : TG r ds P n w0 .skip Q E G := fun a w hs => wpIn_skip (h a w hs)
theorem TG.ret (h : TQ n w0 (QD ds Q .ret) E G) : TG r ds P n w0 .ret Q E G := fun a w hs => wpIn_ret (h a w hs)
theorem TG.exit {id : Nat} (h : TQ n w0 (QD ds Q (.exit id)) E G) : TG r ds P n w0 (.exit id) Q E G := fun a w hs => wpIn_exit (h a w hs)
theorem TG.cond {x : Operand} {b : Bool} (hx : evo E x = some (.bool b)) (ht : b = true → TG r ds P n w0 c1 Q E G) (hf : b = false → TG r ds P n w0 c2 Q E G) : TG r ds P n w0 (.cond x c1 c2) Q E G :=
  fun a w hs => wpIn_cond_split (a := dfs a ds) (hs.ev hx) (fun h => ht h a w hs) (fun h => hf h a w hs)
theorem TG.condD {x : Operand} {p : Prop} [Decidable p] (hx : evo E x = some (.bool (decide p))) (ht : p → TG r ds P n w0 c1 Q E G) (hf : ¬ p → TG r ds P n w0 c2 Q E G) : TG r ds P n w0 (.cond x c1 c2) Q E G :=
  TG.cond hx (fun h => ht (of_decide_eq_true h)) (fun h => hf (of_decide_eq_false h))
theorem TG.condT {x : Operand} (hx : evo E x = some (.bool true)) (ht : TG r ds P n w0 c1 Q E G) : TG r ds P n w0 (.cond x c1 c2) Q E G := TG.cond hx (fun _ => ht) (fun h => by cases h)
theorem TG.condF {x : Operand} (hx : evo E x = some (.bool false)) (hf : TG r ds P n w0 c2 Q E G) : TG r ds P n w0 (.cond x c1 c2) Q E G := TG.cond hx (fun h => by cases h) (fun _ => hf)
theorem TG.perm {G' : Heap} (hp : List.Perm G' G) (h : TG r ds P n w0 c Q E G') : TG r ds P n w0 c Q E G := fun a w hs => h a w (hs.world (hs.new.perm hp))
theorem TGL.opsAll {l : List Oper} (hlo : ¬ LetsOut Q) (hn : l.all noDefer = true) (h : TL P n w0 ops (QD ds Q) l E G) : TGL r ds P n w0 ops Q l E G := fun a w hs => by
  have := list_in (r := r) (m := 9) (ds := ds) (ops := ops) (P := P) hlo l (K := QD ds Q .normal) (l2 := []) (a := a) (w := w) hn (fun a w h => h) (by
    have h2 := h a w hs
    have e : Exit.then (QD ds Q .normal) (QD ds Q) = QD ds Q := by funext e a w; cases e <;> rfl
    rw [e]; exact h2)
  rwa [List.append_nil] at this
theorem TGL.pre (k : Nat) {l : List Oper} (hlo : ¬ LetsOut Q) (hn : (l.take k).all noDefer = true) (h : TL P n w0 ops (Exit.then (fun a w => wpListIn (FR r) 9 P ops Q (l.drop k) (dfs a ds) w) (QD ds Q)) (l.take k) E G) : TGL r ds P n w0 ops Q l E G := fun a w hs => by
  have := list_in (r := r) (m := 9) (ds := ds) (ops := ops) (P := P) hlo (l.take k) (l2 := l.drop k) (a := a) (w := w) hn (fun a w h => h) (h a w hs)
  rwa [List.take_append_drop] at this
theorem TQ.thenL {l : List Oper} (h : TGL r ds P n w0 ops Q l E G) : TQ n w0 (Exit.then (fun a w => wpListIn (FR r) 9 P ops Q l (dfs a ds) w) (QD ds Q) .normal) E G := h
theorem TG.regionL {id : Nat} {l : List Oper} (h : TGL r ds P n w0 l.toArray Q l E G) : TG r ds P n w0 (.region id l.toArray false) Q E G := fun a w hs => wpIn_region_lit (h a w hs)
theorem TG.region {id : Nat} {l : List Oper} (hlo : ¬ LetsOut Q) (hn : l.all noDefer = true) (h : TL P n w0 l.toArray (QD ds Q) l E G) : TG r ds P n w0 (.region id l.toArray false) Q E G := TG.regionL (TGL.opsAll hlo hn h)
theorem TQ.thenG (h : TG r ds P n w0 c Q E G) : TQ n w0 (QD ds (Exit.then (c.wpIn (FR r) 9 P Q) Q) .normal) E G := h
theorem TQ.thenD (h : TG none ds P n w0 c Q E G) : TQ n w0 (QD ds (Exit.then (c.wp P Q) Q) .normal) E G := fun a w hs => (wpIn_wide (n := 9)).1 (h a w hs)
theorem TQ.gthenR (h : TQ n w0 (QD ds Q .ret) E G) : TQ n w0 (QD ds (Exit.then K Q) .ret) E G := h
theorem TQ.gthenE {i : Nat} (h : TQ n w0 (QD ds Q (.exit i)) E G) : TQ n w0 (QD ds (Exit.then K Q) (.exit i)) E G := h
theorem TQ.gblkN {i : Nat} (h : TQ n w0 (QD ds Q .normal) E G) : TQ n w0 (QD ds (Exit.inBlock i Q) .normal) E G := h
theorem TQ.gblkR {i : Nat} (h : TQ n w0 (QD ds Q .ret) E G) : TQ n w0 (QD ds (Exit.inBlock i Q) .ret) E G := h
theorem TQ.gblkS {i : Nat} (h : TQ n w0 (QD ds Q .normal) E G) : TQ n w0 (QD ds (Exit.inBlock i Q) (.exit i)) E G := by
  intro a w hs; simp only [QD, Exit.inBlock, if_true]; exact h a w hs
theorem TG.ofTC (h : TC P n w0 c Q E G) : TG none [] P n w0 c Q E G := fun a w hs => by rw [dfs_nil]; exact (wpIn_wide (n := 9)).2 (h a w hs)
theorem TGL.yield {X Y : Type} {k l d : Nat} {xs : List Operand} {ats : Array TypeId} {vs : List Value} {ty : TypeId} {pos : String} {aft : Array Edge} {g : Option (Nat × Bool)} {lo : List Oper} (F1 : X → Prop) (G1 : X → Heap) (F2 : Y → Prop) (G2 : Y → Heap)
    (hf : look k E = some (.func (.yield l) #[] #[])) (hx : evs E xs = some vs)
    (hY : ∀ w', New w0 w' G → YieldAt (FR r) 8 P l vs.toArray w' (fun e w'' => (e = .returned (.bool true) ∧ ∃ s, F1 s ∧ New w0 w'' (G1 s)) ∨ (e = .returned (.bool false) ∧ ∃ y, F2 y ∧ New w0 w'' (G2 y))))
    (hg : wants ops E g = some true) (hd : d < n)
    (h1 : ∀ s, F1 s → TGL r ds P n w0 ops Q lo ((d, .bool true) :: E) (G1 s)) (h2 : ∀ y, F2 y → TGL r ds P n w0 ops Q lo ((d, .bool false) :: E) (G2 y)) :
    TGL r ds P n w0 ops Q (⟨some d, .call { callee := .value (.tmp k), args := xs.toArray, argTypes := ats }, ty, pos, aft, g⟩ :: lo) E G := by
  intro a w hs
  unfold wpListIn
  have hw := hs.wants (o := ⟨some d, .call { callee := .value (.tmp k), args := xs.toArray, argTypes := ats }, ty, pos, aft, g⟩) hg
  rw [if_pos (by rw [show (dfs a ds).tmps = a.tmps from rfl]; exact hw)]
  obtain ⟨fn, tmps, az, body, hy, hR⟩ := hY w hs.new
  have hm := hs.evs hx
  have hfe : a.eval (.tmp k) = .func (.yield l) #[] #[] := hs.ev (x := .tmp k) hf
  unfold Oper.wpIn
  refine ⟨fun _ _ => trivial, ?_⟩
  rw [Oper.semAt_eq _ _ _ (fun c e => by cases e), show (dfs a ds).eval = a.eval from rfl]
  have hr : (execOp a.eval ⟨some d, .call { callee := .value (.tmp k), args := xs.toArray, argTypes := ats }, ty, pos, aft, g⟩).run P w = .ok (.round l fn tmps az body) w := by
    simp only [execOp, resolve, List.map_toArray, hm, hfe]
    show ((Instr.yield l (#[] ++ vs.toArray)).run P w) = _
    rw [show (#[] ++ vs.toArray : Array Value) = vs.toArray by simp]
    exact hy
  rw [hr]
  refine ⟨fun h => (by cases h), RoundIn.mono (round_fr hR) ?_⟩
  rintro e w' (⟨rfl, s, hF, hN⟩ | ⟨rfl, y, hF, hN⟩)
  · show wpListIn (FR r) 9 P ops Q lo ((dfs a ds).put (some d) _) w'
    rw [dfs_put]; exact h1 s hF _ _ ((hs.world hN).put hd _)
  · show wpListIn (FR r) 9 P ops Q lo ((dfs a ds).put (some d) _) w'
    rw [dfs_put]; exact h2 y hF _ _ ((hs.world hN).put hd _)
end
theorem TG.loop {P : Program} {r : Option Nat} {ds : List Deferred} {n : Nat} {w0 : World} {E : Env} {G : Heap} {Q : Exit → Act → World → Prop} {c : Code} {X : Type} (F : X → Prop) (M : X → Env) (D : X → Heap) (m : X → Nat) (x0 : X) (h0 : F x0) (he : ∀ k v, look k (M x0) = some v → look k E = some v) (hg : List.Sublist (D x0) G)
    (hb : ∀ x, F x → ∀ a w, S n w0 (M x) (D x) a w → c.wpIn (FR r) 9 P (Exit.then (fun a' w' => ∃ b, a' = dfs b ds ∧ Back n w0 F M D m (m x) b w') Q) (dfs a ds) w) : TG r ds P n w0 (.loop c) Q E G := by
  intro a w hs b kk cs hro hb' hr
  have key : ∀ k, ∀ x a w, F x → m x = k → S n w0 (M x) (D x) a w →
      ∃ e a' w', Q e a' w' ∧ ArrivesIn (Machine.fenced P (FR r)) P (lone (b.atR (dfs a ds) (.code c :: .inLoop c :: kk)) cs w) b kk cs e a' w' := by
    intro k
    induction k using Nat.strongRecOn with
    | _ k ih =>
      intro x a w hF hk hS
      obtain ⟨e, a1, w1, hq, harr⟩ := hb x hF a w hS b (.inLoop c :: kk) cs hro hb' hr
      cases e with
      | normal =>
        obtain ⟨a2, rfl, y, hFy, hy, hSy⟩ := hq
        obtain ⟨e2, a3, w3, hq2, harr2⟩ := ih (m y) (by omega) y a2 w1 hFy rfl hSy
        exact ⟨e2, a3, w3, hq2, .of_steps (StepsIn.trans harr (.one (fenced_calm hb' hr rfl) stepR_inLoop)) harr2⟩
      | exit id => exact ⟨_, a1, w1, hq, .pass (x := .inLoop c) rfl (fun _ _ => .inl (by simp)) harr⟩
      | goto l => exact ⟨_, a1, w1, hq, .pass (x := .inLoop c) rfl (fun _ _ => .inl (by simp)) harr⟩
      | ret => exact ⟨_, a1, w1, hq, .pass (x := .inLoop c) rfl (fun _ _ => .inl (by simp)) harr⟩
      | panic ch => exact ⟨_, a1, w1, hq, .pass (x := .inLoop c) rfl (fun _ _ => .inl (by simp)) harr⟩
      | outgrown => exact ⟨_, a1, w1, hq, .pass (x := .inLoop c) rfl (fun _ _ => .inl (by simp)) harr⟩
  obtain ⟨e, a', w', hq, harr⟩ := key _ x0 a w h0 rfl ⟨hs.size, hs.defers, (hs.env_le he).env, hs.new.sub hg⟩
  exact ⟨e, a', w', hq, .of_steps (.one (fenced_calm hb' hr rfl) stepR_loop) harr⟩
def BackG {X : Type} (n : Nat) (w0 : World) (ds : List Deferred) (F : X → Prop) (M : X → Env) (D : X → Heap) (m : X → Nat) (k : Nat) (a : Act) (w : World) : Prop := ∃ b, a = dfs b ds ∧ Back n w0 F M D m k b w
section
variable {P : Program} {r : Option Nat} {ds : List Deferred} {n : Nat} {w0 : World} {E : Env} {G : Heap} {Q : Exit → Act → World → Prop} {c : Code}
theorem TG.loopK (keep : List Nat) {X : Type} (F : X → Prop) (U : X → Env) (D : X → Heap) (m : X → Nat) (x0 : X) (h0 : F x0) (he : Le (U x0) E) (hg : List.Sublist (D x0) G)
    (hb : ∀ x, F x → TG r ds P n w0 c (Exit.then (BackG n w0 ds F (fun x => U x ++ pick keep E) D m (m x)) Q) (U x ++ pick keep E) (D x)) : TG r ds P n w0 (.loop c) Q E G :=
  TG.loop F (fun x => U x ++ pick keep E) D m x0 h0 (Le.append he fun k v h => pick_le h) hg (fun x hF a w hs => hb x hF a w hs)
theorem TQ.backG {keep : List Nat} {X : Type} {F : X → Prop} {U : X → Env} {D : X → Heap} {m : X → Nat} {k : Nat} {E0 : Env} (x : X) (he : Le (U x) E) (hsame : Same keep E0 E) (hg : List.Sublist (D x) G) (hF : F x) (hm : m x < k) :
    TQ n w0 (QD ds (Exit.then (BackG n w0 ds F (fun x => U x ++ pick keep E0) D m k) Q) .normal) E G := fun a w hs => ⟨a, rfl, TQ.backK x he hsame hg hF hm a w hs⟩
/-! Leaving a function that has ranged over a function. -/
theorem New.put {w : World} {l : Nat} {o o' : Obj} {A B : Heap} (h : New w0 w (A ++ (l, o) :: B)) : New w0 (w.putObj l o') (A ++ (l, o') :: B) := by
  have hm : (l, o) ∈ A ++ (l, o) :: B := by simp
  have hlt := h.lt hm
  exact h.turn (Upd.appR A (Upd.head B)) (World.putObj_heap_same hlt) (fun k hk => World.putObj_heap_other hk) rfl rfl rfl (by simp) rfl
theorem TQ.retM {fn : Func} {R : Ending → World → Prop} {dB : Nat} {G' : Heap} (ht : Take dB (.deferred (some [])) G G') (h : TQ n w0 (bodyPost P fn R .ret) E G') : TQ n w0 (QD [{ target := .collected dB, args := #[] }] (bodyPostM (FR none) 9 P fn R) .ret) E G := fun a w hs => by
  have hN : New w0 w ([] ++ (dB, .deferred (some [])) :: G') := hs.new.perm ht.perm
  have hd := hN.here (dB, .deferred (some [])) (by simp)
  have hN2 : New w0 (w.putObj dB (.deferred none)) G' := (hN.put (o' := .deferred none)).sub (List.sublist_cons_self _ _)
  obtain ⟨h1, h2⟩ := h a (w.putObj dB (.deferred none)) (hs.world hN2)
  show LeavesInM (FR none) 9 P fn a.tmps R (a.defers ++ [_]) .returning w
  rw [hs.defers]
  exact ⟨by simp, .inl ⟨dB, _, rfl, run_takeDeferred hd, h2⟩⟩
theorem callsRF {f : FuncId} {fn : Func} {vs : List Value} {R : Ending → World → Prop} (hf : P.funcs[f]? = some fn) (hb : fn.body = some c) (hn : fn.ntmps = n) (hl : vs.length ≤ n)
    (h : TC P n w0 c (bodyPostM (FR none) 9 P fn R) (args 0 vs) []) : Calls P f vs.toArray w0 R :=
  fr_calls (m := 9) (callsIn_of_wp_marks hf hb trivial (TG.ofTC h { tmps := vs.toArray ++ Array.replicate (fn.ntmps - vs.toArray.size) undef, defers := [] } w0 ⟨by simp; omega, rfl, fun k v hk => by
    have := (look_args vs 0 k v hk).2
    simp only [Nat.sub_zero] at this
    rw [Array.getElem?_append_left (by have := (List.getElem?_eq_some_iff.1 this).1; simpa using this)]
    simpa using this, New.refl _⟩))
theorem callsIG {f : FuncId} {fn : Func} {vs : List Value} {w : World} {R : Ending → World → Prop} (hf : P.funcs[f]? = some fn) (hb : fn.body = some c) (hn : fn.ntmps = n) (hl : vs.length ≤ n) (hN : New w0 w G)
    (h : TG none [] P n w0 c (bodyPost P fn R) (args 0 vs) G) : CallsIn (FR none) 9 P f vs.toArray w R :=
  callsIn_of_wp hf hb trivial (by
    have := h { tmps := vs.toArray ++ Array.replicate (fn.ntmps - vs.toArray.size) undef, defers := [] } w ⟨by simp; omega, rfl, fun k v hk => by
      have := (look_args vs 0 k v hk).2
      simp only [Nat.sub_zero] at this
      rw [Array.getElem?_append_left (by have := (List.getElem?_eq_some_iff.1 this).1; simpa using this)]
      simpa using this, hN⟩
    rwa [dfs_nil] at this)
end
def Iter {α : Type} (P : Program) (gf : FuncId) (lb : List Value) (encs : α → List Value) (w0 : World) (kept : Heap) (Done Part : List α → Prop) : Prop :=
  ∀ ⦃X Y : Type⦄ (w : World) (l : Nat) (F : List α → X → Prop) (H : X → Heap) (Fx : List α → Y → Prop) (Hx : Y → Heap) (s0 : X),
    (∀ s, ∀ p ∈ kept, p ∈ H s) →
    (∀ pre x s w' (own : Heap), Part (pre ++ [x]) → F pre s → New w0 w' (H s ++ own) →
      YieldAt (FR none) 8 P l (encs x).toArray w' (fun e w'' => (e = .returned (.bool true) ∧ ∃ s', F (pre ++ [x]) s' ∧ New w0 w'' (H s' ++ own)) ∨ (e = .returned (.bool false) ∧ ∃ y, Fx (pre ++ [x]) y ∧ New w0 w'' (Hx y ++ own)))) →
    F [] s0 → New w0 w (H s0) →
    CallsIn (FR none) 9 P gf ((.func (.yield l) #[] #[]) :: lb).toArray w (fun e w' => (∃ v, e = .returned v) ∧ ((∃ xs s, Done xs ∧ F xs s ∧ New w0 w' (H s)) ∨ (∃ xs y, Part xs ∧ Fx xs y ∧ New w0 w' (Hx y))))
def bindE : List Nat → List Value → Env → Env
  | p :: ps, v :: vs, E => bindE ps vs ((p, v) :: E)
  | _, _, E => E
theorem S.bind {n : Nat} {w0 w : World} {G : Heap} : ∀ (ps : List Nat) (vs : List Value) {E : Env} {a : Act}, S n w0 E G a w → (∀ p ∈ ps, p < n) → S n w0 (bindE ps vs E) G { tmps := (ps.zip vs).foldl (fun t (p, v) => t.setIfInBounds p v) a.tmps, defers := [] } w
  | [], _, E, a, hs, _ => by
    have : ({ tmps := a.tmps, defers := [] } : Act) = a := by have := hs.defers; cases a; simp_all
    simp only [List.zip_nil_left, List.foldl_nil, this]
    simpa [bindE] using hs
  | p :: ps, [], E, a, hs, _ => by
    have : ({ tmps := a.tmps, defers := [] } : Act) = a := by have := hs.defers; cases a; simp_all
    simp only [List.zip_nil_right, List.foldl_nil, this]
    simpa [bindE] using hs
  | p :: ps, v :: vs, E, a, hs, hp => by
    have h1 : S n w0 ((p, v) :: E) G (a.put (some p) v) w := hs.put (hp p (by simp)) v
    exact S.bind ps vs h1 (fun q hq => hp q (by simp [hq]))
def RB {α X Y : Type} (w0 : World) (F : List α → X → Prop) (D : X → Heap) (Fx : List α → Y → Prop) (Dx : Y → Heap) (T : Heap) (xs : List α) : Exit → Act → World → Prop
  | .normal, _, w => ∃ s, F xs s ∧ New w0 w (D s ++ T)
  | .ret, _, w => ∃ y, Fx xs y ∧ New w0 w (Dx y ++ T)
  | _, _, _ => False
theorem RB.lo {α X Y : Type} {w0 : World} {F : List α → X → Prop} {D : X → Heap} {Fx : List α → Y → Prop} {Dx : Y → Heap} {T : Heap} {xs : List α} : ¬ LetsOut (RB w0 F D Fx Dx T xs) := fun ⟨_, _, h⟩ => h
def QN : Exit → Act → World → Prop := fun _ _ _ => False
theorem QN.lo : ¬ LetsOut QN := fun ⟨_, _, h⟩ => h
section
variable {P : Program} {n : Nat} {w0 : World} {E : Env} {G : Heap} {Q : Exit → Act → World → Prop}
theorem TC.rangeFunc {α X Y Z : Type} {g : Operand} {ps : List Nat} {assign body : Code} {gf : FuncId} {lb : List Value} {encs : α → List Value} {kept : Heap} {Done Part : List α → Prop}
    (F : List α → X → Prop) (D : X → Heap) (Fx : List α → Y → Prop) (Dx : Y → Heap) (s0 : X) (FA : α → X → Z → Prop) (MA : α → Z → Env) (DA : α → Z → Heap)
    (hgv : evo E g = some (.func (.func gf) #[] lb.toArray)) (hfn : goFn P gf = true) (hit : Iter P gf lb encs w0 kept Done Part)
    (hps : ∀ x, (encs x).length = ps.length) (hpn : ∀ p ∈ ps, p < n) (h0 : F [] s0) (hg0 : List.Sublist (D s0) G) (hk : ∀ s, ∀ p ∈ kept, p ∈ D s)
    (hassign : ∀ (l : Nat) (T : Heap) pre x s, Part (pre ++ [x]) → F pre s → TG (some l) [] P n w0 assign (Exit.then (Mid n w0 (FA x s) (MA x) (fun z => DA x z ++ T)) QN) (bindE ps (encs x) E) (D s ++ T))
    (hbody : ∀ (l : Nat) (T : Heap) pre x s z, Part (pre ++ [x]) → F pre s → FA x s z → TG (some l) [] P n w0 body (RB w0 F D Fx Dx T (pre ++ [x])) (MA x z) (DA x z ++ T))
    (hdone : ∀ (dB lB : Nat) (o : Obj) xs s, Done xs → F xs s → TQ n w0 (QD [{ target := .collected dB, args := #[] }] Q .normal) E (D s ++ [(lB, o), (dB, .deferred (some []))]))
    (hstop : ∀ (dB lB : Nat) (o : Obj) xs y, Part xs → Fx xs y → TQ n w0 (QD [{ target := .collected dB, args := #[] }] Q .ret) E (Dx y ++ [(lB, o), (dB, .deferred (some []))])) :
    TC P n w0 (.rangeFunc g ps.toArray assign body) Q E G := by
  intro a w hs
  refine (wpIn_wide (n := 10)).1 ?_
  show Code.wpIn (FR none) 10 P _ Q a w
  refine wpIn_rangeFunc ?_
  intro fn _
  have hge : a.eval g = .func (.func gf) #[] lb.toArray := hs.ev hgv
  obtain ⟨rec, hrec⟩ : ∃ rec : LoopState → Option Code → Loop, rec = fun st pe => { state := st, pending := pe, fn, tmps := a.tmps, params := ps.toArray, assign, body, defers := w.heap.size } := ⟨_, rfl⟩
  have hN1 : New w0 ((w.alloc (.deferred (some []))).alloc (.loop (rec .ready none))) (D s0 ++ [(w.heap.size + 1, .loop (rec .ready none)), (w.heap.size, .deferred (some []))]) := by
    have h1 := ((hs.new.sub hg0).alloc (.deferred (some []))).alloc (.loop (rec .ready none))
    rw [World.size_alloc] at h1
    exact h1.perm (List.perm_append_comm (l₁ := D s0) (l₂ := [(w.heap.size + 1, .loop (rec .ready none)), (w.heap.size, .deferred (some []))]))
  refine ⟨w.heap.size + 1, [{ target := .collected w.heap.size, args := #[] }], (w.alloc (.deferred (some []))).alloc (.loop (rec .ready none)), { target := .fn (.func gf) lb.toArray, args := #[.func (.yield (w.heap.size + 1)) #[] #[]] }, (w.alloc (.deferred (some []))).alloc (.loop (rec .ready none)), gf,
    ((.func (.yield (w.heap.size + 1)) #[] #[]) :: lb).toArray, (w.alloc (.deferred (some []))).alloc (.loop (rec .ready none)), ?_, ?_, fun _ _ => trivial, ?_, fun h => (by cases h), ?_⟩
  · rw [hrec]; exact run_enterLoop_outer _ _ _ _ _
  · simp only [resolve, hge]
    simp [go_sem]
  · have : (callFunc gf ((.func (.yield (w.heap.size + 1)) #[] #[]) :: lb).toArray).run P ((w.alloc (.deferred (some []))).alloc (.loop (rec .ready none))) = .ok (.enter gf ((.func (.yield (w.heap.size + 1)) #[] #[]) :: lb).toArray) ((w.alloc (.deferred (some []))).alloc (.loop (rec .ready none))) := run_goFn hfn
    simpa [invoke, go_sem] using this
  · refine CallsIn.mono (hit _ (w.heap.size + 1) F (fun s => D s ++ [(w.heap.size + 1, .loop (rec .ready none)), (w.heap.size, .deferred (some []))]) Fx (fun y => Dx y ++ [(w.heap.size + 1, .loop (rec .done (some .ret))), (w.heap.size, .deferred (some []))]) s0 (fun s p hp => List.mem_append_left _ (hk s p hp)) ?_ h0 hN1) ?_
    · intro pre x s w' own hpart hF hN
      rw [List.append_assoc] at hN
      have hl : w'.heap[w.heap.size + 1]? = some (.loop (rec .ready none)) := hN.here (w.heap.size + 1, .loop (rec .ready none)) (by simp)
      have hy := run_yield (P := P) (args := (encs x).toArray) hl (by rw [hrec]; simp [hps x])
      rw [hrec] at hy
      refine ⟨fn, _, assign, body, hy, roundIn_of_wpIn trivial ?_⟩
      have hS := S.bind ps (encs x) (hs.world hN) hpn
      have hA := hassign (w.heap.size + 1) _ pre x s hpart hF _ _ hS
      rw [dfs_nil] at hA
      refine wp_fr (r := some (w.heap.size + 1)) (wpIn_mono (by simpa using hA) ?_)
      intro e a1 w1 hp
      cases e with
      | normal =>
        obtain ⟨z, hz, hSz⟩ := hp
        have hl1 : w1.heap[w.heap.size + 1]? = some (.loop (rec .ready none)) := hSz.new.here (w.heap.size + 1, .loop (rec .ready none)) (by simp)
        refine ⟨_, run_beginRound hl1 (by rw [hrec]), ?_⟩
        have hNb : New w0 (w1.putObj (w.heap.size + 1) (.loop { rec .ready none with state := .busy })) (DA x z ++ ((w.heap.size + 1, .loop { rec .ready none with state := .busy }) :: ((w.heap.size, .deferred (some [])) :: own))) := hSz.new.put
        have hB := hbody (w.heap.size + 1) _ pre x s z hpart hF hz a1 _ (hSz.world hNb)
        rw [dfs_nil] at hB
        refine wp_fr (r := some (w.heap.size + 1)) (wpIn_mono hB ?_)
        intro e a3 w3 hq
        cases e with
        | normal =>
          obtain ⟨s', hF', hN3⟩ := hq
          have hl3 : w3.heap[w.heap.size + 1]? = some (.loop { rec .ready none with state := .busy }) := hN3.here (w.heap.size + 1, .loop { rec .ready none with state := .busy }) (by simp)
          refine ⟨_, _, run_endRound none hl3, .inl ⟨rfl, s', hF', ?_⟩⟩
          rw [List.append_assoc]
          have := hN3.put (o' := .loop (rec .ready none))
          rw [hrec] at this ⊢
          exact this
        | ret =>
          obtain ⟨y, hF', hN3⟩ := hq
          have hl3 : w3.heap[w.heap.size + 1]? = some (.loop { rec .ready none with state := .busy }) := hN3.here (w.heap.size + 1, .loop { rec .ready none with state := .busy }) (by simp)
          refine ⟨_, _, run_endRound (some .ret) hl3, .inr ⟨rfl, y, hF', ?_⟩⟩
          rw [List.append_assoc]
          have := hN3.put (o' := .loop (rec .done (some .ret)))
          rw [hrec] at this ⊢
          exact this
        | _ => exact hq.elim
      | _ => exact hp.elim
    · rintro e w2 ⟨⟨v, rfl⟩, (⟨xs, s, hD, hF, hN⟩ | ⟨xs, y, hP, hF, hN⟩)⟩
      · have hl : w2.heap[w.heap.size + 1]? = some (.loop (rec .ready none)) := hN.here (w.heap.size + 1, .loop (rec .ready none)) (by simp)
        have h1 : (Instr.endLoop (w.heap.size + 1)).run P w2 = .ok none (w2.putObj (w.heap.size + 1) (.loop { rec .ready none with state := .exhausted })) := by
          have h1 := run_endLoop (P := P) hl (by rw [hrec]; simp)
          rw [hrec] at h1 ⊢
          exact h1
        refine ⟨none, _, h1, ?_⟩
        have := hdone w.heap.size (w.heap.size + 1) _ xs s hD hF a _ (hs.world (hN.put (o' := .loop { rec .ready none with state := .exhausted })))
        simpa [QD, dfs, hs.defers] using this
      · have hl : w2.heap[w.heap.size + 1]? = some (.loop (rec .done (some .ret))) := hN.here (w.heap.size + 1, .loop (rec .done (some .ret))) (by simp)
        have h1 : (Instr.endLoop (w.heap.size + 1)).run P w2 = .ok (some .ret) (w2.putObj (w.heap.size + 1) (.loop { rec .done (some .ret) with state := .exhausted })) := by
          have h1 := run_endLoop (P := P) hl (by rw [hrec]; simp)
          rw [hrec] at h1 ⊢
          exact h1
        refine ⟨some .ret, _, h1, wpIn_ret ?_⟩
        have := hstop w.heap.size (w.heap.size + 1) _ xs y hP hF a _ (hs.world (hN.put (o' := .loop { rec .done (some .ret) with state := .exhausted })))
        simpa [QD, dfs, hs.defers] using this
end
theorem bodyM_lo {P : Program} {fn : Func} {X : Type} {val : X → Value} {F : X → Prop} {D : X → Heap} {w0 : World} : ¬ LetsOut (bodyPostM (FR none) 9 P fn (Post val F D w0)) := fun ⟨_, _, x, h, _⟩ => by cases h
theorem bodyP_lo {P : Program} {fn : Func} {K : Ending → World → Prop} : ¬ LetsOut (bodyPost P fn (fun e w => (∃ v, e = .returned v) ∧ K e w)) := fun ⟨_, _, ⟨v, h⟩, _⟩ => by cases h
section
variable {P : Program} {n : Nat} {w0 : World} {E : Env} {G : Heap} {Q : Exit → Act → World → Prop}
theorem TQ.gmid {X : Type} {F : X → Prop} {M : X → Env} {D : X → Heap} (x : X) (hF : F x) (he : Le (M x) E) (hg : List.Sublist (D x) G) : TQ n w0 (QD [] (Exit.then (Mid n w0 F M D) Q) .normal) E G := fun a w hs => by
  show Mid n w0 F M D (dfs a []) w
  rw [dfs_nil]
  exact TQ.mid x hF he hg a w hs
theorem TQ.goOn {α X Y : Type} {F : List α → X → Prop} {D : X → Heap} {Fx : List α → Y → Prop} {Dx : Y → Heap} {T : Heap} {xs : List α} (s : X) (hF : F xs s) (hg : List.Sublist (D s ++ T) G) : TQ n w0 (QD [] (RB w0 F D Fx Dx T xs) .normal) E G := fun a w hs => ⟨s, hF, hs.new.sub hg⟩
theorem TQ.retI {fn : Func} {R : Ending → World → Prop} (hr : fn.results = #[]) (h : ∀ w v, New w0 w G → R (.returned v) w) : TQ n w0 (QD [] (bodyPost P fn R) .ret) E G := fun a w hs =>
  ⟨by show a.defers ++ [] = []; rw [hs.defers]; rfl, _, results_none hr _ _ _, h w _ hs.new⟩
theorem TQ.retIN {fn : Func} {R : Ending → World → Prop} (hr : fn.results = #[]) (h : ∀ w v, New w0 w G → R (.returned v) w) : TQ n w0 (QD [] (bodyPost P fn R) .normal) E G := TQ.retI hr h
end
end Go.Sx
namespace Go.Sx
open Go.RowKit
theorem any_in {P : Program} {r : Option Nat} {ds : List Deferred} {m : Nat} {md : Region.Mode} {ops : Array Oper} {Q : Exit → Act → World → Prop} (hlo : ¬ LetsOut Q) (hn : ops.toList.all noDefer = true) : ∀ (fuel : Nat) (listed : Array Bool) (a : Act) (w : World),
    wpAny P md ops (QD ds Q) fuel listed a w → wpAnyIn (FR r) m P md ops Q fuel listed (dfs a ds) w
  | 0, listed, a, w, h => h
  | fuel + 1, listed, a, w, h => ⟨h.1, fun i hi => by
    have h2 := h.2 i hi
    unfold wpOp at h2
    unfold wpOpIn
    cases ho : ops[i]? with
    | none => simp only [ho] at h2; exact any_in hlo hn fuel _ a w h2
    | some o =>
      simp only [ho] at h2
      have hno : noDefer o = true := by
        rw [List.all_eq_true] at hn
        obtain ⟨hlt, he⟩ := Array.getElem?_eq_some_iff.1 ho
        exact hn o (by rw [← he]; simp)
      rw [show (dfs a ds).tmps = a.tmps from rfl]
      by_cases hw : Region.wanted o (yielded ops a.tmps) = true
      · rw [if_pos hw] at h2
        simp only [hw, if_true]
        rcases h2 with h2 | ⟨_, a', w3, h3⟩
        · exact oper_in hno (fun a w h => any_in hlo hn fuel _ a w h) h2
        · exact absurd ⟨_, _, h3⟩ hlo
      · rw [if_neg hw] at h2
        simp only [hw]
        refine ⟨fun _ _ => trivial, ?_⟩
        rw [dfs_put]
        exact any_in hlo hn fuel _ _ w h2⟩
section
variable {P : Program} {n : Nat} {w0 : World} {E : Env} {G : Heap} {Q : Exit → Act → World → Prop}
theorem TG.mix {r : Option Nat} {ds : List Deferred} {id : Nat} {l : List Oper} (hlo : ¬ LetsOut Q) (hn : l.toArray.toList.all noDefer = true) (st : List Bool) (GJ : Heap) (fuel : Nat) (hm : P.follows .mixedOrders = true) (hst : st.length = l.length) (hnd : nodupB (dstsL l) = true) (hed : edgesB l 0 l = true) (hmx : mixB l st = true)
    (hds : (List.range l.length).all (fun i => match l[i]? with | some o => (match o.dst with | some d => decide (d < n) | none => true) | none => true) = true)
    (hGJ : List.Sublist GJ G) (h : TB P n w0 l st GJ (QD ds Q) fuel (hide (dstsL l) E) G l st []) : TG r ds P n w0 (.region id l.toArray true) Q E G := fun a w hs =>
  wpIn_region_any hm (any_in hlo hn _ _ _ _ (mix_any st GJ fuel hm hst hnd hed hmx hds hGJ h a w hs))
end
end Go.Sx
