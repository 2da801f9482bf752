/- A region that draws its order: some operations only read what stays; the others are gone through in every order that is left. -/
import Derived.Test.YtnlbngbbddhgeaaQSy
set_option linter.unusedVariables false
set_option linter.unusedSimpArgs false
namespace Go.Sx
open Go.RowKit

def isSt (st : List Bool) (i : Nat) : Bool := st.getD i false
def QF : Exit → Act → World → Prop := fun _ _ _ => False
def bindsOn (o : Oper) (j : Nat) : Bool := o.after.toList.any fun e => Region.binds .any e && e.on == j
def needJ (st : List Bool) (m : Nat) (o : Oper) : Bool := (List.range m).any fun j => isSt st j && !bindsOn o j
def JOK (w0 : World) (GJ : Heap) (w : World) : Prop := New w0 w GJ

def wpX (P : Program) (l : List Oper) (st : List Bool) (w0 : World) (GJ : Heap) (Q : Exit → Act → World → Prop) : Nat → Array Bool → Act → World → Prop
  | 0, listed, a, w => Region.ready .any l.toArray listed = [] ∧ Q .normal a w
  | fuel + 1, listed, a, w => (Region.ready .any l.toArray listed = [] → Q .normal a w) ∧ ∀ i ∈ Region.ready .any l.toArray listed, ∀ o, l[i]? = some o →
      wpList P l.toArray (Exit.then (fun a' w' => a'.defers = [] ∧ (needJ st l.length o = true → JOK w0 GJ w') ∧ wpX P l st w0 GJ Q fuel (listed.setIfInBounds i true) a' w') QF) [o] a w

section
variable {P : Program} {n : Nat} {w0 : World} {E : Env} {G GJ : Heap} {a : Act} {w : World} {Q : Exit → Act → World → Prop} {l : List Oper} {st : List Bool}

def NX (P : Program) (w0 : World) (l : List Oper) (st : List Bool) (GJ : Heap) (Q : Exit → Act → World → Prop) (fuel : Nat) (listed : Array Bool) (o : Oper) (a : Act) (w : World) : Prop :=
  a.defers = [] ∧ (needJ st l.length o = true → JOK w0 GJ w) ∧ wpX P l st w0 GJ Q fuel listed a w
def TX (P : Program) (n : Nat) (w0 : World) (l : List Oper) (st : List Bool) (GJ : Heap) (Q : Exit → Act → World → Prop) (fuel : Nat) (listed : List Bool) (E : Env) (G : Heap) : Prop :=
  ∀ a w, S n w0 E G a w → wpX P l st w0 GJ Q fuel listed.toArray a w

def AllX (P : Program) (n : Nat) (w0 : World) (l : List Oper) (st : List Bool) (GJ : Heap) (Q : Exit → Act → World → Prop) (fuel : Nat) (listed : List Bool) (E : Env) (G : Heap) : List Nat → Prop
  | [] => True
  | i :: r => (∃ o, l[i]? = some o ∧ TL P n w0 l.toArray (Exit.then (NX P w0 l st GJ Q fuel (listed.set i true).toArray o) QF) [o] E G) ∧ AllX P n w0 l st GJ Q fuel listed E G r

theorem AllX.get {fuel : Nat} {listed : List Bool} : ∀ {is : List Nat}, AllX P n w0 l st GJ Q fuel listed E G is → ∀ i ∈ is, ∃ o, l[i]? = some o ∧ TL P n w0 l.toArray (Exit.then (NX P w0 l st GJ Q fuel (listed.set i true).toArray o) QF) [o] E G
  | [], _, i, hi => by cases hi
  | j :: r, h, i, hi => by
    rcases List.mem_cons.1 hi with rfl | hi
    · exact h.1
    · exact AllX.get h.2 i hi

theorem TX.done {fuel : Nat} {listed : List Bool} (hr : Region.ready .any l.toArray listed.toArray = []) (h : TQ n w0 (Q .normal) E G) : TX P n w0 l st GJ Q fuel listed E G := by
  intro a w hs
  cases fuel with
  | zero => exact ⟨hr, h a w hs⟩
  | succ k => exact ⟨fun _ => h a w hs, fun i hi => by rw [hr] at hi; cases hi⟩
theorem TX.next {fuel : Nat} {listed : List Bool} {o : Oper} (hJ : List.Sublist GJ G ∨ needJ st l.length o = false) (h : TX P n w0 l st GJ Q fuel listed E G) :
    TQ n w0 (Exit.then (NX P w0 l st GJ Q fuel listed.toArray o) QF .normal) E G :=
  fun a w hs => ⟨hs.defers, fun hn => by
    rcases hJ with hJ | hJ
    · exact hs.new.sub hJ
    · (rw [hJ] at hn; cases hn), h a w hs⟩

/-- A stable operation: it yields v wherever it comes. -/
def SOK (P : Program) (n : Nat) (w0 : World) (ops : Array Oper) (GJ : Heap) (F : Env) (o : Oper) (v : Value) : Prop :=
  ∀ F', (∀ k u, look k F = some u → look k F' = some u) → ∀ a w, S n w0 F' GJ a w → if Region.wanted o (yielded ops a.tmps) then (execOp a.eval o).run P w = .ok (.value v) w else v = undef
theorem SOK.pure {ops : Array Oper} {o : Oper} {v : Value} (hp : PV P n w0 E GJ o v) (hg : wants ops E o.guard = some true) : SOK P n w0 ops GJ E o v := by
  intro F' hF a w hs
  have hs' := hs.env_le hF
  rw [if_pos (hs'.wants hg)]
  exact hp a w hs'
theorem SOK.skip {ops : Array Oper} {o : Oper} (hg : wants ops E o.guard = some false) : SOK P n w0 ops GJ E o undef := by
  intro F' hF a w hs
  have := (hs.env_le hF).wants (o := o) hg
  rw [if_neg (by simp [this])]

/-- The stable operations one behind another, then the others. -/
def TB (P : Program) (n : Nat) (w0 : World) (l0 : List Oper) (st : List Bool) (GJ : Heap) (Q : Exit → Act → World → Prop) (fuel : Nat) (E0 : Env) (G : Heap) : List Oper → List Bool → Env → Prop
  | o :: r, true :: fs, B => ∃ d v, o.dst = some d ∧ d < n ∧ SOK P n w0 l0.toArray GJ (depB l0 B o.after.toList ++ E0) o v ∧ TB P n w0 l0 st GJ Q fuel E0 G r fs ((d, v) :: B)
  | _ :: r, false :: fs, B => TB P n w0 l0 st GJ Q fuel E0 G r fs B
  | _, _, B => TX P n w0 l0 st GJ Q fuel st (B ++ E0) G

theorem TB.op {l0 : List Oper} {fuel : Nat} {E0 : Env} {r : List Oper} {fs : List Bool} {B : Env} {d : Nat} {v : Value} {op : Op} {ty : TypeId} {pos : String} {aft : Array Edge} {g : Option (Nat × Bool)}
    (ho : SOK P n w0 l0.toArray GJ (depB l0 B aft.toList ++ E0) ⟨some d, op, ty, pos, aft, g⟩ v) (hd : d < n) (h : TB P n w0 l0 st GJ Q fuel E0 G r fs ((d, v) :: B)) :
    TB P n w0 l0 st GJ Q fuel E0 G (⟨some d, op, ty, pos, aft, g⟩ :: r) (true :: fs) B := ⟨d, v, rfl, hd, ho, h⟩

theorem TB.no {l0 : List Oper} {fuel : Nat} {E0 : Env} {r : List Oper} {fs : List Bool} {B : Env} {o : Oper} (h : TB P n w0 l0 st GJ Q fuel E0 G r fs B) : TB P n w0 l0 st GJ Q fuel E0 G (o :: r) (false :: fs) B := h
/-- No operation that is not stable looks at what a stable one yields but behind it. -/
def mixB (l : List Oper) (st : List Bool) : Bool :=
  (List.range l.length).all fun i => match l[i]? with
    | none => true
    | some o => (match o.op with | .select .. => false | _ => true) && (isSt st i || ((o.looksAt l.toArray).all fun k => (List.range l.length).all fun j => !isSt st j || bindsOn o j || (match l[j]? with | some oj => oj.dst != some k | none => true)))

theorem all_range {m : Nat} {f : Nat → Bool} (h : (List.range m).all f = true) {i : Nat} (hi : i < m) : f i = true := List.all_eq_true.1 h i (List.mem_range.2 hi)

/-- Two frames that agree where an operation looks. -/
theorem exec_agree {a a' : Act} {o : Oper} {ops : Array Oper} (hs : ∀ cs b, o.op ≠ .select cs b) (h : ∀ k ∈ o.looksAt ops, a.tmps[k]? = a'.tmps[k]?) :
    execOp a.eval o = execOp a'.eval o ∧ Region.wanted o (yielded ops a.tmps) = Region.wanted o (yielded ops a'.tmps) := by
  constructor
  · refine execOp_congr o hs fun x hx => ?_
    cases x with
    | tmp t =>
      have := h t (List.mem_append_left _ (List.mem_filterMap.2 ⟨.tmp t, by simpa using hx, rfl⟩))
      simp [Act.eval, Array.getD_eq_getD_getElem?, this]
    | const c => rfl
    | global g => rfl
    | func f => rfl
  · unfold Region.wanted
    cases hg : o.guard with
    | none => rfl
    | some jw =>
      obtain ⟨j, want⟩ := jw
      simp only [yielded]
      cases hd : (ops[j]?).bind (·.dst) with
      | none => rfl
      | some k =>
        have := h k (List.mem_append_right _ (by simp [hg, hd]))
        simp [this]

theorem put_get {a : Act} {d k : Nat} {v : Value} (hd : d < a.tmps.size) : (a.put (some d) v).tmps[k]? = if k = d then some v else a.tmps[k]? := by
  show (a.tmps.setIfInBounds d v)[k]? = _
  rw [Array.getElem?_setIfInBounds]
  by_cases h : k = d
  · subst h; simp [hd]
  · simp [h, Ne.symm h]

/-- The results, read out of the frame and the blocks. -/
inductive Res (P : Program) (E : Env) (G : Heap) : List ResultVar → List Value → Prop
  | nil : Res P E G [] []
  | tmp {t : Nat} {v : Value} {rs : List ResultVar} {vs : List Value} (h : look t E = some v) (r : Res P E G rs vs) : Res P E G (.tmp t :: rs) (v :: vs)
  | cell {t ty b : Nat} {cs : Array Value} {e : TypeId} {fr : Nat × Nat} {v : Value} {rs : List ResultVar} {vs : List Value} (h : look t E = some (.pointer (some ⟨b, 0, none⟩))) (ht : oneB P ty = true) (hm : (b, Obj.cells cs e fr) ∈ G)
      (hv : cs[0]? = some v) (r : Res P E G rs vs) : Res P E G (.cell t ty :: rs) (v :: vs)
  | agg {t ty b k : Nat} {cs : List Value} {e : TypeId} {fr : Nat × Nat} {rs : List ResultVar} {vs : List Value} (h : look t E = some (.pointer (some ⟨b, 0, none⟩))) (ht : aggSize P ty = some k) (hm : (b, Obj.cells cs.toArray e fr) ∈ G)
      (hk : cs.length = k) (r : Res P E G rs vs) : Res P E G (.cell t ty :: rs) (.agg cs.toArray :: vs)

def rvar (tmps : Array Value) : ResultVar → Sem Value
  | .tmp t => pure (tmps.getD t undef)
  | .cell a t => do loadVar t (← asAddr (tmps.getD a undef))

theorem Res.run {rs : List ResultVar} {vs : List Value} (hr : Res P E G rs vs) (hs : S n w0 E G a w) : (rs.mapM (rvar a.tmps)).run P w = .ok vs w := by
  have cons : ∀ (r : ResultVar) (rs : List ResultVar) (v : Value) (vs : List Value), (rvar a.tmps r).run P w = .ok v w → (rs.mapM (rvar a.tmps)).run P w = .ok vs w → ((r :: rs).mapM (rvar a.tmps)).run P w = .ok (v :: vs) w := by
    intro r rs v vs h1 h2
    simp [List.mapM_cons, h1, h2]
  induction hr with
  | nil => rfl
  | tmp h r ih =>
    have := hs.env _ _ h
    refine cons _ _ _ _ ?_ ih
    simp [rvar, Array.getD_eq_getD_getElem?, this]
  | @cell t ty b cs e fr v rs vs h ht hm hv r ih =>
    have := hs.env _ _ h
    have hc := hs.new.cell hm hv
    refine cons _ _ _ _ ?_ ih
    unfold oneB at ht
    cases hu : P.underlying ty with
    | none => simp [hu] at ht
    | some u => cases u <;> first | (simp [hu] at ht; done) | simp [rvar, Array.getD_eq_getD_getElem?, this, asAddr, loadVar, isAgg, run_underlying hu, hc]
  | @agg t ty b k cs e fr rs vs h ht hm hk r ih =>
    have := hs.env _ _ h
    have hl := run_loadAgg (P := P) (w := w) (b := b) (off := 0) ht hk (fun j v hv => by rw [Nat.zero_add]; exact hs.new.cell hm (by simpa using hv))
    refine cons _ _ _ _ ?_ ih
    simp [rvar, Array.getD_eq_getD_getElem?, this, asAddr, hl]

def tup : List Value → Value
  | [v] => v
  | vs => .tuple vs.toArray

theorem Res.toRun {fn : Func} {rs : List ResultVar} {vs : List Value} (hf : fn.results = rs.toArray) (hr : Res P E G rs vs) (hs : S n w0 E G a w) : (results fn a.tmps).run P w = .ok (tup vs) w := by
  have h := hr.run hs
  have e : (fn.results.mapM (rvar a.tmps)).run P w = .ok vs.toArray w := by
    rw [hf, Array.mapM_eq_mapM_toList]
    simp [h]
  have e2 : (results fn a.tmps).run P w = ((fn.results.mapM (rvar a.tmps)).run P w).andThen fun vs w => .ok (if h : vs.size = 1 then vs[0] else .tuple vs) w := by
    have hfun : Go.results fn a.tmps = (do let vs ← fn.results.mapM (rvar a.tmps); pure (if h : vs.size = 1 then vs[0] else .tuple vs)) := by
      unfold Go.results
      congr
    rw [hfun]
    simp
  rw [e2, e]
  simp only [Result.andThen_ok]
  congr 1
  match vs with
  | [] => rfl
  | [v] => rfl
  | v :: u :: r => simp [tup]

theorem TQ.retR {fn : Func} {rs : List ResultVar} {vs : List Value} {X : Type} {val : X → Value} {F : X → Prop} {D : X → Heap} (hf : fn.results = rs.toArray) (hr : Res P E G rs vs)
    (h : ∃ x, tup vs = val x ∧ F x ∧ List.Sublist (D x) G) : TQ n w0 (bodyPost P fn (Post val F D w0) .ret) E G := fun a w hs =>
  let ⟨x, hx, hF, hg⟩ := h
  bodyPost_ret (hr.toRun hf hs) hs.defers ⟨x, by rw [hx], hF, hs.new.sub hg⟩
theorem TQ.retN {fn : Func} {rs : List ResultVar} {vs : List Value} {X : Type} {val : X → Value} {F : X → Prop} {D : X → Heap} (hf : fn.results = rs.toArray) (hr : Res P E G rs vs)
    (h : ∃ x, tup vs = val x ∧ F x ∧ List.Sublist (D x) G) : TQ n w0 (bodyPost P fn (Post val F D w0) .normal) E G := fun a w hs =>
  let ⟨x, hx, hF, hg⟩ := h
  bodyPost_end (hr.toRun hf hs) hs.defers ⟨x, by rw [hx], hF, hs.new.sub hg⟩
end
end Go.Sx
