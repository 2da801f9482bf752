/- Sx -/
import Derived.WalkKit
import Derived.StillTail
import Derived.Laws.MakeOwn
set_option linter.unusedVariables false
set_option linter.unusedSimpArgs false
set_option maxRecDepth 100000
namespace Go.Sx
open Go.RowKit
abbrev Env := List (Nat × Value)
abbrev Heap := List (Nat × Obj)
def look (k : Nat) : Env → Option Value
  | [] => none
  | (j, v) :: r => match Nat.beq j k with
    | true => some v
    | false => look k r
theorem look_nil (k : Nat) : look k [] = none := rfl
theorem look_cons (k : Nat) (p : Nat × Value) (r : Env) : look k (p :: r) = match Nat.beq p.1 k with
    | true => some p.2
    | false => look k r := rfl
def nth : List Value → Nat → Option Value
  | [], _ => none
  | v :: _, 0 => some v
  | _ :: r, i + 1 => nth r i
theorem nth_spec : ∀ {l : List Value} {i : Nat} {v : Value}, nth l i = some v → l[i]? = some v
  | [], _, _, h => by cases h
  | u :: _, 0, v, h => by simpa [nth] using h
  | _ :: r, i + 1, v, h => by simpa using nth_spec (l := r) h
structure New (w0 w : World) (G : Heap) : Prop where
  below : Below w0.heap.size w0 w
  nodup : (G.map (·.1)).Nodup
  ge : ∀ p ∈ G, w0.heap.size ≤ p.1
  here : ∀ p ∈ G, w.heap[p.1]? = some p.2
  drawn : True
structure S (n : Nat) (w0 : World) (E : Env) (G : Heap) (a : Act) (w : World) : Prop where
  size : a.tmps.size = n
  defers : a.defers = []
  env : ∀ k v, look k E = some v → a.tmps[k]? = some v
  new : New w0 w G
section new
variable {w0 w w' : World} {G D : Heap}
theorem New.refl (w : World) : New w w [] := ⟨Below.refl _ _, by simp, by simp, by simp, trivial⟩
theorem New.ofBelow {w w' : World} (h : Below w.heap.size w w') : New w w' [] := ⟨h, by simp, by simp, by simp, trivial⟩
theorem New.lt (h : New w0 w G) {b : Nat} {o : Obj} (hm : (b, o) ∈ G) : b < w.heap.size :=
  (Array.getElem?_eq_some_iff.1 (h.here _ hm)).1
theorem New.trans (h : New w0 w G) (k : New w w' D) : New w0 w' (D ++ G) := by
  refine ⟨h.below.trans (k.below.mono h.below.size), ?_, ?_, ?_, trivial⟩
  · rw [List.map_append]
    refine List.nodup_append.2 ⟨k.nodup, h.nodup, ?_⟩
    intro a ha b hb hab
    obtain ⟨p, hp, rfl⟩ := List.mem_map.1 ha
    obtain ⟨q, hq, rfl⟩ := List.mem_map.1 hb
    have h1 := k.ge p hp
    have h2 := h.lt (b := q.1) (o := q.2) hq
    omega
  · intro p hp
    rcases List.mem_append.1 hp with hp | hp
    · have := k.ge p hp
      have := h.below.size
      omega
    · exact h.ge p hp
  · intro p hp
    rcases List.mem_append.1 hp with hp | hp
    · exact k.here p hp
    · rw [k.below.block _ (h.lt (b := p.1) (o := p.2) hp)]
      exact h.here p hp
theorem New.alloc (h : New w0 w G) (o : Obj) : New w0 (w.alloc o) ((w.heap.size, o) :: G) := by
  have : New w (w.alloc o) [(w.heap.size, o)] :=
    ⟨(Below.refl _ _).alloc (Nat.le_refl _) _, by simp, by simp, by simp only [List.mem_singleton]; rintro p rfl; exact heap_alloc_new w o, trivial⟩
  exact h.trans this
theorem New.sub (h : New w0 w G) (hs : List.Sublist D G) : New w0 w D :=
  ⟨h.below, h.nodup.sublist (hs.map _), fun p hp => h.ge p (hs.subset hp), fun p hp => h.here p (hs.subset hp), h.drawn⟩
theorem New.perm (h : New w0 w G) (hs : List.Perm D G) : New w0 w D :=
  ⟨h.below, (hs.map _).nodup_iff.2 h.nodup, fun p hp => h.ge p (hs.subset hp), fun p hp => h.here p (hs.subset hp), h.drawn⟩
theorem New.drew (h : New w0 w G) : New w0 { w with drawn := w.drawn + 1 } G :=
  ⟨⟨h.below.os, h.below.tape, h.below.output, h.below.size, h.below.block⟩, h.nodup, h.ge, h.here, trivial⟩
theorem New.cell (h : New w0 w G) {b off : Nat} {cs : Array Value} {e : TypeId} {fr : Nat × Nat} {v : Value} (hm : (b, Obj.cells cs e fr) ∈ G) (hv : cs[off]? = some v) :
    w.cell? ⟨b, off, none⟩ = some v := by
  have := h.here _ hm
  simp only at this
  simp [World.cell?, this, hv]
inductive Upd (b : Nat) (o o' : Obj) : Heap → Heap → Prop
  | head (R : Heap) : Upd b o o' ((b, o) :: R) ((b, o') :: R)
  | tail (p : Nat × Obj) {R R' : Heap} (h : Upd b o o' R R') : Upd b o o' (p :: R) (p :: R')
theorem Upd.mem {b : Nat} {o o' : Obj} (h : Upd b o o' G D) : (b, o) ∈ G := by
  induction h with
  | head => exact .head _
  | tail _ _ ih => exact .tail _ ih
theorem Upd.ids {b : Nat} {o o' : Obj} (h : Upd b o o' G D) : D.map (·.1) = G.map (·.1) := by
  induction h with
  | head => rfl
  | tail _ _ ih => simp [ih]
theorem Upd.mem' {b : Nat} {o o' : Obj} (h : Upd b o o' G D) (hn : (G.map (·.1)).Nodup) : ∀ p ∈ D, p = (b, o') ∨ (p ∈ G ∧ p.1 ≠ b) := by
  induction h with
  | head R =>
    intro p hp
    rcases List.mem_cons.1 hp with rfl | hp
    · exact .inl rfl
    · refine .inr ⟨.tail _ hp, fun e => ?_⟩
      simp only [List.map_cons, List.nodup_cons] at hn
      exact hn.1 (e ▸ List.mem_map.2 ⟨p, hp, rfl⟩)
  | tail q h ih =>
    intro p hp
    simp only [List.map_cons, List.nodup_cons] at hn
    rcases List.mem_cons.1 hp with rfl | hp
    · refine .inr ⟨.head _, fun e => ?_⟩
      exact hn.1 (e ▸ List.mem_map.2 ⟨_, h.mem, rfl⟩)
    · rcases ih hn.2 p hp with rfl | ⟨h1, h2⟩
      · exact .inl rfl
      · exact .inr ⟨.tail _ h1, h2⟩
theorem New.turn (h : New w0 w G) {b : Nat} {o o' : Obj} (hu : Upd b o o' G D) (hb : w'.heap[b]? = some o') (hk : ∀ k, k ≠ b → w'.heap[k]? = w.heap[k]?)
    (h1 : w'.os = w.os) (h2 : w'.tape = w.tape) (h3 : w'.output = w.output) (h4 : w.heap.size ≤ w'.heap.size) (h5 : w'.drawn = w.drawn) : New w0 w' D := by
  have hge := h.ge _ hu.mem
  refine ⟨⟨h1.trans h.below.os, h2.trans h.below.tape, h3.trans h.below.output, Nat.le_trans h.below.size h4, fun k hk' => ?_⟩, by rw [hu.ids]; exact h.nodup, ?_, ?_, trivial⟩
  · rw [hk k (by simp at hge; omega)]
    exact h.below.block k hk'
  · intro p hp
    rcases hu.mem' h.nodup p hp with rfl | ⟨hp, _⟩
    · exact hge
    · exact h.ge p hp
  · intro p hp
    rcases hu.mem' h.nodup p hp with rfl | ⟨hp, hne⟩
    · exact hb
    · rw [hk _ hne]
      exact h.here p hp
theorem New.setCell (h : New w0 w G) {b off : Nat} {cs : Array Value} {e : TypeId} {v : Value} (hu : Upd b (.cells cs e (0, 0)) (.cells (cs.setIfInBounds off v) e (0, 0)) G D) :
    New w0 (w.setCell ⟨b, off, none⟩ v) D := by
  have h0 := h.here _ hu.mem
  simp only at h0
  refine h.turn hu ?_ ?_ rfl rfl rfl (by simp [World.setCell]) rfl
  · have hlt := (Array.getElem?_eq_some_iff.1 h0).1
    have he : w.heap[b] = .cells cs e (0, 0) := (Array.getElem?_eq_some_iff.1 h0).2
    simp only [World.setCell, Array.getElem?_modify, if_true, h0, Option.map_some]
    rfl
  · intro k hk
    exact Below.heap_setCell _ _ _ _ hk
theorem New.frozen (h : New w0 w G) {b off : Nat} {cs : Array Value} {e : TypeId} (hm : (b, Obj.cells cs e (0, 0)) ∈ G) : w.frozen? ⟨b, off, none⟩ = false := by
  have := h.here _ hm
  simp only at this
  simp [World.frozen?, this]
theorem New.old (h : New w0 w G) {p : Addr} {v : Value} (hv : w0.cell? p = some v) : w.cell? p = some v := by
  rw [h.below.cell (World.block_lt_of_cell? w0 p hv)]
  exact hv
end new
def evo (E : Env) : Operand → Option Value
  | .tmp t => look t E
  | .const v => some v
  | .global g => some (.pointer (some ⟨g, 0, none⟩))
  | .func f => some (.func (.func f) #[] #[])
def evs (E : Env) : List Operand → Option (List Value)
  | [] => some []
  | x :: r => match evo E x with
    | none => none
    | some v => match evs E r with
      | none => none
      | some l => some (v :: l)
section rules
variable {P : Program} {n : Nat} {w0 : World} {E : Env} {G : Heap} {a : Act} {w : World}
theorem S.ev (h : S n w0 E G a w) {x : Operand} {v : Value} (hx : evo E x = some v) : a.eval x = v := by
  cases x with
  | tmp t =>
    have := h.env t v hx
    simp [Act.eval, Array.getD_eq_getD_getElem?, this]
  | const c => simpa [evo, Act.eval] using hx
  | global g => simpa [evo, Act.eval] using hx
  | func f => simpa [evo, Act.eval] using hx
theorem S.evs (h : S n w0 E G a w) : ∀ {l : List Operand} {vs : List Value}, evs E l = some vs → l.map a.eval = vs
  | [], vs, hx => by simp [Sx.evs] at hx; simp [hx]
  | x :: r, vs, hx => by
    simp only [Sx.evs] at hx
    cases h1 : evo E x with
    | none => simp [h1] at hx
    | some v =>
      cases h2 : Sx.evs E r with
      | none => simp [h1, h2] at hx
      | some l =>
        simp [h1, h2] at hx
        simp [h.ev h1, S.evs h h2, ← hx]
theorem S.put (h : S n w0 E G a w) {d : Nat} (hd : d < n) (v : Value) : S n w0 ((d, v) :: E) G (a.put (some d) v) w := by
  refine ⟨by show (a.tmps.setIfInBounds d v).size = n; simp [h.size], h.defers, fun k u hk => ?_, h.new⟩
  simp only [look_cons] at hk
  show (a.tmps.setIfInBounds d v)[k]? = some u
  by_cases hkd : d = k
  · subst hkd
    simp at hk
    simp [Array.getElem?_setIfInBounds, h.size, hd, hk]
  · have : Nat.beq d k = false := by
      cases h' : Nat.beq d k
      · rfl
      · exact absurd (Nat.eq_of_beq_eq_true h') hkd
    rw [this] at hk
    dsimp only at hk
    rw [Array.getElem?_setIfInBounds_ne hkd]
    exact h.env k u hk
theorem S.env_le (h : S n w0 E G a w) {E' : Env} (he : ∀ k v, look k E' = some v → look k E = some v) : S n w0 E' G a w :=
  ⟨h.size, h.defers, fun k v hk => h.env k v (he k v hk), h.new⟩
theorem S.world (h : S n w0 E G a w) {w' : World} {G' : Heap} (hn : New w0 w' G') : S n w0 E G' a w' := ⟨h.size, h.defers, h.env, hn⟩
def TL (P : Program) (n : Nat) (w0 : World) (ops : Array Oper) (Q : Exit → Act → World → Prop) (l : List Oper) (E : Env) (G : Heap) : Prop :=
  ∀ a w, S n w0 E G a w → wpList P ops Q l a w
def TC (P : Program) (n : Nat) (w0 : World) (c : Code) (Q : Exit → Act → World → Prop) (E : Env) (G : Heap) : Prop :=
  ∀ a w, S n w0 E G a w → c.wp P Q a w
def TQ (n : Nat) (w0 : World) (K : Act → World → Prop) (E : Env) (G : Heap) : Prop :=
  ∀ a w, S n w0 E G a w → K a w
def PV (P : Program) (n : Nat) (w0 : World) (E : Env) (G : Heap) (o : Oper) (v : Value) : Prop :=
  ∀ a w, S n w0 E G a w → (execOp a.eval o).run P w = .ok (.value v) w
def wants (ops : Array Oper) (E : Env) : Option (Nat × Bool) → Option Bool
  | none => some true
  | some (j, want) => match (ops[j]?).bind (·.dst) with
    | none => none
    | some s => match look s E with
      | some (.bool b) => some (b == want)
      | _ => none
theorem S.wants (h : S n w0 E G a w) {ops : Array Oper} {o : Oper} {b : Bool} (hw : wants ops E o.guard = some b) : Region.wanted o (yielded ops a.tmps) = b := by
  unfold Region.wanted
  cases hg : o.guard with
  | none => simpa [Sx.wants, hg] using hw
  | some jw =>
    obtain ⟨j, want⟩ := jw
    simp only [Sx.wants, hg] at hw
    simp only [yielded]
    cases hs : (ops[j]?).bind (·.dst) with
    | none => simp [hs] at hw
    | some s =>
      simp only [hs] at hw
      cases hl : look s E with
      | none => simp [hl] at hw
      | some v =>
        have := h.env s v hl
        cases v <;> simp only [hl] at hw <;> simp at hw
        simp [this, hw]
variable {ops : Array Oper} {Q : Exit → Act → World → Prop} {l : List Oper}
theorem TL.nil (h : TQ n w0 (Q .normal) E G) : TL P n w0 ops Q [] E G := fun a w hs => wpList_nil (h a w hs)
theorem TL.step {o : Oper} (hg : wants ops E o.guard = some true) (h : ∀ a w, S n w0 E G a w → o.wp P a w (wpList P ops Q l) Q) : TL P n w0 ops Q (o :: l) E G := by
  intro a w hs
  unfold wpList
  rw [if_pos (hs.wants hg)]
  exact .inl (h a w hs)
theorem TL.pure {d : Nat} {op : Op} {ty : TypeId} {pos : String} {aft : Array Edge} {g : Option (Nat × Bool)} {v : Value}
    (hp : PV P n w0 E G ⟨some d, op, ty, pos, aft, g⟩ v) (hg : wants ops E g = some true) (hd : d < n) (h : TL P n w0 ops Q l ((d, v) :: E) G) :
    TL P n w0 ops Q (⟨some d, op, ty, pos, aft, g⟩ :: l) E G :=
  TL.step hg fun a w hs => by
    unfold Oper.wp
    rw [hp a w hs]
    exact h _ _ (hs.put hd v)
theorem TL.skip {d : Option Nat} {op : Op} {ty : TypeId} {pos : String} {aft : Array Edge} {g : Option (Nat × Bool)}
    (hg : wants ops E g = some false) (hd : ∀ k, d = some k → k < n) (h : TL P n w0 ops Q l (match d with | some k => (k, undef) :: E | none => E) G) :
    TL P n w0 ops Q (⟨d, op, ty, pos, aft, g⟩ :: l) E G := by
  intro a w hs
  unfold wpList
  have := hs.wants (o := ⟨d, op, ty, pos, aft, g⟩) hg
  rw [if_neg (by simp [this])]
  cases d with
  | none => exact h _ _ hs
  | some k => exact h _ _ (hs.put (hd k rfl) undef)
theorem TL.split (s : Nat) {b : Bool} (hs : look s E = some (.bool b)) (ht : b = true → TL P n w0 ops Q l ((s, .bool true) :: E) G) (hf : b = false → TL P n w0 ops Q l ((s, .bool false) :: E) G) :
    TL P n w0 ops Q l E G := by
  intro a w h
  cases b with
  | true => exact ht rfl a w (h.env_le fun k v hk => by
      simp only [look_cons] at hk
      by_cases e : Nat.beq s k = true
      · rw [e] at hk; simp at hk; have := Nat.eq_of_beq_eq_true e; subst this; rw [hs, hk]
      · have : Nat.beq s k = false := by cases h' : Nat.beq s k <;> simp_all
        rw [this] at hk; exact hk)
  | false => exact hf rfl a w (h.env_le fun k v hk => by
      simp only [look_cons] at hk
      by_cases e : Nat.beq s k = true
      · rw [e] at hk; simp at hk; have := Nat.eq_of_beq_eq_true e; subst this; rw [hs, hk]
      · have : Nat.beq s k = false := by cases h' : Nat.beq s k <;> simp_all
        rw [this] at hk; exact hk)
theorem TL.splitD (s : Nat) {p : Prop} [Decidable p] (hs : look s E = some (.bool (decide p))) (ht : p → TL P n w0 ops Q l ((s, .bool true) :: E) G) (hf : ¬ p → TL P n w0 ops Q l ((s, .bool false) :: E) G) :
    TL P n w0 ops Q l E G := TL.split s hs (fun h => ht (of_decide_eq_true h)) (fun h => hf (of_decide_eq_false h))
section pv
variable {d : Option Nat} {ty : TypeId} {pos : String} {aft : Array Edge} {g : Option (Nat × Bool)}
theorem PV.move {x : Operand} {v : Value} (hx : evo E x = some v) : PV P n w0 E G ⟨d, .move x, ty, pos, aft, g⟩ v :=
  fun a w hs => by simp [execOp, hs.ev hx]
theorem PV.assign {x : Operand} {v : Value} (hx : evo E x = some v) : PV P n w0 E G ⟨d, .assign x, ty, pos, aft, g⟩ v :=
  fun a w hs => by simp [execOp, hs.ev hx]
theorem PV.pickT {c x y : Operand} {v : Value} (hc : evo E c = some (.bool true)) (hx : evo E x = some v) : PV P n w0 E G ⟨d, .pick c x y, ty, pos, aft, g⟩ v :=
  fun a w hs => by simp [execOp, hs.ev hc, hs.ev hx, asBool]
theorem PV.pickF {c x y : Operand} {v : Value} (hc : evo E c = some (.bool false)) (hx : evo E y = some v) : PV P n w0 E G ⟨d, .pick c x y, ty, pos, aft, g⟩ v :=
  fun a w hs => by simp [execOp, hs.ev hc, hs.ev hx, asBool]
theorem PV.not {x : Operand} {b : Bool} {t : TypeId} (hx : evo E x = some (.bool b)) : PV P n w0 E G ⟨d, .unOp .not t x, ty, pos, aft, g⟩ (.bool (!b)) :=
  fun a w hs => by simp only [execOp, hs.ev hx]; simp [go_sem, Op.unary]
theorem PV.notD {x : Operand} {p : Prop} [Decidable p] {t : TypeId} (hx : evo E x = some (.bool (decide p))) : PV P n w0 E G ⟨d, .unOp .not t x, ty, pos, aft, g⟩ (.bool (decide (¬ p))) :=
  fun a w hs => by rw [PV.not hx a w hs]; simp
def zeroOf (P : Program) (e : Nat) : Option Value := (P.info? e).bind (·.zero)
def placesOf (P : Program) (t : Nat) : Option (List (Nat × Nat)) :=
  match P.underlying t with
  | some (.struct fs) => fs.toList.mapM fun f => (P.info? f.type).map fun i => (f.offset, i.size)
  | _ => none
def evp (E : Env) : List (Nat × Operand) → Option (List (Nat × Value))
  | [] => some []
  | (i, x) :: r => match evo E x with
    | none => none
    | some v => match evp E r with
      | none => none
      | some l => some ((i, v) :: l)
theorem S.evp (h : S n w0 E G a w) : ∀ {l : List (Nat × Operand)} {vs : List (Nat × Value)}, evp E l = some vs → l.map (fun (i, x) => (i, a.eval x)) = vs
  | [], vs, hx => by simp [Sx.evp] at hx; simp [hx]
  | (i, x) :: r, vs, hx => by
    simp only [Sx.evp] at hx
    cases h1 : evo E x with
    | none => simp [h1] at hx
    | some v =>
      cases h2 : Sx.evp E r with
      | none => simp [h1, h2] at hx
      | some l =>
        simp [h1, h2] at hx
        simp [h.ev h1, S.evp h h2, ← hx]
theorem run_mapM_places (P : Program) (w : World) : ∀ (fs : List Field) (l : List (Nat × Nat)), fs.mapM (fun f => (P.info? f.type).map fun i => (f.offset, i.size)) = some l →
    (fs.mapM (m := Sem) (fun f => do pure (f.offset, ← sizeOf f.type))).run P w = .ok l w
  | [], l, h => by simp at h; subst h; rfl
  | f :: r, l, h => by
    simp only [List.mapM_cons] at h ⊢
    cases hi : P.info? f.type with
    | none => simp [hi] at h
    | some i =>
      cases hr : r.mapM (fun f => (P.info? f.type).map fun i => (f.offset, i.size)) with
      | none => simp [hi, hr] at h
      | some l' =>
        simp [hi, hr] at h
        have := run_mapM_places P w r l' hr
        simp [sizeOf, typeInfo, hi] at this ⊢
        simp [this, h]
theorem PV.build {t : Nat} {parts : List (Nat × Operand)} {ps : List (Nat × Value)} {z cs : Array Value} {pl : List (Nat × Nat)} (hx : evp E parts = some ps) (hz : zeroOf P t = some (Value.agg z))
    (hp : placesOf P t = some pl) (hf : Instr.fill (pl[·]?) z ps = some cs) : PV P n w0 E G ⟨d, .build t parts.toArray, ty, pos, aft, g⟩ (.agg cs) :=
  fun a w hs => by
    unfold placesOf at hp
    cases hu : P.underlying t with
    | none => simp [hu] at hp
    | some u =>
      cases u <;> simp only [hu] at hp <;> try (simp at hp; done)
      rename_i fs
      have hm := run_mapM_places P w fs.toList pl hp
      have hps := hs.evp hx
      unfold zeroOf at hz
      cases hi : P.info? t with
      | none => simp [hi] at hz
      | some i =>
        simp [hi] at hz
        simp only [execOp, List.map_toArray, hps]
        simp [Instr.build, zeroValue, typeInfo, hi, hz, run_underlying hu, Value.cells, Array.mapM_eq_mapM_toList] at hm ⊢
        simp [hm, hf]
theorem PV.extract {x : Operand} {i : Nat} {vs : Array Value} {v : Value} (hx : evo E x = some (.tuple vs)) (hv : nth vs.toList i = some v) : PV P n w0 E G ⟨d, .extract x i, ty, pos, aft, g⟩ v :=
  fun a w hs => by
    have hv : vs[i]? = some v := by simpa using nth_spec hv
    simp only [execOp, hs.ev hx]; simp [Instr.extract, hv]
theorem PV.eqlB {x y : Operand} {a b : Bool} {t t' : TypeId} (hx : evo E x = some (.bool a)) (hy : evo E y = some (.bool b)) (ht : P.underlying t = some .bool) :
    PV P n w0 E G ⟨d, .binOp .eql t x y t', ty, pos, aft, g⟩ (.bool (a == b)) :=
  fun A w hs => by simp only [execOp, hs.ev hx, hs.ev hy, eqGuard_at_bool]; simp [run_eql_bool (h := ht)]
section ints
variable {x y : Operand} {i j : Int} {t t' : TypeId} (hx : evo E x = some (.int .i64 i)) (hy : evo E y = some (.int .i64 j))
include hx hy
theorem PV.lss : PV P n w0 E G ⟨d, .binOp .lss t x y t', ty, pos, aft, g⟩ (.bool (decide (i < j))) :=
  fun a w hs => by simp only [execOp, hs.ev hx, hs.ev hy]; simp [go_sem]
theorem PV.leq : PV P n w0 E G ⟨d, .binOp .leq t x y t', ty, pos, aft, g⟩ (.bool (decide (i ≤ j))) :=
  fun a w hs => by simp only [execOp, hs.ev hx, hs.ev hy]; simp [go_sem]
theorem PV.gtr : PV P n w0 E G ⟨d, .binOp .gtr t x y t', ty, pos, aft, g⟩ (.bool (decide (j < i))) :=
  fun a w hs => by simp only [execOp, hs.ev hx, hs.ev hy]; simp [go_sem]
theorem PV.geq : PV P n w0 E G ⟨d, .binOp .geq t x y t', ty, pos, aft, g⟩ (.bool (decide (j ≤ i))) :=
  fun a w hs => by simp only [execOp, hs.ev hx, hs.ev hy]; simp [go_sem]
theorem PV.eql : PV P n w0 E G ⟨d, .binOp .eql t x y t', ty, pos, aft, g⟩ (.bool (decide (i = j))) :=
  fun a w hs => by simp only [execOp, hs.ev hx, hs.ev hy]; simp [go_sem]; rw [Bool.eq_iff_iff]; simp
theorem PV.neq : PV P n w0 E G ⟨d, .binOp .neq t x y t', ty, pos, aft, g⟩ (.bool (decide (i ≠ j))) :=
  fun a w hs => by simp only [execOp, hs.ev hx, hs.ev hy]; simp [go_sem, bne]; rw [Bool.eq_iff_iff]; simp
end ints
section arith
variable {x y : Operand} {i j : Int} {t t' : TypeId} (hx : evo E x = some (.int .i64 i)) (hy : evo E y = some (.int .i64 j))
include hx hy
theorem PV.add (h : -9223372036854775808 ≤ i + j ∧ i + j ≤ 9223372036854775807) : PV P n w0 E G ⟨d, .binOp .add t x y t', ty, pos, aft, g⟩ (.int .i64 (i + j)) :=
  fun a w hs => by
    have hw : IntKind.i64.wrap (i + j) = i + j := by rw [IntKind.wrap_i64]; omega
    simp only [execOp, hs.ev hx, hs.ev hy]; simp [go_sem, Op.intArith, hw]
theorem PV.sub (h : -9223372036854775808 ≤ i - j ∧ i - j ≤ 9223372036854775807) : PV P n w0 E G ⟨d, .binOp .sub t x y t', ty, pos, aft, g⟩ (.int .i64 (i - j)) :=
  fun a w hs => by
    have hw : IntKind.i64.wrap (i - j) = i - j := by rw [IntKind.wrap_i64]; omega
    simp only [execOp, hs.ev hx, hs.ev hy]; simp [go_sem, Op.intArith, hw]
theorem PV.mul (h : -9223372036854775808 ≤ i * j ∧ i * j ≤ 9223372036854775807) : PV P n w0 E G ⟨d, .binOp .mul t x y t', ty, pos, aft, g⟩ (.int .i64 (i * j)) :=
  fun a w hs => by
    have hw : IntKind.i64.wrap (i * j) = i * j := by rw [IntKind.wrap_i64]; omega
    simp only [execOp, hs.ev hx, hs.ev hy]; simp [go_sem, Op.intArith, hw]
theorem PV.quo (hj : j ≠ 0) (h : -9223372036854775808 ≤ i.tdiv j ∧ i.tdiv j ≤ 9223372036854775807) : PV P n w0 E G ⟨d, .binOp .quo t x y t', ty, pos, aft, g⟩ (.int .i64 (i.tdiv j)) :=
  fun a w hs => by
    have hw : IntKind.i64.wrap (i.tdiv j) = i.tdiv j := by rw [IntKind.wrap_i64]; omega
    simp only [execOp, hs.ev hx, hs.ev hy]; simp [go_sem, Op.intDiv, hw, hj]
theorem PV.rem (hj : j ≠ 0) (h : -9223372036854775808 ≤ i.tmod j ∧ i.tmod j ≤ 9223372036854775807) : PV P n w0 E G ⟨d, .binOp .rem t x y t', ty, pos, aft, g⟩ (.int .i64 (i.tmod j)) :=
  fun a w hs => by
    have hw : IntKind.i64.wrap (i.tmod j) = i.tmod j := by rw [IntKind.wrap_i64]; omega
    simp only [execOp, hs.ev hx, hs.ev hy]; simp [go_sem, Op.intDiv, hw, hj]
end arith
theorem PV.neg {x : Operand} {i : Int} {t : TypeId} (hx : evo E x = some (.int .i64 i)) (h : -9223372036854775808 ≤ -i ∧ -i ≤ 9223372036854775807) :
    PV P n w0 E G ⟨d, .unOp .neg t x, ty, pos, aft, g⟩ (.int .i64 (-i)) :=
  fun a w hs => by
    have hw : IntKind.i64.wrap (-i) = -i := by rw [IntKind.wrap_i64]; omega
    simp only [execOp, hs.ev hx]; simp [go_sem, Op.unary, hw]
theorem PV.len {x : Operand} {p : Option Addr} {len cap : Nat} {t e : TypeId} (hx : evo E x = some (.slice p len cap)) (ht : P.underlying t = some (.slice e)) :
    PV P n w0 E G ⟨d, .call { callee := .builtin .len, args := #[x], argTypes := #[t] }, ty, pos, aft, g⟩ (.int .i64 len) :=
  fun a w hs => by
    simp only [execOp, resolve, List.map_toArray, List.map_cons, List.map_nil, hs.ev hx]
    simp [invoke, builtin, Builtin.len_, run_underlying ht, goInt]
theorem PV.max {x y : Operand} {i j : Int} {t t' : TypeId} {k : IntKind} (hx : evo E x = some (.int .i64 i)) (hy : evo E y = some (.int .i64 j)) (hk : P.underlying ty = some (.int k)) :
    PV P n w0 E G ⟨d, .call { callee := .builtin .max, args := #[x, y], argTypes := #[t, t'] }, ty, pos, aft, g⟩ (.int .i64 (max i j)) :=
  fun a w hs => by
    simp only [execOp, resolve, List.map_toArray, List.map_cons, List.map_nil, hs.ev hx, hs.ev hy]; simp [go_sem, invoke]; omega
def fieldOff (P : Program) (t f : Nat) : Option Nat :=
  match P.underlying t with
  | some (.struct fs) => match fs[f]? with
    | some fd => match P.info? fd.type with
      | some i => if i.size = 0 then none else some fd.offset
      | none => none
    | none => none
  | _ => none
def oneB (P : Program) (t : Nat) : Bool :=
  match P.underlying t with
  | some (.struct _) | some (.array _ _) | none => false
  | _ => true
def aggSize (P : Program) (t : Nat) : Option Nat :=
  match P.underlying t with
  | some (.struct _) | some (.array _ _) => (P.info? t).map (·.size)
  | _ => none
def cellsN (P : Program) (t : Nat) : Option Nat := (P.info? t).map (·.size)
def elemOf' (P : Program) (t : Nat) : Option (Nat × Nat) :=
  match P.underlying t with
  | some (.slice e) => (P.info? e).map fun i => (e, i.size)
  | _ => none
theorem add_off (b off k : Nat) : (⟨b, off, none⟩ : Addr).add k = ⟨b, off + k, none⟩ := by
  unfold Addr.add
  split
  · simp_all
  · rfl
theorem PV.fieldAddr {x : Operand} {b off k : Nat} {t f : Nat} (hx : evo E x = some (.pointer (some ⟨b, off, none⟩))) (hf : fieldOff P t f = some k) :
    PV P n w0 E G ⟨d, .fieldAddr t x f, ty, pos, aft, g⟩ (.pointer (some ⟨b, off + k, none⟩)) :=
  fun a w hs => by
    unfold fieldOff at hf
    cases hu : P.underlying t with
    | none => simp [hu] at hf
    | some u =>
      cases u <;> simp only [hu] at hf <;> try (simp at hf; done)
      rename_i fs
      cases hfd : fs[f]? with
      | none => simp [hfd] at hf
      | some fd =>
        simp only [hfd] at hf
        cases hi : P.info? fd.type with
        | none => simp [hi] at hf
        | some i =>
          simp only [hi] at hf
          split at hf
          · cases hf
          · rename_i hne
            cases hf
            simp only [execOp, hs.ev hx]
            simp [Instr.fieldAt, run_underlying hu, hfd, Instr.sureAddr, fieldPlace, sizeOf, typeInfo, hi, hne, add_off]
theorem PV.load {x : Operand} {b off : Nat} {t : Nat} {cs : Array Value} {e : TypeId} {fr : Nat × Nat} {v : Value} (hx : evo E x = some (.pointer (some ⟨b, off, none⟩))) (ht : oneB P t = true)
    (hm : (b, Obj.cells cs e fr) ∈ G) (hv : nth cs.toList off = some v) :
    PV P n w0 E G ⟨d, .load t x, ty, pos, aft, g⟩ v :=
  fun a w hs => by
    have hc := hs.new.cell hm (by simpa using nth_spec hv)
    unfold oneB at ht
    simp only [execOp, hs.ev hx]
    cases hu : P.underlying t with
    | none => simp [hu] at ht
    | some u => cases u <;> first | (simp [hu] at ht; done) | simp [Instr.loadAt, Instr.sureAddr, loadVar, isAgg, run_underlying hu, hc]
theorem PV.loadG' {x : Operand} {b off : Nat} {t : Nat} {cs : Array Value} {e : TypeId} {fr : Nat × Nat} {v : Value} (hx : evo E x = some (.pointer (some ⟨b, off, none⟩))) (ht : oneB P t = true)
    (hm : (b, Obj.cells cs e fr) ∈ G) (hv : cs[off]? = some v) :
    PV P n w0 E G ⟨d, .load t x, ty, pos, aft, g⟩ v :=
  fun a w hs => by
    have hc := hs.new.cell hm hv
    unfold oneB at ht
    simp only [execOp, hs.ev hx]
    cases hu : P.underlying t with
    | none => simp [hu] at ht
    | some u => cases u <;> first | (simp [hu] at ht; done) | simp [Instr.loadAt, Instr.sureAddr, loadVar, isAgg, run_underlying hu, hc]
theorem PV.loadOld {x : Operand} {p : Addr} {t : Nat} {v : Value} (hx : evo E x = some (.pointer (some p))) (ht : oneB P t = true)
    (hv : w0.cell? p = some v) :
    PV P n w0 E G ⟨d, .load t x, ty, pos, aft, g⟩ v :=
  fun a w hs => by
    have hc := hs.new.old hv
    unfold oneB at ht
    simp only [execOp, hs.ev hx]
    cases hu : P.underlying t with
    | none => simp [hu] at ht
    | some u => cases u <;> first | (simp [hu] at ht; done) | simp [Instr.loadAt, Instr.sureAddr, loadVar, isAgg, run_underlying hu, hc]
theorem run_loadAgg {P : Program} {w : World} {t k b off : Nat} {vs : List Value} (ht : aggSize P t = some k) (hk : vs.length = k)
    (hv : ∀ j v, vs[j]? = some v → w.cell? ⟨b, off + j, none⟩ = some v) : (loadVar t ⟨b, off, none⟩).run P w = .ok (.agg vs.toArray) w := by
  unfold aggSize at ht
  have hl := run_loadCells_list (P := P) w ⟨b, off, none⟩ vs (fun j v h => by rw [add_off]; exact hv j v h)
  rw [hk] at hl
  cases hu : P.underlying t with
  | none => simp [hu] at ht
  | some u =>
    cases u <;> simp only [hu] at ht <;> try (simp at ht; done)
    all_goals
      cases hi : P.info? t with
      | none => simp [hi] at ht
      | some i =>
        simp [hi] at ht
        simp [loadVar, isAgg, run_underlying hu, sizeOf, typeInfo, hi, ht, hl]
theorem PV.loadAgg {x : Operand} {b off k : Nat} {t : Nat} {cs : Array Value} {e : TypeId} {fr : Nat × Nat} {vs : List Value} (hx : evo E x = some (.pointer (some ⟨b, off, none⟩))) (ht : aggSize P t = some k)
    (hm : (b, Obj.cells cs e fr) ∈ G) (hk : vs.length = k) (hv : ∀ j v, vs[j]? = some v → cs[off + j]? = some v) :
    PV P n w0 E G ⟨d, .load t x, ty, pos, aft, g⟩ (.agg vs.toArray) :=
  fun a w hs => by
    simp only [execOp, hs.ev hx]
    simp [Instr.loadAt, Instr.sureAddr, run_loadAgg ht hk (fun j v h => hs.new.cell hm (hv j v h))]
theorem PV.loadBox {x : Operand} {b k : Nat} {t : Nat} {cs : List Value} {e : TypeId} {fr : Nat × Nat} (hx : evo E x = some (.pointer (some ⟨b, 0, none⟩))) (ht : aggSize P t = some k)
    (hm : (b, Obj.cells cs.toArray e fr) ∈ G) (hk : cs.length = k) :
    PV P n w0 E G ⟨d, .load t x, ty, pos, aft, g⟩ (.agg cs.toArray) :=
  PV.loadAgg hx ht hm hk (fun j v h => by simpa using h)
theorem PV.index {x y : Operand} {b off len cap s e : Nat} {j : Nat} {i : Int} {k : IntKind} {t : Nat} (hx : evo E x = some (.slice (some ⟨b, off, none⟩) len cap)) (hy : evo E y = some (.int k i))
    (ht : elemOf' P t = some (e, s)) (hi : i = (j : Int)) (hj : j < len) :
    PV P n w0 E G ⟨d, .indexAddr t x y, ty, pos, aft, g⟩ (.pointer (some ⟨b, off + j * s, none⟩)) :=
  fun a w hs => by
    subst hi
    unfold elemOf' at ht
    cases hu : P.underlying t with
    | none => simp [hu] at ht
    | some u =>
      cases u <;> simp only [hu] at ht <;> try (simp at ht; done)
      rename_i e'
      cases hi : P.info? e' with
      | none => simp [hi] at ht
      | some i =>
        simp [hi] at ht
        obtain ⟨rfl, rfl⟩ := ht
        have h1 : (0 : Int) ≤ (j : Int) ∧ (j : Int) < (len : Int) := by omega
        simp only [execOp, hs.ev hx, hs.ev hy]
        simp [Instr.indexAt, asIntOf, run_underlying hu, h1, hj, sizeOf, typeInfo, hi, add_off]
end pv
section more
variable {d : Option Nat} {ty : TypeId} {pos : String} {aft : Array Edge} {g : Option (Nat × Bool)}
theorem PV.indexA {x y : Operand} {p : Option Addr} {q : Addr} {len cap s e : Nat} {j : Nat} {i : Int} {k : IntKind} {t : Nat} (hx : evo E x = some (.slice p len cap)) (hp : p = some q) (hy : evo E y = some (.int k i))
    (ht : elemOf' P t = some (e, s)) (hi : i = (j : Int)) (hj : j < len) :
    PV P n w0 E G ⟨d, .indexAddr t x y, ty, pos, aft, g⟩ (.pointer (some (q.add (j * s)))) :=
  fun a w hs => by
    subst hi; subst hp
    unfold elemOf' at ht
    cases hu : P.underlying t with
    | none => simp [hu] at ht
    | some u =>
      cases u <;> simp only [hu] at ht <;> try (simp at ht; done)
      rename_i e'
      cases hi : P.info? e' with
      | none => simp [hi] at ht
      | some i =>
        simp [hi] at ht
        obtain ⟨rfl, rfl⟩ := ht
        have h1 : (0 : Int) ≤ (j : Int) ∧ (j : Int) < (len : Int) := by omega
        simp only [execOp, hs.ev hx, hs.ev hy]
        simp [Instr.indexAt, asIntOf, run_underlying hu, h1, hj, sizeOf, typeInfo, hi]
theorem PV.loadAggA {x : Operand} {q : Addr} {k : Nat} {t : Nat} {vs : List Value} (hx : evo E x = some (.pointer (some q))) (ht : aggSize P t = some k)
    (hk : vs.length = k) (hv : ∀ j v, vs[j]? = some v → w0.cell? (q.add j) = some v) :
    PV P n w0 E G ⟨d, .load t x, ty, pos, aft, g⟩ (.agg vs.toArray) :=
  fun a w hs => by
    have hl := run_loadCells_list (P := P) w q vs (fun j v h => hs.new.old (hv j v h))
    rw [hk] at hl
    unfold aggSize at ht
    simp only [execOp, hs.ev hx]
    cases hu : P.underlying t with
    | none => simp [hu] at ht
    | some u =>
      cases u <;> simp only [hu] at ht <;> try (simp at ht; done)
      all_goals
        cases hi : P.info? t with
        | none => simp [hi] at ht
        | some i =>
          simp [hi] at ht
          simp [Instr.loadAt, Instr.sureAddr, loadVar, isAgg, run_underlying hu, sizeOf, typeInfo, hi, ht, hl]
end more
section writes
variable {d : Nat} {ty : TypeId} {pos : String} {aft : Array Edge} {g : Option (Nat × Bool)}
theorem TL.box {x : Operand} {v : Value} {e : TypeId} (hx : evo E x = some v) (hg : wants ops E g = some true) (hd : d < n)
    (h : ∀ b, w0.heap.size ≤ b → TL P n w0 ops Q l ((d, .pointer (some ⟨b, 0, none⟩)) :: E) ((b, .cells v.cells e (0, 0)) :: G)) :
    TL P n w0 ops Q (⟨some d, .box e x, ty, pos, aft, g⟩ :: l) E G :=
  TL.step hg fun a w hs => by
    have hr : (execOp a.eval ⟨some d, .box e x, ty, pos, aft, g⟩).run P w = .ok (.value (.pointer (some ⟨w.heap.size, 0, none⟩))) (w.alloc (.cells v.cells e)) := by
      simp only [execOp, hs.ev hx]
      simp [Instr.box, newVar, newRow]
    unfold Oper.wp
    rw [hr]
    exact h _ hs.new.below.size _ _ ((hs.world (hs.new.alloc _)).put hd _)
theorem TL.alloc {e : TypeId} {z : Value} (hi : zeroOf P e = some z) (hg : wants ops E g = some true) (hd : d < n)
    (h : ∀ b, w0.heap.size ≤ b → TL P n w0 ops Q l ((d, .pointer (some ⟨b, 0, none⟩)) :: E) ((b, .cells z.cells e (0, 0)) :: G)) :
    TL P n w0 ops Q (⟨some d, .alloc e, ty, pos, aft, g⟩ :: l) E G :=
  TL.step hg fun a w hs => by
    have hr : (execOp a.eval ⟨some d, .alloc e, ty, pos, aft, g⟩).run P w = .ok (.value (.pointer (some ⟨w.heap.size, 0, none⟩))) (w.alloc (.cells z.cells e)) := by
      unfold zeroOf at hi
      cases hi' : P.info? e with
      | none => simp [hi'] at hi
      | some i =>
        simp [hi'] at hi
        simp only [execOp]
        simp [Instr.alloc, newVar, newRow, zeroValue, typeInfo, hi', hi]
    unfold Oper.wp
    rw [hr]
    exact h _ hs.new.below.size _ _ ((hs.world (hs.new.alloc _)).put hd _)
theorem TL.store {dd : Option Nat} {x y : Operand} {b off : Nat} {t : Nat} {cs : Array Value} {e : TypeId} {v : Value} {G' : Heap} (hx : evo E x = some (.pointer (some ⟨b, off, none⟩))) (hy : evo E y = some v)
    (hsz : cellsN P t = some 1) (hone : v.oneCell' = true) (hu : Upd b (.cells cs e (0, 0)) (.cells (cs.setIfInBounds off v) e (0, 0)) G G') (hlt : off < cs.size)
    (hg : wants ops E g = some true) (hdd : dd = none) (h : TL P n w0 ops Q l E G') : TL P n w0 ops Q (⟨dd, .store t x y, ty, pos, aft, g⟩ :: l) E G :=
  TL.step hg fun a w hs => by
    subst hdd
    have hc : w.cell? ⟨b, off, none⟩ = some cs[off] := hs.new.cell hu.mem (Array.getElem?_eq_getElem hlt)
    have hf := hs.new.frozen (off := off) hu.mem
    unfold cellsN at hsz
    have hr : (execOp a.eval ⟨none, .store t x y, ty, pos, aft, g⟩).run P w = .ok .skip (w.setCell ⟨b, off, none⟩ v) := by
      cases hi : P.info? t with
      | none => simp [hi] at hsz
      | some i =>
        simp [hi] at hsz
        have h1 : v.cells = #[v] := by cases v <;> first | rfl | (simp [Value.oneCell'] at hone)
        simp only [execOp, hs.ev hx, hs.ev hy]
        simp [Instr.storeAt, Instr.sureAddr, storeVar, sizeOf, typeInfo, hi, hsz, h1, storeCells, run_store P w _ v _ hone, add_off, hc, hf]
    unfold Oper.wp
    rw [hr]
    exact h _ _ (hs.world (hs.new.setCell hu))
theorem TL.storeAgg {dd : Option Nat} {x y : Operand} {b k : Nat} {t : Nat} {cs vs : List Value} {e : TypeId} {G' : Heap} (hx : evo E x = some (.pointer (some ⟨b, 0, none⟩))) (hy : evo E y = some (.agg vs.toArray))
    (hsz : cellsN P t = some k) (hu : Upd b (.cells cs.toArray e (0, 0)) (.cells vs.toArray e (0, 0)) G G') (hk : vs.length = k) (hk' : cs.length = k) (hone' : vs.all Value.oneCell' = true)
    (hg : wants ops E g = some true) (hdd : dd = none) (h : TL P n w0 ops Q l E G') : TL P n w0 ops Q (⟨dd, .store t x y, ty, pos, aft, g⟩ :: l) E G :=
  TL.step hg fun a w hs => by
    subst hdd
    have hb := hs.new.here _ hu.mem
    simp only at hb
    unfold cellsN at hsz
    have hone : ∀ v ∈ vs, v.oneCell' = true := fun v hv => List.all_eq_true.1 hone' v hv
    have hst := run_storeCells_at (P := P) b 0 e vs 0 cs.toArray w hb (by simp; omega) hone
    have hr : (execOp a.eval ⟨none, .store t x y, ty, pos, aft, g⟩).run P w = .ok .skip (w.setRow b vs.toArray) := by
      cases hi : P.info? t with
      | none => simp [hi] at hsz
      | some i =>
        simp [hi] at hsz
        simp only [execOp, hs.ev hx, hs.ev hy]
        simp [Instr.storeAt, Instr.sureAddr, storeVar, sizeOf, typeInfo, hi, hsz, Value.cells, hk, hst]
        rw [← hk', List.drop_length, List.append_nil]
    unfold Oper.wp
    rw [hr]
    refine h _ _ (hs.world (hs.new.turn hu ?_ ?_ rfl rfl rfl ?_ rfl))
    · simp only [World.setRow, Array.getElem?_modify, if_true, hb, Option.map_some]
    · intro k hk
      simp only [World.setRow, Array.getElem?_modify]
      rw [if_neg (by omega)]
    · simp [World.setRow]
def Post {X : Type} (val : X → Value) (F : X → Prop) (D : X → Heap) (w : World) (e : Ending) (w' : World) : Prop :=
  ∃ x, e = .returned (val x) ∧ F x ∧ New w w' (D x)
def goFn (P : Program) (f : FuncId) : Bool :=
  match P.funcs[f]? with
  | some fn => fn.name != "runtime.NumGoroutine" && fn.body.isSome
  | none => false
theorem run_goFn {P : Program} {f : FuncId} {args : Array Value} {w : World} (h : goFn P f = true) : (callFunc f args).run P w = .ok (.enter f args) w := by
  unfold goFn at h
  cases hf : P.funcs[f]? with
  | none => simp [hf] at h
  | some fn =>
    simp [hf] at h
    simp [callFunc, hf, h.1]
    intro hn; simp [hn] at h
theorem TL.callW {X : Type} {f : FuncId} {xs : List Operand} {ats : Array TypeId} {vs : List Value} (val : X → Value) (F : X → Prop) (G' : X → Heap) (hx : evs E xs = some vs) (hfn : goFn P f = true)
    (hc : ∀ a w, S n w0 E G a w → Calls P f vs.toArray w (fun e w' => ∃ x, e = .returned (val x) ∧ F x ∧ New w0 w' (G' x))) (hg : wants ops E g = some true) (hd : d < n)
    (h : ∀ x, F x → TL P n w0 ops Q l ((d, val x) :: E) (G' x)) :
    TL P n w0 ops Q (⟨some d, .call { callee := .value (.func f), args := xs.toArray, argTypes := ats }, ty, pos, aft, g⟩ :: l) E G :=
  TL.step hg fun a w hs => by
    have hm := hs.evs hx
    have hr : (execOp a.eval ⟨some d, .call { callee := .value (.func f), args := xs.toArray, argTypes := ats }, ty, pos, aft, g⟩).run P w = .ok (.enter f vs.toArray) w := by
      simp only [execOp, resolve, List.map_toArray, hm]
      show ((callFunc f (#[] ++ vs.toArray ++ #[])).run P w) = _
      rw [run_goFn hfn]; simp
    unfold Oper.wp
    rw [hr]
    refine (hc a w hs).mono ?_
    rintro e w' ⟨x, rfl, hF, hN⟩
    exact h x hF _ _ ((hs.world hN).put hd _)
theorem TL.call {X : Type} {f : FuncId} {xs : List Operand} {ats : Array TypeId} {vs : List Value} {val : X → Value} {F : X → Prop} {D : X → Heap} (hx : evs E xs = some vs) (hfn : goFn P f = true)
    (hc : ∀ a w, S n w0 E G a w → Calls P f vs.toArray w (Post val F D w)) (hg : wants ops E g = some true) (hd : d < n)
    (h : ∀ x, F x → TL P n w0 ops Q l ((d, val x) :: E) (D x ++ G)) :
    TL P n w0 ops Q (⟨some d, .call { callee := .value (.func f), args := xs.toArray, argTypes := ats }, ty, pos, aft, g⟩ :: l) E G :=
  TL.callW val F (fun x => D x ++ G) hx hfn (fun a w hs => (hc a w hs).mono fun _ _ ⟨x, h1, h2, h3⟩ => ⟨x, h1, h2, hs.new.trans h3⟩) hg hd h
end writes
section codes
variable {c c1 c2 : Code}
theorem TC.seq (h : TC P n w0 c1 (Exit.then (c2.wp P Q) Q) E G) : TC P n w0 (.seq c1 c2) Q E G := fun a w hs => wp_seq (h a w hs)
theorem TC.region {id : Nat} {l : List Oper} (h : TL P n w0 l.toArray Q l E G) : TC P n w0 (.region id l.toArray false) Q E G := fun a w hs => wp_region_lit (h a w hs)
theorem TC.block {id : Nat} (h : TC P n w0 c (Exit.inBlock id Q) E G) : TC P n w0 (.block id c) Q E G := fun a w hs => wp_block (h a w hs)
theorem TC.skip (h : TQ n w0 (Q .normal) E G) : TC P n w0 .skip Q E G := fun a w hs => wp_skip (h a w hs)
theorem TC.ret (h : TQ n w0 (Q .ret) E G) : TC P n w0 .ret Q E G := fun a w hs => wp_ret (h a w hs)
theorem TC.exit {id : Nat} (h : TQ n w0 (Q (.exit id)) E G) : TC P n w0 (.exit id) Q E G := fun a w hs => wp_exit (h a w hs)
theorem TC.cond {x : Operand} {b : Bool} (hx : evo E x = some (.bool b)) (ht : b = true → TC P n w0 c1 Q E G) (hf : b = false → TC P n w0 c2 Q E G) : TC P n w0 (.cond x c1 c2) Q E G :=
  fun a w hs => wp_cond_split (hs.ev hx) (fun h => ht h a w hs) (fun h => hf h a w hs)
theorem TC.condD {x : Operand} {p : Prop} [Decidable p] (hx : evo E x = some (.bool (decide p))) (ht : p → TC P n w0 c1 Q E G) (hf : ¬ p → TC P n w0 c2 Q E G) : TC P n w0 (.cond x c1 c2) Q E G :=
  TC.cond hx (fun h => ht (of_decide_eq_true h)) (fun h => hf (of_decide_eq_false h))
theorem TC.condT {x : Operand} (hx : evo E x = some (.bool true)) (ht : TC P n w0 c1 Q E G) : TC P n w0 (.cond x c1 c2) Q E G :=
  TC.cond hx (fun _ => ht) (fun h => by cases h)
theorem TC.condF {x : Operand} (hx : evo E x = some (.bool false)) (hf : TC P n w0 c2 Q E G) : TC P n w0 (.cond x c1 c2) Q E G :=
  TC.cond hx (fun h => by cases h) (fun _ => hf)
variable {K : Act → World → Prop}
theorem TQ.thenN (h : TQ n w0 K E G) : TQ n w0 (Exit.then K Q .normal) E G := h
theorem TQ.thenC (h : TC P n w0 c Q E G) : TQ n w0 (Exit.then (c.wp P Q) Q .normal) E G := h
theorem TQ.thenR (h : TQ n w0 (Q .ret) E G) : TQ n w0 (Exit.then K Q .ret) E G := h
theorem TQ.thenE {i : Nat} (h : TQ n w0 (Q (.exit i)) E G) : TQ n w0 (Exit.then K Q (.exit i)) E G := h
theorem TQ.blkN {i : Nat} (h : TQ n w0 (Q .normal) E G) : TQ n w0 (Exit.inBlock i Q .normal) E G := h
theorem TQ.blkR {i : Nat} (h : TQ n w0 (Q .ret) E G) : TQ n w0 (Exit.inBlock i Q .ret) E G := h
theorem TQ.blkS {i : Nat} (h : TQ n w0 (Q .normal) E G) : TQ n w0 (Exit.inBlock i Q (.exit i)) E G := by
  intro a w hs; simp only [Exit.inBlock, if_true]; exact h a w hs
theorem TQ.blkE {i j : Nat} (hij : j ≠ i) (h : TQ n w0 (Q (.exit j)) E G) : TQ n w0 (Exit.inBlock i Q (.exit j)) E G := by
  intro a w hs; simp only [Exit.inBlock, if_neg hij]; exact h a w hs
def Le : Env → Env → Prop
  | [], _ => True
  | (k, v) :: r, E => look k E = some v ∧ Le r E
theorem Le.le : ∀ {E' : Env}, Le E' E → ∀ k v, look k E' = some v → look k E = some v
  | [], _, k, v, hk => by simp [look_nil, look_cons] at hk
  | (j, u) :: r, h, k, v, hk => by
    simp only [look_cons] at hk
    cases hb : Nat.beq j k with
    | true =>
      rw [hb] at hk
      simp at hk
      have := Nat.eq_of_beq_eq_true hb
      subst this; subst hk
      exact h.1
    | false =>
      rw [hb] at hk
      exact Le.le h.2 k v hk
def Mid {X : Type} (n : Nat) (w0 : World) (F : X → Prop) (M : X → Env) (D : X → Heap) (a : Act) (w : World) : Prop := ∃ x, F x ∧ S n w0 (M x) (D x) a w
theorem TQ.mid {X : Type} {F : X → Prop} {M : X → Env} {D : X → Heap} (x : X) (hF : F x) (he : Le (M x) E) (hg : List.Sublist (D x) G) : TQ n w0 (Mid n w0 F M D) E G :=
  fun _ _ hs => ⟨x, hF, hs.size, hs.defers, (hs.env_le he.le).env, hs.new.sub hg⟩
theorem TC.seqMid {X : Type} (F : X → Prop) (M : X → Env) (D : X → Heap) (h1 : TC P n w0 c1 (Exit.then (Mid n w0 F M D) Q) E G) (h2 : ∀ x, F x → TC P n w0 c2 Q (M x) (D x)) : TC P n w0 (.seq c1 c2) Q E G :=
  fun a w hs => wp_seq (wp_mono (h1 a w hs) fun e a' w' h => by
    cases e <;> first | exact h | (obtain ⟨x, hF, hs'⟩ := h; exact h2 x hF a' w' hs'))
def Back {X : Type} (n : Nat) (w0 : World) (F : X → Prop) (M : X → Env) (D : X → Heap) (m : X → Nat) (k : Nat) (a : Act) (w : World) : Prop := ∃ x, F x ∧ m x < k ∧ S n w0 (M x) (D x) a w
theorem TQ.back {X : Type} {F : X → Prop} {M : X → Env} {D : X → Heap} {m : X → Nat} {k : Nat} (x : X) (hF : F x) (hm : m x < k) (he : ∀ k v, look k (M x) = some v → look k E = some v) (hg : List.Sublist (D x) G) : TQ n w0 (Back n w0 F M D m k) E G :=
  fun _ _ hs => ⟨x, hF, hm, hs.size, hs.defers, (hs.env_le he).env, hs.new.sub hg⟩
theorem TC.loop {X : Type} (F : X → Prop) (M : X → Env) (D : X → Heap) (m : X → Nat) (x0 : X) (h0 : F x0) (he : ∀ k v, look k (M x0) = some v → look k E = some v) (hg : List.Sublist (D x0) G)
    (hb : ∀ x, F x → TC P n w0 c (Exit.then (Back n w0 F M D m (m x)) Q) (M x) (D x)) : TC P n w0 (.loop c) Q E G := by
  intro a w hs
  let I : Act → World → Prop := Mid n w0 F M D
  let R : Act → World → Nat → Prop := fun a w k => ∃ x, F x ∧ m x ≤ k ∧ S n w0 (M x) (D x) a w
  have hmin : ∀ a w, I a w → ∃ k, R a w k ∧ ∀ j, R a w j → k ≤ j := by
    intro a w ⟨x, hF, hS⟩
    have : ∀ N, (∃ k, k ≤ N ∧ R a w k) → ∃ k, R a w k ∧ ∀ j, R a w j → k ≤ j := by
      intro N
      induction N with
      | zero => rintro ⟨k, hk, hR⟩; exact ⟨k, hR, fun j _ => by omega⟩
      | succ N ih =>
        rintro ⟨k, hk, hR⟩
        by_cases h : ∃ k, k ≤ N ∧ R a w k
        · exact ih h
        · refine ⟨k, hR, fun j hj => ?_⟩
          by_cases hjk : k ≤ j
          · exact hjk
          · exact absurd ⟨j, by omega, hj⟩ h
    exact this (m x) ⟨m x, Nat.le_refl _, x, hF, Nat.le_refl _, hS⟩
  let mu : Act → World → Nat := fun a w => open Classical in if h : I a w then Classical.choose (hmin a w h) else 0
  have hmu : ∀ a w (h : I a w), R a w (mu a w) ∧ ∀ j, R a w j → mu a w ≤ j := by
    intro a w h
    have := Classical.choose_spec (hmin a w h)
    simp only [mu, dif_pos h]
    exact this
  refine wp_loop I mu ⟨x0, h0, hs.size, hs.defers, (hs.env_le he).env, hs.new.sub hg⟩ ?_
  intro a w hI
  obtain ⟨⟨x, hF, hx, hS⟩, _⟩ := hmu a w hI
  refine wp_mono (hb x hF a w hS) fun e a' w' h => ?_
  cases e <;> first | exact h | skip
  obtain ⟨y, hFy, hy, hSy⟩ := h
  have hIy : I a' w' := ⟨y, hFy, hSy⟩
  refine ⟨hIy, ?_⟩
  have := (hmu a' w' hIy).2 (m y) ⟨y, hFy, Nat.le_refl _, hSy⟩
  omega
theorem calls_sx {f : FuncId} {fn : Func} {args : Array Value} {R : Ending → World → Prop} {E : Env} (hf : P.funcs[f]? = some fn) (hb : fn.body = some c)
    (hE : ∀ k v, look k E = some v → (args ++ Array.replicate (fn.ntmps - args.size) undef)[k]? = some v) (hn : args.size + (fn.ntmps - args.size) = n)
    (h : TC P n w0 c (bodyPost P fn R) E []) : Calls P f args w0 R :=
  calls_of_wp hf hb (h _ _ ⟨by simp [hn], rfl, hE, New.refl _⟩)
def args (k : Nat) : List Value → Env
  | [] => []
  | v :: r => (k, v) :: args (k + 1) r
theorem look_args : ∀ (l : List Value) (k j : Nat) (v : Value), look j (args k l) = some v → k ≤ j ∧ l[j - k]? = some v
  | [], k, j, v, h => by simp [args, look_nil, look_cons] at h
  | u :: r, k, j, v, h => by
    simp only [args, look_nil, look_cons] at h
    cases hb : Nat.beq k j with
    | true =>
      rw [hb] at h
      simp at h
      have := Nat.eq_of_beq_eq_true hb
      subst this
      simp [h]
    | false =>
      rw [hb] at h
      have h1 := look_args r (k + 1) j v h
      refine ⟨by omega, ?_⟩
      have : j - k = (j - (k + 1)) + 1 := by omega
      rw [this]
      simpa using h1.2
def pick : List Nat → Env → Env
  | [], _ => []
  | k :: r, E => match look k E with
    | some v => (k, v) :: pick r E
    | none => pick r E
theorem pick_le : ∀ {ks : List Nat} {k : Nat} {v : Value}, look k (pick ks E) = some v → look k E = some v
  | [], k, v, h => by simp [pick, look_nil] at h
  | j :: r, k, v, h => by
    simp only [pick] at h
    cases hj : look j E with
    | none => rw [hj] at h; exact pick_le h
    | some u =>
      rw [hj] at h
      simp only [look_cons] at h
      cases hb : Nat.beq j k with
      | true => rw [hb] at h; simp at h; have := Nat.eq_of_beq_eq_true hb; subst this; rw [hj, h]
      | false => rw [hb] at h; exact pick_le h
theorem Le.append : ∀ {A B : Env}, Le A E → (∀ k v, look k B = some v → look k E = some v) → ∀ k v, look k (A ++ B) = some v → look k E = some v := by
  intro A B hA hB k v h
  have : look k A = some v ∨ look k B = some v := by
    clear hA hB
    induction A with
    | nil => exact .inr h
    | cons p r ih =>
      simp only [List.cons_append, look_cons] at h ⊢
      cases hb : Nat.beq p.1 k with
      | true => rw [hb] at h; exact .inl h
      | false => rw [hb] at h; exact ih h
  rcases this with h | h
  · exact hA.le k v h
  · exact hB k v h
def Same : List Nat → Env → Env → Prop
  | [], _, _ => True
  | k :: r, E, E' => look k E = look k E' ∧ Same r E E'
theorem pick_same : ∀ {ks : List Nat} {E' : Env} {k : Nat} {v : Value}, Same ks E E' → look k (pick ks E) = some v → look k E' = some v
  | [], _, k, v, _, h => by simp [pick, look_nil] at h
  | j :: r, E', k, v, hS, h => by
    simp only [pick] at h
    cases hj : look j E with
    | none => rw [hj] at h; exact pick_same hS.2 h
    | some u =>
      rw [hj] at h
      simp only [look_cons] at h
      cases hb : Nat.beq j k with
      | true => rw [hb] at h; simp at h; have := Nat.eq_of_beq_eq_true hb; subst this; rw [← hS.1, hj, h]
      | false => rw [hb] at h; exact pick_same hS.2 h
theorem TC.loopK (keep : List Nat) {X : Type} (F : X → Prop) (U : X → Env) (D : X → Heap) (m : X → Nat) (x0 : X) (h0 : F x0) (he : Le (U x0) E) (hg : List.Sublist (D x0) G)
    (hb : ∀ x, F x → TC P n w0 c (Exit.then (Back n w0 F (fun x => U x ++ pick keep E) D m (m x)) Q) (U x ++ pick keep E) (D x)) : TC P n w0 (.loop c) Q E G :=
  TC.loop F (fun x => U x ++ pick keep E) D m x0 h0 (Le.append he fun k v h => pick_le h) hg hb
theorem TC.loopG (keep : List Nat) {X : Type} (F : X → Prop) (U : X → Env) (m : X → Nat) (x0 : X) (h0 : F x0) (he : Le (U x0) E)
    (hb : ∀ x, F x → TC P n w0 c (Exit.then (Back n w0 F (fun x => U x ++ pick keep E) (fun _ => G) m (m x)) Q) (U x ++ pick keep E) G) : TC P n w0 (.loop c) Q E G :=
  TC.loopK keep F U (fun _ => G) m x0 h0 he (List.Sublist.refl _) hb
theorem TQ.backK {keep : List Nat} {X : Type} {F : X → Prop} {U : X → Env} {D : X → Heap} {m : X → Nat} {k : Nat} {E0 : Env} (x : X) (he : Le (U x) E) (hsame : Same keep E0 E) (hg : List.Sublist (D x) G) (hF : F x) (hm : m x < k) :
    TQ n w0 (Back n w0 F (fun x => U x ++ pick keep E0) D m k) E G :=
  TQ.back x hF hm (Le.append he fun _ _ h => pick_same hsame h) hg
theorem TC.seqK (keep : List Nat) {X : Type} (F : X → Prop) (U : X → Env) (D : X → Heap) (h1 : TC P n w0 c1 (Exit.then (Mid n w0 F (fun x => U x ++ pick keep E) D) Q) E G)
    (h2 : ∀ x, F x → TC P n w0 c2 Q (U x ++ pick keep E) (D x)) : TC P n w0 (.seq c1 c2) Q E G :=
  TC.seqMid F (fun x => U x ++ pick keep E) D h1 h2
theorem TQ.midK {keep : List Nat} {X : Type} {F : X → Prop} {U : X → Env} {D : X → Heap} {E0 : Env} (x : X) (he : Le (U x) E) (hsame : Same keep E0 E) (hg : List.Sublist (D x) G) (hF : F x) :
    TQ n w0 (Mid n w0 F (fun x => U x ++ pick keep E0) D) E G :=
  fun _ _ hs => ⟨x, hF, hs.size, hs.defers, (hs.env_le (Le.append he fun _ _ h => pick_same hsame h)).env, hs.new.sub hg⟩
theorem calls {f : FuncId} {fn : Func} {vs : List Value} {R : Ending → World → Prop} (hf : P.funcs[f]? = some fn) (hb : fn.body = some c) (hn : fn.ntmps = n) (hl : vs.length ≤ n)
    (h : TC P n w0 c (bodyPost P fn R) (args 0 vs) []) : Calls P f vs.toArray w0 R :=
  calls_sx hf hb (fun k v hk => by
    have := (look_args vs 0 k v hk).2
    simp only [Nat.sub_zero] at this
    rw [Array.getElem?_append_left (by have := (List.getElem?_eq_some_iff.1 this).1; simpa using this)]
    simpa using this) (by simp; omega) h
theorem TQ.ret1 {fn : Func} {t : Nat} {v : Value} {X : Type} {val : X → Value} {F : X → Prop} {D : X → Heap} (hr : fn.results = #[.tmp t]) (hv : look t E = some v) (x : X) (hx : v = val x) (hF : F x) (hg : List.Sublist (D x) G) :
    TQ n w0 (bodyPost P fn (Post val F D w0) .ret) E G := fun a w hs =>
  bodyPost_ret (results_tmp hr _ _ _) hs.defers ⟨x, by rw [← hx]; simp [Array.getD_eq_getD_getElem?, hs.env t v hv], hF, hs.new.sub hg⟩
theorem TQ.ret2 {fn : Func} {t u : Nat} {v1 v2 : Value} {X : Type} {val : X → Value} {F : X → Prop} {D : X → Heap} (hr : fn.results = #[.tmp t, .tmp u]) (hv : look t E = some v1) (hv2 : look u E = some v2) (x : X)
    (hx : .tuple #[v1, v2] = val x) (hF : F x) (hg : List.Sublist (D x) G) :
    TQ n w0 (bodyPost P fn (Post val F D w0) .ret) E G := fun a w hs =>
  bodyPost_ret (results_tmp2 hr _ _ _) hs.defers ⟨x, by rw [← hx]; simp [Array.getD_eq_getD_getElem?, hs.env t v1 hv, hs.env u v2 hv2], hF, hs.new.sub hg⟩
theorem TQ.retE1 {fn : Func} {t : Nat} {v : Value} {X : Type} {val : X → Value} {F : X → Prop} {D : X → Heap} (hr : fn.results = #[.tmp t]) (hv : look t E = some v)
    (h : ∃ x, v = val x ∧ F x ∧ List.Sublist (D x) G) : TQ n w0 (bodyPost P fn (Post val F D w0) .ret) E G :=
  let ⟨x, hx, hF, hg⟩ := h; TQ.ret1 hr hv x hx hF hg
theorem TQ.retE2 {fn : Func} {t u : Nat} {v1 v2 : Value} {X : Type} {val : X → Value} {F : X → Prop} {D : X → Heap} (hr : fn.results = #[.tmp t, .tmp u]) (hv : look t E = some v1) (hv2 : look u E = some v2)
    (h : ∃ x, .tuple #[v1, v2] = val x ∧ F x ∧ List.Sublist (D x) G) : TQ n w0 (bodyPost P fn (Post val F D w0) .ret) E G :=
  let ⟨x, hx, hF, hg⟩ := h; TQ.ret2 hr hv hv2 x hx hF hg
theorem TQ.retE3 {fn : Func} {t u s : Nat} {v1 v2 v3 : Value} {X : Type} {val : X → Value} {F : X → Prop} {D : X → Heap} (hr : fn.results = #[.tmp t, .tmp u, .tmp s]) (hv : look t E = some v1) (hv2 : look u E = some v2)
    (hv3 : look s E = some v3) (h : ∃ x, .tuple #[v1, v2, v3] = val x ∧ F x ∧ List.Sublist (D x) G) : TQ n w0 (bodyPost P fn (Post val F D w0) .ret) E G :=
  let ⟨x, hx, hF, hg⟩ := h
  fun a w hs => bodyPost_ret (v := .tuple #[v1, v2, v3]) (by simp [results, hr, hs.env t v1 hv, hs.env u v2 hv2, hs.env s v3 hv3, Array.getD_eq_getD_getElem?]) hs.defers ⟨x, by rw [← hx], hF, hs.new.sub hg⟩
end codes
section still
def TS (P : Program) (n : Nat) (w0 : World) (ops : Array Oper) (Q : Exit → Act → World → Prop) (tl : List Oper) (l : List Oper) (E : Env) (G : Heap) : Prop :=
  ∀ a w, S n w0 E G a w → wpStill P ops w (fun a' => wpList P ops Q tl a' w) l a
variable {tl : List Oper}
theorem TS.nil (h : TL P n w0 ops Q tl E G) : TS P n w0 ops Q tl [] E G := fun a w hs => wpStill_nil (h a w hs)
theorem TS.pure {d : Nat} {op : Op} {ty : TypeId} {pos : String} {aft : Array Edge} {g : Option (Nat × Bool)} {v : Value}
    (hp : PV P n w0 E G ⟨some d, op, ty, pos, aft, g⟩ v) (hg : wants ops E g = some true) (hd : d < n) (h : TS P n w0 ops Q tl l ((d, v) :: E) G) :
    TS P n w0 ops Q tl (⟨some d, op, ty, pos, aft, g⟩ :: l) E G := by
  intro a w hs
  unfold wpStill
  rw [if_pos (hs.wants hg)]
  unfold Oper.still
  rw [hp a w hs, Oper.stillUpon_value]
  exact h _ _ (hs.put hd v)
theorem TC.draw {id : Nat} {l : List Oper} (k : Nat) (hm : P.follows .mixedOrders = true) (hB : Region.lexTailB .any l.toArray k = true) (h : TS P n w0 l.toArray Q (l.drop k) (l.take k) E G) :
    TC P n w0 (.region id l.toArray true) Q E G := fun a w hs =>
  wp_region_still_tail k hm hB (h a _ (hs.world hs.new.drew))
end still
section anyOrder
def OpOK (P : Program) (n : Nat) (w0 : World) (ops : Array Oper) (Q : Exit → Act → World → Prop) (G : Heap) (F : Env) (o : Oper) (d : Nat) (v : Value) : Prop :=
  ∀ F', (∀ k u, look k F = some u → look k F' = some u) → ∀ a w, S n w0 F' G a w →
    if Region.wanted o (yielded ops a.tmps) then o.wp P a w (fun a' w' => S n w0 ((d, v) :: F') G a' w') Q else v = undef
theorem OpOK.pure {d : Nat} {op : Op} {ty : TypeId} {pos : String} {aft : Array Edge} {g : Option (Nat × Bool)} {v : Value}
    (hp : PV P n w0 E G ⟨some d, op, ty, pos, aft, g⟩ v) (hg : wants ops E g = some true) (hd : d < n) : OpOK P n w0 ops Q G E ⟨some d, op, ty, pos, aft, g⟩ d v := by
  intro F' hF a w hs
  have hs' := hs.env_le hF
  rw [if_pos (hs'.wants hg)]
  unfold Oper.wp
  rw [hp a w hs']
  exact hs.put hd v
theorem OpOK.skip {d : Nat} {op : Op} {ty : TypeId} {pos : String} {aft : Array Edge} {g : Option (Nat × Bool)} (hg : wants ops E g = some false) :
    OpOK P n w0 ops Q G E ⟨some d, op, ty, pos, aft, g⟩ d undef := by
  intro F' hF a w hs
  have := (hs.env_le hF).wants (o := ⟨some d, op, ty, pos, aft, g⟩) hg
  rw [if_neg (by simp [this])]
theorem OpOK.call {d : Nat} {ty : TypeId} {pos : String} {aft : Array Edge} {g : Option (Nat × Bool)} {f : FuncId} {xs : List Operand} {ats : Array TypeId} {vs : List Value} {v : Value} {F : Unit → Prop}
    (hx : evs E xs = some vs) (hfn : goFn P f = true) (hc : ∀ a w, S n w0 E G a w → Calls P f vs.toArray w (Post (fun _ : Unit => v) F (fun _ => []) w)) (hg : wants ops E g = some true) (hd : d < n) :
    OpOK P n w0 ops Q G E ⟨some d, .call { callee := .value (.func f), args := xs.toArray, argTypes := ats }, ty, pos, aft, g⟩ d v := by
  intro F' hF a w hs
  have hs' := hs.env_le hF
  rw [if_pos (hs'.wants hg)]
  have hm := hs'.evs hx
  have hr : (execOp a.eval ⟨some d, .call { callee := .value (.func f), args := xs.toArray, argTypes := ats }, ty, pos, aft, g⟩).run P w = .ok (.enter f vs.toArray) w := by
    simp only [execOp, resolve, List.map_toArray, hm]
    show ((callFunc f (#[] ++ vs.toArray ++ #[])).run P w) = _
    rw [run_goFn hfn]; simp
  unfold Oper.wp
  rw [hr]
  refine (hc a w hs').mono ?_
  rintro e w' ⟨_, rfl, _, hN⟩
  exact (hs.world (hs.new.trans hN)).put hd v
def dstsL : List Oper → List Nat
  | [] => []
  | o :: r => match o.dst with
    | some d => d :: dstsL r
    | none => dstsL r
def depB (l0 : List Oper) (B : Env) : List Edge → Env
  | [] => []
  | e :: r => match Region.binds .any e with
    | false => depB l0 B r
    | true => match l0[e.on]? with
      | none => depB l0 B r
      | some o => match o.dst with
        | none => depB l0 B r
        | some d => match look d B with
          | none => depB l0 B r
          | some v => (d, v) :: depB l0 B r
def hide (ds : List Nat) : Env → Env
  | [] => []
  | p :: r => match ds.contains p.1 with
    | true => hide ds r
    | false => p :: hide ds r
theorem look_hide {ds : List Nat} : ∀ {E : Env} {k : Nat} {v : Value}, look k (hide ds E) = some v → ds.contains k = false ∧ look k E = some v
  | [], k, v, h => by simp [hide, look_nil] at h
  | p :: r, k, v, h => by
    simp only [hide] at h
    cases hc : ds.contains p.1 with
    | true =>
      rw [hc] at h
      have := look_hide (E := r) h
      refine ⟨this.1, ?_⟩
      simp only [look_cons]
      cases hb : Nat.beq p.1 k with
      | true => have e := Nat.eq_of_beq_eq_true hb; rw [e] at hc; rw [hc] at this; exact absurd this.1 (by simp)
      | false => exact this.2
    | false =>
      rw [hc] at h
      simp only [look_cons] at h ⊢
      cases hb : Nat.beq p.1 k with
      | true => rw [hb] at h; exact ⟨by rw [← Nat.eq_of_beq_eq_true hb]; exact hc, h⟩
      | false => rw [hb] at h; exact look_hide (E := r) h
def TA (P : Program) (n : Nat) (w0 : World) (l0 : List Oper) (Q : Exit → Act → World → Prop) (E0 : Env) (G : Heap) : List Oper → Env → Prop
  | [], B => TQ n w0 (Q .normal) (B ++ E0) G
  | o :: rest, B => ∃ d v, o.dst = some d ∧ d < n ∧ OpOK P n w0 l0.toArray Q G (depB l0 B o.after.toList ++ E0) o d v ∧ TA P n w0 l0 Q E0 G rest ((d, v) :: B)
theorem look_depB {l0 : List Oper} {B : Env} {k : Nat} {u : Value} : ∀ {es : List Edge}, look k (depB l0 B es) = some u →
    ∃ e ∈ es, Region.binds .any e = true ∧ ∃ o, l0[e.on]? = some o ∧ o.dst = some k ∧ look k B = some u
  | [], h => by simp [depB, look_nil] at h
  | e :: r, h => by
    have next : look k (depB l0 B r) = some u → ∃ e' ∈ e :: r, Region.binds .any e' = true ∧ ∃ o, l0[e'.on]? = some o ∧ o.dst = some k ∧ look k B = some u := by
      intro h
      obtain ⟨e', he', x⟩ := look_depB h
      exact ⟨e', .tail _ he', x⟩
    simp only [depB] at h
    cases hb : Region.binds .any e with
    | false => rw [hb] at h; exact next h
    | true =>
      rw [hb] at h
      dsimp only at h
      cases ho : l0[e.on]? with
      | none => rw [ho] at h; exact next h
      | some o =>
        rw [ho] at h
        dsimp only at h
        cases hd : o.dst with
        | none => rw [hd] at h; exact next h
        | some d =>
          rw [hd] at h
          dsimp only at h
          cases hl : look d B with
          | none => rw [hl] at h; exact next h
          | some v =>
            rw [hl] at h
            simp only [look_cons] at h
            cases hk : Nat.beq d k with
            | false => rw [hk] at h; exact next h
            | true =>
              rw [hk] at h
              have := Nat.eq_of_beq_eq_true hk
              subst this
              simp at h
              subst h
              exact ⟨e, .head _, hb, o, ho, hd, hl⟩
theorem TA.parts {l0 : List Oper} {E0 : Env} : ∀ (rest : List Oper) (B : Env), TA P n w0 l0 Q E0 G rest B →
    ∃ ps : List (Nat × Value), ps.length = rest.length ∧
      (∀ (i : Nat) (o : Oper) (p : Nat × Value), rest[i]? = some o → ps[i]? = some p → o.dst = some p.1 ∧ p.1 < n ∧ OpOK P n w0 l0.toArray Q G (depB l0 ((ps.take i).reverse ++ B) o.after.toList ++ E0) o p.1 p.2) ∧
      TQ n w0 (Q .normal) (ps.reverse ++ B ++ E0) G
  | [], B, h => ⟨[], rfl, by simp, by simpa [TA] using h⟩
  | o :: rest, B, h => by
    obtain ⟨d, v, h1, h2, h3, h4⟩ := h
    obtain ⟨ps, hl, hp, hq⟩ := TA.parts rest _ h4
    refine ⟨(d, v) :: ps, by simp [hl], ?_, by simpa using hq⟩
    intro i o' p ho hpi
    cases i with
    | zero =>
      simp at ho hpi
      subst ho; subst hpi
      exact ⟨h1, h2, by simpa using h3⟩
    | succ i =>
      simp at ho hpi
      have := hp i o' p ho hpi
      simpa using this
theorem depB_congr {l0 : List Oper} {B B' : Env} (h : ∀ k, look k B = look k B') : ∀ (es : List Edge), depB l0 B es = depB l0 B' es
  | [] => rfl
  | e :: r => by
    simp only [depB, depB_congr h r, h]
theorem look_append_congr {B B' E0 : Env} (h : ∀ k, look k B = look k B') (k : Nat) : look k (B ++ E0) = look k (B' ++ E0) := by
  have aux : ∀ (A : Env), look k (A ++ E0) = match look k A with | some v => some v | none => look k E0 := by
    intro A
    induction A with
    | nil => rfl
    | cons p r ih =>
      simp only [List.cons_append, look_cons]
      cases Nat.beq p.1 k <;> simp [ih]
  rw [aux, aux, h]
theorem TA.congr {l0 : List Oper} {E0 : Env} : ∀ (l : List Oper) {B B' : Env}, (∀ k, look k B = look k B') → TA P n w0 l0 Q E0 G l B → TA P n w0 l0 Q E0 G l B'
  | [], B, B', h, ht => fun a w hs => ht a w (hs.env_le fun k v hk => by rw [← look_append_congr h]; exact hk)
  | o :: r, B, B', h, ⟨d, v, h1, h2, h3, h4⟩ => ⟨d, v, h1, h2, by rw [← depB_congr h]; exact h3, TA.congr r (fun k => by simp only [look_cons, h]) h4⟩
theorem TA.split {l0 : List Oper} {E0 : Env} {l : List Oper} {B : Env} (s : Nat) {b : Bool} (hs : look s B = some (.bool b)) (ht : b = true → TA P n w0 l0 Q E0 G l ((s, .bool true) :: B))
    (hf : b = false → TA P n w0 l0 Q E0 G l ((s, .bool false) :: B)) : TA P n w0 l0 Q E0 G l B := by
  have aux : ∀ c : Bool, b = c → ∀ k, look k ((s, .bool c) :: B) = look k B := by
    intro c hc k
    simp only [look_cons]
    cases e : Nat.beq s k with
    | false => rfl
    | true => have := Nat.eq_of_beq_eq_true e; subst this; rw [hs, hc]
  cases b with
  | true => exact TA.congr l (aux true rfl) (ht rfl)
  | false => exact TA.congr l (aux false rfl) (hf rfl)
theorem TA.splitD {l0 : List Oper} {E0 : Env} {l : List Oper} {B : Env} (s : Nat) {p : Prop} [Decidable p] (hs : look s B = some (.bool (decide p))) (ht : p → TA P n w0 l0 Q E0 G l ((s, .bool true) :: B))
    (hf : ¬ p → TA P n w0 l0 Q E0 G l ((s, .bool false) :: B)) : TA P n w0 l0 Q E0 G l B :=
  TA.split s hs (fun h => ht (of_decide_eq_true h)) (fun h => hf (of_decide_eq_false h))
theorem TA.op {l0 : List Oper} {E0 : Env} {l : List Oper} {B : Env} {d : Nat} {v : Value} {op : Op} {ty : TypeId} {pos : String} {aft : Array Edge} {g : Option (Nat × Bool)}
    (ho : OpOK P n w0 l0.toArray Q G (depB l0 B aft.toList ++ E0) ⟨some d, op, ty, pos, aft, g⟩ d v) (hd : d < n) (h : TA P n w0 l0 Q E0 G l ((d, v) :: B)) :
    TA P n w0 l0 Q E0 G (⟨some d, op, ty, pos, aft, g⟩ :: l) B := ⟨d, v, rfl, hd, ho, h⟩
theorem look_mem : ∀ {B : Env} {k : Nat} {v : Value}, look k B = some v → (k, v) ∈ B
  | [], k, v, h => by simp [look_nil, look_cons] at h
  | p :: r, k, v, h => by
    simp only [look_cons] at h
    cases hb : Nat.beq p.1 k with
    | true => rw [hb] at h; simp at h; have := Nat.eq_of_beq_eq_true hb; subst this; subst h; exact .head _
    | false => rw [hb] at h; exact .tail _ (look_mem h)
theorem look_append {A B : Env} {k : Nat} {v : Value} (h : look k (A ++ B) = some v) : look k A = some v ∨ look k B = some v := by
  induction A with
  | nil => exact .inr h
  | cons p r ih =>
    simp only [List.cons_append, look_cons] at h ⊢
    cases hb : Nat.beq p.1 k with
    | true => rw [hb] at h; exact .inl h
    | false => rw [hb] at h; exact ih h
def edgesB (l0 : List Oper) : Nat → List Oper → Bool
  | _, [] => true
  | i, o :: r => o.after.toList.all (fun e => !Region.binds .any e || decide (e.on < i)) && edgesB l0 (i + 1) r
theorem edgesB_spec {l0 : List Oper} : ∀ {r : List Oper} {k : Nat}, edgesB l0 k r = true → ∀ i o, r[i]? = some o → ∀ e ∈ o.after, Region.binds .any e = true → e.on < k + i
  | [], k, h, i, o, ho, e, he, hb => by simp at ho
  | o' :: r, k, h, i, o, ho, e, he, hb => by
    simp only [edgesB, Bool.and_eq_true, List.all_eq_true] at h
    cases i with
    | zero =>
      simp at ho
      subst ho
      have := h.1 e (by simpa using he)
      simp [hb] at this
      omega
    | succ i =>
      simp at ho
      have := edgesB_spec h.2 i o ho e he hb
      omega
def nodupB : List Nat → Bool
  | [] => true
  | a :: r => !r.contains a && nodupB r
theorem nodupB_spec : ∀ {l : List Nat}, nodupB l = true → l.Nodup
  | [], _ => .nil
  | a :: r, h => by
    simp only [nodupB, Bool.and_eq_true, Bool.not_eq_true'] at h
    refine List.nodup_cons.2 ⟨fun hm => ?_, nodupB_spec h.2⟩
    have := List.contains_iff_mem.2 hm
    rw [this] at h
    exact absurd h.1 (by simp)
theorem dstsL_eq : ∀ {l : List Oper} {ps : List (Nat × Value)}, ps.length = l.length → (∀ (i : Nat) (o : Oper) (p : Nat × Value), l[i]? = some o → ps[i]? = some p → o.dst = some p.1) → dstsL l = ps.map (·.1)
  | [], [], _, _ => rfl
  | [], _ :: _, h, _ => by simp at h
  | _ :: _, [], h, _ => by simp at h
  | o :: l, p :: ps, h, hd => by
    have h0 := hd 0 o p rfl rfl
    simp only [dstsL, h0, List.map_cons]
    rw [dstsL_eq (by simpa using h) (fun i o p ho hp => hd (i + 1) o p (by simpa using ho) (by simpa using hp))]
theorem TC.any {id : Nat} {l : List Oper} (hm : P.follows .mixedOrders = true) (hnd : nodupB (dstsL l) = true) (hed : edgesB l 0 l = true)
    (h : TA P n w0 l Q (hide (dstsL l) E) G l []) : TC P n w0 (.region id l.toArray true) Q E G := by
  intro a w hs
  obtain ⟨ps, hlen, hop, hq⟩ := TA.parts l [] h
  have hds : dstsL l = ps.map (·.1) := dstsL_eq hlen (fun i o p ho hp => (hop i o p ho hp).1)
  have hnod : (ps.map (·.1)).Nodup := by rw [← hds]; exact nodupB_spec hnd
  have huniq : ∀ (i j : Nat) (p q : Nat × Value), ps[i]? = some p → ps[j]? = some q → p.1 = q.1 → i = j := by
    intro i j p q hp hq' e
    have hi : (ps.map (·.1))[i]? = some p.1 := by simp [hp]
    have hj : (ps.map (·.1))[j]? = some p.1 := by simp [hq', e]
    have hil : i < (ps.map (·.1)).length := (List.getElem?_eq_some_iff.1 hi).1
    exact (List.getElem?_inj hil hnod).1 (hi.trans hj.symm)
  generalize hE0 : hide (dstsL l) E = E0 at *
  have hE0le : ∀ k u, look k E0 = some u → look k E = some u ∧ (ps.map (·.1)).contains k = false := by
    intro k u hk
    rw [← hE0] at hk
    have := look_hide hk
    rw [hds] at this
    exact ⟨this.2, this.1⟩
  have hdsK : ∀ (i : Nat) (p : Nat × Value) (k : Nat) (u : Value), ps[i]? = some p → look k E0 = some u → p.1 ≠ k := by
    intro i p k u hp hk e
    have h1 := (hE0le k u hk).2
    have h2 : k ∈ ps.map (·.1) := e ▸ List.mem_map.2 ⟨p, List.mem_of_getElem? hp, rfl⟩
    rw [List.contains_iff_mem.2 h2] at h1
    cases h1
  have hsz : l.toArray.size = ps.length := by simp [hlen]
  have key : ∀ (fuel : Nat) (listed : Array Bool) (F : Env) (a : Act) (w : World), listed.size = ps.length → listed.toList.count false ≤ fuel → S n w0 F G a w →
      (∀ (i : Nat) (p : Nat × Value), ps[i]? = some p → listed.getD i false = true → look p.1 F = some p.2) → (∀ k u, look k E0 = some u → look k F = some u) → wpAny P .any l.toArray Q fuel listed a w := by
    intro fuel
    have hdone : ∀ (listed : Array Bool) (F : Env) (a : Act) (w : World), listed.size = ps.length → Region.ready .any l.toArray listed = [] → S n w0 F G a w →
        (∀ (i : Nat) (p : Nat × Value), ps[i]? = some p → listed.getD i false = true → look p.1 F = some p.2) → (∀ k u, look k E0 = some u → look k F = some u) → Q .normal a w := by
      intro listed F a w hls hr hS hF1 hF2
      have hall : ∀ i, i < ps.length → listed.getD i false = true := by
        intro i
        induction i using Nat.strongRecOn with
        | _ i ih =>
          intro hi
          cases hli : listed.getD i false with
          | true => rfl
          | false =>
            exfalso
            have hi' : i < l.length := by omega
            have : i ∈ Region.ready .any l.toArray listed := by
              rw [mem_ready]
              refine ⟨?_, l[i], by simp [hi'], fun e he hb => ?_⟩
              · have hi2 : i < listed.size := by omega
                simp [Array.getD, hi2] at hli ⊢
                exact hli
              · have := edgesB_spec hed i l[i] (by simp [hi']) e he hb
                exact ih e.on (by omega) (by omega)
            rw [hr] at this
            cases this
      refine hq a w (hS.env_le fun k u hk => ?_)
      rw [List.append_nil] at hk
      rcases look_append hk with hk | hk
      · have hmem := look_mem hk
        rw [List.mem_reverse] at hmem
        obtain ⟨i, hi, hip⟩ := List.mem_iff_getElem.1 hmem
        have := hF1 i (k, u) (by rw [← hip]; simp [hi]) (hall i hi)
        exact this
      · exact hF2 k u hk
    induction fuel with
    | zero =>
      intro listed F a w hls hc hS hF1 hF2
      have hr : Region.ready .any l.toArray listed = [] := by
        rw [List.eq_nil_iff_forall_not_mem]
        intro j hj
        have := (mem_ready.1 hj).1
        have hj2 : j < listed.size := by
          cases Nat.lt_or_ge j listed.size with
          | inl h => exact h
          | inr h => simp [Array.getD, Nat.not_lt.2 h] at this
        have hmem : false ∈ listed.toList := by
          simp [Array.getD, hj2] at this
          rw [← this]
          simp
        have := List.count_pos_iff.2 hmem
        omega
      exact ⟨hr, hdone listed F a w hls hr hS hF1 hF2⟩
    | succ fuel ih =>
      intro listed F a w hls hc hS hF1 hF2
      refine ⟨fun hr => hdone listed F a w hls hr hS hF1 hF2, fun i hi => ?_⟩
      obtain ⟨hi0, o, ho, hall⟩ := mem_ready.1 hi
      have hol : l[i]? = some o := by simpa using ho
      have hil : i < l.length := (List.getElem?_eq_some_iff.1 hol).1
      have hip : ps[i]? = some (ps[i]'(by omega)) := by simp [show i < ps.length by omega]
      generalize ps[i]'(by omega) = p at hip
      obtain ⟨hdst, hdn, hok⟩ := hop i o p hol hip
      rw [List.append_nil] at hok
      have hle : ∀ k u, look k (depB l (ps.take i).reverse o.after.toList ++ E0) = some u → look k F = some u := by
        intro k u hk
        rcases look_append hk with hk | hk
        · obtain ⟨e, he, hb, o', ho', hd', hl'⟩ := look_depB hk
          have hmem := look_mem hl'
          rw [List.mem_reverse] at hmem
          have hmem' := List.mem_of_mem_take hmem
          obtain ⟨j, hj, hjp⟩ := List.mem_iff_getElem.1 hmem'
          have hpj : ps[j]? = some (k, u) := by rw [← hjp]; simp [hj]
          have hon : e.on < l.length := (List.getElem?_eq_some_iff.1 ho').1
          have hpo : ps[e.on]? = some (ps[e.on]'(by omega)) := by simp [show e.on < ps.length by omega]
          have h1 := (hop e.on o' _ ho' hpo).1
          rw [hd'] at h1
          simp only [Option.some.injEq] at h1
          have : j = e.on := huniq j e.on _ _ hpj hpo h1
          subst this
          exact hF1 e.on (k, u) hpj (hall e (by simpa using he) hb)
        · exact hF2 k u hk
      have hrun := hok F hle a w hS
      have hi1 : i < listed.size := by omega
      have hsetsz : (listed.setIfInBounds i true).size = ps.length := by simp [hls]
      have hcount : (listed.setIfInBounds i true).toList.count false ≤ fuel := by
        rw [Array.toList_setIfInBounds]
        have hf : listed.toList[i]'(by simpa using hi1) = false := by
          simp [Array.getD, hi1] at hi0
          simpa using hi0
        rw [List.count_set (h := by simpa using hi1), hf]
        have : 0 < listed.toList.count false := List.count_pos_iff.2 (by rw [← hf]; exact List.getElem_mem _)
        simp
        have e : listed.toList.count false = Array.count false listed := by simp [Array.count_toList]
        omega
      have hstep : ∀ a' w', S n w0 ((p.1, p.2) :: F) G a' w' → wpAny P .any l.toArray Q fuel (listed.setIfInBounds i true) a' w' := by
        intro a' w' hS'
        refine ih _ _ a' w' hsetsz hcount hS' ?_ ?_
        · intro j q hq' hlj
          simp only [look_cons]
          cases hb : Nat.beq p.1 q.1 with
          | true =>
            have := huniq i j p q hip hq' (Nat.eq_of_beq_eq_true hb)
            subst this
            rw [hip] at hq'
            cases hq'
            rfl
          | false =>
            dsimp only
            refine hF1 j q hq' ?_
            have hne : i ≠ j := by
              rintro rfl
              rw [hip] at hq'
              cases hq'
              simp at hb
            rw [getD_set_ne false hne] at hlj
            exact hlj
        · intro k u hk
          simp only [look_cons]
          cases hb : Nat.beq p.1 k with
          | true => exact absurd (Nat.eq_of_beq_eq_true hb) (hdsK i p k u hip hk)
          | false => exact hF2 k u hk
      unfold wpOp
      rw [ho]
      dsimp only
      by_cases hw : Region.wanted o (yielded l.toArray a.tmps) = true
      · rw [if_pos hw] at hrun ⊢
        refine .inl ?_
        unfold Oper.wp at hrun ⊢
        generalize (execOp a.eval o).run P w = r at hrun
        cases r with
        | ok nx w' =>
          cases nx <;> simp only [Oper.upon] at hrun ⊢
          all_goals first
            | exact hstep _ _ hrun
            | exact hrun.elim
            | (refine Calls.mono hrun ?_; rintro e w'' he; cases e <;> first | exact hstep _ _ he | exact he)
            | (refine Rows.mono hrun ?_; intro v w'' he; exact hstep _ _ he)
        | halt x w' => cases x <;> simp only [Oper.upon] at hrun ⊢ <;> exact hrun
      · rw [if_neg hw] at hrun ⊢
        rw [hdst]
        have := hS.put hdn undef
        exact hstep _ _ (by rw [hrun]; exact this)
  refine wp_region_any hm (key _ _ (E) a _ (by simp [hlen]) ?_ (hs.world hs.new.drew) ?_ ?_)
  · simp [List.count_replicate]
  · intro i p hp hl
    exfalso
    have : (Array.replicate l.toArray.size false).getD i false = false := by
      simp [Array.getD]
    rw [this] at hl
    cases hl
  · intro k u hk
    exact (hE0le k u hk).1
end anyOrder
end rules
end Go.Sx
