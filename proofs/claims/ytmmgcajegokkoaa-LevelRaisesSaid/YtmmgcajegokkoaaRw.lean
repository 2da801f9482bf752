/- Rules: parts of slices, appended lists, rows in memory. -/
import Derived.Test.YtmmgcajegokkoaaL1
namespace Go.Proofs.Ytmmgcajegokkoaa
open Go.Sx Go.RowKit

section
variable {P : Program} {n : Nat} {w0 : World} {E : Env} {G : Heap}
/-- Where a slice begins that leaves out the first l elements. -/
def cutA (p : Option Addr) (cap l s : Nat) : Option Addr := if cap = l then p else p.map (·.add (l * s))
section
variable {d : Option Nat} {ty : TypeId} {pos : String} {aft : Array Edge} {g : Option (Nat × Bool)}
theorem PV.sliceH {x y : Operand} {p : Option Addr} {len cap e s h : Nat} {i : Int} {t : Nat} (hx : evo E x = some (.slice p len cap)) (hy : evo E y = some (.int .i64 i))
    (ht : elemOf' P t = some (e, s)) (hi : i = (h : Int)) (hh : h ≤ cap) : PV P n w0 E G ⟨d, .slice t x none (some y) none, ty, pos, aft, g⟩ (.slice (cutA p cap 0 s) h cap) :=
  fun a w hs => by
    unfold elemOf' at ht
    cases hu : P.underlying t with
    | none => simp [hu] at ht
    | some u =>
      cases u <;> simp only [hu] at ht <;> try (simp at ht; done)
      rename_i e'
      cases hinf : P.info? e' with
      | none => simp [hinf] at ht
      | some inf =>
        simp [hinf] at ht
        obtain ⟨rfl, rfl⟩ := ht
        simp only [execOp, hs.ev hx, Option.map_some, hs.ev hy, Option.map_none]
        subst hi
        simp [Instr.sliceAt, Instr.slice, run_underlying hu, Instr.sliceBounds, run_sliceBound, sizeOf, typeInfo, hinf, hh, cutA]
theorem PV.sliceL {x y : Operand} {p : Option Addr} {len cap e s l : Nat} {i : Int} {t : Nat} (hx : evo E x = some (.slice p len cap)) (hy : evo E y = some (.int .i64 i))
    (ht : elemOf' P t = some (e, s)) (hi : i = (l : Int)) (hl : l ≤ len) : PV P n w0 E G ⟨d, .slice t x (some y) none none, ty, pos, aft, g⟩ (.slice (cutA p cap l s) (len - l) (cap - l)) :=
  fun a w hs => by
    unfold elemOf' at ht
    cases hu : P.underlying t with
    | none => simp [hu] at ht
    | some u =>
      cases u <;> simp only [hu] at ht <;> try (simp at ht; done)
      rename_i e'
      cases hinf : P.info? e' with
      | none => simp [hinf] at ht
      | some inf =>
        simp [hinf] at ht
        obtain ⟨rfl, rfl⟩ := ht
        simp only [execOp, hs.ev hx, Option.map_some, hs.ev hy, Option.map_none]
        subst hi
        simp [Instr.sliceAt, Instr.slice, run_underlying hu, Instr.sliceBounds, run_sliceBound, sizeOf, typeInfo, hinf, hl, cutA]
end
/-- What is known of a frame, written anew. -/
theorem TC.lit {c : Code} {Q : Exit → Act → World → Prop} (E' : Env) (he : Le E' E) (h : TC P n w0 c Q E' G) : TC P n w0 c Q E G := fun a w hs => h a w (hs.env_le fun k v hk => Le.le he k v hk)
variable {a : Act} {w : World} {ops : Array Oper} {Q : Exit → Act → World → Prop} {l : List Oper}
variable {d : Nat} {ty : TypeId} {pos : String} {aft : Array Edge} {g : Option (Nat × Bool)}
/-- An empty slice literal. -/
theorem TL.buildSlice0 {t e sz by_ : Nat} {z : Value} (ht : P.underlying t = some (.slice e)) (hz : zeroI P e = some (z, sz, by_)) (hg : wants ops E g = some true) (hd : d < n)
    (h : ∀ b, w0.heap.size ≤ b → TL P n w0 ops Q l ((d, .slice (some ⟨b, 0, none⟩) 0 0) :: E) ((b, .cells #[] e (0, 0)) :: G)) :
    TL P n w0 ops Q (⟨some d, .buildSlice t 0 #[], ty, pos, aft, g⟩ :: l) E G :=
  TL.step hg fun a w hs => by
    unfold zeroI at hz
    cases hinf : P.info? e with
    | none => simp [hinf] at hz
    | some inf =>
      have hr : (execOp a.eval ⟨some d, .buildSlice t 0 #[], ty, pos, aft, g⟩).run P w = .ok (.value (.slice (some ⟨w.heap.size, 0, none⟩) 0 0)) (w.alloc (.cells #[] e)) := by
        have e0 : ∀ f : Nat → Value, Array.map f (Array.range 0) = #[] := fun f => Array.eq_empty_of_size_eq_zero (by rw [Array.size_map, Array.size_range])
        simp only [execOp]
        simp [Instr.buildSlice, run_underlying ht, sizeOf, typeInfo, hinf, newRow, Instr.fill, e0]
      unfold Oper.wp
      rw [hr]
      exact h _ hs.new.below.size _ _ ((hs.world (hs.new.alloc _)).put hd _)
end
theorem ints_src {w : World} {p : Option Addr} {xs : List Int} {c K : Nat} (hK : xs.length = K) (h : IntsAt w p xs) : Src Try.prog 1 31 (.slice p K c) K (ival xs) w := by
  subst hK
  cases p with
  | none =>
    have h0 : xs = [] := by
      cases xs with
      | nil => rfl
      | cons x r => obtain ⟨q, hq, _⟩ := h 0 (by simp); cases hq
    subst h0
    exact Src.ofNil w Tb.sl_31 c
  | some q =>
    refine Src.ofSlice w Tb.sl_31 q xs.length c (ival xs) (by simp [ival]) (fun j u hu => ?_) (fun v hv => ?_)
    · have hj : j < xs.length := by have := (List.getElem?_eq_some_iff.1 hu).1; simpa [ival] using this
      obtain ⟨q', hq', hc⟩ := h j hj
      cases hq'
      rw [Nat.mul_one] at hc
      rw [hc]
      simp [ival, hj] at hu
      simp [List.getD, hj, hu]
    · obtain ⟨x, _, rfl⟩ := List.mem_map.1 hv
      rfl
section
variable {n : Nat} {w0 : World} {E : Env} {G : Heap} {d : Nat} {ty : TypeId} {pos : String} {aft : Array Edge} {g : Option (Nat × Bool)} {ops : Array Oper} {Q : Exit → Act → World → Prop} {l : List Oper}
/-- s = append(s, xs...) of numbers that lie in memory. -/
theorem TL.appendS {s x : Operand} {h0 : HD} {ys xs : List Int} {K0 K c : Nat} {p : Option Addr} {R : Heap} (hsv : evo E s = some (gval h0 K0)) (hx : evo E x = some (.slice p K c)) (hK0 : ys.length = K0) (hK : xs.length = K)
    (hat : ∀ w', New w0 w' G → IntsAt w' p xs)
    (hok : goI (h0, ys)) (hT : TakeH h0 3 (ival ys) G R) (hb : K0 + K ≤ 1000000) (hg : wants ops E g = some true) (hd : d < n)
    (h : ∀ h', goI (h', ys ++ xs) → TL Try.prog n w0 ops Q l ((d, gval h' (K0 + K)) :: E) (gbI (h', ys ++ xs) ++ R)) :
    TL Try.prog n w0 ops Q (⟨some d, .call { callee := .builtin .append, args := #[s, x], argTypes := #[31, 31] }, ty, pos, aft, g⟩ :: l) E G := by
  subst hK0
  refine TL.append (news := ival xs) (m := K) hsv hx Tb.sl_31 Tb.zi_3 rfl (by decide) hok hT (fun a w hs => ints_src hK (hat w hs.new)) (fun w' hN => ints_src hK (hat w' hN)) (by omega) (by omega) hg hd (fun h' hok' _ => ?_)
  have hh := h h'
  unfold goI gbI ival at hh
  simp only [List.map_append, List.length_append, hK] at hh
  exact hh hok'
end
theorem addr_add_add (a : Addr) (i j : Nat) : (a.add i).add j = a.add (i + j) := Addr.add_add a i j
/-- A part of a list in memory. -/
theorem IntsAt.cut {w : World} {p : Option Addr} {xs : List Int} {cap : Nat} (h : IntsAt w p xs) (hc : xs.length ≤ cap) (l m : Nat) : IntsAt w (cutA p cap l 1) ((xs.drop l).take m) := fun j hj => by
  have hj2 : j < m ∧ j < xs.length - l := by simp at hj; omega
  obtain ⟨q, rfl, hq⟩ := h (l + j) (by omega)
  refine ⟨q.add (l * 1), ?_, ?_⟩
  · unfold cutA
    rw [if_neg (by omega)]
    rfl
  · rw [addr_add_add, ← Nat.add_mul, hq]
    have h1 : l + j < xs.length := by omega
    simp [List.getD, hj2.1, h1]
/-- Rows of numbers in memory, each with room for itself. -/
def RowsAt (w : World) (p : Option Addr) (m : List (List Int)) : Prop := ∀ j, j < m.length → ∃ q, p = some q ∧ ∃ pj cj, w.cell? (q.add (j * 1)) = some (.slice pj (m.getD j []).length cj) ∧ (m.getD j []).length ≤ cj ∧ IntsAt w pj (m.getD j [])
theorem RowsAt.new {w0 w : World} {G : Heap} {p : Option Addr} {m : List (List Int)} (h : RowsAt w0 p m) (hn : New w0 w G) : RowsAt w p m := fun j hj =>
  let ⟨q, hq, pj, cj, h1, h2, h3⟩ := h j hj
  ⟨q, hq, pj, cj, hn.old h1, h2, h3.new hn⟩
theorem gc_le {h : HD} {len : Nat} {ys : List Value} (ho : gok h len 1 ys) : len ≤ gc h := by
  obtain _ | ⟨b, cap, sp⟩ := h
  · have : len = 0 := ho.2
    omega
  · exact ho.2.2
theorem RowsAt.g {w0 w : World} {G : Heap} {x : HD × List (HD × List Int)} (hn : New w0 w G) (hm : ∀ y ∈ gbP x, y ∈ G) (hb : ∀ y ∈ bl x.2, y ∈ G) (ho : goP x) (ha : ∀ y ∈ x.2, goI y) : RowsAt w (gp x.1) (x.2.map (·.2)) := by
  obtain ⟨_ | ⟨b, cap, sp⟩, l⟩ := x
  · intro j hj
    have : l.length = 0 := ho.2
    simp only [List.length_map] at hj
    omega
  · intro j hj
    have hj' : j < l.length := by simpa using hj
    have hmem : l.getD j (none, []) ∈ l := by simp [List.getD, hj']
    have hgo := ha _ hmem
    have hjl : (l.map (·.2)).getD j [] = (l.getD j (none, [])).2 := by simp [List.getD, hj']
    refine ⟨⟨b, 0, none⟩, rfl, gp (l.getD j (none, [])).1, gc (l.getD j (none, [])).1, ?_, ?_, ?_⟩
    · rw [add_off, hjl, ← gval_eq hgo]
      refine hn.cell (hm _ (.head _)) ?_
      rw [List.getElem?_toArray, Nat.zero_add, Nat.mul_one, List.getElem?_append_left (by simpa using hj')]
      simp [List.getD, hj']
    · rw [hjl]; exact gc_le hgo
    · rw [hjl]
      refine IntsAt.g hn (fun y hy => hb y ?_) hgo
      unfold bl
      rw [List.mem_flatMap]
      exact ⟨_, List.mem_reverse.2 hmem, hy⟩

/-- An operation whose guard's own operation was not wanted is not wanted. -/
def undoneB (ops : Array Oper) (E : Env) : Option (Nat × Bool) → Bool
  | none => false
  | some (j, _) => match (ops[j]?).bind (·.dst) with
    | none => false
    | some s => match Sx.look s E with
      | some (.tuple _) => true
      | _ => false
section
variable {P : Program} {n : Nat} {w0 : World} {E : Env} {G : Heap} {a : Act} {w : World} {ops : Array Oper} {Q : Exit → Act → World → Prop} {l : List Oper}
theorem S_undone (h : S n w0 E G a w) {o : Oper} (hw : undoneB ops E o.guard = true) : Region.wanted o (yielded ops a.tmps) = false := by
  unfold Region.wanted
  cases hg : o.guard with
  | none => simp [undoneB, hg] at hw
  | some jw =>
    obtain ⟨j, want⟩ := jw
    simp only [undoneB, hg] at hw
    simp only [yielded]
    cases hs : (ops[j]?).bind (·.dst) with
    | none => simp [hs] at hw
    | some s =>
      simp only [hs] at hw
      cases hl : Sx.look s E with
      | none => simp [hl] at hw
      | some v =>
        have := h.env s v hl
        rw [hl] at hw
        cases v <;> first | (simp [this]; done) | simp at hw
theorem TL.skipU {d : Option Nat} {op : Op} {ty : TypeId} {pos : String} {aft : Array Edge} {g : Option (Nat × Bool)}
    (hg : undoneB ops E g = true) (hd : ∀ k, d = some k → k < n) (h : TL P n w0 ops Q l (match d with | some k => (k, undef) :: E | none => E) G) :
    TL P n w0 ops Q (⟨d, op, ty, pos, aft, g⟩ :: l) E G := by
  intro a w hs
  unfold wpList
  have := S_undone hs (o := ⟨d, op, ty, pos, aft, g⟩) hg
  rw [if_neg (by simp [this])]
  cases d with
  | none => exact h _ _ hs
  | some k => exact h _ _ (hs.put (hd k rfl) undef)
theorem OpOK.skipU {d : Nat} {op : Op} {ty : TypeId} {pos : String} {aft : Array Edge} {g : Option (Nat × Bool)} (hg : undoneB ops E g = true) :
    OpOK P n w0 ops Q G E ⟨some d, op, ty, pos, aft, g⟩ d undef := by
  intro F' hF a w hs
  have := S_undone (hs.env_le hF) (o := ⟨some d, op, ty, pos, aft, g⟩) hg
  rw [if_neg (by simp [this])]
theorem TS.skipU {tl : List Oper} {d : Nat} {op : Op} {ty : TypeId} {pos : String} {aft : Array Edge} {g : Option (Nat × Bool)}
    (hg : undoneB ops E g = true) (hd : d < n) (h : TS P n w0 ops Q tl l ((d, undef) :: E) G) :
    TS P n w0 ops Q tl (⟨some d, op, ty, pos, aft, g⟩ :: l) E G := by
  intro a w hs
  unfold wpStill
  have := S_undone hs (o := ⟨some d, op, ty, pos, aft, g⟩) hg
  rw [if_neg (by simp [this])]
  exact h _ _ (hs.put hd undef)
end

end Go.Proofs.Ytmmgcajegokkoaa
