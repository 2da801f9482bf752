/- slices.Grow from nothing and slices.Concat of lists of numbers: contracts. -/
import Derived.Test.YtnlbngbbddhgeaaQGw
import Derived.Lib.AppendZerosOnto
set_option linter.unusedVariables false
set_option linter.unusedSimpArgs false
namespace Go.Proofs.Ytnlbngbbddhgeaa
open Go.Sx Go.RowKit

section
variable {P : Program} {n : Nat} {w0 : World} {E : Env} {G : Heap} {ty : TypeId} {pos : String} {aft : Array Edge} {g : Option (Nat × Bool)} {ops : Array Oper} {Q : Exit → Act → World → Prop} {l : List Oper}
theorem PV.cap {d : Option Nat} {x : Operand} {p : Option Addr} {len cap : Nat} {t e : TypeId} (hx : evo E x = some (.slice p len cap)) (ht : P.underlying t = some (.slice e)) :
    PV P n w0 E G ⟨d, .call { callee := .builtin .cap, args := #[x], argTypes := #[t] }, ty, pos, aft, g⟩ (.int .i64 cap) :=
  fun a w hs => by
    simp only [execOp, resolve, List.map_toArray, List.map_cons, List.map_nil, hs.ev hx]
    simp [invoke, builtin, Builtin.cap_, run_underlying ht, goInt]
theorem PV.sliceN {d : Option Nat} {x y : Operand} {e s : Nat} {i : Int} {t : Nat} (hx : evo E x = some (.slice none 0 0)) (hy : evo E y = some (.int .i64 i))
    (ht : elemOf' P t = some (e, s)) (hi : i = 0) : PV P n w0 E G ⟨d, .slice t x none (some y) none, ty, pos, aft, g⟩ (.slice none 0 0) := by
  have hp := PV.sliceH (P := P) (n := n) (w0 := w0) (G := G) (d := d) (ty := ty) (pos := pos) (aft := aft) (g := g) (h := 0) hx hy ht hi (Nat.le_refl 0)
  have e0 : cutA none 0 0 s = none := by unfold cutA; rw [if_pos rfl]
  rw [e0] at hp
  exact hp
/-- append(nil, make([]T, k)...). -/
theorem TL.appendZ {d : Nat} {s x : Operand} {t tn e sz by_ k : Nat} {i : Int} {z : Value} (hsv : evo E s = some (.slice none 0 0)) (hx : evo E x = some (.int .i64 i)) (hi : i = (k : Int))
    (ht : P.underlying t = some (.slice e)) (htn : P.underlying tn = some (.int .i64)) (hz : zeroI P e = some (z, sz, by_)) (hzs : z.cells.size = sz) (hsz : 0 < sz) (hk : 0 < k) (hb : k * by_ ≤ 140737488355328) (hk2 : k ≤ 9223372036854775807)
    (hg : wants ops E g = some true) (hd : d < n)
    (h : ∀ (b cap : Nat) (sp : List Value), w0.heap.size ≤ b → k ≤ cap → cap * sz = sp.length → TL P n w0 ops Q l ((d, .slice (some ⟨b, 0, none⟩) k cap) :: E) ((b, .cells sp.toArray e (0, 0)) :: G)) :
    TL P n w0 ops Q (⟨some d, .call { callee := .builtin .append, args := #[s, x], argTypes := #[t, tn] }, ty, pos, aft, g⟩ :: l) E G :=
  TL.step hg fun a w hs => by
    subst hi
    unfold zeroI at hz
    cases hinf : P.info? e with
    | none => simp [hinf] at hz
    | some inf =>
      simp [hinf] at hz
      obtain ⟨z', hz1, rfl, hz2, hz3⟩ := hz
      have hexec : (execOp a.eval ⟨some d, .call { callee := .builtin .append, args := #[s, x], argTypes := #[t, tn] }, ty, pos, aft, g⟩).run P w =
          ((Builtin.append_ #[t, tn] ty #[.slice none 0 0, .int .i64 k]).run P w).andThen fun v w' => .ok (.value v) w' := by
        simp only [execOp, resolve, List.map_toArray, List.map_cons, List.map_nil, hs.ev hsv, hs.ev hx]
        simp [invoke, builtin]
      unfold Oper.wp
      rw [hexec]
      have hold : (Builtin.firstCells inf.size 0 (.slice none 0 0)).run P w.drew = .ok ([] : List Value).toArray w.drew := run_firstCells_none (P := P) w.drew inf.size 0 0 0
      have hr := Go.Lib.run_append_grow_zeros (P := P) w t tn ty e inf z' .i64 .i64 ht htn hinf hz1 none 0 0 [] hold k hk (by omega) (by omega) (by omega) (by rw [hz3]; omega) (by rw [hz3]; exact growslice_fits (by omega) (by rw [Nat.zero_add]; exact hb))
      simp only [Nat.zero_add] at hr
      rw [hr]
      have hcap := grownCap_ge w k 0 e
      refine h w.heap.size (grownCap w k 0 e) (([] : List Value).toArray ++ Builtin.zeroCells z'.cells k ++ Builtin.zeroCells z'.cells (grownCap w k 0 e - k)).toList hs.new.below.size hcap ?_ _ _ ((hs.world ?_).put hd _)
      · rw [Array.length_toList, Array.size_append, Array.size_append, zeroCells_size, zeroCells_size, hzs, List.size_toArray, List.length_nil, Nat.zero_add, ← Nat.add_mul]
        congr 1
        omega
      · have := hs.new.drew.alloc (.cells (([] : List Value).toArray ++ Builtin.zeroCells z'.cells k ++ Builtin.zeroCells z'.cells (grownCap w k 0 e - k)) e)
        rw [Array.toArray_toList]
        exact this
end

theorem ints_nil {w : World} {l : List Int} (h : IntsAt w none l) : l = [] := by
  cases l with
  | nil => rfl
  | cons x r => obtain ⟨q, hq, _⟩ := h 0 (by simp); cases hq
theorem ints_src {P : Program} {t e : TypeId} (ht : P.underlying t = some (.slice e)) {w : World} {p : Option Addr} {l : List Int} {c K : Nat} (hK : l.length = K) (h : IntsAt w p l) : Src P 1 t (.slice p K c) K (ival l) w := by
  subst hK
  cases p with
  | none =>
    have h0 := ints_nil h
    subst h0
    exact Src.ofNil w ht c
  | some q =>
    refine Src.ofSlice w ht q l.length c (ival l) (by simp) (fun j u hu => ?_) (fun v hv => by obtain ⟨i, _, rfl⟩ := List.mem_map.1 hv; rfl)
    have hj : j < l.length := by have := (List.getElem?_eq_some_iff.1 hu).1; simpa using this
    obtain ⟨q', hq', hc⟩ := h j hj
    cases hq'
    rw [Nat.mul_one] at hc
    rw [hc, ← hu, List.getElem?_map, List.getElem?_eq_getElem hj]
    simp [List.getD, hj]
section
variable {n : Nat} {w0 : World} {E : Env} {G : Heap} {d : Nat} {ty : TypeId} {pos : String} {aft : Array Edge} {g : Option (Nat × Bool)} {ops : Array Oper} {Q : Exit → Act → World → Prop} {l : List Oper}
theorem TL.appendIS {s x : Operand} {h0 : HD} {ys xs : List Int} {K0 K c : Nat} {p : Option Addr} {R : Heap} (hsv : evo E s = some (gval h0 K0)) (hx : evo E x = some (.slice p K c)) (hK0 : ys.length = K0) (hK : xs.length = K)
    (hat : ∀ w', New w0 w' G → IntsAt w' p xs) (hok : goI (h0, ys)) (hT : TakeH h0 3 (ival ys) G R) (hb : K0 + K ≤ 1000000) (hg : wants ops E g = some true) (hd : d < n)
    (h : ∀ h', goI (h', ys ++ xs) → TL Try.prog n w0 ops Q l ((d, gval h' (K0 + K)) :: E) (gbI (h', ys ++ xs) ++ R)) :
    TL Try.prog n w0 ops Q (⟨some d, .call { callee := .builtin .append, args := #[s, x], argTypes := #[25, 25] }, ty, pos, aft, g⟩ :: l) E G := by
  subst hK0
  refine TL.append (news := ival xs) (m := K) hsv hx Tb.sl_25 Tb.zi_3 rfl (by decide) hok hT (fun a w hs => ints_src Tb.sl_25 hK (hat w hs.new)) (fun w' hN => ints_src Tb.sl_25 hK (hat w' hN)) (by omega) (by omega) hg hd (fun h' hok' _ => ?_)
  have hh := h h'
  unfold goI gbI ival at hh
  simp only [List.map_append, List.length_append, hK] at hh
  exact hh hok'
end
theorem go_nil {b cap : Nat} {sp : List Value} (h : cap * 1 = sp.length) : goI (some (b, cap, sp), []) := ⟨rfl, by simp [ival]; omega, Nat.zero_le _⟩
/-- Slices in memory, one behind another. -/
def VsAt (w : World) (q : Addr) (vs : List (Option Addr × Nat × List Int)) : Prop := ∀ j, j < vs.length → w.cell? (q.add (j * 1)) = some (.slice (vs.getD j default).1 (vs.getD j default).2.2.length (vs.getD j default).2.1) ∧ IntsAt w (vs.getD j default).1 (vs.getD j default).2.2
def catK (vs : List (Option Addr × Nat × List Int)) (k : Nat) : List Int := ((vs.take k).map (·.2.2)).flatten
theorem catK_succ {vs : List (Option Addr × Nat × List Int)} {k : Nat} (hk : k < vs.length) : catK vs (k + 1) = catK vs k ++ (vs.getD k default).2.2 := by
  unfold catK
  have e : vs.getD k default = vs[k] := by simp [List.getD, hk]
  rw [List.take_succ_eq_append_getElem hk, List.map_append, List.flatten_append, e]
  simp
theorem catK_le (vs : List (Option Addr × Nat × List Int)) : ∀ k, k ≤ vs.length → (catK vs k).length ≤ (catK vs vs.length).length := by
  intro k hk
  unfold catK
  have e : vs.take vs.length = vs.take k ++ (vs.take vs.length).drop k := by rw [List.take_length, List.take_append_drop]
  rw [e, List.map_append, List.flatten_append, List.length_append]
  omega
theorem catK_add {vs : List (Option Addr × Nat × List Int)} {k : Nat} (hk : k < vs.length) : (catK vs k).length + (vs.getD k default).2.2.length ≤ (catK vs vs.length).length := by
  have := catK_le vs (k + 1) hk
  rw [catK_succ hk, List.length_append] at this
  exact this
structure CI (vs : List (Option Addr × Nat × List Int)) (x : Nat × HD) : Prop where
  le : x.1 ≤ vs.length
  ok : goI (x.2, catK vs x.1)
theorem int_3' : Try.prog.underlying 3 = some (.int .i64) := by kernel_rfl


set_option maxRecDepth 100000 in
set_option maxHeartbeats 1000000 in
theorem grow_ok (w0 : World) (k : Nat) (hk : k ≤ 100000) :
    Calls Try.prog 99 #[.slice none 0 0, .int .i64 k] w0 (Post (X := HD) (fun h => gval h 0) (fun h => goI (h, []) ∧ (h = none → k = 0)) (fun h => gbI (h, [])) w0) := by
  refine calls Try.func99 rfl (n := 27) rfl (by simp) ?_
  refine TC.seq ?_
  refine TC.region ?_
  refine TL.pure (PV.assign rfl) rfl (by decide) ?_
  refine TL.nil ?_
  refine TQ.thenC ?_
  refine TC.seq ?_
  refine TC.seq ?_
  refine TC.region ?_
  refine TL.pure (PV.move rfl) rfl (by decide) ?_
  refine TL.pure (PV.lss rfl rfl) rfl (by decide) ?_
  refine TL.nil ?_
  refine TQ.thenC ?_
  first | refine TC.condD rfl (fun hneg => ?_) (fun hneg => ?_) | refine TC.cond rfl (fun hneg => ?_) (fun hneg => ?_)
  · skip
    exfalso; omega
  · skip
    refine TC.skip ?_
    refine TQ.thenC ?_
    refine TC.seq ?_
    refine TC.seq ?_
    refine TC.region ?_
    refine TL.pure (PV.move rfl) rfl (by decide) ?_
    refine TL.pure (PV.move rfl) rfl (by decide) ?_
    refine TL.pure (PV.cap rfl Tb.sl_25) rfl (by decide) ?_
    refine TL.pure (PV.move rfl) rfl (by decide) ?_
    refine TL.pure (PV.len rfl Tb.sl_25) rfl (by decide) ?_
    refine TL.pure (PV.sub rfl rfl (by omega)) rfl (by decide) ?_
    refine TL.pure (PV.sub rfl rfl (by omega)) rfl (by decide) ?_
    refine TL.pure (PV.assign rfl) rfl (by decide) ?_
    refine TL.nil ?_
    refine TQ.thenC ?_
    refine TC.seq ?_
    refine TC.region ?_
    refine TL.pure (PV.move rfl) rfl (by decide) ?_
    refine TL.pure (PV.gtr rfl rfl) rfl (by decide) ?_
    refine TL.nil ?_
    refine TQ.thenC ?_
    first | refine TC.condD rfl (fun hpos => ?_) (fun hpos => ?_) | refine TC.cond rfl (fun hpos => ?_) (fun hpos => ?_)
    · skip
      refine TC.region ?_
      refine TL.pure (PV.move rfl) rfl (by decide) ?_
      refine TL.pure (PV.move rfl) rfl (by decide) ?_
      refine TL.pure (PV.cap rfl Tb.sl_25) rfl (by decide) ?_
      refine TL.pure (PV.sliceN rfl rfl Tb.elm_25 rfl) rfl (by decide) ?_
      refine TL.pure (PV.move rfl) rfl (by decide) ?_
      refine TL.appendZ (k := k) rfl rfl (by omega) Tb.sl_25 int_3' Tb.zi_3 rfl (by decide) (by omega) (by omega) (by omega) rfl (by decide) (fun b9 cap9 sp9 hb9 hc9 hs9 => ?_)
      refine TL.pure (PV.move rfl) rfl (by decide) ?_
      refine TL.pure (PV.len rfl Tb.sl_25) rfl (by decide) ?_
      refine TL.pure (PV.sliceHb (h := 0) rfl rfl Tb.elm_25 rfl (Nat.zero_le _)) rfl (by decide) ?_
      refine TL.pure (PV.assign rfl) rfl (by decide) ?_
      refine TL.nil ?_
      refine TQ.thenC ?_
      refine TC.seq ?_
      refine TC.region ?_
      refine TL.pure (PV.move rfl) rfl (by decide) ?_
      refine TL.pure (PV.assign rfl) rfl (by decide) ?_
      refine TL.nil ?_
      refine TQ.thenC ?_
      refine TC.ret ?_
      refine TQ.retE1 rfl rfl ?_
      exact ⟨some (b9, cap9, sp9), rfl, ⟨go_nil hs9, fun h => by cases h⟩, List.Sublist.refl _⟩
    · skip
      refine TC.skip ?_
      refine TQ.thenC ?_
      refine TC.seq ?_
      refine TC.region ?_
      refine TL.pure (PV.move rfl) rfl (by decide) ?_
      refine TL.pure (PV.assign rfl) rfl (by decide) ?_
      refine TL.nil ?_
      refine TQ.thenC ?_
      refine TC.ret ?_
      refine TQ.retE1 rfl rfl ?_
      exact ⟨none, rfl, ⟨⟨rfl, rfl⟩, fun _ => by omega⟩, List.nil_sublist _⟩

set_option maxRecDepth 100000 in
set_option maxHeartbeats 2000000 in
theorem concat_ok (w0 : World) (q : Addr) (cv : Nat) (vs : List (Option Addr × Nat × List Int)) (hv : VsAt w0 q vs) (hl : (catK vs vs.length).length ≤ 100000) (hvl : vs.length ≤ 100000) :
    Calls Try.prog 88 #[.slice (some q) vs.length cv] w0 (Post (X := HD) (fun h => gval h (catK vs vs.length).length) (fun h => goI (h, catK vs vs.length)) (fun h => gbI (h, catK vs vs.length)) w0) := by
  refine calls Try.func88 rfl (n := 36) rfl (by simp) ?_
  refine TC.seq ?_
  refine TC.region ?_
  refine TL.pure (PV.assign rfl) rfl (by decide) ?_
  refine TL.nil ?_
  refine TQ.thenC ?_
  refine TC.seq ?_
  refine TC.region ?_
  refine TL.pure (PV.assign rfl) rfl (by decide) ?_
  refine TL.nil ?_
  refine TQ.thenC ?_
  refine TC.seq ?_
  refine TC.seq ?_
  refine TC.region ?_
  refine TL.pure (PV.move rfl) rfl (by decide) ?_
  refine TL.pure (PV.len rfl Tb.sl_107) rfl (by decide) ?_
  refine TL.pure (PV.move rfl) rfl (by decide) ?_
  refine TL.nil ?_
  refine TQ.thenC ?_
  refine TC.block ?_
  refine TC.loopG [0, 2, 9, 10] (X := Nat) (fun k => k ≤ vs.length) (fun k => [(11, .int .i64 k), (3, .int .i64 (catK vs k).length)]) (fun k => vs.length - k) 0 (Nat.zero_le _) (by repeat (first | exact True.intro | refine And.intro rfl ?_)) ?_
  intro k hk
  refine TC.seq ?_
  refine TC.region ?_
  refine TL.pure (PV.lss rfl rfl) rfl (by decide) ?_
  refine TL.nil ?_
  refine TQ.thenC ?_
  refine TC.seq ?_
  first | refine TC.condD rfl (fun hlt => ?_) (fun hlt => ?_) | refine TC.cond rfl (fun hlt => ?_) (fun hlt => ?_)
  · skip
    refine TC.skip ?_
    refine TQ.thenC ?_
    refine TC.seq ?_
    refine TC.block ?_
    refine TC.seq ?_
    have hkl : k < vs.length := by omega
    obtain ⟨hc1, hc2⟩ := hv k hkl
    have hadd := catK_add hkl
    refine TC.region ?_
    refine TL.pure (PV.indexA rfl rfl rfl Tb.elm_107 rfl (by omega)) rfl (by decide) ?_
    refine TL.pure (PV.loadOld rfl Tb.one_25 hc1) rfl (by decide) ?_
    refine TL.pure (PV.assign rfl) rfl (by decide) ?_
    refine TL.nil ?_
    refine TQ.thenC ?_
    refine TC.seq ?_
    refine TC.region ?_
    refine TL.pure (PV.move rfl) rfl (by decide) ?_
    refine TL.pure (PV.move rfl) rfl (by decide) ?_
    refine TL.pure (PV.len rfl Tb.sl_25) rfl (by decide) ?_
    refine TL.pure (PV.add rfl rfl (by omega)) rfl (by decide) ?_
    refine TL.pure (PV.assign rfl) rfl (by decide) ?_
    refine TL.nil ?_
    refine TQ.thenC ?_
    refine TC.seq ?_
    refine TC.region ?_
    refine TL.pure (PV.move rfl) rfl (by decide) ?_
    refine TL.pure (PV.lss rfl rfl) rfl (by decide) ?_
    refine TL.nil ?_
    refine TQ.thenC ?_
    first | refine TC.condD rfl (fun hneg => ?_) (fun hneg => ?_) | refine TC.cond rfl (fun hneg => ?_) (fun hneg => ?_)
    · skip
      exfalso; omega
    · skip
      refine TC.skip ?_
      refine TQ.blkN ?_
      refine TQ.thenC ?_
      refine TC.region ?_
      refine TL.pure (PV.add rfl rfl (by omega)) rfl (by decide) ?_
      refine TL.pure (PV.move rfl) rfl (by decide) ?_
      refine TL.nil ?_
      refine TQ.thenN ?_
      refine TQ.backK (k + 1) (by refine And.intro rfl (And.intro ?_ True.intro); rw [catK_succ (by omega), List.length_append]; rfl) (by repeat (first | exact True.intro | refine And.intro rfl ?_)) (by repeat (first | exact List.Sublist.slnil | exact List.nil_sublist _ | exact List.Sublist.refl _ | refine List.Sublist.cons_cons _ ?_ | refine List.Sublist.cons _ ?_ | refine List.Sublist.trans ?_ (List.sublist_append_right _ _))) (by omega) (by omega)
  · skip
    refine TC.exit ?_
    refine TQ.thenE ?_
    refine TQ.thenE ?_
    refine TQ.blkS ?_
    refine TQ.thenC ?_
    refine TC.seq ?_
    have hk9 : k = vs.length := by omega
    subst hk9
    refine TC.region ?_
    refine TL.pure (PV.move rfl) rfl (by decide) ?_
    refine TL.call rfl Tb.gofn_99 (fun a w hs => grow_ok w _ (by omega)) rfl (by decide) (fun h0 hh0 => ?_)
    refine TL.pure (PV.assign rfl) rfl (by decide) ?_
    refine TL.nil ?_
    refine TQ.thenC ?_
    refine TC.seq ?_
    refine TC.seq ?_
    refine TC.region ?_
    refine TL.pure (PV.move rfl) rfl (by decide) ?_
    refine TL.pure (PV.len rfl Tb.sl_107) rfl (by decide) ?_
    refine TL.pure (PV.move rfl) rfl (by decide) ?_
    refine TL.nil ?_
    refine TQ.thenC ?_
    refine TC.block ?_
    refine TC.loopK [2, 25, 26] (X := Nat × HD) (fun x => CI vs x) (fun x => [(27, .int .i64 x.1), (6, gval x.2 (catK vs x.1).length)]) (fun x => gbI (x.2, catK vs x.1) ++ []) (fun x => vs.length - x.1) (0, h0) ⟨Nat.zero_le _, hh0.1⟩ (by repeat (first | exact True.intro | refine And.intro rfl ?_)) (by first | exact List.Sublist.refl _ | exact List.sublist_append_left _ _) ?_
    intro x hx
    refine TC.seq ?_
    refine TC.region ?_
    refine TL.pure (PV.lss rfl rfl) rfl (by decide) ?_
    refine TL.nil ?_
    refine TQ.thenC ?_
    refine TC.seq ?_
    first | refine TC.condD rfl (fun hlt2 => ?_) (fun hlt2 => ?_) | refine TC.cond rfl (fun hlt2 => ?_) (fun hlt2 => ?_)
    · skip
      refine TC.skip ?_
      refine TQ.thenC ?_
      refine TC.seq ?_
      refine TC.block ?_
      refine TC.seq ?_
      have hkl : x.1 < vs.length := by omega
      obtain ⟨hc1, hc2⟩ := hv x.1 hkl
      have hadd := catK_add hkl
      refine TC.region ?_
      refine TL.pure (PV.indexA rfl rfl rfl Tb.elm_107 rfl (by omega)) rfl (by decide) ?_
      refine TL.pure (PV.loadOld rfl Tb.one_25 hc1) rfl (by decide) ?_
      refine TL.pure (PV.assign rfl) rfl (by decide) ?_
      refine TL.nil ?_
      refine TQ.thenC ?_
      refine TC.region ?_
      refine TL.pure (PV.move rfl) rfl (by decide) ?_
      refine TL.pure (PV.move rfl) rfl (by decide) ?_
      refine TL.appendIS (h0 := x.2) (ys := catK vs x.1) (xs := (vs.getD x.1 default).2.2) rfl rfl rfl rfl (fun w' hN => hc2.new hN) hx.ok (by repeat (first | exact TakeH.here _ _ _ _ | apply TakeH.tail | apply TakeH.app)) (by omega) rfl (by decide) (fun h9 ho9 => ?_)
      refine TL.pure (PV.assign rfl) rfl (by decide) ?_
      refine TL.nil ?_
      refine TQ.blkN ?_
      refine TQ.thenC ?_
      refine TC.region ?_
      refine TL.pure (PV.add rfl rfl (by omega)) rfl (by decide) ?_
      refine TL.pure (PV.move rfl) rfl (by decide) ?_
      refine TL.nil ?_
      refine TQ.thenN ?_
      refine TQ.backK (x.1 + 1, h9) (by refine And.intro rfl (And.intro ?_ True.intro); rw [catK_succ hkl, List.length_append]; rfl) (by repeat (first | exact True.intro | refine And.intro rfl ?_)) (by rw [catK_succ hkl]; exact List.Sublist.refl _) ⟨hkl, by rw [catK_succ hkl]; exact ho9⟩ (by simp only; omega)
    · skip
      refine TC.exit ?_
      refine TQ.thenE ?_
      refine TQ.thenE ?_
      refine TQ.blkS ?_
      refine TQ.thenC ?_
      refine TC.seq ?_
      refine TC.region ?_
      refine TL.pure (PV.move rfl) rfl (by decide) ?_
      refine TL.pure (PV.assign rfl) rfl (by decide) ?_
      refine TL.nil ?_
      refine TQ.thenC ?_
      refine TC.ret ?_
      refine TQ.retE1 rfl rfl ?_
      have hk9 : x.1 = vs.length := by have := hx.le; omega
      exact ⟨x.2, by rw [hk9], by have := hx.ok; rwa [hk9] at this, by rw [hk9]; exact List.sublist_append_left _ _⟩

end Go.Proofs.Ytnlbngbbddhgeaa
