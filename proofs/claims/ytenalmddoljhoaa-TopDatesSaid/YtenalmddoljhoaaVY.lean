/- Bounds beside each other are put together where they lie: contract. -/
import Derived.Test.YtenalmddoljhoaaVX
set_option linter.unusedVariables false
set_option linter.unusedSimpArgs false
namespace Go.Proofs.Ytenalmddoljhoaa
open Go.Sx Go.RowKit

section
variable {P : Program} {n : Nat} {w0 : World} {E : Env} {G : Heap} {d : Option Nat} {ty : TypeId} {pos : String} {aft : Array Edge} {g : Option (Nat × Bool)}
theorem PV.indexB {x y : Operand} {b len cap e j : Nat} {i : Int} {t : Nat} (hx : evo E x = some (.slice (some ⟨b, 0, none⟩) len cap)) (hy : evo E y = some (.int .i64 i))
    (ht : elemOf' P t = some (e, 3)) (hi : i = (j : Int)) (hj : j < len) : PV P n w0 E G ⟨d, .indexAddr t x y, ty, pos, aft, g⟩ (.pointer (some ⟨b, j * 3, none⟩)) := by
  have h := PV.index (P := P) (n := n) (w0 := w0) (G := G) (d := d) (ty := ty) (pos := pos) (aft := aft) (g := g) hx hy ht hi hj
  rw [Nat.zero_add] at h
  exact h
theorem PV.indexO {x y : Operand} {b len cap e j k : Nat} {i : Int} {t : Nat} (hx : evo E x = some (.slice (some ⟨b, k * 3, none⟩) len cap)) (hy : evo E y = some (.int .i64 i))
    (ht : elemOf' P t = some (e, 3)) (hi : i = (j : Int)) (hj : j < len) : PV P n w0 E G ⟨d, .indexAddr t x y, ty, pos, aft, g⟩ (.pointer (some ⟨b, (k + j) * 3, none⟩)) := by
  have h := PV.index (P := P) (n := n) (w0 := w0) (G := G) (d := d) (ty := ty) (pos := pos) (aft := aft) (g := g) hx hy ht hi hj
  rw [← Nat.add_mul] at h
  exact h
theorem PV.sliceLb {x y : Operand} {b len cap e l : Nat} {i : Int} {t : Nat} (hx : evo E x = some (.slice (some ⟨b, 0, none⟩) len cap)) (hy : evo E y = some (.int .i64 i))
    (ht : elemOf' P t = some (e, 3)) (hi : i = (l : Int)) (hl : l ≤ len) (hc : l < cap) : PV P n w0 E G ⟨d, .slice t x (some y) none none, ty, pos, aft, g⟩ (.slice (some ⟨b, l * 3, none⟩) (len - l) (cap - l)) := by
  have h := PV.sliceL (P := P) (n := n) (w0 := w0) (G := G) (d := d) (ty := ty) (pos := pos) (aft := aft) (g := g) hx hy ht hi hl
  have e0 : cutA (some ⟨b, 0, none⟩) cap l 3 = some ⟨b, l * 3, none⟩ := by unfold cutA; rw [if_neg (by omega)]; simp [add_off]
  rw [e0] at h
  exact h
variable {ops : Array Oper} {Q : Exit → Act → World → Prop} {l : List Oper}
theorem TL.clearN {dd : Option Nat} {x : Operand} {t e sz by_ len cap b off : Nat} {z : Value} {cs zs : List Value} {G' : Heap} (hx : evo E x = some (.slice (some ⟨b, off, none⟩) len cap)) (hlen : 0 < len)
    (ht : P.underlying t = some (.slice e)) (hz : zeroI P e = some (z, sz, by_)) (hzs : (Builtin.zeroCells z.cells len).toList = zs) (h1 : ∀ v ∈ zs, v.oneCell' = true)
    (hu : Upd b (.cells cs.toArray e (0, 0)) (.cells (cs.take off ++ zs ++ cs.drop (off + zs.length)).toArray e (0, 0)) G G')
    (hle : off + zs.length ≤ cs.length) (hg : wants ops E g = some true) (hdd : dd = none)
    (h : TL P n w0 ops Q l E G') :
    TL P n w0 ops Q (⟨dd, .call { callee := .builtin .clear, args := #[x], argTypes := #[t] }, ty, pos, aft, g⟩ :: l) E G :=
  TL.step hg fun a w hs => by
    subst hdd
    obtain ⟨k, rfl⟩ : ∃ k, len = k + 1 := ⟨len - 1, by omega⟩
    unfold zeroI at hz
    cases hinf : P.info? e with
    | none => simp [hinf] at hz
    | some inf =>
      simp [hinf] at hz
      obtain ⟨z', hz1, rfl, hz2, hz3⟩ := hz
      have hexec : (execOp a.eval ⟨none, .call { callee := .builtin .clear, args := #[x], argTypes := #[t] }, ty, pos, aft, g⟩).run P w =
          ((Builtin.clear_ #[t] ty #[.slice (some ⟨b, off, none⟩) (k + 1) cap]).run P w).andThen fun v w' => .ok (.value v) w' := by
        simp only [execOp, resolve, List.map_toArray, List.map_cons, List.map_nil, hs.ev hx]
        simp [invoke, builtin]
      unfold Oper.wp
      rw [hexec]
      have hblk : w.heap[b]? = some (.cells cs.toArray e (0, 0)) := hs.new.here _ hu.mem
      have hst := run_storeCells_at (P := P) b off e zs 0 cs.toArray w hblk (by simp; omega) h1
      simp only [Nat.add_zero] at hst
      have hr : (Builtin.clear_ #[t] ty #[.slice (some ⟨b, off, none⟩) (k + 1) cap]).run P w = .ok (.tuple #[]) (w.setRow b (cs.take off ++ zs ++ cs.drop (off + zs.length)).toArray) := by
        simp [Builtin.clear_, run_underlying ht, zeroValue, typeInfo, hinf, hz1, hzs, hst]
      rw [hr]
      refine h _ _ (hs.world ?_)
      refine hs.new.turn hu ?_ ?_ rfl rfl rfl ?_ rfl
      · simp only [World.setRow, Array.getElem?_modify, if_true, hblk, Option.map_some]
      · intro k hk
        simp only [World.setRow, Array.getElem?_modify]
        rw [if_neg (by omega)]
      · simp [World.setRow]
end
abbrev zB (n : Nat) : List Value := (Builtin.zeroCells (Value.agg #[(.int .i64 0), (.int .i64 0), (.int .i64 0)]).cells n).toList
theorem zB_len (n : Nat) : (zB n).length = n * 3 := by simp [zB, Builtin.zeroCells, Value.cells]
theorem zB_one (n : Nat) : ∀ v ∈ zB n, v.oneCell' = true := by
  intro v hv
  simp only [zB, Builtin.zeroCells, Array.toList_map, List.mem_map] at hv
  obtain ⟨i, _, rfl⟩ := hv
  have h : i % 3 = 0 ∨ i % 3 = 1 ∨ i % 3 = 2 := by omega
  show ((#[(.int .i64 0), (.int .i64 0), (.int .i64 0)] : Array Value)[i % 3]!).oneCell' = true
  rcases h with h | h | h <;> rw [h] <;> rfl
theorem bdc_take (W : List Bd) (i : Nat) : (bdc W).take (i * 3) = bdc (W.take i) := by
  by_cases h : i ≤ W.length
  · have e : bdc W = bdc (W.take i) ++ bdc (W.drop i) := by rw [← bdc_app, List.take_append_drop]
    have hl : (bdc (W.take i)).length = i * 3 := by rw [bdc_len, List.length_take, Nat.min_eq_left h]
    rw [e, ← hl, List.take_left']
    rfl
  · have hl := bdc_len W
    rw [List.take_of_length_le (by omega), List.take_of_length_le (by omega)]
theorem clear_cells {W sp : List Value} {A : List Bd} {i K : Nat} {D : List Bd} (hA : A.length = K) (hW : W = bdc A) (hi : i ≤ K) (hD : A.take i = D) :
    (W ++ sp).take (i * 3) ++ zB (K - i) ++ (W ++ sp).drop (i * 3 + (zB (K - i)).length) = bdc D ++ (zB (K - i) ++ sp) := by
  subst hW; subst hD
  have hl := bdc_len A
  rw [zB_len, List.take_append_of_le_length (by omega), bdc_take, List.append_assoc]
  congr 2
  rw [List.drop_append, List.drop_eq_nil_of_le (by omega)]
  simp only [List.nil_append]
  rw [show i * 3 + (K - i) * 3 - (bdc A).length = 0 by omega]
  rfl
def dedK (l : List Bd) : Nat → List Bd
  | 0 => []
  | k + 1 => if k ≠ 0 ∧ besB (l.getD k default) (l.getD (k - 1) default) = true then dedK l k else dedK l k ++ [l.getD k default]
def dedB (l : List Bd) : List Bd := dedK l l.length
theorem ded_take (l : List Bd) : ∀ k, k ≤ l.length → (∀ j, j + 1 < k → besB (l.getD (j + 1) default) (l.getD j default) = false) → dedK l k = l.take k
  | 0, _, _ => rfl
  | k + 1, hk, h => by
    have ih := ded_take l k (by omega) (fun j hj => h j (by omega))
    have e : l.getD k default = l[k] := by simp [List.getD, show k < l.length by omega]
    unfold dedK
    rw [if_neg, ih, List.take_succ_eq_append_getElem (by omega), e]
    rintro ⟨h1, h2⟩
    have := h (k - 1) (by omega)
    rw [show k - 1 + 1 = k by omega, h2] at this
    cases this
theorem ded_all {l : List Bd} (h : ∀ j, j + 1 < l.length → besB (l.getD (j + 1) default) (l.getD j default) = false) : dedB l = l := by
  unfold dedB
  rw [ded_take l _ (Nat.le_refl _) h, List.take_length]
structure CS (l : List Bd) (k j i : Nat) (W : List Bd) : Prop where
  jl : 1 ≤ j
  je : k + j ≤ l.length
  len : W.length = l.length
  far : ∀ p, k + j ≤ p + 1 → W.getD p default = l.getD p default
  tk : W.take i = dedK l (k + j)
  il : i + 1 ≤ k + j
theorem CS.zero {l : List Bd} {k : Nat} (hk : 1 ≤ k ∧ k ≤ l.length ∧ ∀ j, j + 1 < k → besB (l.getD (j + 1) default) (l.getD j default) = false) (hlt : k < l.length)
    (h : besB (l.getD k default) (l.getD (k - 1) default) = true) : CS l k 1 k l :=
  ⟨Nat.le_refl _, hlt, rfl, fun _ _ => rfl, by
    show l.take k = dedK l (k + 1)
    rw [dedK, if_pos ⟨by omega, h⟩, ded_take l k (by omega) hk.2.2], by omega⟩
theorem CS.skip {l : List Bd} {k j i : Nat} {W : List Bd} (c : CS l k j i W) (hj : k + j < l.length) (h : besB (l.getD (k + j) default) (l.getD (k + (j - 1)) default) = true) : CS l k (j + 1) i W :=
  ⟨by omega, by omega, c.len, fun p hp => c.far p (by omega), by
    have := c.jl
    show _ = dedK l (k + j + 1)
    rw [dedK, if_pos ⟨by omega, by rw [show k + j - 1 = k + (j - 1) by omega]; exact h⟩, c.tk], by have := c.il; omega⟩
theorem CS.put {l : List Bd} {k j i : Nat} {W : List Bd} (c : CS l k j i W) (hj : k + j < l.length) (h : besB (l.getD (k + j) default) (l.getD (k + (j - 1)) default) = false) : CS l k (j + 1) (i + 1) (W.set i (l.getD (k + j) default)) := by
  have h1 := c.jl
  have h2 := c.il
  have h3 := c.len
  refine ⟨by omega, by omega, by rw [List.length_set, h3], fun p hp => ?_, ?_, by omega⟩
  · have := c.far p (by omega)
    rw [← this]
    simp [List.getD, List.getElem?_set, show i ≠ p by omega]
  · show _ = dedK l (k + j + 1)
    rw [dedK, if_neg, ← c.tk, List.take_succ_eq_append_getElem (by rw [List.length_set]; omega), List.take_set, List.set_eq_of_length_le (by rw [List.length_take]; omega)]
    · simp
    · rintro ⟨_, h4⟩
      rw [show k + j - 1 = k + (j - 1) by omega, h] at h4
      cases h4
theorem CS.done {l : List Bd} {k j i : Nat} {W : List Bd} (c : CS l k j i W) (hj : k + j = l.length) : W.take i = dedB l := by rw [c.tk, hj]; rfl
theorem CS.cnt {l : List Bd} {k j i : Nat} {W : List Bd} (c : CS l k j i W) (hj : k + j = l.length) : (dedB l).length = i := by
  rw [← c.done hj, List.length_take]
  have := c.il
  have := c.len
  omega


set_option maxRecDepth 100000 in
set_option maxHeartbeats 2000000 in
theorem compact_ok {w0 w : World} {b cap K : Nat} {l : List Bd} {sp : List Value} {R : Heap} (hn : New w0 w ((b, .cells (bdc l ++ sp).toArray 88 (0, 0)) :: R)) (hK : l.length = K) (hgo : goB (some (b, cap, sp)) l) (hl : K ≤ 100000) :
    Calls Try.prog 97 #[.slice (some ⟨b, 0, none⟩) K cap, .func (.func 88) #[] #[]] w (Post (X := List Value) (fun _ => .slice (some ⟨b, 0, none⟩) (dedB l).length cap) (fun s => goB (some (b, cap, s)) (dedB l)) (fun s => (b, .cells (bdc (dedB l) ++ s).toArray 88 (0, 0)) :: R) w0) := by
  subst hK
  have hcap : l.length ≤ cap := hgo.2.2
  have hcsz := hgo.2.1
  have hbl := bdc_len l
  refine callsM hn Try.func97 rfl (n := 66) rfl (by simp) ?_
  refine TC.seq ?_
  refine TC.region ?_
  refine TL.pure (PV.assign rfl) rfl (by decide) ?_
  refine TL.nil ?_
  refine TQ.thenC ?_
  refine TC.seq ?_
  refine TC.seq ?_
  refine TC.region ?_
  refine TL.pure (PV.move rfl) rfl (by decide) ?_
  refine TL.pure (PV.len rfl Tb.sl_74) rfl (by decide) ?_
  refine TL.pure (PV.lss rfl rfl) rfl (by decide) ?_
  refine TL.nil ?_
  refine TQ.thenC ?_
  first | refine TC.condD rfl (fun hshort => ?_) (fun hshort => ?_) | refine TC.cond rfl (fun hshort => ?_) (fun hshort => ?_)
  · skip
    refine TC.seq ?_
    refine TC.region ?_
    refine TL.pure (PV.move rfl) rfl (by decide) ?_
    refine TL.pure (PV.assign rfl) rfl (by decide) ?_
    refine TL.nil ?_
    refine TQ.thenC ?_
    refine TC.ret ?_
    refine TQ.thenR ?_
    refine TQ.retE1 rfl rfl ?_
    first | exact ⟨zB (l.length - v.2.1) ++ sp, by rw [hcnt], ⟨bdc_len _, by rw [bdc_len, List.length_append, zB_len]; omega, by rw [hcnt]; omega⟩, List.Sublist.refl _⟩ | (have hd : dedB l = l := ded_all (fun j hj => by first | exact hk.2.2 j (by omega) | exact absurd hj (by omega)); exact ⟨sp, by rw [hd], by rw [hd]; exact hgo, by rw [hd]; exact List.Sublist.refl _⟩)
  · skip
    refine TC.skip ?_
    refine TQ.thenC ?_
    refine TC.seq ?_
    refine TC.seq ?_
    refine TC.region ?_
    refine TL.pure (PV.assign rfl) rfl (by decide) ?_
    refine TL.nil ?_
    refine TQ.thenC ?_
    refine TC.block ?_
    -- live and written in the loop, not told: [4]
    refine TC.loopK [0, 1] (X := Nat) (fun k => 1 ≤ k ∧ k ≤ l.length ∧ ∀ j, j + 1 < k → besB (l.getD (j + 1) default) (l.getD j default) = false) (fun k => [(5, .int .i64 k)]) (fun k => (b, Obj.cells (bdc l ++ sp).toArray 88 (0, 0)) :: R) (fun k => l.length - k) 1 ⟨Nat.le_refl _, by omega, fun j hj => absurd hj (by omega)⟩ (by repeat (first | exact True.intro | refine And.intro rfl ?_)) (List.Sublist.refl _) ?_
    intro k hk
    refine TC.seq ?_
    refine TC.seq ?_
    refine TC.region ?_
    refine TL.pure (PV.move rfl) rfl (by decide) ?_
    refine TL.pure (PV.move rfl) rfl (by decide) ?_
    refine TL.pure (PV.len rfl Tb.sl_74) rfl (by decide) ?_
    refine TL.pure (PV.lss rfl rfl) rfl (by decide) ?_
    refine TL.nil ?_
    refine TQ.thenC ?_
    first | refine TC.condD rfl (fun hlt => ?_) (fun hlt => ?_) | refine TC.cond rfl (fun hlt => ?_) (fun hlt => ?_)
    · skip
      refine TC.skip ?_
      refine TQ.thenC ?_
      refine TC.seq ?_
      refine TC.block ?_
      refine TC.seq ?_
      refine TC.mix [true, true, true, true, true, true, true, true, true, true, false] _ 1 Tb.mixed rfl (by kernel_rfl) (by kernel_rfl) (by kernel_rfl) (by kernel_rfl) (List.Sublist.refl _) ?_
      refine TB.op (SOK.pure (PV.move rfl) rfl) (by decide) ?_
      refine TB.op (SOK.pure (PV.move rfl) rfl) (by decide) ?_
      refine TB.op (SOK.pure (PV.move rfl) rfl) (by decide) ?_
      refine TB.op (SOK.pure (PV.indexB (j := k) rfl rfl Tb.elm_74 rfl (by omega)) rfl) (by decide) ?_
      refine TB.op (SOK.pure (PV.loadE (h := some (b, cap, sp)) (l := l) (j := k) (e := 88) rfl Tb.agg_88 (fun yy hyy => by repeat (first | exact List.mem_append_left _ hyy | refine List.mem_append_right _ ?_ | refine List.Mem.tail _ ?_)) hgo (by omega) rfl) rfl) (by decide) ?_
      refine TB.op (SOK.pure (PV.move rfl) rfl) (by decide) ?_
      refine TB.op (SOK.pure (PV.move rfl) rfl) (by decide) ?_
      refine TB.op (SOK.pure (PV.sub rfl rfl (by omega)) rfl) (by decide) ?_
      refine TB.op (SOK.pure (PV.indexB (j := k - 1) rfl rfl Tb.elm_74 (by omega) (by omega)) rfl) (by decide) ?_
      refine TB.op (SOK.pure (PV.loadE (h := some (b, cap, sp)) (l := l) (j := k - 1) (e := 88) rfl Tb.agg_88 (fun yy hyy => by repeat (first | exact List.mem_append_left _ hyy | refine List.mem_append_right _ ?_ | refine List.Mem.tail _ ?_)) hgo (by omega) rfl) rfl) (by decide) ?_
      refine TB.no ?_
      refine TB.fin ?_
      refine TX.step [10] (by kernel_rfl) (by decide) ⟨⟨_, rfl, ?_⟩, trivial⟩
      refine TL.callF (f := 88) (caps := []) (X := Unit) (fun _ => .bool (besB (l.getD k default) (l.getD (k - 1) default))) (fun _ => True) (fun _ => ((b, Obj.cells (bdc l ++ sp).toArray 88 (0, 0)) :: R)) rfl rfl Tb.gofn_88 (fun a w hs => (beside_ok w (l.getD k default) (l.getD (k - 1) default)).mono fun e w' ⟨x9, h1, h2, h3⟩ => ⟨x9, h1, h2, hs.new.trans h3⟩) rfl (by decide) (fun _ _ => ?_)
      refine TL.nil ?_
      refine TX.next (.inl (by repeat (first | exact List.Sublist.slnil | exact List.nil_sublist _ | exact List.Sublist.refl _ | refine List.Sublist.cons_cons _ ?_ | refine List.Sublist.cons _ ?_ | refine List.Sublist.trans ?_ (List.sublist_append_right _ _)))) ?_
      refine TX.done (by kernel_rfl) ?_
      refine TQ.thenC ?_
      first | refine TC.condD rfl (fun hbes => ?_) (fun hbes => ?_) | refine TC.cond rfl (fun hbes => ?_) (fun hbes => ?_)
      · skip
        refine TC.seq ?_
        refine TC.region ?_
        refine TL.pure (PV.move rfl) rfl (by decide) ?_
        refine TL.pure (PV.move rfl) rfl (by decide) ?_
        refine TL.pure (PV.sliceLb (l := k) rfl rfl Tb.elm_74 rfl (by omega) (by omega)) rfl (by decide) ?_
        refine TL.pure (PV.assign rfl) rfl (by decide) ?_
        refine TL.nil ?_
        refine TQ.thenC ?_
        refine TC.seq ?_
        refine TC.seq ?_
        refine TC.region ?_
        refine TL.pure (PV.assign rfl) rfl (by decide) ?_
        refine TL.nil ?_
        refine TQ.thenC ?_
        refine TC.block ?_
        refine TC.loopK [0, 1, 4, 6] (X := Nat × Nat × List Bd) (fun v => CS l k v.1 v.2.1 v.2.2) (fun v => [(7, .int .i64 v.1), (5, .int .i64 v.2.1)]) (fun v => (b, Obj.cells (bdc v.2.2 ++ sp).toArray 88 (0, 0)) :: R) (fun v => l.length - k - v.1) (1, k, l) (CS.zero hk (by omega) (decide_eq_true hbes)) (by repeat (first | exact True.intro | refine And.intro rfl ?_)) (List.Sublist.refl _) ?_
        intro v hv
        refine TC.seq ?_
        refine TC.seq ?_
        refine TC.region ?_
        refine TL.pure (PV.move rfl) rfl (by decide) ?_
        refine TL.pure (PV.move rfl) rfl (by decide) ?_
        refine TL.pure (PV.len rfl Tb.sl_74) rfl (by decide) ?_
        refine TL.pure (PV.lss rfl rfl) rfl (by decide) ?_
        refine TL.nil ?_
        refine TQ.thenC ?_
        first | refine TC.condD rfl (fun hlt2 => ?_) (fun hlt2 => ?_) | refine TC.cond rfl (fun hlt2 => ?_) (fun hlt2 => ?_)
        · skip
          refine TC.skip ?_
          refine TQ.thenC ?_
          refine TC.seq ?_
          refine TC.block ?_
          refine TC.seq ?_
          have hvl := hv.len
          have h1 := hv.jl
          have h2 := hv.il
          have h3 := hv.je
          have hgw : goB (some (b, cap, sp)) v.2.2 := goB_len hgo hvl
          refine TC.mix [true, true, true, true, true, true, true, true, true, true, false, false] _ 2 Tb.mixed rfl (by kernel_rfl) (by kernel_rfl) (by kernel_rfl) (by kernel_rfl) (List.Sublist.refl _) ?_
          refine TB.op (SOK.pure (PV.move rfl) rfl) (by decide) ?_
          refine TB.op (SOK.pure (PV.move rfl) rfl) (by decide) ?_
          refine TB.op (SOK.pure (PV.move rfl) rfl) (by decide) ?_
          refine TB.op (SOK.pure (PV.indexO (k := k) (j := v.1) rfl rfl Tb.elm_74 rfl (by omega)) rfl) (by decide) ?_
          refine TB.op (SOK.pure (PV.loadE (h := some (b, cap, sp)) (l := v.2.2) (j := k + v.1) (e := 88) rfl Tb.agg_88 (fun yy hyy => by repeat (first | exact List.mem_append_left _ hyy | refine List.mem_append_right _ ?_ | refine List.Mem.tail _ ?_)) hgw (by omega) (hv.far _ (by omega))) rfl) (by decide) ?_
          refine TB.op (SOK.pure (PV.move rfl) rfl) (by decide) ?_
          refine TB.op (SOK.pure (PV.move rfl) rfl) (by decide) ?_
          refine TB.op (SOK.pure (PV.sub rfl rfl (by omega)) rfl) (by decide) ?_
          refine TB.op (SOK.pure (PV.indexO (k := k) (j := v.1 - 1) rfl rfl Tb.elm_74 (by omega) (by omega)) rfl) (by decide) ?_
          refine TB.op (SOK.pure (PV.loadE (h := some (b, cap, sp)) (l := v.2.2) (j := k + (v.1 - 1)) (e := 88) rfl Tb.agg_88 (fun yy hyy => by repeat (first | exact List.mem_append_left _ hyy | refine List.mem_append_right _ ?_ | refine List.Mem.tail _ ?_)) hgw (by omega) (hv.far _ (by omega))) rfl) (by decide) ?_
          refine TB.no ?_
          refine TB.no ?_
          refine TB.fin ?_
          refine TX.step [10] (by kernel_rfl) (by decide) ⟨⟨_, rfl, ?_⟩, trivial⟩
          refine TL.callF (f := 88) (caps := []) (X := Unit) (fun _ => .bool (besB (l.getD (k + v.1) default) (l.getD (k + (v.1 - 1)) default))) (fun _ => True) (fun _ => ((b, Obj.cells (bdc v.2.2 ++ sp).toArray 88 (0, 0)) :: R)) rfl rfl Tb.gofn_88 (fun a w hs => (beside_ok w (l.getD (k + v.1) default) (l.getD (k + (v.1 - 1)) default)).mono fun e w' ⟨x9, h1, h2, h3⟩ => ⟨x9, h1, h2, hs.new.trans h3⟩) rfl (by decide) (fun _ _ => ?_)
          refine TL.nil ?_
          refine TX.next (.inl (by repeat (first | exact List.Sublist.slnil | exact List.nil_sublist _ | exact List.Sublist.refl _ | refine List.Sublist.cons_cons _ ?_ | refine List.Sublist.cons _ ?_ | refine List.Sublist.trans ?_ (List.sublist_append_right _ _)))) ?_
          refine TX.step [11] (by kernel_rfl) (by decide) ⟨⟨_, rfl, ?_⟩, trivial⟩
          refine TL.pure ((by first | exact PV.notD rfl | exact PV.not rfl)) rfl (by decide) ?_
          refine TL.nil ?_
          refine TX.next (.inl (by repeat (first | exact List.Sublist.slnil | exact List.nil_sublist _ | exact List.Sublist.refl _ | refine List.Sublist.cons_cons _ ?_ | refine List.Sublist.cons _ ?_ | refine List.Sublist.trans ?_ (List.sublist_append_right _ _)))) ?_
          refine TX.done (by kernel_rfl) ?_
          refine TQ.thenC ?_
          first | refine TC.condD rfl (fun hnb => ?_) (fun hnb => ?_) | refine TC.cond rfl (fun hnb => ?_) (fun hnb => ?_)
          · skip
            let nx : Nat × Nat × List Bd := (v.1 + 1, v.2.1 + 1, v.2.2.set v.2.1 (l.getD (k + v.1) default))
            have hn1 : nx.1 = v.1 + 1 := rfl
            have hnx : CS l k nx.1 nx.2.1 nx.2.2 := hv.put (by omega) (by unfold besB; simpa using hnb)
            refine TC.seq ?_
            refine TC.region ?_
            refine TL.pure (PV.move rfl) rfl (by decide) ?_
            refine TL.pure (PV.move rfl) rfl (by decide) ?_
            refine TL.pure (PV.move rfl) rfl (by decide) ?_
            refine TL.pure (PV.move rfl) rfl (by decide) ?_
            refine TL.pure (PV.indexO (k := k) (j := v.1) rfl rfl Tb.elm_74 rfl (by omega)) rfl (by decide) ?_
            refine TL.pure (PV.loadE (h := some (b, cap, sp)) (l := v.2.2) (j := k + v.1) (e := 88) rfl Tb.agg_88 (fun yy hyy => by repeat (first | exact List.mem_append_left _ hyy | refine List.mem_append_right _ ?_ | refine List.Mem.tail _ ?_)) hgw (by omega) (hv.far _ (by omega))) rfl (by decide) ?_
            refine TL.pure (PV.indexB (j := v.2.1) rfl rfl Tb.elm_74 rfl (by omega)) rfl (by decide) ?_
            refine TL.putE (h := some (b, cap, sp)) (l0 := v.2.2) (j := v.2.1) (r := l.getD (k + v.1) default) (e := 88) (G' := (b, Obj.cells (bdc (v.2.2.set v.2.1 (l.getD (k + v.1) default)) ++ sp).toArray 88 (0, 0)) :: R) rfl rfl Tb.cells_88 hgw (PutH.here (some (b, cap, sp)) _ _ R) (by omega) rfl rfl ?_
            refine TL.nil ?_
            refine TQ.thenC ?_
            refine TC.region ?_
            refine TL.pure (PV.move rfl) rfl (by decide) ?_
            refine TL.pure (PV.add rfl rfl (by omega)) rfl (by decide) ?_
            refine TL.pure (PV.assign rfl) rfl (by decide) ?_
            refine TL.nil ?_
            refine TQ.blkN ?_
            refine TQ.thenC ?_
            refine TC.region ?_
            refine TL.pure (PV.move rfl) rfl (by decide) ?_
            refine TL.pure (PV.add rfl rfl (by omega)) rfl (by decide) ?_
            refine TL.pure (PV.assign rfl) rfl (by decide) ?_
            refine TL.nil ?_
            refine TQ.thenN ?_
            refine TQ.backK nx (by repeat (first | exact True.intro | refine And.intro rfl ?_)) (by repeat (first | exact True.intro | refine And.intro rfl ?_)) (List.Sublist.refl _) hnx (by rw [hn1]; omega)
          · skip
            let nx : Nat × Nat × List Bd := (v.1 + 1, v.2.1, v.2.2)
            have hn1 : nx.1 = v.1 + 1 := rfl
            have hnx : CS l k nx.1 nx.2.1 nx.2.2 := hv.skip (by omega) (by unfold besB; simpa using hnb)
            refine TC.skip ?_
            refine TQ.blkN ?_
            refine TQ.thenC ?_
            refine TC.region ?_
            refine TL.pure (PV.move rfl) rfl (by decide) ?_
            refine TL.pure (PV.add rfl rfl (by omega)) rfl (by decide) ?_
            refine TL.pure (PV.assign rfl) rfl (by decide) ?_
            refine TL.nil ?_
            refine TQ.thenN ?_
            refine TQ.backK nx (by repeat (first | exact True.intro | refine And.intro rfl ?_)) (by repeat (first | exact True.intro | refine And.intro rfl ?_)) (List.Sublist.refl _) hnx (by rw [hn1]; omega)
        · skip
          refine TC.exit ?_
          refine TQ.thenE ?_
          refine TQ.thenE ?_
          refine TQ.blkS ?_
          refine TQ.thenC ?_
          refine TC.seq ?_
          have hvl := hv.len
          have h1 := hv.jl
          have h2 := hv.il
          have h3 := hv.je
          have hend : k + v.1 = l.length := by omega
          have hcnt := hv.cnt hend
          refine TC.region ?_
          refine TL.pure (PV.move rfl) rfl (by decide) ?_
          refine TL.pure (PV.move rfl) rfl (by decide) ?_
          refine TL.pure (PV.sliceLb (l := v.2.1) rfl rfl Tb.elm_74 rfl (by omega) (by omega)) rfl (by decide) ?_
          refine TL.clearN (cs := bdc v.2.2 ++ sp) (zs := zB (l.length - v.2.1)) (G' := (b, Obj.cells (bdc (dedB l) ++ (zB (l.length - v.2.1) ++ sp)).toArray 88 (0, 0)) :: R) rfl (by omega) Tb.sl_74 Tb.zi_88 rfl (zB_one _) (by rw [clear_cells hvl rfl (by omega) (hv.done hend)]; exact Upd.head _) (by rw [zB_len, List.length_append, bdc_len]; omega) rfl rfl ?_
          refine TL.nil ?_
          refine TQ.thenC ?_
          refine TC.seq ?_
          refine TC.region ?_
          refine TL.pure (PV.move rfl) rfl (by decide) ?_
          refine TL.pure (PV.move rfl) rfl (by decide) ?_
          refine TL.pure (PV.sliceHb (h := v.2.1) rfl rfl Tb.elm_74 rfl (by omega)) rfl (by decide) ?_
          refine TL.pure (PV.assign rfl) rfl (by decide) ?_
          refine TL.nil ?_
          refine TQ.thenC ?_
          refine TC.ret ?_
          refine TQ.blkR ?_
          refine TQ.thenR ?_
          refine TQ.thenR ?_
          refine TQ.blkR ?_
          refine TQ.thenR ?_
          refine TQ.retE1 rfl rfl ?_
          first | exact ⟨zB (l.length - v.2.1) ++ sp, by rw [hcnt], ⟨bdc_len _, by rw [bdc_len, List.length_append, zB_len]; omega, by rw [hcnt]; omega⟩, List.Sublist.refl _⟩ | (have hd : dedB l = l := ded_all (fun j hj => by first | exact hk.2.2 j (by omega) | exact absurd hj (by omega)); exact ⟨sp, by rw [hd], by rw [hd]; exact hgo, by rw [hd]; exact List.Sublist.refl _⟩)
      · skip
        refine TC.skip ?_
        refine TQ.blkN ?_
        refine TQ.thenC ?_
        refine TC.region ?_
        refine TL.pure (PV.move rfl) rfl (by decide) ?_
        refine TL.pure (PV.add rfl rfl (by omega)) rfl (by decide) ?_
        refine TL.pure (PV.assign rfl) rfl (by decide) ?_
        refine TL.nil ?_
        refine TQ.thenN ?_
        refine TQ.backK (k + 1) (by repeat (first | exact True.intro | refine And.intro rfl ?_)) (by repeat (first | exact True.intro | refine And.intro rfl ?_)) (List.Sublist.refl _) ⟨by omega, by omega, fun j hj => if e : j + 1 < k then hk.2.2 j e else (show j = k - 1 by omega) ▸ (show k - 1 + 1 = k by omega).symm ▸ decide_eq_false hbes⟩ (by omega)
    · skip
      refine TC.exit ?_
      refine TQ.thenE ?_
      refine TQ.thenE ?_
      refine TQ.blkS ?_
      refine TQ.thenC ?_
      refine TC.seq ?_
      refine TC.region ?_
      refine TL.pure (PV.move rfl) rfl (by decide) ?_
      refine TL.pure (PV.assign rfl) rfl (by decide) ?_
      refine TL.nil ?_
      refine TQ.thenC ?_
      refine TC.ret ?_
      refine TQ.retE1 rfl rfl ?_
      first | exact ⟨zB (l.length - v.2.1) ++ sp, by rw [hcnt], ⟨bdc_len _, by rw [bdc_len, List.length_append, zB_len]; omega, by rw [hcnt]; omega⟩, List.Sublist.refl _⟩ | (have hd : dedB l = l := ded_all (fun j hj => by first | exact hk.2.2 j (by omega) | exact absurd hj (by omega)); exact ⟨sp, by rw [hd], by rw [hd]; exact hgo, by rw [hd]; exact List.Sublist.refl _⟩)

end Go.Proofs.Ytenalmddoljhoaa
