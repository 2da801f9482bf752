/- A column and its neighbors: contracts. -/
import Derived.Test.YtbnjmkidbfmomaaGreatDoorQCq
set_option linter.unusedVariables false
set_option linter.unusedSimpArgs false
namespace Go.Proofs.YtbnjmkidbfmomaaGreatDoor.C
open Go.Sx Go.RowKit

section
variable {P : Program} {n : Nat} {w0 : World} {E : Env} {G : Heap} {d : Option Nat} {ty : TypeId} {pos : String} {aft : Array Edge} {g : Option (Nat × Bool)}
theorem PV.sliceL1 {x y : Operand} {b len cap e l : Nat} {i : Int} {t : Nat} (hx : evo E x = some (.slice (some ⟨b, 0, none⟩) len cap)) (hy : evo E y = some (.int .i64 i))
    (ht : elemOf' P t = some (e, 1)) (hi : i = (l : Int)) (hl : l ≤ len) (hc : l < cap) : PV P n w0 E G ⟨d, .slice t x (some y) none none, ty, pos, aft, g⟩ (.slice (some ⟨b, l, none⟩) (len - l) (cap - l)) := by
  have h := PV.sliceL (P := P) (n := n) (w0 := w0) (G := G) (d := d) (ty := ty) (pos := pos) (aft := aft) (g := g) hx hy ht hi hl
  have e0 : cutA (some ⟨b, 0, none⟩) cap l 1 = some ⟨b, l, none⟩ := by unfold cutA; rw [if_neg (by omega)]; simp [add_off]
  rw [e0] at h
  exact h
theorem PV.loadIv {x : Operand} {b j : Nat} {t : Nat} {xs : List Int} {e : TypeId} {fr : Nat × Nat} {v : Int} (hx : evo E x = some (.pointer (some ⟨b, j, none⟩))) (ht : oneB P t = true)
    (hm : (b, Obj.cells (intsA xs) e fr) ∈ G) (hj : j < xs.length) (hv : xs.getD j 0 = v) : PV P n w0 E G ⟨d, .load t x, ty, pos, aft, g⟩ (.int .i64 v) := by
  subst hv
  exact PV.loadI hx ht hm hj
variable {ops : Array Oper} {Q : Exit → Act → World → Prop} {l : List Oper}
theorem TL.clearN {dd : Option Nat} {x : Operand} {t e sz by_ len cap b off : Nat} {z : Value} {cs zs : List Value} {G' : Heap} (hx : evo E x = some (.slice (some ⟨b, off, none⟩) len cap)) (hlen : 0 < len)
    (ht : P.underlying t = some (.slice e)) (hz : zeroI P e = some (z, sz, by_)) (hzs : (Builtin.zeroCells z.cells len).toList = zs) (h1 : ∀ v ∈ zs, v.oneCell' = true)
    (hu : Upd b (.cells cs.toArray e (0, 0)) (.cells (cs.take off ++ zs ++ cs.drop (off + zs.length)).toArray e (0, 0)) G G')
    (hle : off + zs.length ≤ cs.length) (hg : wants ops E g = some true) (hdd : dd = none)
    (h : TL P n w0 ops Q l E G') :
    TL P n w0 ops Q (⟨dd, .call { callee := .builtin .clear, args := #[x], argTypes := #[t] }, ty, pos, aft, g⟩ :: l) E G :=
  TL.step hg fun a w hs => by
    subst hdd
    obtain ⟨k, rfl⟩ : ∃ k, len = k + 1 := ⟨len - 1, by omega⟩
    unfold zeroI at hz
    cases hinf : P.info? e with
    | none => simp [hinf] at hz
    | some inf =>
      simp [hinf] at hz
      obtain ⟨z', hz1, rfl, hz2, hz3⟩ := hz
      have hexec : (execOp a.eval ⟨none, .call { callee := .builtin .clear, args := #[x], argTypes := #[t] }, ty, pos, aft, g⟩).run P w =
          ((Builtin.clear_ #[t] ty #[.slice (some ⟨b, off, none⟩) (k + 1) cap]).run P w).andThen fun v w' => .ok (.value v) w' := by
        simp only [execOp, resolve, List.map_toArray, List.map_cons, List.map_nil, hs.ev hx]
        simp [invoke, builtin]
      unfold Oper.wp
      rw [hexec]
      have hblk : w.heap[b]? = some (.cells cs.toArray e (0, 0)) := hs.new.here _ hu.mem
      have hst := run_storeCells_at (P := P) b off e zs 0 cs.toArray w hblk (by simp; omega) h1
      simp only [Nat.add_zero] at hst
      have hr : (Builtin.clear_ #[t] ty #[.slice (some ⟨b, off, none⟩) (k + 1) cap]).run P w = .ok (.tuple #[]) (w.setRow b (cs.take off ++ zs ++ cs.drop (off + zs.length)).toArray) := by
        simp [Builtin.clear_, run_underlying ht, zeroValue, typeInfo, hinf, hz1, hzs, hst]
      rw [hr]
      refine h _ _ (hs.world ?_)
      refine hs.new.turn hu ?_ ?_ rfl rfl rfl ?_ rfl
      · simp only [World.setRow, Array.getElem?_modify, if_true, hblk, Option.map_some]
      · intro k hk
        simp only [World.setRow, Array.getElem?_modify]
        rw [if_neg (by omega)]
      · simp [World.setRow]
end

abbrev zI (n : Nat) : List Value := (Builtin.zeroCells (Value.int .i64 0).cells n).toList
theorem zI_len (n : Nat) : (zI n).length = n := by simp [zI, Builtin.zeroCells, Value.cells]
theorem zI_one (n : Nat) : ∀ v ∈ zI n, v.oneCell' = true := by
  intro v hv
  simp only [zI, Builtin.zeroCells, Array.toList_map, List.mem_map] at hv
  obtain ⟨i, _, rfl⟩ := hv
  show ((#[(.int .i64 0)] : Array Value)[i % 1]!).oneCell' = true
  rw [show i % 1 = 0 by omega]
  rfl
theorem one_cell {w : World} {q : Addr} {x : Value} (h : w.cell? q = some x) : ∀ (j : Nat) (v : Value), [x][j]? = some v → w.cell? (q.add j) = some v := by
  intro j v hv
  have hj : j = 0 := by
    have := (List.getElem?_eq_some_iff.1 hv).1
    simp at this
    omega
  subst hj
  simp at hv
  subst hv
  rw [show q.add 0 = q by cases q; simp [Addr.add]]
  exact h
/-- The bog has this column. -/
def nrB (ls : List (List Int)) (d : Int) : Bool := wiB d 0 (ls.length - 1)
def Fnd (ls : List (List Int)) (xs : List Int) (i : Int) : Prop := (i = -1 ∧ ∀ j, j < xs.length → nrB ls (xs.getD j 0) = true) ∨ (∃ k : Nat, i = k ∧ k < xs.length ∧ nrB ls (xs.getD k 0) = false ∧ ∀ j, j < k → nrB ls (xs.getD j 0) = true)
def keptN (ls : List (List Int)) (xs : List Int) (j : Nat) : List Int := (xs.take j).filter (nrB ls)
def fltW (ls : List (List Int)) (xs : List Int) (j : Nat) : List Int := keptN ls xs j ++ xs.drop (keptN ls xs j).length
theorem take_succ_getD {xs : List Int} {j : Nat} (hj : j < xs.length) : xs.take (j + 1) = xs.take j ++ [xs.getD j 0] := by
  rw [List.take_add_one, List.getElem?_eq_getElem hj]
  simp [List.getD, hj]
theorem kept_le (ls : List (List Int)) (xs : List Int) (j : Nat) : (keptN ls xs j).length ≤ j := Nat.le_trans (List.length_filter_le _ _) (by rw [List.length_take]; omega)
theorem kept_le2 (ls : List (List Int)) (xs : List Int) (j : Nat) : (keptN ls xs j).length ≤ xs.length := Nat.le_trans (List.length_filter_le _ _) (by rw [List.length_take]; omega)
theorem kept_skip {ls : List (List Int)} {xs : List Int} {j : Nat} (hj : j < xs.length) (h : nrB ls (xs.getD j 0) = false) : keptN ls xs (j + 1) = keptN ls xs j := by
  unfold keptN
  rw [take_succ_getD hj, List.filter_append, List.filter_cons_of_neg (by rw [h]; decide), List.filter_nil, List.append_nil]
theorem kept_put {ls : List (List Int)} {xs : List Int} {j : Nat} (hj : j < xs.length) (h : nrB ls (xs.getD j 0) = true) : keptN ls xs (j + 1) = keptN ls xs j ++ [xs.getD j 0] := by
  unfold keptN
  rw [take_succ_getD hj, List.filter_append, List.filter_cons_of_pos h, List.filter_nil]
theorem kept_all {ls : List (List Int)} {xs : List Int} : ∀ {k : Nat}, k ≤ xs.length → (∀ j, j < k → nrB ls (xs.getD j 0) = true) → keptN ls xs k = xs.take k
  | 0, _, _ => by simp [keptN]
  | k + 1, hk, h => by rw [kept_put (by omega) (h k (by omega)), kept_all (by omega) (fun j hj => h j (by omega)), take_succ_getD (by omega)]
theorem kept_end {ls : List (List Int)} {xs : List Int} {j : Nat} (h : xs.length ≤ j) : keptN ls xs j = xs.filter (nrB ls) := by
  unfold keptN
  rw [List.take_of_length_le h]
theorem fltW_len {ls : List (List Int)} {xs : List Int} (j : Nat) : (fltW ls xs j).length = xs.length := by
  have := kept_le2 ls xs j
  unfold fltW
  rw [List.length_append, List.length_drop]
  omega
theorem fltW_at {ls : List (List Int)} {xs : List Int} (j : Nat) : (fltW ls xs j).getD j 0 = xs.getD j 0 := by
  have := kept_le ls xs j
  unfold fltW
  rw [List.getD_eq_getElem?_getD, List.getElem?_append_right this, List.getElem?_drop, List.getD_eq_getElem?_getD]
  congr 2
  omega
theorem fltW_start {ls : List (List Int)} {xs : List Int} {k : Nat} (hk : k < xs.length) (h : nrB ls (xs.getD k 0) = false) (h2 : ∀ j, j < k → nrB ls (xs.getD j 0) = true) : fltW ls xs (k + 1) = xs ∧ (keptN ls xs (k + 1)).length = k := by
  have e := kept_skip hk h
  rw [kept_all (by omega) h2] at e
  have hl : (xs.take k).length = k := by rw [List.length_take]; omega
  unfold fltW
  rw [e, hl]
  exact ⟨List.take_append_drop _ _, rfl⟩
theorem fltW_skip {ls : List (List Int)} {xs : List Int} {j : Nat} (hj : j < xs.length) (h : nrB ls (xs.getD j 0) = false) : fltW ls xs (j + 1) = fltW ls xs j := by
  unfold fltW
  rw [kept_skip hj h]
theorem fltW_put {ls : List (List Int)} {xs : List Int} {j : Nat} (hj : j < xs.length) (h : nrB ls (xs.getD j 0) = true) : (fltW ls xs j).set (keptN ls xs j).length (xs.getD j 0) = fltW ls xs (j + 1) := by
  have := kept_le ls xs j
  unfold fltW
  rw [kept_put hj h, List.set_append_right _ _ (Nat.le_refl _), Nat.sub_self, List.append_assoc]
  congr 1
  rw [List.drop_eq_getElem_cons (by omega), List.length_append]
  rfl
/-- What is left behind is cleared. -/
theorem fltW_clear {ls : List (List Int)} {xs : List Int} {j i : Nat} (hj : xs.length ≤ j) (hi : i = (keptN ls xs j).length) :
    ((fltW ls xs j).map (Value.int .i64)).take i ++ zI (xs.length - i) ++ ((fltW ls xs j).map (Value.int .i64)).drop (i + (zI (xs.length - i)).length) = (xs.filter (nrB ls)).map (Value.int .i64) ++ zI (xs.length - i) := by
  subst hi
  have h1 := kept_le2 ls xs j
  rw [zI_len, List.drop_of_length_le (by rw [List.length_map, fltW_len]; omega), List.append_nil, ← List.map_take]
  congr 2
  unfold fltW
  rw [List.take_left', kept_end hj]
  rfl
theorem flt_all {ls : List (List Int)} {xs : List Int} {i : Int} (h : Fnd ls xs i) (hi : i = -1) : xs.filter (nrB ls) = xs := by
  rcases h with ⟨_, h⟩ | ⟨k, h, _⟩
  · rw [← kept_end (ls := ls) (Nat.le_refl _), kept_all (Nat.le_refl _) h, List.take_length]
  · omega
def nearL (ls : List (List Int)) (c : Nat) : List Int := [(c : Int) - 1, (c : Int), (c : Int) + 1].filter (nrB ls)
theorem fill_i3 (a b c : Int) : Instr.fill (fun i => some (i * 1, 1)) ((Array.range (3 * 1)).map ((Value.int .i64 0).cells[· % (Value.int .i64 0).cells.size]!)) [(0, .int .i64 a), (1, .int .i64 b), (2, .int .i64 c)] = some #[.int .i64 a, .int .i64 b, .int .i64 c] := by kernel_rfl

set_option maxRecDepth 100000 in
theorem isColumn_ok (w0 : World) (p : Option Addr) (cap : Nat) (ls : List (List Int)) (hr : LsAt w0 p ls) (hb : 1 ≤ ls.length ∧ ls.length ≤ 6) (d : Int) :
    Calls Tryz.prog 251 #[bv p ls.length cap, .int .i64 d] w0 (Post (X := Unit) (fun _ => .bool (nrB ls d)) (fun _ => True) (fun _ => []) w0) := by
  refine calls Tryz.func251 rfl (n := 11) rfl (by simp) ?_
  refine TC.seq ?_
  refine TC.region ?_
  refine TL.box rfl rfl (by decide) (fun b0 hb0 => ?_)
  refine TL.pure (PV.assign rfl) rfl (by decide) ?_
  refine TL.nil ?_
  refine TQ.thenC ?_
  refine TC.seq ?_
  refine TC.region ?_
  refine TL.pure (PV.move rfl) rfl (by decide) ?_
  refine TL.pure (PV.fieldAddr rfl Tb.fo_24_0) rfl (by decide) ?_
  refine TL.pure (PV.load rfl Tb.one_22 (by repeat (first | exact List.Mem.head _ | refine List.Mem.tail _ ?_ | refine List.mem_append_right _ ?_)) rfl) rfl (by decide) ?_
  refine TL.pure (PV.len rfl Tb.sl_22) rfl (by decide) ?_
  refine TL.pure (PV.sub rfl rfl (by omega)) rfl (by decide) ?_
  refine TL.call rfl Tb.gofn_93 (fun a w hs => isWithin_ok w _ _ _) rfl (by decide) (fun _ _ => ?_)
  refine TL.pure (PV.assign rfl) rfl (by decide) ?_
  refine TL.nil ?_
  refine TQ.thenC ?_
  refine TC.ret ?_
  refine TQ.retE1 rfl rfl ?_
  exact ⟨(), rfl, trivial, List.nil_sublist _⟩

set_option maxRecDepth 100000 in
theorem nearC_ok (w0 : World) (p : Option Addr) (cap : Nat) (ls : List (List Int)) (hr : LsAt w0 p ls) (hb : 1 ≤ ls.length ∧ ls.length ≤ 6) (q : Addr) (hq : w0.cell? q = some (.slice p ls.length cap)) (d : Int) :
    Calls Tryz.prog 250 #[.int .i64 d, .pointer (some q)] w0 (Post (X := Unit) (fun _ => .bool (!nrB ls d)) (fun _ => True) (fun _ => []) w0) := by
  refine calls Tryz.func250 rfl (n := 8) rfl (by simp) ?_
  refine TC.seq ?_
  refine TC.region ?_
  refine TL.pure (PV.assign rfl) rfl (by decide) ?_
  refine TL.nil ?_
  refine TQ.thenC ?_
  refine TC.seq ?_
  refine TC.region ?_
  refine TL.pure (PV.loadAggA (vs := [.slice p ls.length cap]) rfl Tb.agg_24 rfl (one_cell hq)) rfl (by decide) ?_
  refine TL.pure (PV.move rfl) rfl (by decide) ?_
  refine TL.call rfl Tb.gofn_251 (fun a w hs => isColumn_ok w _ _ _ (hr.new hs.new) hb _) rfl (by decide) (fun _ _ => ?_)
  refine TL.pure ((by first | exact PV.notD rfl | exact PV.not rfl)) rfl (by decide) ?_
  refine TL.pure (PV.assign rfl) rfl (by decide) ?_
  refine TL.nil ?_
  refine TQ.thenC ?_
  refine TC.ret ?_
  refine TQ.retE1 rfl rfl ?_
  exact ⟨(), by unfold nrB wiB; rw [decide_not], trivial, List.nil_sublist _⟩

set_option maxRecDepth 100000 in
theorem indexNear_ok (w0 : World) (pl : Option Addr) (cl : Nat) (xs : List Int) (hx : IntsAt w0 pl xs) (hl : xs.length ≤ 1000000) (p : Option Addr) (cap : Nat) (ls : List (List Int)) (hr : LsAt w0 p ls) (hb : 1 ≤ ls.length ∧ ls.length ≤ 6) (q : Addr) (hq : w0.cell? q = some (.slice p ls.length cap)) :
    Calls Tryz.prog 202 #[.slice pl xs.length cl, .func (.func 250) #[] #[.pointer (some q)]] w0 (Post (X := Int) (fun i => .int .i64 i) (fun i => Fnd ls xs i) (fun _ => []) w0) := by
  refine calls Tryz.func202 rfl (n := 19) rfl (by simp) ?_
  refine TC.seq ?_
  refine TC.region ?_
  refine TL.pure (PV.assign rfl) rfl (by decide) ?_
  refine TL.nil ?_
  refine TQ.thenC ?_
  refine TC.seq ?_
  refine TC.seq ?_
  refine TC.region ?_
  refine TL.pure (PV.move rfl) rfl (by decide) ?_
  refine TL.pure (PV.len rfl Tb.sl_25) rfl (by decide) ?_
  refine TL.pure (PV.move rfl) rfl (by decide) ?_
  refine TL.nil ?_
  refine TQ.thenC ?_
  refine TC.block ?_
  -- live and written in the loop, not told: [4]
  refine TC.loopG [0, 1, 7] (X := Nat) (fun k => k ≤ xs.length ∧ ∀ j, j < k → nrB ls (xs.getD j 0) = true) (fun k => [(8, .int .i64 k)]) (fun k => xs.length - k) 0 ⟨Nat.zero_le _, fun j hj => absurd hj (Nat.not_lt_zero _)⟩ (by repeat (first | exact True.intro | refine And.intro rfl ?_)) ?_
  intro k hk
  refine TC.seq ?_
  refine TC.region ?_
  refine TL.pure (PV.lss rfl rfl) rfl (by decide) ?_
  refine TL.nil ?_
  refine TQ.thenC ?_
  refine TC.seq ?_
  first | refine TC.condD rfl (fun hlt => ?_) (fun hlt => ?_) | refine TC.cond rfl (fun hlt => ?_) (fun hlt => ?_)
  · refine TC.skip ?_
    refine TQ.thenC ?_
    refine TC.seq ?_
    refine TC.block ?_
    refine TC.seq ?_
    refine TC.region ?_
    refine TL.pure (PV.move rfl) rfl (by decide) ?_
    refine TL.pure (PV.assign rfl) rfl (by decide) ?_
    refine TL.nil ?_
    refine TQ.thenC ?_
    refine TC.seq ?_
    obtain ⟨q2, hq2p, hq2⟩ := hx k (by omega)
    refine TC.region ?_
    refine TL.pure (PV.move rfl) rfl (by decide) ?_
    refine TL.pure (PV.move rfl) rfl (by decide) ?_
    refine TL.pure (PV.move rfl) rfl (by decide) ?_
    refine TL.pure (PV.indexA rfl hq2p rfl Tb.elm_25 rfl (by omega)) rfl (by decide) ?_
    refine TL.pure (PV.loadOld rfl Tb.one_3 hq2) rfl (by decide) ?_
    refine TL.callF (f := 250) (caps := [.pointer (some q)]) (X := Unit) (fun _ => .bool (!nrB ls (xs.getD k 0))) (fun _ => True) (fun _ => []) rfl rfl Tb.gofn_250 (fun a w hs => (nearC_ok w _ _ _ (hr.new hs.new) hb q (hs.new.old hq) (xs.getD k 0)).mono fun e w' ⟨x9, h1, h2, h3⟩ => ⟨x9, h1, h2, hs.new.trans h3⟩) rfl (by decide) (fun _ _ => ?_)
    refine TL.nil ?_
    refine TQ.thenC ?_
    first | refine TC.condD rfl (fun hno => ?_) (fun hno => ?_) | refine TC.cond rfl (fun hno => ?_) (fun hno => ?_)
    · refine TC.seq ?_
      refine TC.region ?_
      refine TL.pure (PV.move rfl) rfl (by decide) ?_
      refine TL.pure (PV.assign rfl) rfl (by decide) ?_
      refine TL.nil ?_
      refine TQ.thenC ?_
      refine TC.ret ?_
      refine TQ.blkR ?_
      refine TQ.thenR ?_
      refine TQ.thenR ?_
      refine TQ.blkR ?_
      refine TQ.thenR ?_
      refine TQ.retE1 rfl rfl ?_
      first | exact ⟨k, rfl, .inr ⟨k, rfl, by omega, by simpa using hno, hk.2⟩, List.nil_sublist _⟩ | exact ⟨-1, rfl, .inl ⟨rfl, fun j hj => hk.2 j (by omega)⟩, List.nil_sublist _⟩
    · refine TC.skip ?_
      refine TQ.blkN ?_
      refine TQ.thenC ?_
      refine TC.region ?_
      refine TL.pure (PV.add rfl rfl (by omega)) rfl (by decide) ?_
      refine TL.pure (PV.move rfl) rfl (by decide) ?_
      refine TL.nil ?_
      refine TQ.thenN ?_
      refine TQ.backK (k + 1) (by repeat (first | exact True.intro | refine And.intro rfl ?_)) (by repeat (first | exact True.intro | refine And.intro rfl ?_)) (by repeat (first | exact .slnil | exact List.nil_sublist _ | exact .refl _ | refine .cons_cons _ ?_ | refine .cons _ ?_ | refine .trans ?_ (List.sublist_append_right _ _))) ⟨by omega, fun j hj => if e : j < k then hk.2 j e else (show k = j by omega) ▸ (by simpa using hno)⟩ (by omega)
  · refine TC.exit ?_
    refine TQ.thenE ?_
    refine TQ.thenE ?_
    refine TQ.blkS ?_
    refine TQ.thenC ?_
    refine TC.seq ?_
    refine TC.region ?_
    refine TL.pure (PV.assign rfl) rfl (by decide) ?_
    refine TL.nil ?_
    refine TQ.thenC ?_
    refine TC.ret ?_
    refine TQ.retE1 rfl rfl ?_
    first | exact ⟨k, rfl, .inr ⟨k, rfl, by omega, by simpa using hno, hk.2⟩, List.nil_sublist _⟩ | exact ⟨-1, rfl, .inl ⟨rfl, fun j hj => hk.2 j (by omega)⟩, List.nil_sublist _⟩

set_option maxRecDepth 100000 in
set_option maxHeartbeats 1000000 in
theorem deleteNear_ok {w0 w : World} {b b0 cc : Nat} {xs : List Int} {R : Heap} (hn : New w0 w ((b, .cells (intsA xs) 3 (0, 0)) :: R)) (hl : xs.length ≤ 1000000) (hcap : xs.length ≤ cc) (p : Option Addr) (cap : Nat) (ls : List (List Int)) (hr : LsAt w0 p ls) (hb : 1 ≤ ls.length ∧ ls.length ≤ 6) (hq : (b0, Obj.cells #[.slice p ls.length cap] 24 (0, 0)) ∈ R) :
    Calls Tryz.prog 249 #[.slice (some ⟨b, 0, none⟩) xs.length cc, .func (.func 250) #[] #[.pointer (some ⟨b0, 0, none⟩)]] w (Post (X := List Value) (fun _ => .slice (some ⟨b, 0, none⟩) (xs.filter (nrB ls)).length cc) (fun _ => True) (fun s => (b, .cells ((xs.filter (nrB ls)).map (Value.int .i64) ++ s).toArray 3 (0, 0)) :: R) w0) := by
  refine callsM hn Tryz.func249 rfl (n := 42) rfl (by simp) ?_
  refine TC.seq ?_
  refine TC.region ?_
  refine TL.pure (PV.assign rfl) rfl (by decide) ?_
  refine TL.nil ?_
  refine TQ.thenC ?_
  refine TC.seq ?_
  refine TC.region ?_
  refine TL.pure (PV.move rfl) rfl (by decide) ?_
  refine TL.pure (PV.move rfl) rfl (by decide) ?_
  refine TL.call rfl Tb.gofn_202 (fun a w hs => indexNear_ok w _ _ xs (IntsAt.arr hs.new (List.mem_cons_self ..)) hl _ _ _ (hr.new hs.new) hb ⟨b0, 0, none⟩ (hs.new.cell (List.mem_cons_of_mem _ hq) rfl)) rfl (by decide) (fun i9 hi9 => ?_)
  refine TL.pure (PV.assign rfl) rfl (by decide) ?_
  refine TL.nil ?_
  refine TQ.thenC ?_
  refine TC.seq ?_
  refine TC.seq ?_
  refine TC.region ?_
  refine TL.pure (PV.move rfl) rfl (by decide) ?_
  refine TL.pure (PV.eql rfl rfl) rfl (by decide) ?_
  refine TL.nil ?_
  refine TQ.thenC ?_
  first | refine TC.condD rfl (fun hno => ?_) (fun hno => ?_) | refine TC.cond rfl (fun hno => ?_) (fun hno => ?_)
  · refine TC.seq ?_
    refine TC.region ?_
    refine TL.pure (PV.move rfl) rfl (by decide) ?_
    refine TL.pure (PV.assign rfl) rfl (by decide) ?_
    refine TL.nil ?_
    refine TQ.thenC ?_
    refine TC.ret ?_
    refine TQ.thenR ?_
    refine TQ.retE1 rfl rfl ?_
    have hf := flt_all hi9 hno
    exact ⟨[], by rw [hf], trivial, by rw [hf, List.append_nil]; exact List.Sublist.refl _⟩
  · refine TC.skip ?_
    refine TQ.thenC ?_
    refine TC.seq ?_
    refine TC.seq ?_
    obtain ⟨k, hik, hkl, hkn, hkb⟩ : ∃ k : Nat, i9 = k ∧ k < xs.length ∧ nrB ls (xs.getD k 0) = false ∧ ∀ j, j < k → nrB ls (xs.getD j 0) = true := by rcases hi9 with h | h; (exact absurd h.1 (by omega)); exact h
    subst hik
    have hst := fltW_start hkl hkn hkb
    refine TC.region ?_
    refine TL.pure (PV.move rfl) rfl (by decide) ?_
    refine TL.pure (PV.add rfl rfl (by omega)) rfl (by decide) ?_
    refine TL.pure (PV.assign rfl) rfl (by decide) ?_
    refine TL.nil ?_
    refine TQ.thenC ?_
    refine TC.block ?_
    refine TC.loopK [0, 1, 4] (X := Nat) (fun j => j ≤ xs.length ∧ (keptN ls xs j).length < j) (fun j => [(6, .int .i64 j), (5, .int .i64 (keptN ls xs j).length)]) (fun j => (b, Obj.cells (intsA (fltW ls xs j)) 3 (0, 0)) :: R) (fun j => xs.length - j) (k + 1) ⟨by omega, by rw [hst.2]; omega⟩ (by refine And.intro rfl (And.intro ?_ True.intro); show some _ = some _; rw [hst.2]) (by rw [hst.1]; exact List.Sublist.refl _) ?_
    intro j hj
    refine TC.seq ?_
    refine TC.seq ?_
    refine TC.region ?_
    refine TL.pure (PV.move rfl) rfl (by decide) ?_
    refine TL.pure (PV.move rfl) rfl (by decide) ?_
    refine TL.pure (PV.len rfl Tb.sl_25) rfl (by decide) ?_
    refine TL.pure (PV.lss rfl rfl) rfl (by decide) ?_
    refine TL.nil ?_
    refine TQ.thenC ?_
    first | refine TC.condD rfl (fun hlt => ?_) (fun hlt => ?_) | refine TC.cond rfl (fun hlt => ?_) (fun hlt => ?_)
    · refine TC.skip ?_
      refine TQ.thenC ?_
      refine TC.seq ?_
      refine TC.block ?_
      refine TC.seq ?_
      have hkj := kept_le ls xs j
      have hkx := kept_le2 ls xs j
      have hat := fltW_at (ls := ls) (xs := xs) j
      refine TC.region ?_
      refine TL.pure (PV.move rfl) rfl (by decide) ?_
      refine TL.pure (PV.move rfl) rfl (by decide) ?_
      refine TL.pure (PV.index1 (j := j) rfl rfl Tb.elm_25 rfl (by omega)) rfl (by decide) ?_
      refine TL.pure (PV.loadIv rfl Tb.one_3 (List.mem_cons_self ..) (by rw [fltW_len]; omega) hat) rfl (by decide) ?_
      refine TL.pure (PV.assign rfl) rfl (by decide) ?_
      refine TL.nil ?_
      refine TQ.thenC ?_
      refine TC.seq ?_
      refine TC.region ?_
      refine TL.pure (PV.move rfl) rfl (by decide) ?_
      refine TL.pure (PV.move rfl) rfl (by decide) ?_
      refine TL.callF (f := 250) (caps := [.pointer (some ⟨b0, 0, none⟩)]) (X := Unit) (fun _ => .bool (!nrB ls (xs.getD j 0))) (fun _ => True) (fun _ => (b, Obj.cells (intsA (fltW ls xs j)) 3 (0, 0)) :: R) rfl rfl Tb.gofn_250 (fun a w hs => (nearC_ok w _ _ _ (hr.new hs.new) hb ⟨b0, 0, none⟩ (hs.new.cell (List.mem_cons_of_mem _ hq) rfl) (xs.getD j 0)).mono fun e w' ⟨x9, h1, h2, h3⟩ => ⟨x9, h1, h2, hs.new.trans h3⟩) rfl (by decide) (fun _ _ => ?_)
      refine TL.pure ((by first | exact PV.notD rfl | exact PV.not rfl)) rfl (by decide) ?_
      refine TL.nil ?_
      refine TQ.thenC ?_
      first | refine TC.condD rfl (fun hin => ?_) (fun hin => ?_) | refine TC.cond rfl (fun hin => ?_) (fun hin => ?_)
      · have hin2 : nrB ls (xs.getD j 0) = true := by simpa using hin
        have hlk : (keptN ls xs (j + 1)).length = (keptN ls xs j).length + 1 := by rw [kept_put (by omega) hin2, List.length_append]; rfl
        refine TC.seq ?_
        refine TC.region ?_
        refine TL.pure (PV.move rfl) rfl (by decide) ?_
        refine TL.pure (PV.move rfl) rfl (by decide) ?_
        refine TL.pure (PV.move rfl) rfl (by decide) ?_
        refine TL.pure (PV.index1 (j := (keptN ls xs j).length) rfl rfl Tb.elm_25 rfl (by omega)) rfl (by decide) ?_
        refine TL.storeI (j := (keptN ls xs j).length) (xs := fltW ls xs j) (v := xs.getD j 0) (G' := (b, Obj.cells (intsA (fltW ls xs (j + 1))) 3 (0, 0)) :: R) rfl rfl Tb.cells_3 (by rw [fltW_put (by omega) hin2]; exact Upd.head _) (by rw [fltW_len]; omega) rfl rfl ?_
        refine TL.nil ?_
        refine TQ.thenC ?_
        refine TC.region ?_
        refine TL.pure (PV.move rfl) rfl (by decide) ?_
        refine TL.pure (PV.add rfl rfl (by omega)) rfl (by decide) ?_
        refine TL.pure (PV.assign rfl) rfl (by decide) ?_
        refine TL.nil ?_
        refine TQ.blkN ?_
        refine TQ.thenC ?_
        refine TC.region ?_
        refine TL.pure (PV.move rfl) rfl (by decide) ?_
        refine TL.pure (PV.add rfl rfl (by omega)) rfl (by decide) ?_
        refine TL.pure (PV.assign rfl) rfl (by decide) ?_
        refine TL.nil ?_
        refine TQ.thenN ?_
        refine TQ.backK (j + 1) (by refine And.intro rfl (And.intro ?_ True.intro); show some _ = some _; rw [hlk]; try rfl) (by repeat (first | exact True.intro | refine And.intro rfl ?_)) (by first | exact List.Sublist.refl _ | (rw [hnw]; exact List.Sublist.refl _)) ⟨by omega, by rw [hlk]; omega⟩ (by omega)
      · have hin2 : nrB ls (xs.getD j 0) = false := by simpa using hin
        have hlk : (keptN ls xs (j + 1)).length = (keptN ls xs j).length := by rw [kept_skip (by omega) hin2]
        have hnw := fltW_skip (by omega) hin2
        refine TC.skip ?_
        refine TQ.blkN ?_
        refine TQ.thenC ?_
        refine TC.region ?_
        refine TL.pure (PV.move rfl) rfl (by decide) ?_
        refine TL.pure (PV.add rfl rfl (by omega)) rfl (by decide) ?_
        refine TL.pure (PV.assign rfl) rfl (by decide) ?_
        refine TL.nil ?_
        refine TQ.thenN ?_
        refine TQ.backK (j + 1) (by refine And.intro rfl (And.intro ?_ True.intro); show some _ = some _; rw [hlk]; try rfl) (by repeat (first | exact True.intro | refine And.intro rfl ?_)) (by first | exact List.Sublist.refl _ | (rw [hnw]; exact List.Sublist.refl _)) ⟨by omega, by rw [hlk]; omega⟩ (by omega)
    · refine TC.exit ?_
      refine TQ.thenE ?_
      refine TQ.thenE ?_
      refine TQ.blkS ?_
      refine TQ.thenC ?_
      refine TC.seq ?_
      have hend : xs.length ≤ j := by omega
      have hkj := kept_le ls xs j
      have hkx := kept_le2 ls xs j
      have hlen : (keptN ls xs j).length < xs.length := by omega
      have hfin := kept_end (ls := ls) hend
      refine TC.region ?_
      refine TL.pure (PV.move rfl) rfl (by decide) ?_
      refine TL.pure (PV.move rfl) rfl (by decide) ?_
      refine TL.pure (PV.sliceL1 (l := (keptN ls xs j).length) rfl rfl Tb.elm_25 rfl (by omega) (by omega)) rfl (by decide) ?_
      refine TL.clearN (cs := (fltW ls xs j).map (Value.int .i64)) (zs := zI (xs.length - (keptN ls xs j).length)) (G' := (b, Obj.cells ((xs.filter (nrB ls)).map (Value.int .i64) ++ zI (xs.length - (keptN ls xs j).length)).toArray 3 (0, 0)) :: R) rfl (by omega) Tb.sl_25 Tb.zi_3 rfl (zI_one _) (by rw [fltW_clear (by omega) rfl]; exact Upd.head _) (by rw [zI_len, List.length_map, fltW_len]; omega) rfl rfl ?_
      refine TL.nil ?_
      refine TQ.thenC ?_
      refine TC.seq ?_
      refine TC.region ?_
      refine TL.pure (PV.move rfl) rfl (by decide) ?_
      refine TL.pure (PV.move rfl) rfl (by decide) ?_
      refine TL.pure (PV.sliceHb (h := (keptN ls xs j).length) rfl rfl Tb.elm_25 rfl (by omega)) rfl (by decide) ?_
      refine TL.pure (PV.assign rfl) rfl (by decide) ?_
      refine TL.nil ?_
      refine TQ.thenC ?_
      refine TC.ret ?_
      refine TQ.retE1 rfl rfl ?_
      exact ⟨zI (xs.length - (keptN ls xs j).length), by rw [hfin], trivial, List.Sublist.refl _⟩

set_option maxRecDepth 100000 in
set_option maxHeartbeats 1000000 in
theorem near_ok (w0 : World) (p : Option Addr) (cap : Nat) (ls : List (List Int)) (hr : LsAt w0 p ls) (hb : 1 ≤ ls.length ∧ ls.length ≤ 6) (c : Nat) (hc : c < ls.length) :
    Calls Tryz.prog 238 #[bv p ls.length cap, .int .i64 c] w0 (Post (X := Nat × List Value) (fun x => .slice (some ⟨x.1, 0, none⟩) (nearL ls c).length 3) (fun _ => True) (fun x => [(x.1, .cells ((nearL ls c).map (Value.int .i64) ++ x.2).toArray 3 (0, 0))]) w0) := by
  refine calls Tryz.func238 rfl (n := 13) rfl (by simp) ?_
  refine TC.seq ?_
  refine TC.region ?_
  refine TL.box rfl rfl (by decide) (fun b0 hb0 => ?_)
  refine TL.pure (PV.assign rfl) rfl (by decide) ?_
  refine TL.nil ?_
  refine TQ.thenC ?_
  refine TC.seq ?_
  refine TC.region ?_
  refine TL.pure (PV.move rfl) rfl (by decide) ?_
  refine TL.pure (PV.sub rfl rfl (by omega)) rfl (by decide) ?_
  refine TL.pure (PV.move rfl) rfl (by decide) ?_
  refine TL.pure (PV.move rfl) rfl (by decide) ?_
  refine TL.pure (PV.add rfl rfl (by omega)) rfl (by decide) ?_
  refine TL.buildSlice (cs := #[.int .i64 ((c : Int) - 1), .int .i64 c, .int .i64 ((c : Int) + 1)]) rfl Tb.sl_25 Tb.zi_3 (by decide) (fill_i3 _ _ _) (by decide) rfl (by decide) (fun bS hbS => ?_)
  refine TL.pure (PV.makeFunc rfl) rfl (by decide) ?_
  refine TL.callW (X := List Value) (fun _ => .slice (some ⟨bS, 0, none⟩) (nearL ls c).length 3) (fun _ => True) (fun s => (bS, .cells ((nearL ls c).map (Value.int .i64) ++ s).toArray 3 (0, 0)) :: [(b0, Obj.cells #[.slice p ls.length cap] 24 (0, 0))]) rfl Tb.gofn_249 (fun a w hs => deleteNear_ok (xs := [(c : Int) - 1, (c : Int), (c : Int) + 1]) hs.new (show 3 ≤ 1000000 by decide) (Nat.le_refl 3) p cap ls hr hb (List.mem_cons_self ..)) rfl (by decide) (fun s9 _ => ?_)
  refine TL.pure (PV.assign rfl) rfl (by decide) ?_
  refine TL.nil ?_
  refine TQ.thenC ?_
  refine TC.ret ?_
  refine TQ.retE1 rfl rfl ?_
  exact ⟨(bS, s9), rfl, trivial, List.Sublist.cons_cons _ (List.nil_sublist _)⟩

end Go.Proofs.YtbnjmkidbfmomaaGreatDoor.C
