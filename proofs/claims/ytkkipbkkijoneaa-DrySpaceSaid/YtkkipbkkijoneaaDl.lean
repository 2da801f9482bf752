/- Rules: arrays of structs, shifts; numbers of a slice, deleted: contracts. -/
import Derived.Test.YtkkipbkkijoneaaDf
set_option linter.unusedVariables false
set_option linter.unusedSimpArgs false
namespace Go.Proofs.Ytkkipbkkijoneaa
open Go.Sx Go.RowKit

section
variable {P : Program} {n : Nat} {w0 : World} {E : Env} {G : Heap} {d : Option Nat} {ty : TypeId} {pos : String} {aft : Array Edge} {g : Option (Nat × Bool)}
/-- An array, of its parts. -/
theorem PV.buildA {t m e sz : Nat} {a cs : Array Value} {parts : List (Nat × Operand)} {ps : List (Nat × Value)} (hx : evp E parts = some ps) (hz : zeroOf P t = some (.agg a)) (ha : arrOf P t = some (m, e, sz))
    (hf : Instr.fill (fun i => some (i * sz, sz)) a ps = some cs) : PV P n w0 E G ⟨d, .build t parts.toArray, ty, pos, aft, g⟩ (.agg cs) :=
  fun A w hs => by
    have hps := hs.evp hx
    unfold arrOf at ha
    cases hu : P.underlying t with
    | none => simp [hu] at ha
    | some u =>
      cases u <;> simp only [hu] at ha <;> try (simp at ha; done)
      rename_i m' e'
      cases hi2 : P.info? e' with
      | none => simp [hi2] at ha
      | some inf =>
        simp [hi2] at ha
        obtain ⟨rfl, rfl, rfl⟩ := ha
        have hzr := zero_run hz w
        simp only [execOp, List.map_toArray, hps]
        simp [Instr.build, hzr, run_underlying hu, sizeOf, typeInfo, hi2, Value.cells, hf]
/-- An element of an array, a struct. -/
theorem PV.indexV {x y : Operand} {t m e sz j : Nat} {i : Int} {cs : Array Value} {v : Value} (hx : evo E x = some (.agg cs)) (hy : evo E y = some (.int .i64 i)) (ha : arrOf P t = some (m, e, sz)) (hi : i = (j : Int)) (hj : j < m)
    (hp : ∀ w, (part e cs (j * sz)).run P w = .ok v w) : PV P n w0 E G ⟨d, .index t x y, ty, pos, aft, g⟩ v :=
  fun A w hs => by
    unfold arrOf at ha
    cases hu : P.underlying t with
    | none => simp [hu] at ha
    | some u =>
      cases u <;> simp only [hu] at ha <;> try (simp at ha; done)
      rename_i m' e'
      cases hi2 : P.info? e' with
      | none => simp [hi2] at ha
      | some inf =>
        simp [hi2] at ha
        obtain ⟨rfl, rfl, rfl⟩ := ha
        subst hi
        have h1 : (0 : Int) ≤ (j : Int) ∧ (j : Int) < (m' : Int) := by omega
        simp only [execOp, hs.ev hx, hs.ev hy]
        simp [Instr.index, asIntOf, run_underlying hu, sizeOf, typeInfo, hi2, hj, hp w]
theorem SOK.skipU {ops : Array Oper} {o : Oper} {GJ : Heap} (hg : undoneB ops E o.guard = true) : SOK P n w0 ops GJ E o undef := by
  intro F' hF a w hs
  have := S_undone (hs.env_le hF) (o := o) hg
  rw [if_neg (by simp [this])]
theorem PV.conv {x : Operand} {k k2 : IntKind} {s t : Nat} {i v : Int} (hs : P.underlying s = some (.int k)) (ht : P.underlying t = some (.int k2)) (hx : evo E x = some (.int k i)) (hv : k2.wrap i = v) : PV P n w0 E G ⟨d, .convert s t x, ty, pos, aft, g⟩ (.int k2 v) :=
  fun a w hS => by
    subst hv
    simp only [execOp, hS.ev hx]
    simp [convert, run_underlying hs, run_underlying ht, Conv.intToInt]
theorem PV.shl {x y : Operand} {i j v : Int} {t t' : TypeId} (hx : evo E x = some (.int .i64 i)) (hy : evo E y = some (.int .u64 j)) (h0 : 0 ≤ j) (h1 : j ≤ 64) (hv : IntKind.i64.wrap (i * 2 ^ j.toNat) = v) : PV P n w0 E G ⟨d, .binOp .shl t x y t', ty, pos, aft, g⟩ (.int .i64 v) :=
  fun a w hS => by
    subst hv
    simp only [execOp, hS.ev hx, hS.ev hy]
    simp [binOp, eqGuard, shift_shl .i64 .u64 i j h0 h1]
theorem PV.shr {x y : Operand} {i j v : Int} {t t' : TypeId} (hx : evo E x = some (.int .i64 i)) (hy : evo E y = some (.int .u64 j)) (h0 : 0 ≤ j) (h1 : j ≤ 64) (hv : i / 2 ^ j.toNat = v) : PV P n w0 E G ⟨d, .binOp .shr t x y t', ty, pos, aft, g⟩ (.int .i64 v) :=
  fun a w hS => by
    subst hv
    simp only [execOp, hS.ev hx, hS.ev hy]
    simp [binOp, eqGuard, shift_shr .i64 .u64 i j h0 h1]
theorem PV.andI {x y : Operand} {i j v : Int} {t t' : TypeId} (hx : evo E x = some (.int .i64 i)) (hy : evo E y = some (.int .i64 j)) (hv : bits .and .i64 i j = v) : PV P n w0 E G ⟨d, .binOp .and t x y t', ty, pos, aft, g⟩ (.int .i64 v) :=
  fun a w hS => by
    subst hv
    simp only [execOp, hS.ev hx, hS.ev hy]
    simp [binOp, eqGuard, intBits_and]
theorem PV.sliceL1 {x y : Operand} {b len cap e l : Nat} {i : Int} {t : Nat} (hx : evo E x = some (.slice (some ⟨b, 0, none⟩) len cap)) (hy : evo E y = some (.int .i64 i))
    (ht : elemOf' P t = some (e, 1)) (hi : i = (l : Int)) (hl : l ≤ len) (hc : l < cap) : PV P n w0 E G ⟨d, .slice t x (some y) none none, ty, pos, aft, g⟩ (.slice (some ⟨b, l, none⟩) (len - l) (cap - l)) := by
  have h := PV.sliceL (P := P) (n := n) (w0 := w0) (G := G) (d := d) (ty := ty) (pos := pos) (aft := aft) (g := g) hx hy ht hi hl
  have e0 : cutA (some ⟨b, 0, none⟩) cap l 1 = some ⟨b, l, none⟩ := by unfold cutA; rw [if_neg (by omega)]; simp [add_off]
  rw [e0] at h
  exact h
variable {ops : Array Oper} {Q : Exit → Act → World → Prop} {l : List Oper}
theorem TL.clearN {dd : Option Nat} {x : Operand} {t e sz by_ len cap b off : Nat} {z : Value} {cs zs : List Value} {G' : Heap} (hx : evo E x = some (.slice (some ⟨b, off, none⟩) len cap)) (hlen : 0 < len)
    (ht : P.underlying t = some (.slice e)) (hz : zeroI P e = some (z, sz, by_)) (hzs : (Builtin.zeroCells z.cells len).toList = zs) (h1 : ∀ v ∈ zs, v.oneCell' = true)
    (hu : Upd b (.cells cs.toArray e (0, 0)) (.cells (cs.take off ++ zs ++ cs.drop (off + zs.length)).toArray e (0, 0)) G G')
    (hle : off + zs.length ≤ cs.length) (hg : wants ops E g = some true) (hdd : dd = none)
    (h : TL P n w0 ops Q l E G') :
    TL P n w0 ops Q (⟨dd, .call { callee := .builtin .clear, args := #[x], argTypes := #[t] }, ty, pos, aft, g⟩ :: l) E G :=
  TL.step hg fun a w hs => by
    subst hdd
    obtain ⟨k, rfl⟩ : ∃ k, len = k + 1 := ⟨len - 1, by omega⟩
    unfold zeroI at hz
    cases hinf : P.info? e with
    | none => simp [hinf] at hz
    | some inf =>
      simp [hinf] at hz
      obtain ⟨z', hz1, rfl, hz2, hz3⟩ := hz
      have hexec : (execOp a.eval ⟨none, .call { callee := .builtin .clear, args := #[x], argTypes := #[t] }, ty, pos, aft, g⟩).run P w =
          ((Builtin.clear_ #[t] ty #[.slice (some ⟨b, off, none⟩) (k + 1) cap]).run P w).andThen fun v w' => .ok (.value v) w' := by
        simp only [execOp, resolve, List.map_toArray, List.map_cons, List.map_nil, hs.ev hx]
        simp [invoke, builtin]
      unfold Oper.wp
      rw [hexec]
      have hblk : w.heap[b]? = some (.cells cs.toArray e (0, 0)) := hs.new.here _ hu.mem
      have hst := run_storeCells_at (P := P) b off e zs 0 cs.toArray w hblk (by simp; omega) h1
      simp only [Nat.add_zero] at hst
      have hr : (Builtin.clear_ #[t] ty #[.slice (some ⟨b, off, none⟩) (k + 1) cap]).run P w = .ok (.tuple #[]) (w.setRow b (cs.take off ++ zs ++ cs.drop (off + zs.length)).toArray) := by
        simp [Builtin.clear_, run_underlying ht, zeroValue, typeInfo, hinf, hz1, hzs, hst]
      rw [hr]
      refine h _ _ (hs.world ?_)
      refine hs.new.turn hu ?_ ?_ rfl rfl rfl ?_ rfl
      · simp only [World.setRow, Array.getElem?_modify, if_true, hblk, Option.map_some]
      · intro k hk
        simp only [World.setRow, Array.getElem?_modify]
        rw [if_neg (by omega)]
      · simp [World.setRow]
end
theorem and_one : ∀ x : Nat, x < 64 → bits .and .i64 (x : Int) 1 = ((x % 2 : Nat) : Int) := by decide +kernel
theorem wrap_u : ∀ x : Nat, x < 64 → IntKind.u64.wrap (x : Int) = (x : Int) := by decide +kernel
theorem shl_one : ∀ x : Nat, x < 7 → IntKind.i64.wrap ((1 : Int) * 2 ^ ((x : Int)).toNat) = ((2 ^ x : Nat) : Int) := by decide +kernel
theorem int_3 : Try.prog.underlying 3 = some (.int .i64) := by kernel_rfl
abbrev zI (n : Nat) : List Value := (Builtin.zeroCells (Value.int .i64 0).cells n).toList
theorem zI_len (n : Nat) : (zI n).length = n := by simp [zI, Builtin.zeroCells, Value.cells]
theorem zI_one (n : Nat) : ∀ v ∈ zI n, v.oneCell' = true := by
  intro v hv
  simp only [zI, Builtin.zeroCells, Array.toList_map, List.mem_map] at hv
  obtain ⟨i, _, rfl⟩ := hv
  show ((#[(.int .i64 0)] : Array Value)[i % 1]!).oneCell' = true
  rw [show i % 1 = 0 by omega]
  rfl
def keptN (p : Int → Bool) (xs : List Int) (j : Nat) : List Int := (xs.take j).filter (p)
def fltW (p : Int → Bool) (xs : List Int) (j : Nat) : List Int := keptN p xs j ++ xs.drop (keptN p xs j).length
theorem take_succ_getD {xs : List Int} {j : Nat} (hj : j < xs.length) : xs.take (j + 1) = xs.take j ++ [xs.getD j 0] := by
  rw [List.take_add_one, List.getElem?_eq_getElem hj]
  simp [List.getD, hj]
theorem kept_le (p : Int → Bool) (xs : List Int) (j : Nat) : (keptN p xs j).length ≤ j := Nat.le_trans (List.length_filter_le _ _) (by rw [List.length_take]; omega)
theorem kept_le2 (p : Int → Bool) (xs : List Int) (j : Nat) : (keptN p xs j).length ≤ xs.length := Nat.le_trans (List.length_filter_le _ _) (by rw [List.length_take]; omega)
theorem kept_skip {p : Int → Bool} {xs : List Int} {j : Nat} (hj : j < xs.length) (h : p (xs.getD j 0) = false) : keptN p xs (j + 1) = keptN p xs j := by
  unfold keptN
  rw [take_succ_getD hj, List.filter_append, List.filter_cons_of_neg (by rw [h]; decide), List.filter_nil, List.append_nil]
theorem kept_put {p : Int → Bool} {xs : List Int} {j : Nat} (hj : j < xs.length) (h : p (xs.getD j 0) = true) : keptN p xs (j + 1) = keptN p xs j ++ [xs.getD j 0] := by
  unfold keptN
  rw [take_succ_getD hj, List.filter_append, List.filter_cons_of_pos h, List.filter_nil]
theorem kept_all {p : Int → Bool} {xs : List Int} : ∀ {k : Nat}, k ≤ xs.length → (∀ j, j < k → p (xs.getD j 0) = true) → keptN p xs k = xs.take k
  | 0, _, _ => by simp [keptN]
  | k + 1, hk, h => by rw [kept_put (by omega) (h k (by omega)), kept_all (by omega) (fun j hj => h j (by omega)), take_succ_getD (by omega)]
theorem kept_end {p : Int → Bool} {xs : List Int} {j : Nat} (h : xs.length ≤ j) : keptN p xs j = xs.filter (p) := by
  unfold keptN
  rw [List.take_of_length_le h]
theorem fltW_len {p : Int → Bool} {xs : List Int} (j : Nat) : (fltW p xs j).length = xs.length := by
  have := kept_le2 p xs j
  unfold fltW
  rw [List.length_append, List.length_drop]
  omega
theorem fltW_at {p : Int → Bool} {xs : List Int} (j : Nat) : (fltW p xs j).getD j 0 = xs.getD j 0 := by
  have := kept_le p xs j
  unfold fltW
  rw [List.getD_eq_getElem?_getD, List.getElem?_append_right this, List.getElem?_drop, List.getD_eq_getElem?_getD]
  congr 2
  omega
theorem fltW_start {p : Int → Bool} {xs : List Int} {k : Nat} (hk : k < xs.length) (h : p (xs.getD k 0) = false) (h2 : ∀ j, j < k → p (xs.getD j 0) = true) : fltW p xs (k + 1) = xs ∧ (keptN p xs (k + 1)).length = k := by
  have e := kept_skip hk h
  rw [kept_all (by omega) h2] at e
  have hl : (xs.take k).length = k := by rw [List.length_take]; omega
  unfold fltW
  rw [e, hl]
  exact ⟨List.take_append_drop _ _, rfl⟩
theorem fltW_skip {p : Int → Bool} {xs : List Int} {j : Nat} (hj : j < xs.length) (h : p (xs.getD j 0) = false) : fltW p xs (j + 1) = fltW p xs j := by
  unfold fltW
  rw [kept_skip hj h]
theorem fltW_put {p : Int → Bool} {xs : List Int} {j : Nat} (hj : j < xs.length) (h : p (xs.getD j 0) = true) : (fltW p xs j).set (keptN p xs j).length (xs.getD j 0) = fltW p xs (j + 1) := by
  have := kept_le p xs j
  unfold fltW
  rw [kept_put hj h, List.set_append_right _ _ (Nat.le_refl _), Nat.sub_self, List.append_assoc]
  congr 1
  rw [List.drop_eq_getElem_cons (by omega), List.length_append]
  rfl
theorem flt_clear {p : Int → Bool} {xs : List Int} {j i : Nat} {sp : List Value} (hj : xs.length ≤ j) (hi : i = (keptN p xs j).length) :
    (ival (fltW p xs j) ++ sp).take i ++ zI (xs.length - i) ++ (ival (fltW p xs j) ++ sp).drop (i + (zI (xs.length - i)).length) = ival (xs.filter p) ++ (zI (xs.length - i) ++ sp) := by
  subst hi
  have h1 := kept_le2 p xs j
  have h2 : (ival (fltW p xs j)).length = xs.length := by rw [List.length_map, fltW_len]
  rw [zI_len, show (keptN p xs j).length + (xs.length - (keptN p xs j).length) = (ival (fltW p xs j)).length by omega, List.drop_left, List.take_append_of_le_length (by omega), ← List.map_take]
  rw [show (fltW p xs j).take (keptN p xs j).length = xs.filter p by unfold fltW; rw [List.take_left', kept_end hj]; rfl, List.append_assoc]
theorem fst_kept {p : Int → Bool} {xs : List Int} {i : Int} (h : Fst (fun x => !p x) xs i) (hi : i = -1) : xs.filter p = xs := by
  rcases h with ⟨_, h⟩ | ⟨k, h, _⟩
  · rw [← kept_end (p := p) (Nat.le_refl _), kept_all (Nat.le_refl _) (fun j hj => by have := h j hj; simpa using this), List.take_length]
  · omega


set_option maxRecDepth 100000 in
set_option maxHeartbeats 1000000 in
theorem delete_ok {w0 w : World} {b cc : Nat} {sp : List Value} {xs : List Int} {R : Heap} (hn : New w0 w (gbI (some (b, cc, sp), xs) ++ R)) (hl : xs.length ≤ 1000000) (hok : goI (some (b, cc, sp), xs)) (f : FuncId) (caps : List Value) (p : Int → Bool) (hfn : goFn Try.prog f = true) (hcb : ∀ w1 ys, New w0 w1 (gbI (some (b, cc, sp), ys) ++ R) → ∀ x : Int, x ∈ xs → Calls Try.prog f (Value.int .i64 x :: caps).toArray w1 (Post (X := Unit) (fun _ => .bool (!p x)) (fun _ => True) (fun _ => []) w1)) :
    Calls Try.prog 113 #[.slice (some ⟨b, 0, none⟩) xs.length cc, .func (.func f) #[] caps.toArray] w (Post (X := List Value) (fun _ => .slice (some ⟨b, 0, none⟩) (xs.filter p).length cc) (fun s => goI (some (b, cc, s), xs.filter p)) (fun s => gbI (some (b, cc, s), xs.filter p) ++ R) w0) := by
  have hok2 : cc * 1 = (ival xs).length + sp.length := hok.2.1
  have hok4 : xs.length ≤ cc := hok.2.2
  rw [List.length_map, Nat.mul_one] at hok2
  refine callsM hn Try.func113 rfl (n := 42) rfl (by simp) ?_
  refine TC.seq ?_
  refine TC.region ?_
  refine TL.pure (PV.assign rfl) rfl (by decide) ?_
  refine TL.nil ?_
  refine TQ.thenC ?_
  refine TC.seq ?_
  refine TC.region ?_
  refine TL.pure (PV.move rfl) rfl (by decide) ?_
  refine TL.pure (PV.move rfl) rfl (by decide) ?_
  refine TL.call rfl Tb.gofn_121 (fun a w hs => indexFunc_ok w _ _ xs (IntsAt.g (x := (some (b, cc, sp), xs)) hs.new (fun y hy => List.mem_append_left _ hy) hok) hl f caps (fun x => !p x) hfn (fun w2 G2 hn2 x hm => hcb w2 xs ((hs.new.trans hn2).sub (List.sublist_append_right _ _)) x hm)) rfl (by decide) (fun i9 hi9 => ?_)
  refine TL.pure (PV.assign rfl) rfl (by decide) ?_
  refine TL.nil ?_
  refine TQ.thenC ?_
  refine TC.seq ?_
  refine TC.seq ?_
  refine TC.region ?_
  refine TL.pure (PV.move rfl) rfl (by decide) ?_
  refine TL.pure (PV.eql rfl rfl) rfl (by decide) ?_
  refine TL.nil ?_
  refine TQ.thenC ?_
  first | refine TC.condD rfl (fun hno => ?_) (fun hno => ?_) | refine TC.cond rfl (fun hno => ?_) (fun hno => ?_)
  · skip
    refine TC.seq ?_
    refine TC.region ?_
    refine TL.pure (PV.move rfl) rfl (by decide) ?_
    refine TL.pure (PV.assign rfl) rfl (by decide) ?_
    refine TL.nil ?_
    refine TQ.thenC ?_
    refine TC.ret ?_
    refine TQ.thenR ?_
    refine TQ.retE1 rfl rfl ?_
    have hf := fst_kept hi9 hno
    exact ⟨sp, by rw [hf], by rw [hf]; exact hok, by rw [hf]; exact List.Sublist.refl _⟩
  · skip
    refine TC.skip ?_
    refine TQ.thenC ?_
    refine TC.seq ?_
    refine TC.seq ?_
    obtain ⟨k, hik, hkl, hkn, hkb⟩ : ∃ k : Nat, i9 = k ∧ k < xs.length ∧ p (xs.getD k 0) = false ∧ ∀ j, j < k → p (xs.getD j 0) = true := by
        rcases hi9 with h | ⟨k, h1, h2, h3, h4⟩
        · exact absurd h.1 (by omega)
        · exact ⟨k, h1, h2, by simpa using h3, fun j hj => by have := h4 j hj; simpa using this⟩
    subst hik
    have hst := fltW_start hkl hkn hkb
    refine TC.region ?_
    refine TL.pure (PV.move rfl) rfl (by decide) ?_
    refine TL.pure (PV.add rfl rfl (by omega)) rfl (by decide) ?_
    refine TL.pure (PV.assign rfl) rfl (by decide) ?_
    refine TL.nil ?_
    refine TQ.thenC ?_
    refine TC.block ?_
    refine TC.loopK [0, 1, 4] (X := Nat) (fun j => j ≤ xs.length ∧ (keptN p xs j).length < j) (fun j => [(6, .int .i64 j), (5, .int .i64 (keptN p xs j).length)]) (fun j => gbI (some (b, cc, sp), fltW p xs j) ++ R) (fun j => xs.length - j) (k + 1) ⟨by omega, by rw [hst.2]; omega⟩ (by refine And.intro rfl (And.intro ?_ True.intro); show some _ = some _; rw [hst.2]) (by rw [hst.1]; exact List.Sublist.refl _) ?_
    intro j hj
    refine TC.seq ?_
    refine TC.seq ?_
    refine TC.region ?_
    refine TL.pure (PV.move rfl) rfl (by decide) ?_
    refine TL.pure (PV.move rfl) rfl (by decide) ?_
    refine TL.pure (PV.len rfl Tb.sl_25) rfl (by decide) ?_
    refine TL.pure (PV.lss rfl rfl) rfl (by decide) ?_
    refine TL.nil ?_
    refine TQ.thenC ?_
    first | refine TC.condD rfl (fun hlt => ?_) (fun hlt => ?_) | refine TC.cond rfl (fun hlt => ?_) (fun hlt => ?_)
    · skip
      refine TC.skip ?_
      refine TQ.thenC ?_
      refine TC.seq ?_
      refine TC.block ?_
      refine TC.seq ?_
      have hkj := kept_le p xs j
      have hkx := kept_le2 p xs j
      have hat := fltW_at (p := p) (xs := xs) j
      have hok3 : goI (some (b, cc, sp), fltW p xs j) := go_lenI hok (fltW_len j)
      refine TC.region ?_
      refine TL.pure (PV.move rfl) rfl (by decide) ?_
      refine TL.pure (PV.move rfl) rfl (by decide) ?_
      refine TL.pure (PV.indexG (h := some (b, cc, sp)) (len := xs.length) (ys := ival xs) (j := j) rfl rfl hok Tb.elm_25 rfl (by omega)) rfl (by decide) ?_
      refine TL.pure (PV.loadGI (y := (some (b, cc, sp), fltW p xs j)) (j := j) (v := xs.getD j 0) rfl Tb.one_3 (fun y hy => List.mem_append_left _ hy) hok3 (by show j < (fltW p xs j).length; rw [fltW_len]; omega) hat) rfl (by decide) ?_
      refine TL.pure (PV.assign rfl) rfl (by decide) ?_
      refine TL.nil ?_
      refine TQ.thenC ?_
      refine TC.seq ?_
      refine TC.region ?_
      refine TL.pure (PV.move rfl) rfl (by decide) ?_
      refine TL.pure (PV.move rfl) rfl (by decide) ?_
      refine TL.callF (f := f) (caps := caps) (X := Unit) (fun _ => .bool (!p (xs.getD j 0))) (fun _ => True) (fun _ => gbI (some (b, cc, sp), fltW p xs j) ++ R) rfl rfl hfn (fun a w hs => (hcb w (fltW p xs j) hs.new (xs.getD j 0) (getD_mem (by omega))).mono fun e w' ⟨x9, h1, h2, h3⟩ => ⟨x9, h1, h2, hs.new.trans h3⟩) rfl (by decide) (fun _ _ => ?_)
      refine TL.pure ((by first | exact PV.notD rfl | exact PV.not rfl)) rfl (by decide) ?_
      refine TL.nil ?_
      refine TQ.thenC ?_
      first | refine TC.condD rfl (fun hin => ?_) (fun hin => ?_) | refine TC.cond rfl (fun hin => ?_) (fun hin => ?_)
      · skip
        have hin2 : p (xs.getD j 0) = true := by simpa using hin
        have hlk : (keptN p xs (j + 1)).length = (keptN p xs j).length + 1 := by rw [kept_put (by omega) hin2, List.length_append]; rfl
        refine TC.seq ?_
        refine TC.region ?_
        refine TL.pure (PV.move rfl) rfl (by decide) ?_
        refine TL.pure (PV.move rfl) rfl (by decide) ?_
        refine TL.pure (PV.move rfl) rfl (by decide) ?_
        refine TL.pure (PV.indexG (h := some (b, cc, sp)) (len := xs.length) (ys := ival xs) (j := (keptN p xs j).length) rfl rfl hok Tb.elm_25 rfl (by omega)) rfl (by decide) ?_
        refine TL.putI (h := some (b, cc, sp)) (xs := fltW p xs j) (xs' := fltW p xs (j + 1)) (j := (keptN p xs j).length) rfl rfl Tb.cells_3 hok3 (fltW_put (by omega) hin2) (by repeat (first | exact PutH.here _ _ _ _ | apply PutH.tail | apply PutH.app)) (by rw [fltW_len]; omega) rfl rfl ?_
        refine TL.nil ?_
        refine TQ.thenC ?_
        refine TC.region ?_
        refine TL.pure (PV.move rfl) rfl (by decide) ?_
        refine TL.pure (PV.add rfl rfl (by omega)) rfl (by decide) ?_
        refine TL.pure (PV.assign rfl) rfl (by decide) ?_
        refine TL.nil ?_
        refine TQ.blkN ?_
        refine TQ.thenC ?_
        refine TC.region ?_
        refine TL.pure (PV.move rfl) rfl (by decide) ?_
        refine TL.pure (PV.add rfl rfl (by omega)) rfl (by decide) ?_
        refine TL.pure (PV.assign rfl) rfl (by decide) ?_
        refine TL.nil ?_
        refine TQ.thenN ?_
        refine TQ.backK (j + 1) (by refine And.intro rfl (And.intro ?_ True.intro); show some _ = some _; rw [hlk]; try rfl) (by repeat (first | exact True.intro | refine And.intro rfl ?_)) (by first | exact List.Sublist.refl _ | (rw [hnw]; exact List.Sublist.refl _)) ⟨by omega, by rw [hlk]; omega⟩ (by omega)
      · skip
        have hin2 : p (xs.getD j 0) = false := by simpa using hin
        have hlk : (keptN p xs (j + 1)).length = (keptN p xs j).length := by rw [kept_skip (by omega) hin2]
        have hnw := fltW_skip (by omega) hin2
        refine TC.skip ?_
        refine TQ.blkN ?_
        refine TQ.thenC ?_
        refine TC.region ?_
        refine TL.pure (PV.move rfl) rfl (by decide) ?_
        refine TL.pure (PV.add rfl rfl (by omega)) rfl (by decide) ?_
        refine TL.pure (PV.assign rfl) rfl (by decide) ?_
        refine TL.nil ?_
        refine TQ.thenN ?_
        refine TQ.backK (j + 1) (by refine And.intro rfl (And.intro ?_ True.intro); show some _ = some _; rw [hlk]; try rfl) (by repeat (first | exact True.intro | refine And.intro rfl ?_)) (by first | exact List.Sublist.refl _ | (rw [hnw]; exact List.Sublist.refl _)) ⟨by omega, by rw [hlk]; omega⟩ (by omega)
    · skip
      refine TC.exit ?_
      refine TQ.thenE ?_
      refine TQ.thenE ?_
      refine TQ.blkS ?_
      refine TQ.thenC ?_
      refine TC.seq ?_
      have hend : xs.length ≤ j := by omega
      have hkj := kept_le p xs j
      have hkx := kept_le2 p xs j
      have hlen : (keptN p xs j).length < xs.length := by omega
      have hfin := kept_end (p := p) hend
      refine TC.region ?_
      refine TL.pure (PV.move rfl) rfl (by decide) ?_
      refine TL.pure (PV.move rfl) rfl (by decide) ?_
      refine TL.pure (PV.sliceL1 (l := (keptN p xs j).length) rfl rfl Tb.elm_25 rfl (by omega) (by omega)) rfl (by decide) ?_
      refine TL.clearN (cs := ival (fltW p xs j) ++ sp) (zs := zI (xs.length - (keptN p xs j).length)) (G' := gbI (some (b, cc, zI (xs.length - (keptN p xs j).length) ++ sp), xs.filter p) ++ R) rfl (by omega) Tb.sl_25 Tb.zi_3 rfl (zI_one _) (by rw [flt_clear (by omega) rfl]; exact Upd.head _) (by rw [zI_len, List.length_append, List.length_map, fltW_len]; omega) rfl rfl ?_
      refine TL.nil ?_
      refine TQ.thenC ?_
      refine TC.seq ?_
      refine TC.region ?_
      refine TL.pure (PV.move rfl) rfl (by decide) ?_
      refine TL.pure (PV.move rfl) rfl (by decide) ?_
      refine TL.pure (PV.sliceHb (h := (keptN p xs j).length) rfl rfl Tb.elm_25 rfl (by omega)) rfl (by decide) ?_
      refine TL.pure (PV.assign rfl) rfl (by decide) ?_
      refine TL.nil ?_
      refine TQ.thenC ?_
      refine TC.ret ?_
      refine TQ.retE1 rfl rfl ?_
      exact ⟨zI (xs.length - (keptN p xs j).length) ++ sp, by rw [hfin], by rw [← hfin]; refine ⟨by simp, ?_, ?_⟩; (show cc * 1 = (ival (keptN p xs j)).length + (zI _ ++ sp).length; rw [List.length_map, List.length_append, zI_len]; omega); (show (keptN p xs j).length ≤ cc; omega), List.Sublist.refl _⟩

end Go.Proofs.Ytkkipbkkijoneaa
