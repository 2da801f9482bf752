/- Passes without an amount are taken out: contract. -/
import Derived.Test.YtfgjojoipbbacaaQPG
set_option linter.unusedVariables false
set_option linter.unusedSimpArgs false
namespace Go.Proofs.Ytfgjojoipbbacaa
open Go.Sx Go.RowKit


section
variable {P : Program} {n : Nat} {w0 : World} {E : Env} {G : Heap} {d : Option Nat} {ty : TypeId} {pos : String} {aft : Array Edge} {g : Option (Nat × Bool)}
theorem PV.sliceL4 {x y : Operand} {b len cap e sz l : Nat} {i : Int} {t : Nat} (hx : evo E x = some (.slice (some ⟨b, 0, none⟩) len cap)) (hy : evo E y = some (.int .i64 i))
    (ht : elemOf' P t = some (e, sz)) (hi : i = (l : Int)) (hl : l ≤ len) (hc : l < cap) : PV P n w0 E G ⟨d, .slice t x (some y) none none, ty, pos, aft, g⟩ (.slice (some ⟨b, l * sz, none⟩) (len - l) (cap - l)) := by
  have h := PV.sliceL (P := P) (n := n) (w0 := w0) (G := G) (d := d) (ty := ty) (pos := pos) (aft := aft) (g := g) hx hy ht hi hl
  have e0 : cutA (some ⟨b, 0, none⟩) cap l sz = some ⟨b, l * sz, none⟩ := by unfold cutA; rw [if_neg (by omega)]; simp [add_off]
  rw [e0] at h
  exact h
end
abbrev za (q : Ps) : Bool := decide (q.a = 0)
abbrev nz (q : Ps) : Bool := decide (q.a ≠ 0)
def FndA (ps : List Ps) (i : Int) : Prop := (i = -1 ∧ ∀ j, j < ps.length → nz (ps.getD j default) = true) ∨ (∃ k : Nat, i = k ∧ k < ps.length ∧ nz (ps.getD k default) = false ∧ ∀ j, j < k → nz (ps.getD j default) = true)
def keptA (xs : List Ps) (j : Nat) : List Ps := (xs.take j).filter nz
def fltA (xs : List Ps) (j : Nat) : List Ps := keptA xs j ++ xs.drop (keptA xs j).length
theorem takeA_next {xs : List Ps} {j : Nat} (hj : j < xs.length) : xs.take (j + 1) = xs.take j ++ [xs.getD j default] := by
  rw [List.take_add_one, List.getElem?_eq_getElem hj]
  simp [List.getD, hj]
theorem keptA_le (xs : List Ps) (j : Nat) : (keptA xs j).length ≤ j := Nat.le_trans (List.length_filter_le _ _) (by rw [List.length_take]; omega)
theorem keptA_le2 (xs : List Ps) (j : Nat) : (keptA xs j).length ≤ xs.length := Nat.le_trans (List.length_filter_le _ _) (by rw [List.length_take]; omega)
theorem keptA_skip {xs : List Ps} {j : Nat} (hj : j < xs.length) (h : nz (xs.getD j default) = false) : keptA xs (j + 1) = keptA xs j := by
  unfold keptA
  rw [takeA_next hj, List.filter_append, List.filter_cons_of_neg (by rw [h]; decide), List.filter_nil, List.append_nil]
theorem keptA_put {xs : List Ps} {j : Nat} (hj : j < xs.length) (h : nz (xs.getD j default) = true) : keptA xs (j + 1) = keptA xs j ++ [xs.getD j default] := by
  unfold keptA
  rw [takeA_next hj, List.filter_append, List.filter_cons_of_pos h, List.filter_nil]
theorem keptA_all {xs : List Ps} : ∀ {k : Nat}, k ≤ xs.length → (∀ j, j < k → nz (xs.getD j default) = true) → keptA xs k = xs.take k
  | 0, _, _ => by simp [keptA]
  | k + 1, hk, h => by rw [keptA_put (by omega) (h k (by omega)), keptA_all (by omega) (fun j hj => h j (by omega)), takeA_next (by omega)]
theorem keptA_end {xs : List Ps} {j : Nat} (h : xs.length ≤ j) : keptA xs j = xs.filter nz := by
  unfold keptA
  rw [List.take_of_length_le h]
theorem fltA_len {xs : List Ps} (j : Nat) : (fltA xs j).length = xs.length := by
  have := keptA_le2 xs j
  unfold fltA
  rw [List.length_append, List.length_drop]
  omega
theorem fltA_at {xs : List Ps} (j : Nat) : (fltA xs j).getD j default = xs.getD j default := by
  have := keptA_le xs j
  unfold fltA
  rw [List.getD_eq_getElem?_getD, List.getElem?_append_right this, List.getElem?_drop, List.getD_eq_getElem?_getD]
  congr 2
  omega
theorem fltA_start {xs : List Ps} {k : Nat} (hk : k < xs.length) (h : nz (xs.getD k default) = false) (h2 : ∀ j, j < k → nz (xs.getD j default) = true) : fltA xs (k + 1) = xs ∧ (keptA xs (k + 1)).length = k := by
  have e := keptA_skip hk h
  rw [keptA_all (by omega) h2] at e
  have hl : (xs.take k).length = k := by rw [List.length_take]; omega
  unfold fltA
  rw [e, hl]
  exact ⟨List.take_append_drop _ _, rfl⟩
theorem fltA_skip {xs : List Ps} {j : Nat} (hj : j < xs.length) (h : nz (xs.getD j default) = false) : fltA xs (j + 1) = fltA xs j := by
  unfold fltA
  rw [keptA_skip hj h]
theorem fltA_put {xs : List Ps} {j : Nat} (hj : j < xs.length) (h : nz (xs.getD j default) = true) : (fltA xs j).set (keptA xs j).length (xs.getD j default) = fltA xs (j + 1) := by
  have := keptA_le xs j
  unfold fltA
  rw [keptA_put hj h, List.set_append_right _ _ (Nat.le_refl _), Nat.sub_self, List.append_assoc]
  congr 1
  rw [List.drop_eq_getElem_cons (by omega), List.length_append]
  rfl
theorem fltA_all {xs : List Ps} {i : Int} (h : FndA xs i) (hi : i = -1) : xs.filter nz = xs := by
  rcases h with ⟨_, h⟩ | ⟨k, h, _⟩
  · rw [← keptA_end (xs := xs) (Nat.le_refl _), keptA_all (Nat.le_refl _) h, List.take_length]
  · omega
theorem rcs_cat (a b : List Ps) : rcs rP (a ++ b) = rcs rP a ++ rcs rP b := List.flatMap_append
abbrev zP (n : Nat) : List Value := (Builtin.zeroCells (Value.agg #[(.int .i64 0), (.int .i64 0), (.int .i64 0), (.int .i64 0)]).cells n).toList
theorem zP_len (n : Nat) : (zP n).length = n * 4 := by simp [zP, Builtin.zeroCells, Value.cells]
theorem zP_one (n : Nat) : ∀ v ∈ zP n, v.oneCell' = true := by
  intro v hv
  simp only [zP, Builtin.zeroCells, Array.toList_map, List.mem_map] at hv
  obtain ⟨i, _, rfl⟩ := hv
  show ((#[(.int .i64 0), (.int .i64 0), (.int .i64 0), (.int .i64 0)] : Array Value)[i % 4]!).oneCell' = true
  have : i % 4 < 4 := Nat.mod_lt _ (by decide)
  match h : i % 4, this with
  | 0, _ => rfl
  | 1, _ => rfl
  | 2, _ => rfl
  | 3, _ => rfl
/-- What is left behind is cleared. -/
theorem fltA_clear {xs : List Ps} {j i : Nat} {sp : List Value} (hj : xs.length ≤ j) (hi : i = (keptA xs j).length) :
    (rcs rP (fltA xs j) ++ sp).take (i * 4) ++ zP (xs.length - i) ++ (rcs rP (fltA xs j) ++ sp).drop (i * 4 + (zP (xs.length - i)).length) = rcs rP (xs.filter nz) ++ (zP (xs.length - i) ++ sp) := by
  subst hi
  have h1 := keptA_le2 xs j
  have h2 := rcs_len (R := rP) (fltA xs j)
  rw [fltA_len] at h2
  have h3 := rcs_len (R := rP) (keptA xs j)
  have e4 : rP.sz = 4 := rfl
  rw [e4] at h2 h3
  rw [zP_len, show (keptA xs j).length * 4 + (xs.length - (keptA xs j).length) * 4 = (rcs rP (fltA xs j)).length from by omega, List.drop_left, ← keptA_end hj, List.append_assoc]
  congr 1
  unfold fltA
  rw [rcs_cat, List.append_assoc, ← h3, List.take_left]


set_option maxRecDepth 100000 in
theorem zeroA_ok (w0 : World) (q : Ps) :
    Calls Try.prog 100 #[(rval rP q)] w0 (Post (X := Unit) (fun _ => .bool (za q)) (fun _ => True) (fun _ => []) w0) := by
  refine calls Try.func100 rfl (n := 6) rfl (by simp) ?_
  refine TC.seq ?_
  refine TC.region ?_
  refine TL.box rfl rfl (by decide) (fun b0 hb0 => ?_)
  refine TL.pure (PV.assign rfl) rfl (by decide) ?_
  refine TL.nil ?_
  refine TQ.thenC ?_
  refine TC.seq ?_
  refine TC.region ?_
  refine TL.pure (PV.fieldAddr rfl Tb.fo_90_3) rfl (by decide) ?_
  refine TL.pure (PV.load rfl Tb.one_3 (by repeat (first | exact List.Mem.head _ | refine List.Mem.tail _ ?_ | refine List.mem_append_right _ ?_)) rfl) rfl (by decide) ?_
  refine TL.pure (PV.eql rfl rfl) rfl (by decide) ?_
  refine TL.pure (PV.assign rfl) rfl (by decide) ?_
  refine TL.nil ?_
  refine TQ.thenC ?_
  refine TC.ret ?_
  refine TQ.retE1 rfl rfl ?_
  exact ⟨(), rfl, trivial, List.nil_sublist _⟩

set_option maxRecDepth 100000 in
theorem indexA_ok (w0 : World) (pp : Option Addr) (cp : Nat) (ps : List Ps) (hp : RecsAt rP w0 pp ps) (hl : ps.length ≤ 1000) :
    Calls Try.prog 107 #[.slice pp ps.length cp, .func (.func 100) #[] #[]] w0 (Post (X := Int) (fun i => .int .i64 i) (fun i => FndA ps i) (fun _ => []) w0) := by
  refine calls Try.func107 rfl (n := 19) rfl (by simp) ?_
  refine TC.seq ?_
  refine TC.region ?_
  refine TL.pure (PV.assign rfl) rfl (by decide) ?_
  refine TL.nil ?_
  refine TQ.thenC ?_
  refine TC.seq ?_
  refine TC.seq ?_
  refine TC.region ?_
  refine TL.pure (PV.move rfl) rfl (by decide) ?_
  refine TL.pure (PV.len rfl Tb.sl_55) rfl (by decide) ?_
  refine TL.pure (PV.move rfl) rfl (by decide) ?_
  refine TL.nil ?_
  refine TQ.thenC ?_
  refine TC.block ?_
  -- live and written in the loop, not told: [4]
  refine TC.loopG [0, 1, 7] (X := Nat) (fun k => k ≤ ps.length ∧ ∀ j, j < k → nz (ps.getD j default) = true) (fun k => [(8, .int .i64 k)]) (fun k => ps.length - k) 0 ⟨Nat.zero_le _, fun j hj => absurd hj (Nat.not_lt_zero _)⟩ (by repeat (first | exact True.intro | refine And.intro rfl ?_)) ?_
  intro k hk
  refine TC.seq ?_
  refine TC.region ?_
  refine TL.pure (PV.lss rfl rfl) rfl (by decide) ?_
  refine TL.nil ?_
  refine TQ.thenC ?_
  refine TC.seq ?_
  first | refine TC.condD rfl (fun hlt => ?_) (fun hlt => ?_) | refine TC.cond rfl (fun hlt => ?_) (fun hlt => ?_)
  · skip
    refine TC.skip ?_
    refine TQ.thenC ?_
    refine TC.seq ?_
    refine TC.block ?_
    refine TC.seq ?_
    refine TC.region ?_
    refine TL.pure (PV.move rfl) rfl (by decide) ?_
    refine TL.pure (PV.assign rfl) rfl (by decide) ?_
    refine TL.nil ?_
    refine TQ.thenC ?_
    refine TC.seq ?_
    obtain ⟨q2, hq2p, hq2⟩ := hp k (by omega)
    refine TC.region ?_
    refine TL.pure (PV.move rfl) rfl (by decide) ?_
    refine TL.pure (PV.move rfl) rfl (by decide) ?_
    refine TL.pure (PV.move rfl) rfl (by decide) ?_
    refine TL.pure (PV.indexA rfl hq2p rfl Tb.elm_55 rfl (by omega)) rfl (by decide) ?_
    refine TL.pure (PV.loadAggA rfl Tb.agg_90 rfl hq2) rfl (by decide) ?_
    refine TL.callF (f := 100) (caps := []) (X := Unit) (fun _ => .bool (za (ps.getD k default))) (fun _ => True) (fun _ => []) rfl rfl Tb.gofn_100 (fun a w hs => (zeroA_ok w (ps.getD k default)).mono fun e w' ⟨x9, h1, h2, h3⟩ => ⟨x9, h1, h2, hs.new.trans h3⟩) rfl (by decide) (fun _ _ => ?_)
    refine TL.nil ?_
    refine TQ.thenC ?_
    first | refine TC.condD rfl (fun hno => ?_) (fun hno => ?_) | refine TC.cond rfl (fun hno => ?_) (fun hno => ?_)
    · skip
      refine TC.seq ?_
      refine TC.region ?_
      refine TL.pure (PV.move rfl) rfl (by decide) ?_
      refine TL.pure (PV.assign rfl) rfl (by decide) ?_
      refine TL.nil ?_
      refine TQ.thenC ?_
      refine TC.ret ?_
      refine TQ.blkR ?_
      refine TQ.thenR ?_
      refine TQ.thenR ?_
      refine TQ.blkR ?_
      refine TQ.thenR ?_
      refine TQ.retE1 rfl rfl ?_
      first | exact ⟨k, rfl, .inr ⟨k, rfl, by omega, by simpa using hno, hk.2⟩, List.nil_sublist _⟩ | exact ⟨-1, rfl, .inl ⟨rfl, fun j hj => hk.2 j (by omega)⟩, List.nil_sublist _⟩
    · skip
      refine TC.skip ?_
      refine TQ.blkN ?_
      refine TQ.thenC ?_
      refine TC.region ?_
      refine TL.pure (PV.add rfl rfl (by omega)) rfl (by decide) ?_
      refine TL.pure (PV.move rfl) rfl (by decide) ?_
      refine TL.nil ?_
      refine TQ.thenN ?_
      refine TQ.backK (k + 1) (by repeat (first | exact True.intro | refine And.intro rfl ?_)) (by repeat (first | exact True.intro | refine And.intro rfl ?_)) (by repeat (first | exact List.Sublist.slnil | exact List.nil_sublist _ | exact List.Sublist.refl _ | refine List.Sublist.cons_cons _ ?_ | refine List.Sublist.cons _ ?_ | refine List.Sublist.trans ?_ (List.sublist_append_right _ _))) ⟨by omega, fun j hj => if e : j < k then hk.2 j e else (show k = j by omega) ▸ (by simpa using hno)⟩ (by omega)
  · skip
    refine TC.exit ?_
    refine TQ.thenE ?_
    refine TQ.thenE ?_
    refine TQ.blkS ?_
    refine TQ.thenC ?_
    refine TC.seq ?_
    refine TC.region ?_
    refine TL.pure (PV.assign rfl) rfl (by decide) ?_
    refine TL.nil ?_
    refine TQ.thenC ?_
    refine TC.ret ?_
    refine TQ.retE1 rfl rfl ?_
    first | exact ⟨k, rfl, .inr ⟨k, rfl, by omega, by simpa using hno, hk.2⟩, List.nil_sublist _⟩ | exact ⟨-1, rfl, .inl ⟨rfl, fun j hj => hk.2 j (by omega)⟩, List.nil_sublist _⟩

set_option maxRecDepth 100000 in
set_option maxHeartbeats 2000000 in
theorem deleteA_ok (w0 w : World) (hp : HD) (N : Nat) (ps : List Ps) (hpl : ps.length = N) (h60 : N ≤ 60) (hok : goR rP hp ps) (R : Heap) (hN : New w0 w (gbR rP 90 hp ps ++ R)) :
    Calls Try.prog 99 #[gval hp N, .func (.func 100) #[] #[]] w (Post (X := HD) (fun h => gval h (ps.filter nz).length) (fun h => goR rP h (ps.filter nz)) (fun h => gbR rP 90 h (ps.filter nz) ++ R) w0) := by
  have hgl : gok hp N 4 (rcs rP ps) := by subst hpl; exact hok
  refine callsM hN Try.func99 rfl (n := 42) rfl (by simp) ?_
  refine TC.seq ?_
  refine TC.region ?_
  refine TL.pure (PV.assign rfl) rfl (by decide) ?_
  refine TL.nil ?_
  refine TQ.thenC ?_
  refine TC.seq ?_
  refine TC.region ?_
  refine TL.pure (PV.move rfl) rfl (by decide) ?_
  refine TL.pure (PV.move rfl) rfl (by decide) ?_
  refine TL.call rfl Tb.gofn_107 (fun a w hs => by have h9 := indexA_ok w (gp hp) (gc hp) ps (RecsAt.s hs.new (by intro y9 hy9; repeat (first | exact hy9 | exact List.mem_append_left _ hy9 | refine List.mem_append_right _ ?_ | refine List.Mem.tail _ ?_)) hok) (by omega); rw [← gval_eq hok, hpl] at h9; exact h9) rfl (by decide) (fun i9 hi9 => ?_)
  refine TL.pure (PV.assign rfl) rfl (by decide) ?_
  refine TL.nil ?_
  refine TQ.thenC ?_
  refine TC.seq ?_
  refine TC.seq ?_
  refine TC.region ?_
  refine TL.pure (PV.move rfl) rfl (by decide) ?_
  refine TL.pure (PV.eql rfl rfl) rfl (by decide) ?_
  refine TL.nil ?_
  refine TQ.thenC ?_
  first | refine TC.condD rfl (fun hno => ?_) (fun hno => ?_) | refine TC.cond rfl (fun hno => ?_) (fun hno => ?_)
  · skip
    refine TC.seq ?_
    refine TC.region ?_
    refine TL.pure (PV.move rfl) rfl (by decide) ?_
    refine TL.pure (PV.assign rfl) rfl (by decide) ?_
    refine TL.nil ?_
    refine TQ.thenC ?_
    refine TC.ret ?_
    refine TQ.thenR ?_
    refine TQ.retE1 rfl rfl ?_
    have hf := fltA_all hi9 hno
    exact ⟨hp, by rw [hf, hpl], by rw [hf]; exact hok, by rw [hf]; exact List.Sublist.refl _⟩
  · skip
    refine TC.skip ?_
    refine TQ.thenC ?_
    refine TC.seq ?_
    refine TC.seq ?_
    obtain ⟨k, hik, hkl, hkn, hkb⟩ : ∃ k : Nat, i9 = k ∧ k < ps.length ∧ nz (ps.getD k default) = false ∧ ∀ j, j < k → nz (ps.getD j default) = true := by rcases hi9 with h | h; (exact absurd h.1 (by omega)); exact h
    subst hik
    have hst := fltA_start hkl hkn hkb
    refine TC.region ?_
    refine TL.pure (PV.move rfl) rfl (by decide) ?_
    refine TL.pure (PV.add rfl rfl (by omega)) rfl (by decide) ?_
    refine TL.pure (PV.assign rfl) rfl (by decide) ?_
    refine TL.nil ?_
    refine TQ.thenC ?_
    refine TC.block ?_
    refine TC.loopK [0, 1, 4] (X := Nat) (fun j => j ≤ ps.length ∧ (keptA ps j).length < j) (fun j => [(6, .int .i64 (j : Nat)), (5, .int .i64 ((keptA ps j).length : Nat))]) (fun j => (gbR rP 90 hp (fltA ps j) ++ R)) (fun j => ps.length - j) (k + 1) ⟨by omega, by rw [hst.2]; omega⟩ (by refine And.intro rfl (And.intro ?_ True.intro); show some _ = some _; rw [hst.2]) (by rw [hst.1]; exact List.Sublist.refl _) ?_
    intro j hj
    have hokj : goR rP hp (fltA ps j) := goR_len hok (fltA_len j)
    have hglj : gok hp N 4 (rcs rP (fltA ps j)) := by have h9 := hokj; unfold goR at h9; rw [fltA_len, hpl] at h9; exact h9
    refine TC.seq ?_
    refine TC.seq ?_
    refine TC.region ?_
    refine TL.pure (PV.move rfl) rfl (by decide) ?_
    refine TL.pure (PV.move rfl) rfl (by decide) ?_
    refine TL.pure (PV.lenG (h := hp) (len := N) rfl hglj Tb.sl_55) rfl (by decide) ?_
    refine TL.pure (PV.lss rfl rfl) rfl (by decide) ?_
    refine TL.nil ?_
    refine TQ.thenC ?_
    first | refine TC.condD rfl (fun hlt => ?_) (fun hlt => ?_) | refine TC.cond rfl (fun hlt => ?_) (fun hlt => ?_)
    · skip
      refine TC.skip ?_
      refine TQ.thenC ?_
      refine TC.seq ?_
      refine TC.block ?_
      refine TC.seq ?_
      have hkj := keptA_le ps j
      have hkx := keptA_le2 ps j
      have hat := fltA_at (xs := ps) j
      refine TC.region ?_
      refine TL.pure (PV.move rfl) rfl (by decide) ?_
      refine TL.pure (PV.move rfl) rfl (by decide) ?_
      refine TL.pure (PV.indexG (h := hp) (len := N) (j := j) rfl rfl hglj Tb.elm_55 rfl (by omega)) rfl (by decide) ?_
      refine TL.pure (PV.loadRec (R := rP) (h := hp) (l := fltA ps j) (j := j) (r := (ps.getD j default)) rfl Tb.agg_90 (by intro y9 hy9; repeat (first | exact hy9 | exact List.mem_append_left _ hy9 | refine List.mem_append_right _ ?_ | refine List.Mem.tail _ ?_)) hokj (by rw [fltA_len]; omega) hat) rfl (by decide) ?_
      refine TL.alloc Tb.zero_90 rfl (by decide) (fun bQ hbQ => ?_)
      refine TL.storeAgg rfl rfl Tb.cells_90 (by repeat (first | exact Upd.head _ | apply Upd.tail | apply Upd.appR)) rfl rfl rfl rfl rfl ?_
      refine TL.nil ?_
      refine TQ.thenC ?_
      refine TC.seq ?_
      refine TC.region ?_
      refine TL.pure (PV.move rfl) rfl (by decide) ?_
      refine TL.pure (PV.loadBox rfl Tb.agg_90 (by repeat (first | exact List.Mem.head _ | refine List.Mem.tail _ ?_ | refine List.mem_append_right _ ?_)) rfl) rfl (by decide) ?_
      refine TL.callF (f := 100) (caps := []) (X := Unit) (fun _ => .bool (za (ps.getD j default))) (fun _ => True) (fun _ => (bQ, Obj.cells (rP.cells (ps.getD j default)).toArray 90 (0, 0)) :: (gbR rP 90 hp (fltA ps j) ++ R)) rfl rfl Tb.gofn_100 (fun a w hs => (zeroA_ok w (ps.getD j default)).mono fun e w' ⟨x9, h1, h2, h3⟩ => ⟨x9, h1, h2, hs.new.trans h3⟩) rfl (by decide) (fun _ _ => ?_)
      refine TL.pure ((by first | exact PV.notD rfl | exact PV.not rfl)) rfl (by decide) ?_
      refine TL.nil ?_
      refine TQ.thenC ?_
      first | refine TC.condD rfl (fun hin => ?_) (fun hin => ?_) | refine TC.cond rfl (fun hin => ?_) (fun hin => ?_)
      · skip
        have hin2 : nz (ps.getD j default) = true := by simpa using hin
        have hlk : (keptA ps (j + 1)).length = (keptA ps j).length + 1 := by rw [keptA_put (by omega) hin2, List.length_append]; rfl
        refine TC.seq ?_
        refine TC.region ?_
        refine TL.pure (PV.move rfl) rfl (by decide) ?_
        refine TL.pure (PV.move rfl) rfl (by decide) ?_
        refine TL.pure (PV.loadBox rfl Tb.agg_90 (by repeat (first | exact List.Mem.head _ | refine List.Mem.tail _ ?_ | refine List.mem_append_right _ ?_)) rfl) rfl (by decide) ?_
        refine TL.pure (PV.indexG (h := hp) (len := N) (j := (keptA ps j).length) rfl rfl hglj Tb.elm_55 rfl (by omega)) rfl (by decide) ?_
        refine TL.putRec (R := rP) (h := hp) (l0 := fltA ps j) (j := (keptA ps j).length) (r := (ps.getD j default)) rfl rfl Tb.cells_90 hokj (by repeat (first | exact PutH.here _ _ _ _ | apply PutH.tail | apply PutH.app)) (by rw [fltA_len]; omega) rfl rfl ?_
        refine TL.nil ?_
        refine TQ.thenC ?_
        refine TC.region ?_
        refine TL.pure (PV.move rfl) rfl (by decide) ?_
        refine TL.pure (PV.add rfl rfl (by omega)) rfl (by decide) ?_
        refine TL.pure (PV.assign rfl) rfl (by decide) ?_
        refine TL.nil ?_
        refine TQ.blkN ?_
        refine TQ.thenC ?_
        refine TC.region ?_
        refine TL.pure (PV.move rfl) rfl (by decide) ?_
        refine TL.pure (PV.add rfl rfl (by omega)) rfl (by decide) ?_
        refine TL.pure (PV.assign rfl) rfl (by decide) ?_
        refine TL.nil ?_
        refine TQ.thenN ?_
        rw [fltA_put (by omega) hin2]
        refine TQ.perm (G' := (bQ, Obj.cells (rP.cells (ps.getD j default)).toArray 90 (0, 0)) :: (gbR rP 90 hp (fltA ps (j + 1)) ++ R)) (List.Perm.refl _) ?_
        refine TQ.backK (j + 1) (by refine And.intro rfl (And.intro ?_ True.intro); show some _ = some _; rw [hlk]; try rfl) (by repeat (first | exact True.intro | refine And.intro rfl ?_)) (List.Sublist.cons _ (List.Sublist.refl _)) ⟨by omega, by rw [hlk]; omega⟩ (by omega)
      · skip
        have hin2 : nz (ps.getD j default) = false := by simpa using hin
        have hlk : (keptA ps (j + 1)).length = (keptA ps j).length := by rw [keptA_skip (by omega) hin2]
        have hnw := fltA_skip (by omega) hin2
        refine TC.skip ?_
        refine TQ.blkN ?_
        refine TQ.thenC ?_
        refine TC.region ?_
        refine TL.pure (PV.move rfl) rfl (by decide) ?_
        refine TL.pure (PV.add rfl rfl (by omega)) rfl (by decide) ?_
        refine TL.pure (PV.assign rfl) rfl (by decide) ?_
        refine TL.nil ?_
        refine TQ.thenN ?_
        refine TQ.backK (j + 1) (by refine And.intro rfl (And.intro ?_ True.intro); show some _ = some _; rw [hlk]; try rfl) (by repeat (first | exact True.intro | refine And.intro rfl ?_)) (by rw [hnw]; exact List.Sublist.cons _ (List.Sublist.refl _)) ⟨by omega, by rw [hlk]; omega⟩ (by omega)
    · skip
      refine TC.exit ?_
      refine TQ.thenE ?_
      refine TQ.thenE ?_
      refine TQ.blkS ?_
      refine TQ.thenC ?_
      refine TC.seq ?_
      have hend : ps.length ≤ j := by omega
      have hkj := keptA_le ps j
      have hkx := keptA_le2 ps j
      have hlen : (keptA ps j).length < ps.length := by omega
      have hfin := keptA_end hend
      obtain ⟨b, cap, sp, rfl⟩ : ∃ b cap sp, hp = some (b, cap, sp) := by
        cases hp with
        | none => exact absurd hok.2 (by simp only; omega)
        | some hh => exact ⟨hh.1, hh.2.1, hh.2.2, rfl⟩
      have hcp := hok.2
      simp only at hcp
      have hrl := rcs_len (R := rP) ps
      have hrf := rcs_len (R := rP) (ps.filter nz)
      have hfl : (ps.filter nz).length = (keptA ps j).length := by rw [hfin]
      have e4 : rP.sz = 4 := rfl
      rw [e4] at hcp hrl hrf
      refine TC.region ?_
      refine TL.pure (PV.move rfl) rfl (by decide) ?_
      refine TL.pure (PV.move rfl) rfl (by decide) ?_
      refine TL.pure (PV.sliceL4 (l := (keptA ps j).length) rfl rfl Tb.elm_55 rfl (by omega) (by omega)) rfl (by decide) ?_
      refine TL.clearN (cs := rcs rP (fltA ps j) ++ sp) (zs := zP (N - (keptA ps j).length)) (G' := (b, Obj.cells (rcs rP (ps.filter nz) ++ (zP (N - (keptA ps j).length) ++ sp)).toArray 90 (0, 0)) :: R) rfl (by omega) Tb.sl_55 Tb.zi_90 rfl (zP_one _) (by rw [← hpl, fltA_clear (by omega) rfl]; exact Upd.head _) (by rw [zP_len, List.length_append, rcs_len, fltA_len]; show _ ≤ ps.length * 4 + _; omega) rfl rfl ?_
      refine TL.nil ?_
      refine TQ.thenC ?_
      refine TC.seq ?_
      refine TC.region ?_
      refine TL.pure (PV.move rfl) rfl (by decide) ?_
      refine TL.pure (PV.move rfl) rfl (by decide) ?_
      refine TL.pure (PV.sliceHb (h := (keptA ps j).length) rfl rfl Tb.elm_55 rfl (by omega)) rfl (by decide) ?_
      refine TL.pure (PV.assign rfl) rfl (by decide) ?_
      refine TL.nil ?_
      refine TQ.thenC ?_
      refine TC.ret ?_
      refine TQ.retE1 rfl rfl ?_
      exact ⟨some (b, cap, zP (N - (keptA ps j).length) ++ sp), by rw [hfl]; rfl, ⟨by rw [rcs_len], by simp only [List.length_append, zP_len]; show cap * 4 = _ ∧ _; omega⟩, List.Sublist.refl _⟩

end Go.Proofs.Ytfgjojoipbbacaa
