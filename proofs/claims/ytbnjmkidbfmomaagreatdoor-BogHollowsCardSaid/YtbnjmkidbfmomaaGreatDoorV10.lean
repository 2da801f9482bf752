/- Cd Jk Ar Ce Cf Cg Ch Ci -/
import Derived.Test.YtbnjmkidbfmomaaGreatDoorV05
import Derived.Test.YtbnjmkidbfmomaaGreatDoorV06
import Derived.Test.YtbnjmkidbfmomaaGreatDoorV09
set_option linter.unusedVariables false
set_option linter.unusedSimpArgs false
set_option maxRecDepth 100000
namespace Go.Proofs.YtbnjmkidbfmomaaGreatDoor.C
open Go.Sx Go.RowKit
section
variable {P : Program} {n : Nat} {w0 : World} {E : Env} {G : Heap} {d : Option Nat} {ty : TypeId} {pos : String} {aft : Array Edge} {g : Option (Nat × Bool)}
theorem PV.sliceL1 {x y : Operand} {b len cap e l : Nat} {i : Int} {t : Nat} (hx : evo E x = some (.slice (some ⟨b, 0, none⟩) len cap)) (hy : evo E y = some (.int .i64 i))
    (ht : elemOf' P t = some (e, 1)) (hi : i = (l : Int)) (hl : l ≤ len) (hc : l < cap) : PV P n w0 E G ⟨d, .slice t x (some y) none none, ty, pos, aft, g⟩ (.slice (some ⟨b, l, none⟩) (len - l) (cap - l)) := by
  have h := PV.sliceL (P := P) (n := n) (w0 := w0) (G := G) (d := d) (ty := ty) (pos := pos) (aft := aft) (g := g) hx hy ht hi hl
  have e0 : cutA (some ⟨b, 0, none⟩) cap l 1 = some ⟨b, l, none⟩ := by unfold cutA; rw [if_neg (by omega)]; simp [add_off]
  rw [e0] at h
  exact h
theorem PV.loadIv {x : Operand} {b j : Nat} {t : Nat} {xs : List Int} {e : TypeId} {fr : Nat × Nat} {v : Int} (hx : evo E x = some (.pointer (some ⟨b, j, none⟩))) (ht : oneB P t = true)
    (hm : (b, Obj.cells (intsA xs) e fr) ∈ G) (hj : j < xs.length) (hv : xs.getD j 0 = v) : PV P n w0 E G ⟨d, .load t x, ty, pos, aft, g⟩ (.int .i64 v) := by
  subst hv
  exact PV.loadI hx ht hm hj
variable {ops : Array Oper} {Q : Exit → Act → World → Prop} {l : List Oper}
theorem TL.clearN {dd : Option Nat} {x : Operand} {t e sz by_ len cap b off : Nat} {z : Value} {cs zs : List Value} {G' : Heap} (hx : evo E x = some (.slice (some ⟨b, off, none⟩) len cap)) (hlen : 0 < len)
    (ht : P.underlying t = some (.slice e)) (hz : zeroI P e = some (z, sz, by_)) (hzs : (Builtin.zeroCells z.cells len).toList = zs) (h1 : ∀ v ∈ zs, v.oneCell' = true)
    (hu : Upd b (.cells cs.toArray e (0, 0)) (.cells (cs.take off ++ zs ++ cs.drop (off + zs.length)).toArray e (0, 0)) G G')
    (hle : off + zs.length ≤ cs.length) (hg : wants ops E g = some true) (hdd : dd = none)
    (h : TL P n w0 ops Q l E G') :
    TL P n w0 ops Q (⟨dd, .call { callee := .builtin .clear, args := #[x], argTypes := #[t] }, ty, pos, aft, g⟩ :: l) E G :=
  TL.step hg fun a w hs => by
    subst hdd
    obtain ⟨k, rfl⟩ : ∃ k, len = k + 1 := ⟨len - 1, by omega⟩
    unfold zeroI at hz
    cases hinf : P.info? e with
    | none => simp [hinf] at hz
    | some inf =>
      simp [hinf] at hz
      obtain ⟨z', hz1, rfl, hz2, hz3⟩ := hz
      have hexec : (execOp a.eval ⟨none, .call { callee := .builtin .clear, args := #[x], argTypes := #[t] }, ty, pos, aft, g⟩).run P w =
          ((Builtin.clear_ #[t] ty #[.slice (some ⟨b, off, none⟩) (k + 1) cap]).run P w).andThen fun v w' => .ok (.value v) w' := by
        simp only [execOp, resolve, List.map_toArray, List.map_cons, List.map_nil, hs.ev hx]
        simp [invoke, builtin]
      unfold Oper.wp
      rw [hexec]
      have hblk : w.heap[b]? = some (.cells cs.toArray e (0, 0)) := hs.new.here _ hu.mem
      have hst := run_storeCells_at (P := P) b off e zs 0 cs.toArray w hblk (by simp; omega) h1
      simp only [Nat.add_zero] at hst
      have hr : (Builtin.clear_ #[t] ty #[.slice (some ⟨b, off, none⟩) (k + 1) cap]).run P w = .ok (.tuple #[]) (w.setRow b (cs.take off ++ zs ++ cs.drop (off + zs.length)).toArray) := by
        simp [Builtin.clear_, run_underlying ht, zeroValue, typeInfo, hinf, hz1, hzs, hst]
      rw [hr]
      refine h _ _ (hs.world ?_)
      refine hs.new.turn hu ?_ ?_ rfl rfl rfl ?_ rfl
      · simp only [World.setRow, Array.getElem?_modify, if_true, hblk, Option.map_some]
      · intro k hk
        simp only [World.setRow, Array.getElem?_modify]
        rw [if_neg (by omega)]
      · simp [World.setRow]
end
abbrev zI (n : Nat) : List Value := (Builtin.zeroCells (Value.int .i64 0).cells n).toList
theorem zI_len (n : Nat) : (zI n).length = n := by simp [zI, Builtin.zeroCells, Value.cells]
theorem zI_one (n : Nat) : ∀ v ∈ zI n, v.oneCell' = true := by
  intro v hv
  simp only [zI, Builtin.zeroCells, Array.toList_map, List.mem_map] at hv
  obtain ⟨i, _, rfl⟩ := hv
  show ((#[(.int .i64 0)] : Array Value)[i % 1]!).oneCell' = true
  rw [show i % 1 = 0 by omega]
  rfl
theorem one_cell {w : World} {q : Addr} {x : Value} (h : w.cell? q = some x) : ∀ (j : Nat) (v : Value), [x][j]? = some v → w.cell? (q.add j) = some v := by
  intro j v hv
  have hj : j = 0 := by
    have := (List.getElem?_eq_some_iff.1 hv).1
    simp at this
    omega
  subst hj
  simp at hv
  subst hv
  rw [show q.add 0 = q by cases q; simp [Addr.add]]
  exact h
def nrB (ls : List (List Int)) (d : Int) : Bool := wiB d 0 (ls.length - 1)
def Fnd (ls : List (List Int)) (xs : List Int) (i : Int) : Prop := (i = -1 ∧ ∀ j, j < xs.length → nrB ls (xs.getD j 0) = true) ∨ (∃ k : Nat, i = k ∧ k < xs.length ∧ nrB ls (xs.getD k 0) = false ∧ ∀ j, j < k → nrB ls (xs.getD j 0) = true)
def keptN (ls : List (List Int)) (xs : List Int) (j : Nat) : List Int := (xs.take j).filter (nrB ls)
def fltW (ls : List (List Int)) (xs : List Int) (j : Nat) : List Int := keptN ls xs j ++ xs.drop (keptN ls xs j).length
theorem take_succ_getD {xs : List Int} {j : Nat} (hj : j < xs.length) : xs.take (j + 1) = xs.take j ++ [xs.getD j 0] := by
  rw [List.take_add_one, List.getElem?_eq_getElem hj]
  simp [List.getD, hj]
theorem kept_le (ls : List (List Int)) (xs : List Int) (j : Nat) : (keptN ls xs j).length ≤ j := Nat.le_trans (List.length_filter_le _ _) (by rw [List.length_take]; omega)
theorem kept_le2 (ls : List (List Int)) (xs : List Int) (j : Nat) : (keptN ls xs j).length ≤ xs.length := Nat.le_trans (List.length_filter_le _ _) (by rw [List.length_take]; omega)
theorem kept_skip {ls : List (List Int)} {xs : List Int} {j : Nat} (hj : j < xs.length) (h : nrB ls (xs.getD j 0) = false) : keptN ls xs (j + 1) = keptN ls xs j := by
  unfold keptN
  rw [take_succ_getD hj, List.filter_append, List.filter_cons_of_neg (by rw [h]; decide), List.filter_nil, List.append_nil]
theorem kept_put {ls : List (List Int)} {xs : List Int} {j : Nat} (hj : j < xs.length) (h : nrB ls (xs.getD j 0) = true) : keptN ls xs (j + 1) = keptN ls xs j ++ [xs.getD j 0] := by
  unfold keptN
  rw [take_succ_getD hj, List.filter_append, List.filter_cons_of_pos h, List.filter_nil]
theorem kept_all {ls : List (List Int)} {xs : List Int} : ∀ {k : Nat}, k ≤ xs.length → (∀ j, j < k → nrB ls (xs.getD j 0) = true) → keptN ls xs k = xs.take k
  | 0, _, _ => by simp [keptN]
  | k + 1, hk, h => by rw [kept_put (by omega) (h k (by omega)), kept_all (by omega) (fun j hj => h j (by omega)), take_succ_getD (by omega)]
theorem kept_end {ls : List (List Int)} {xs : List Int} {j : Nat} (h : xs.length ≤ j) : keptN ls xs j = xs.filter (nrB ls) := by
  unfold keptN
  rw [List.take_of_length_le h]
theorem fltW_len {ls : List (List Int)} {xs : List Int} (j : Nat) : (fltW ls xs j).length = xs.length := by
  have := kept_le2 ls xs j
  unfold fltW
  rw [List.length_append, List.length_drop]
  omega
theorem fltW_at {ls : List (List Int)} {xs : List Int} (j : Nat) : (fltW ls xs j).getD j 0 = xs.getD j 0 := by
  have := kept_le ls xs j
  unfold fltW
  rw [List.getD_eq_getElem?_getD, List.getElem?_append_right this, List.getElem?_drop, List.getD_eq_getElem?_getD]
  congr 2
  omega
theorem fltW_start {ls : List (List Int)} {xs : List Int} {k : Nat} (hk : k < xs.length) (h : nrB ls (xs.getD k 0) = false) (h2 : ∀ j, j < k → nrB ls (xs.getD j 0) = true) : fltW ls xs (k + 1) = xs ∧ (keptN ls xs (k + 1)).length = k := by
  have e := kept_skip hk h
  rw [kept_all (by omega) h2] at e
  have hl : (xs.take k).length = k := by rw [List.length_take]; omega
  unfold fltW
  rw [e, hl]
  exact ⟨List.take_append_drop _ _, rfl⟩
theorem fltW_skip {ls : List (List Int)} {xs : List Int} {j : Nat} (hj : j < xs.length) (h : nrB ls (xs.getD j 0) = false) : fltW ls xs (j + 1) = fltW ls xs j := by
  unfold fltW
  rw [kept_skip hj h]
theorem fltW_put {ls : List (List Int)} {xs : List Int} {j : Nat} (hj : j < xs.length) (h : nrB ls (xs.getD j 0) = true) : (fltW ls xs j).set (keptN ls xs j).length (xs.getD j 0) = fltW ls xs (j + 1) := by
  have := kept_le ls xs j
  unfold fltW
  rw [kept_put hj h, List.set_append_right _ _ (Nat.le_refl _), Nat.sub_self, List.append_assoc]
  congr 1
  rw [List.drop_eq_getElem_cons (by omega), List.length_append]
  rfl
theorem fltW_clear {ls : List (List Int)} {xs : List Int} {j i : Nat} (hj : xs.length ≤ j) (hi : i = (keptN ls xs j).length) :
    ((fltW ls xs j).map (Value.int .i64)).take i ++ zI (xs.length - i) ++ ((fltW ls xs j).map (Value.int .i64)).drop (i + (zI (xs.length - i)).length) = (xs.filter (nrB ls)).map (Value.int .i64) ++ zI (xs.length - i) := by
  subst hi
  have h1 := kept_le2 ls xs j
  rw [zI_len, List.drop_of_length_le (by rw [List.length_map, fltW_len]; omega), List.append_nil, ← List.map_take]
  congr 2
  unfold fltW
  rw [List.take_left', kept_end hj]
  rfl
theorem flt_all {ls : List (List Int)} {xs : List Int} {i : Int} (h : Fnd ls xs i) (hi : i = -1) : xs.filter (nrB ls) = xs := by
  rcases h with ⟨_, h⟩ | ⟨k, h, _⟩
  · rw [← kept_end (ls := ls) (Nat.le_refl _), kept_all (Nat.le_refl _) h, List.take_length]
  · omega
def nearL (ls : List (List Int)) (c : Nat) : List Int := [(c : Int) - 1, (c : Int), (c : Int) + 1].filter (nrB ls)
theorem fill_i3 (a b c : Int) : Instr.fill (fun i => some (i * 1, 1)) ((Array.range (3 * 1)).map ((Value.int .i64 0).cells[· % (Value.int .i64 0).cells.size]!)) [(0, .int .i64 a), (1, .int .i64 b), (2, .int .i64 c)] = some #[.int .i64 a, .int .i64 b, .int .i64 c] := by kernel_rfl
theorem isColumn_ok (w0 : World) (p : Option Addr) (cap : Nat) (ls : List (List Int)) (hr : LsAt w0 p ls) (hb : 1 ≤ ls.length ∧ ls.length ≤ 6) (d : Int) :
    Calls Tryz.prog 251 #[bv p ls.length cap, .int .i64 d] w0 (Post (X := Unit) (fun _ => .bool (nrB ls d)) (fun _ => True) (fun _ => []) w0) := by
  refine calls Tryz.func251 rfl (n := 11) rfl (by simp) ?_
  refine zr (TL.box rfl rfl dc (fun b0 hb0 => ?_))
  refine za rfl (zk (zm rfl (zq (PV.fieldAddr rfl Tb.fo_24_0) rfl (zq (PV.load rfl Tb.one_22 m9z rfl) rfl ?_))))
  refine zq (PV.len rfl Tb.sl_22) rfl (zq (PV.sub rfl rfl om) rfl (TL.call rfl Tb.gofn_93 (fun a w hs => isWithin_ok w _ _ _) rfl dc (fun _ _ => ?_)))
  refine za rfl (zt (TQ.retE1 rfl rfl ?_))
  exact ⟨(), rfl, trivial, nils⟩
theorem nearC_ok (w0 : World) (p : Option Addr) (cap : Nat) (ls : List (List Int)) (hr : LsAt w0 p ls) (hb : 1 ≤ ls.length ∧ ls.length ≤ 6) (q : Addr) (hq : w0.cell? q = some (.slice p ls.length cap)) (d : Int) :
    Calls Tryz.prog 250 #[.int .i64 d, .pointer (some q)] w0 (Post (X := Unit) (fun _ => .bool (!nrB ls d)) (fun _ => True) (fun _ => []) w0) := by
  refine calls Tryz.func250 rfl (n := 8) rfl (by simp) ?_
  refine zr (za rfl (zk (zq (PV.loadAggA (vs := [.slice p ls.length cap]) rfl Tb.agg_24 rfl (one_cell hq)) rfl ?_)))
  refine zm rfl (TL.call rfl Tb.gofn_251 (fun a w hs => isColumn_ok w _ _ _ (hr.new hs.new) hb _) rfl dc (fun _ _ => ?_))
  refine zq ((by first | exact PV.notD rfl | exact PV.not rfl)) rfl ?_
  refine za rfl (zt (TQ.retE1 rfl rfl ?_))
  exact ⟨(), by unfold nrB wiB; rw [decide_not], trivial, nils⟩
theorem indexNear_ok (w0 : World) (pl : Option Addr) (cl : Nat) (xs : List Int) (hx : IntsAt w0 pl xs) (hl : xs.length ≤ 1000000) (p : Option Addr) (cap : Nat) (ls : List (List Int)) (hr : LsAt w0 p ls) (hb : 1 ≤ ls.length ∧ ls.length ≤ 6) (q : Addr) (hq : w0.cell? q = some (.slice p ls.length cap)) :
    Calls Tryz.prog 202 #[.slice pl xs.length cl, .func (.func 250) #[] #[.pointer (some q)]] w0 (Post (X := Int) (fun i => .int .i64 i) (fun i => Fnd ls xs i) (fun _ => []) w0) := by
  refine calls Tryz.func202 rfl (n := 19) rfl (by simp) ?_
  refine zr (za rfl (zn (TC.seq (zr (zm rfl (zq (PV.len rfl Tb.sl_25) rfl (zm rfl (zn (TC.block (TC.loopG [0, 1, 7] (X := Nat) (fun k => k ≤ xs.length ∧ ∀ j, j < k → nrB ls (xs.getD j 0) = true) (fun k => [(8, .int .i64 k)]) (fun k => xs.length - k) 0 ⟨Nat.zero_le _, fun j hj => absurd hj (Nat.not_lt_zero _)⟩ l9z ?_))))))))))
  intro k hk
  refine zr (zq (PV.lss rfl rfl) rfl (zn (TC.seq (TC.cd rfl (fun hlt => ?_) (fun hlt => ?_)))))
  refine TC.skip (TQ.thenC (TC.seq (TC.block (zr (zm rfl (za rfl (zn (TC.seq ?_))))))))
  obtain ⟨q2, hq2p, hq2⟩ := hx k (by omega)
  refine TC.region (zm rfl (zm rfl (zm rfl (zq (PV.indexA rfl hq2p rfl Tb.elm_25 rfl om) rfl (zq (PV.loadOld rfl Tb.one_3 hq2) rfl (TL.callF (f := 250) (caps := [.pointer (some q)]) (X := Unit) (fun _ => .bool (!nrB ls (xs.getD k 0))) (fun _ => True) (fun _ => []) rfl rfl Tb.gofn_250 (fun a w hs => (nearC_ok w _ _ _ (hr.new hs.new) hb q (hs.new.old hq) (xs.getD k 0)).mono fun e w' ⟨x9, h1, h2, h3⟩ => ⟨x9, h1, h2, hs.new.trans h3⟩) rfl dc (fun _ _ => ?_)))))))
  refine zn (TC.cd rfl (fun hno => ?_) (fun hno => ?_))
  refine zr (zm rfl (za rfl (zt (TQ.blkR (TQ.thenR (TQ.thenR (TQ.blkR (TQ.thenR (TQ.retE1 rfl rfl ?_)))))))))
  first | exact ⟨k, rfl, .inr ⟨k, rfl, by omega, by simpa using hno, hk.2⟩, nils⟩ | exact ⟨-1, rfl, .inl ⟨rfl, fun j hj => hk.2 j (by omega)⟩, nils⟩
  refine TC.skip (TQ.blkN (TQ.thenC (TC.region (zq (PV.add rfl rfl om) rfl (zm rfl (TL.nil (TQ.thenN (TQ.backK (k + 1) l9z l9z s9z ⟨by omega, fun j hj => if e : j < k then hk.2 j e else (show k = j by omega) ▸ (by simpa using hno)⟩ om))))))))
  refine TC.exit (TQ.thenE (TQ.thenE (TQ.blkS (TQ.thenC (zr (za rfl (zt (TQ.retE1 rfl rfl ?_))))))))
  first | exact ⟨k, rfl, .inr ⟨k, rfl, by omega, by simpa using hno, hk.2⟩, nils⟩ | exact ⟨-1, rfl, .inl ⟨rfl, fun j hj => hk.2 j (by omega)⟩, nils⟩
set_option maxHeartbeats 1000000 in
theorem deleteNear_ok {w0 w : World} {b b0 cc : Nat} {xs : List Int} {R : Heap} (hn : New w0 w ((b, .cells (intsA xs) 3 (0, 0)) :: R)) (hl : xs.length ≤ 1000000) (hcap : xs.length ≤ cc) (p : Option Addr) (cap : Nat) (ls : List (List Int)) (hr : LsAt w0 p ls) (hb : 1 ≤ ls.length ∧ ls.length ≤ 6) (hq : (b0, Obj.cells #[.slice p ls.length cap] 24 (0, 0)) ∈ R) :
    Calls Tryz.prog 249 #[.slice (some ⟨b, 0, none⟩) xs.length cc, .func (.func 250) #[] #[.pointer (some ⟨b0, 0, none⟩)]] w (Post (X := List Value) (fun _ => .slice (some ⟨b, 0, none⟩) (xs.filter (nrB ls)).length cc) (fun _ => True) (fun s => (b, .cells ((xs.filter (nrB ls)).map (Value.int .i64) ++ s).toArray 3 (0, 0)) :: R) w0) := by
  refine callsM hn Tryz.func249 rfl (n := 42) rfl (by simp) ?_
  refine zr (za rfl (zk (zm rfl (zm rfl (TL.call rfl Tb.gofn_202 (fun a w hs => indexNear_ok w _ _ xs (IntsAt.arr hs.new (List.mem_cons_self ..)) hl _ _ _ (hr.new hs.new) hb ⟨b0, 0, none⟩ (hs.new.cell (List.mem_cons_of_mem _ hq) rfl)) rfl dc (fun i9 hi9 => ?_))))))
  refine za rfl (zn (TC.seq (zr (zm rfl (zq (PV.eql rfl rfl) rfl (zn (TC.cd rfl (fun hno => ?_) (fun hno => ?_))))))))
  refine zr (zm rfl (za rfl (zt (TQ.thenR (TQ.retE1 rfl rfl ?_)))))
  have hf := flt_all hi9 hno
  exact ⟨[], by rw [hf], trivial, by rw [hf, List.append_nil]; exact List.Sublist.refl _⟩
  refine TC.skip (TQ.thenC (TC.seq (TC.seq ?_)))
  obtain ⟨k, hik, hkl, hkn, hkb⟩ : ∃ k : Nat, i9 = k ∧ k < xs.length ∧ nrB ls (xs.getD k 0) = false ∧ ∀ j, j < k → nrB ls (xs.getD j 0) = true := by rcases hi9 with h | h; (exact absurd h.1 (by omega)); exact h
  subst hik
  have hst := fltW_start hkl hkn hkb
  refine TC.region (zm rfl (zq (PV.add rfl rfl om) rfl (za rfl (zn (TC.block (TC.loopK [0, 1, 4] (X := Nat) (fun j => j ≤ xs.length ∧ (keptN ls xs j).length < j) (fun j => [(6, .int .i64 j), (5, .int .i64 (keptN ls xs j).length)]) (fun j => (b, Obj.cells (intsA (fltW ls xs j)) 3 (0, 0)) :: R) (fun j => xs.length - j) (k + 1) ⟨by omega, by rw [hst.2]; omega⟩ (by refine And.intro rfl (And.intro ?_ True.intro); show some _ = some _; rw [hst.2]) (by rw [hst.1]; exact List.Sublist.refl _) ?_))))))
  intro j hj
  refine TC.seq (zr (zm rfl (zm rfl (zq (PV.len rfl Tb.sl_25) rfl (zq (PV.lss rfl rfl) rfl (zn (TC.cd rfl (fun hlt => ?_) (fun hlt => ?_))))))))
  refine TC.skip (TQ.thenC (TC.seq (TC.block (TC.seq ?_))))
  have hkj := kept_le ls xs j
  have hkx := kept_le2 ls xs j
  have hat := fltW_at (ls := ls) (xs := xs) j
  refine TC.region (zm rfl (zm rfl (zq (PV.index1 (j := j) rfl rfl Tb.elm_25 rfl om) rfl (zq (PV.loadIv rfl Tb.one_3 (List.mem_cons_self ..) (by rw [fltW_len]; omega) hat) rfl ?_))))
  refine za rfl (zk (zm rfl (zm rfl (TL.callF (f := 250) (caps := [.pointer (some ⟨b0, 0, none⟩)]) (X := Unit) (fun _ => .bool (!nrB ls (xs.getD j 0))) (fun _ => True) (fun _ => (b, Obj.cells (intsA (fltW ls xs j)) 3 (0, 0)) :: R) rfl rfl Tb.gofn_250 (fun a w hs => (nearC_ok w _ _ _ (hr.new hs.new) hb ⟨b0, 0, none⟩ (hs.new.cell (List.mem_cons_of_mem _ hq) rfl) (xs.getD j 0)).mono fun e w' ⟨x9, h1, h2, h3⟩ => ⟨x9, h1, h2, hs.new.trans h3⟩) rfl dc (fun _ _ => ?_)))))
  refine zq ((by first | exact PV.notD rfl | exact PV.not rfl)) rfl ?_
  refine zn (TC.cd rfl (fun hin => ?_) (fun hin => ?_))
  have hin2 : nrB ls (xs.getD j 0) = true := by simpa using hin
  have hlk : (keptN ls xs (j + 1)).length = (keptN ls xs j).length + 1 := by rw [kept_put (by omega) hin2, List.length_append]; rfl
  refine zr (zm rfl (zm rfl (zm rfl (zq (PV.index1 (j := (keptN ls xs j).length) rfl rfl Tb.elm_25 rfl om) rfl (TL.storeI (j := (keptN ls xs j).length) (xs := fltW ls xs j) (v := xs.getD j 0) (G' := (b, Obj.cells (intsA (fltW ls xs (j + 1))) 3 (0, 0)) :: R) rfl rfl Tb.cells_3 (by rw [fltW_put om hin2]; exact Upd.head _) (by rw [fltW_len]; omega) rfl rfl ?_)))))
  refine zn (TC.region (zm rfl (zq (PV.add rfl rfl (by omega)) rfl (za rfl (TL.nil (TQ.blkN (TQ.thenC (TC.region (zm rfl (zq (PV.add rfl rfl (by omega)) rfl (za rfl (TL.nil (TQ.thenN (TQ.backK (j + 1) (by refine And.intro rfl (And.intro ?_ True.intro); show some _ = some _; rw [hlk]; try rfl) l9z (by first | exact List.Sublist.refl _ | (rw [hnw]; exact List.Sublist.refl _)) ⟨by omega, by rw [hlk]; omega⟩ (by omega)))))))))))))))
  have hin2 : nrB ls (xs.getD j 0) = false := by simpa using hin
  have hlk : (keptN ls xs (j + 1)).length = (keptN ls xs j).length := by rw [kept_skip (by omega) hin2]
  have hnw := fltW_skip (by omega) hin2
  refine TC.skip (TQ.blkN (TQ.thenC (TC.region (zm rfl (zq (PV.add rfl rfl (by omega)) rfl (za rfl (TL.nil (TQ.thenN (TQ.backK (j + 1) (by refine And.intro rfl (And.intro ?_ True.intro); show some _ = some _; rw [hlk]; try rfl) l9z (by first | exact List.Sublist.refl _ | (rw [hnw]; exact List.Sublist.refl _)) ⟨by omega, by rw [hlk]; omega⟩ (by omega))))))))))
  refine TC.exit (TQ.thenE (TQ.thenE (TQ.blkS (TQ.thenC (TC.seq ?_)))))
  have hend : xs.length ≤ j := by omega
  have hkj := kept_le ls xs j
  have hkx := kept_le2 ls xs j
  have hlen : (keptN ls xs j).length < xs.length := by omega
  have hfin := kept_end (ls := ls) hend
  refine TC.region (zm rfl (zm rfl (zq (PV.sliceL1 (l := (keptN ls xs j).length) rfl rfl Tb.elm_25 rfl om om) rfl (TL.clearN (cs := (fltW ls xs j).map (Value.int .i64)) (zs := zI (xs.length - (keptN ls xs j).length)) (G' := (b, Obj.cells ((xs.filter (nrB ls)).map (Value.int .i64) ++ zI (xs.length - (keptN ls xs j).length)).toArray 3 (0, 0)) :: R) rfl om Tb.sl_25 Tb.zi_3 rfl (zI_one _) (by rw [fltW_clear om rfl]; exact Upd.head _) (by rw [zI_len, List.length_map, fltW_len]; omega) rfl rfl ?_))))
  refine zk (zm rfl (zm rfl (zq (PV.sliceHb (h := (keptN ls xs j).length) rfl rfl Tb.elm_25 rfl om) rfl (za rfl (zt (TQ.retE1 rfl rfl ?_))))))
  exact ⟨zI (xs.length - (keptN ls xs j).length), by rw [hfin], trivial, List.Sublist.refl _⟩
set_option maxHeartbeats 1000000 in
theorem near_ok (w0 : World) (p : Option Addr) (cap : Nat) (ls : List (List Int)) (hr : LsAt w0 p ls) (hb : 1 ≤ ls.length ∧ ls.length ≤ 6) (c : Nat) (hc : c < ls.length) :
    Calls Tryz.prog 238 #[bv p ls.length cap, .int .i64 c] w0 (Post (X := Nat × List Value) (fun x => .slice (some ⟨x.1, 0, none⟩) (nearL ls c).length 3) (fun _ => True) (fun x => [(x.1, .cells ((nearL ls c).map (Value.int .i64) ++ x.2).toArray 3 (0, 0))]) w0) := by
  refine calls Tryz.func238 rfl (n := 13) rfl (by simp) ?_
  refine zr (TL.box rfl rfl dc (fun b0 hb0 => ?_))
  refine za rfl (zk (zm rfl (zq (PV.sub rfl rfl om) rfl (zm rfl (zm rfl (zq (PV.add rfl rfl om) rfl (TL.buildSlice (cs := #[.int .i64 ((c : Int) - 1), .int .i64 c, .int .i64 ((c : Int) + 1)]) rfl Tb.sl_25 Tb.zi_3 dc (fill_i3 _ _ _) dc rfl dc (fun bS hbS => ?_))))))))
  refine zq (PV.makeFunc rfl) rfl (TL.callW (X := List Value) (fun _ => .slice (some ⟨bS, 0, none⟩) (nearL ls c).length 3) (fun _ => True) (fun s => (bS, .cells ((nearL ls c).map (Value.int .i64) ++ s).toArray 3 (0, 0)) :: [(b0, Obj.cells #[.slice p ls.length cap] 24 (0, 0))]) rfl Tb.gofn_249 (fun a w hs => deleteNear_ok (xs := [(c : Int) - 1, (c : Int), (c : Int) + 1]) hs.new (show 3 ≤ 1000000 by decide) (Nat.le_refl 3) p cap ls hr hb (List.mem_cons_self ..)) rfl dc (fun s9 _ => ?_))
  refine za rfl (zt (TQ.retE1 rfl rfl ?_))
  exact ⟨(bS, s9), rfl, trivial, List.Sublist.cons_cons _ (List.nil_sublist _)⟩
end Go.Proofs.YtbnjmkidbfmomaaGreatDoor.C
namespace Go.Proofs.YtbnjmkidbfmomaaGreatDoor
open Go.Sx Go.RowKit
theorem ints_ext {xs ys : List Int} (hl : xs.length = ys.length) (h : ∀ j, j < xs.length → xs.getD j 0 = ys.getD j 0) : xs = ys := by
  refine List.ext_getElem hl fun j h1 h2 => ?_
  have := h j h1
  simpa [List.getD, h1, h2] using this
abbrev bval (l : List Bool) : List Value := l.map Value.bool
abbrev gvO (x : HD × List Bool) : Value := gval x.1 x.2.length
abbrev gbO (x : HD × List Bool) : Heap := gblk x.1 4 (bval x.2)
abbrev goO (x : HD × List Bool) : Prop := gok x.1 x.2.length 1 (bval x.2)
section
variable {P : Program} {n : Nat} {w0 : World} {E : Env} {G : Heap} {ty : TypeId} {pos : String} {aft : Array Edge} {g : Option (Nat × Bool)} {ops : Array Oper} {Q : Exit → Act → World → Prop} {l : List Oper}
theorem TL.put1 {dd : Option Nat} {x y : Operand} {h : HD} {len : Nat} {ys ys' : List Value} {j t : Nat} {e : TypeId} {v : Value} {G' : Heap} (hx : evo E x = some (.pointer (some ⟨(h.map (·.1)).getD 0, j * 1, none⟩))) (hy : evo E y = some v)
    (hsz : cellsN P t = some 1) (hone : v.oneCell' = true) (hok : gok h len 1 ys) (hys : ys' = ys.set j v) (hT : PutH e h ys ys' G G') (hj : j < len) (hg : wants ops E g = some true) (hdd : dd = none)
    (hk : TL P n w0 ops Q l E G') : TL P n w0 ops Q (⟨dd, .store t x y, ty, pos, aft, g⟩ :: l) E G := by
  cases h with
  | none => exact absurd hok.2 (by simp only; omega)
  | some hh =>
    obtain ⟨b, cap, sp⟩ := hh
    subst hys
    have hl := hok.1
    have e9 : (ys ++ sp).toArray.setIfInBounds (j * 1) v = (ys.set j v ++ sp).toArray := by
      simp only [List.setIfInBounds_toArray, Nat.mul_one]
      rw [List.set_append_left _ _ (by omega)]
    exact TL.store (cs := (ys ++ sp).toArray) (b := b) (off := j * 1) (v := v) (e := e) hx hy hsz hone (by rw [e9]; exact hT.upd) (by simp; omega) hg hdd hk
theorem TL.append0 {d : Nat} {s x : Operand} {t e by_ m bA : Nat} {z xv : Value} {news : List Value} {R : Heap} (hsv : evo E s = some (.slice (some ⟨bA, 0, none⟩) 0 0)) (hx : evo E x = some xv)
    (ht : P.underlying t = some (.slice e)) (hz : zeroI P e = some (z, 1, by_)) (hzs : z.cells.size = 1) (hT : Take bA (.cells #[] e (0, 0)) G R)
    (hsrc : ∀ w', New w0 w' G → Src P 1 t xv m news w') (hb : m * by_ ≤ 140737488355328) (hm : m ≤ 9223372036854775807)
    (hg : wants ops E g = some true) (hd : d < n)
    (h : ∀ h', gok h' m 1 news → TL P n w0 ops Q l ((d, gval h' m) :: E) (gblk h' e news ++ R)) :
    TL P n w0 ops Q (⟨some d, .call { callee := .builtin .append, args := #[s, x], argTypes := #[t, t] }, ty, pos, aft, g⟩ :: l) E G := by
  refine TL.perm hT.perm ?_
  have hp : ∀ w', New w0 w' ((bA, .cells #[] e (0, 0)) :: R) → New w0 w' G := fun w' hN => hN.perm hT.perm.symm
  refine TL.append (hd0 := some (bA, 0, [])) (ys := []) (len := 0) (m := m) (news := news) hsv hx ht hz hzs dc ⟨rfl, rfl, Nat.le_refl _⟩ (TakeH.here (some (bA, 0, [])) e [] R) (fun a w hs => hsrc w (hp w hs.new)) (fun w' hN => hsrc w' (hp w' hN)) (by rw [Nat.zero_add]; exact hb) om hg hd (fun h' ho _ => ?_)
  have := h h'
  rw [List.nil_append, Nat.zero_add] at ho
  rw [Nat.zero_add, List.nil_append]
  exact this ho
end
theorem ints_nil {w : World} {l : List Int} (h : IntsAt w none l) : l = [] := by
  cases l with
  | nil => rfl
  | cons x r => obtain ⟨q, hq, _⟩ := h 0 (by simp); cases hq
theorem ints_src {P : Program} {t e : TypeId} (ht : P.underlying t = some (.slice e)) {w : World} {p : Option Addr} {l : List Int} {c K : Nat} (hK : l.length = K) (h : IntsAt w p l) : Src P 1 t (.slice p K c) K (ival l) w := by
  subst hK
  cases p with
  | none =>
    have h0 := ints_nil h
    subst h0
    exact Src.ofNil w ht c
  | some q =>
    refine Src.ofSlice w ht q l.length c (ival l) (by simp) (fun j u hu => ?_) (fun v hv => by obtain ⟨i, _, rfl⟩ := List.mem_map.1 hv; rfl)
    have hj : j < l.length := by have := (List.getElem?_eq_some_iff.1 hu).1; simpa using this
    obtain ⟨q', hq', hc⟩ := h j hj
    cases hq'
    rw [Nat.mul_one] at hc
    rw [hc, ← hu, List.getElem?_map, List.getElem?_eq_getElem hj]
    simp [List.getD, hj]
section
variable {P : Program} {n : Nat} {w0 : World} {E : Env} {G : Heap} {ty : TypeId} {pos : String} {aft : Array Edge} {g : Option (Nat × Bool)} {ops : Array Oper} {Q : Exit → Act → World → Prop} {l : List Oper} {d : Option Nat}
theorem app_get {ys : List Int} {s : List Value} {j : Nat} (hj : j < ys.length) : (ys.map (Value.int .i64) ++ s).toArray[j]? = some (.int .i64 (ys.getD j 0)) := by
  simp [List.getElem?_append_left, hj, List.getD]
theorem PV.loadGI {x : Operand} {j t : Nat} {y : HD × List Int} {v : Int} (hx : evo E x = some (.pointer (some ⟨(y.1.map (·.1)).getD 0, j * 1, none⟩))) (ht : oneB P t = true)
    (hm : ∀ q ∈ gbI y, q ∈ G) (hok : goI y) (hj : j < y.2.length) (hv : y.2.getD j 0 = v) : PV P n w0 E G ⟨d, .load t x, ty, pos, aft, g⟩ (.int .i64 v) := by
  subst hv
  obtain ⟨h, l⟩ := y
  cases h with
  | none => exact absurd hok.2 (by simp only [List.length_map] at hj ⊢; omega)
  | some hh =>
    obtain ⟨b, cap, sp⟩ := hh
    simp only [Option.map_some, Option.getD_some, Nat.mul_one] at hx
    exact PV.loadG' hx ht (hm _ (.head _)) (app_get hj)
theorem TL.putI {dd : Option Nat} {x y : Operand} {h : HD} {xs xs' : List Int} {j t : Nat} {v : Int} {G' : Heap} (hx : evo E x = some (.pointer (some ⟨(h.map (·.1)).getD 0, j * 1, none⟩))) (hy : evo E y = some (.int .i64 v))
    (hsz : cellsN P t = some 1) (hok : goI (h, xs)) (hs : xs.set j v = xs') (hT : PutH 3 h (ival xs) (ival xs') G G') (hj : j < xs.length) (hg : wants ops E g = some true) (hdd : dd = none)
    (hk : TL P n w0 ops Q l E G') : TL P n w0 ops Q (⟨dd, .store t x y, ty, pos, aft, g⟩ :: l) E G :=
  TL.put1 (v := .int .i64 v) hx hy hsz rfl hok (by rw [← hs]; exact List.map_set) hT hj hg hdd hk
theorem TL.storeIv {dd : Option Nat} {x y : Operand} {b j : Nat} {t : Nat} {xs xs' : List Int} {e : TypeId} {v : Int} {G' : Heap} (hx : evo E x = some (.pointer (some ⟨b, j, none⟩))) (hy : evo E y = some (.int .i64 v))
    (hsz : cellsN P t = some 1) (hs : xs.set j v = xs') (hu : Upd b (.cells (intsA xs) e (0, 0)) (.cells (intsA xs') e (0, 0)) G G') (hlt : j < xs.length)
    (hg : wants ops E g = some true) (hdd : dd = none) (h : TL P n w0 ops Q l E G') : TL P n w0 ops Q (⟨dd, .store t x y, ty, pos, aft, g⟩ :: l) E G := by
  subst hs
  exact TL.storeI hx hy hsz hu hlt hg hdd h
end
def mk (n : Nat) (f : Nat → Int) : List Int := (List.range n).map f
theorem mk_len (n : Nat) (f : Nat → Int) : (mk n f).length = n := by simp [mk]
theorem mk_at {n : Nat} (f : Nat → Int) {j : Nat} (hj : j < n) : (mk n f).getD j 0 = f j := by simp [mk, List.getD, hj]
theorem mk_eq {xs : List Int} {n : Nat} {f : Nat → Int} (hl : xs.length = n) (h : ∀ j, j < n → xs.getD j 0 = f j) : xs = mk n f :=
  ints_ext (by rw [mk_len, hl]) fun j hj => by rw [mk_at f (by omega), h j (by omega)]
theorem mk_congr {n : Nat} {f h : Nat → Int} (e : ∀ j, j < n → f j = h j) : mk n f = mk n h := mk_eq (mk_len n f) fun j hj => by rw [mk_at f hj, e j hj]
theorem set_at {xs : List Int} {i : Nat} (hi : i < xs.length) (v : Int) (k : Nat) : (xs.set i v).getD k 0 = if i = k then v else xs.getD k 0 := by
  rw [List.getD_eq_getElem?_getD, List.getElem?_set]
  by_cases h : i = k
  · subst h; simp [hi]
  · simp [h]
theorem mk_set {n : Nat} {f h : Nat → Int} {i : Nat} {v : Int} (hi : i < n) (hv : v = h i) (e : ∀ j, j < n → j ≠ i → f j = h j) : (mk n f).set i v = mk n h :=
  mk_eq (by rw [List.length_set, mk_len]) fun j hj => by
    rw [set_at (by rw [mk_len]; exact hi)]
    by_cases hij : i = j
    · subst hij; rw [if_pos rfl, hv]
    · rw [if_neg hij, mk_at f hj, e j hj (fun h => hij h.symm)]
end Go.Proofs.YtbnjmkidbfmomaaGreatDoor
namespace Go.Sx
open Go.RowKit Go.Proofs.YtbnjmkidbfmomaaGreatDoor
def arrOf (P : Program) (t : Nat) : Option (Nat × Nat × Nat) :=
  match P.underlying t with
  | some (.array n e) => (P.info? e).map fun i => (n, e, i.size)
  | _ => none
section
variable {P : Program} {n : Nat} {w0 : World} {E : Env} {G : Heap} {d : Option Nat} {ty : TypeId} {pos : String} {aft : Array Edge} {g : Option (Nat × Bool)}
theorem PV.indexArr {x y : Operand} {b m e j : Nat} {i : Int} {t : Nat} (hx : evo E x = some (.pointer (some ⟨b, 0, none⟩))) (hy : evo E y = some (.int .i64 i))
    (ht : arrOf P t = some (m, e, 1)) (hi : i = (j : Int)) (hj : j < m) : PV P n w0 E G ⟨d, .indexAddr t x y, ty, pos, aft, g⟩ (.pointer (some ⟨b, j, none⟩)) :=
  fun a w hs => by
    unfold arrOf at ht
    cases hu : P.underlying t with
    | none => simp [hu] at ht
    | some u =>
      cases u <;> simp only [hu] at ht <;> try (simp at ht; done)
      rename_i m' e'
      cases hi2 : P.info? e' with
      | none => simp [hi2] at ht
      | some inf =>
        simp [hi2] at ht
        obtain ⟨rfl, rfl, h3⟩ := ht
        subst hi
        simp only [execOp, hs.ev hx, hs.ev hy]
        simp [Instr.indexAt, run_underlying hu, asIntOf, Instr.sureAddr, sizeOf, typeInfo, hi2, h3, hj, add_off]
theorem PV.sliceAll {x : Operand} {b m e : Nat} {t : Nat} (hx : evo E x = some (.pointer (some ⟨b, 0, none⟩)))
    (ht : arrOf P t = some (m, e, 1)) (hm : 0 < m) : PV P n w0 E G ⟨d, .slice t x none none none, ty, pos, aft, g⟩ (.slice (some ⟨b, 0, none⟩) m m) :=
  fun a w hs => by
    unfold arrOf at ht
    cases hu : P.underlying t with
    | none => simp [hu] at ht
    | some u =>
      cases u <;> simp only [hu] at ht <;> try (simp at ht; done)
      rename_i m' e'
      cases hi2 : P.info? e' with
      | none => simp [hi2] at ht
      | some inf =>
        simp [hi2] at ht
        obtain ⟨rfl, rfl, h3⟩ := ht
        have hm0 : ¬ m' = 0 := by omega
        simp only [execOp, Option.map_none, hs.ev hx]
        simp [Instr.sliceAt, run_underlying hu, Instr.sureAddr, Instr.sliceBounds, run_sliceBound, sizeOf, typeInfo, hi2, h3, add_off, hm0]
end
section
variable {P : Program} {k m : Nat}
end
end Go.Sx
namespace Go.Proofs.YtbnjmkidbfmomaaGreatDoor.C
open Go.Sx Go.RowKit
theorem arr_69 : arrOf Tryz.prog 250 = some (6, 3, 1) := by kernel_rfl
theorem ints_one (xs : List Int) : (xs.map (Value.int .i64)).all Value.oneCell' = true := by
  rw [List.all_eq_true]
  intro v hv
  obtain ⟨i, _, rfl⟩ := List.mem_map.1 hv
  rfl
def mixN (f : Int → Int → Int) (xs ys : List Int) (k : Nat) : List Int := (List.zipWith f xs ys).take k ++ xs.drop k
theorem map_len {xs : List Int} (h : xs.length = 6) : (xs.map (Value.int .i64)).length = 6 := by rw [List.length_map, h]
def Z6 : Array Value := #[.int .i64 0, .int .i64 0, .int .i64 0, .int .i64 0, .int .i64 0, .int .i64 0]
end Go.Proofs.YtbnjmkidbfmomaaGreatDoor.C
namespace Go.Sx
section
variable {P : Program} {n : Nat} {w0 : World} {E : Env} {G : Heap} {Q : Exit → Act → World → Prop} {c : Code}
end
end Go.Sx
namespace Go.Proofs.YtbnjmkidbfmomaaGreatDoor.C
open Go.Sx Go.RowKit
theorem fill_i (v : Int) : Instr.fill (fun i => some (i * 1, 1)) ((Array.range (1 * 1)).map ((Value.int .i64 0).cells[· % (Value.int .i64 0).cells.size]!)) [(0, .int .i64 v)] = some #[.int .i64 v] := by kernel_rfl
def opB (ls : List (List Int)) (xs : List Int) (c : Nat) : Bool := !decide (xs.getD c 0 = (dep ls : Int)) && (nearL ls c).all fun d => decide (xs.getD c 0 ≤ xs.getD d.toNat 0)
def opN (ls : List (List Int)) (xs : List Int) : Nat → List Int
  | 0 => []
  | k + 1 => if opB ls xs k = true then opN ls xs k ++ [(k : Int)] else opN ls xs k
theorem op_len (ls : List (List Int)) (xs : List Int) : ∀ k, (opN ls xs k).length ≤ k
  | 0 => Nat.le_refl 0
  | k + 1 => by
    have := op_len ls xs k
    unfold opN
    split
    · rw [List.length_append]; show _ + 1 ≤ _; omega
    · omega
theorem op_full {ls : List (List Int)} {xs : List Int} {k : Nat} (h : xs.getD k 0 = (dep ls : Int)) : opB ls xs k = false := by
  unfold opB
  rw [decide_eq_true h]
  rfl
theorem op_low {ls : List (List Int)} {xs : List Int} {k u : Nat} (hu : u < (nearL ls k).length) (h : xs.getD ((nearL ls k).getD u 0).toNat 0 < xs.getD k 0) : opB ls xs k = false := by
  unfold opB
  rw [all_no (k := u) (d := 0) hu (decide_eq_false (by omega)), Bool.and_false]
theorem op_yes {ls : List (List Int)} {xs : List Int} {k : Nat} (h : ¬ xs.getD k 0 = (dep ls : Int)) (h2 : ∀ u, u < (nearL ls k).length → ¬ xs.getD ((nearL ls k).getD u 0).toNat 0 < xs.getD k 0) : opB ls xs k = true := by
  unfold opB
  rw [decide_eq_false h, all_yes (f := fun (d : Int) => decide (xs.getD k 0 ≤ xs.getD d.toNat 0)) (d := 0) (fun j hj => decide_eq_true (by have := h2 j hj; omega))]
  rfl
theorem near_bd {ls : List (List Int)} {c u : Nat} (hu : u < (nearL ls c).length) : 0 ≤ (nearL ls c).getD u 0 ∧ (nearL ls c).getD u 0 < ls.length := by
  have h1 : (nearL ls c).getD u 0 ∈ nearL ls c := by
    rw [show (nearL ls c).getD u 0 = (nearL ls c)[u] by simp [List.getD, hu]]
    exact List.getElem_mem _
  have h2 := (List.mem_filter.1 h1).2
  unfold nrB wiB at h2
  have := of_decide_eq_true h2
  omega
theorem near_len (ls : List (List Int)) (c : Nat) : (nearL ls c).length ≤ 3 := List.length_filter_le _ _
theorem app_get {ys : List Int} {s : List Value} {j : Nat} (hj : j < ys.length) : (ys.map (Value.int .i64) ++ s).toArray[j]? = some (.int .i64 (ys.getD j 0)) := by
  simp [List.getElem?_append_left, hj, List.getD]
structure OS (ls : List (List Int)) (xs : List Int) (k : Nat) (y : HD × List Int) : Prop where
  le : k ≤ ls.length
  eq : y.2 = opN ls xs k
  ok : goI y
theorem OS.zero (ls : List (List Int)) (xs : List Int) : OS ls xs 0 (none, []) := ⟨Nat.zero_le _, rfl, ⟨rfl, rfl⟩⟩
theorem OS.skip {ls : List (List Int)} {xs : List Int} {k : Nat} {y : HD × List Int} (h : OS ls xs k y) (hk : k < ls.length) (hb : opB ls xs k = false) : OS ls xs (k + 1) y :=
  ⟨hk, by rw [h.eq]; show _ = if opB ls xs k = true then _ else _; rw [if_neg (by rw [hb]; decide)], h.ok⟩
theorem OS.step {ls : List (List Int)} {xs : List Int} {k : Nat} {y : HD × List Int} {h' : HD} (h : OS ls xs k y) (hk : k < ls.length) (hb : opB ls xs k = true) (ho : goI (h', y.2 ++ [(k : Int)])) : OS ls xs (k + 1) (h', y.2 ++ [(k : Int)]) :=
  ⟨hk, by show y.2 ++ _ = _; rw [h.eq]; show _ = if opB ls xs k = true then _ else _; rw [if_pos hb], ho⟩
set_option maxHeartbeats 2000000 in
theorem open_ok (w0 : World) (p : Option Addr) (cap : Nat) (ls : List (List Int)) (hr : LsAt w0 p ls) (hb : 1 ≤ ls.length ∧ ls.length ≤ 6) (xs : List Int) (hx : xs.length = 6) :
    Calls Tryz.prog 213 #[bv p ls.length cap, .agg (intsA xs)] w0 (Post (X := HD) (fun h => gvI (h, opN ls xs ls.length)) (fun h => goI (h, opN ls xs ls.length)) (fun h => gbI (h, opN ls xs ls.length)) w0) := by
  refine calls Tryz.func213 rfl (n := 43) rfl (by simp) ?_
  refine zr (TL.box rfl rfl dc (fun b0 hb0 => ?_))
  refine TL.box rfl rfl dc (fun b1 hb1 => ?_)
  refine za rfl (zn (TC.scope ?_))
  refine zr (za rfl (zn (TC.seq (TC.label ?_))))
  refine TQ.thenC (TC.seq (zr (zq (PV.fieldAddr rfl Tb.fo_24_0) rfl (zq (PV.load rfl Tb.one_22 m9z rfl) rfl ?_))))
  refine zq (PV.len rfl Tb.sl_22) rfl (zm rfl (zn (TC.block (TC.lit [(2, _), (3, _), (4, _), (5, _), (11, _), (12, _)] l9z ?_))))
  refine TC.loopK [2, 3, 4, 11] (X := Nat × HD × List Int) (fun v => OS ls xs v.1 v.2) (fun v => [(12, .int .i64 v.1), (5, gvI v.2)]) (fun v => gbI v.2 ++ ((b1, Obj.cells (intsA xs) 250 (0, 0)) :: [(b0, Obj.cells #[.slice p ls.length cap] 24 (0, 0))])) (fun v => ls.length - v.1) (0, none, []) (OS.zero ls xs) l9z (by repeat (first | exact List.Sublist.slnil | exact List.nil_sublist _ | exact List.Sublist.refl _ | exact List.sublist_append_left _ _ | refine List.Sublist.cons_cons _ ?_ | refine (List.append_sublist_append_left _).2 ?_ | refine List.Sublist.cons _ ?_ | refine List.Sublist.trans ?_ (List.sublist_append_right _ _))) ?_
  intro v hv
  refine TC.lit [(2, _), (3, _), (4, _), (5, _), (11, _), (12, _)] l9z ?_
  refine zr (zq (PV.lss rfl rfl) rfl (zn (TC.seq (TC.cd rfl (fun hlt => ?_) (fun hlt => ?_)))))
  refine TC.skip (TQ.thenC (TC.seq (TC.block (TC.seq ?_))))
  have hvl := op_len ls xs v.1
  have hve := hv.eq
  have hnl := near_len ls v.1
  refine TC.region (zm rfl (za rfl (zn (TC.seq (TC.seq (TC.any Tb.mixed rfl rfl ?_))))))
  refine TA.op (OpOK.pure (PV.move rfl) rfl dc) dc ?_
  refine TA.op (OpOK.pure (PV.indexArr (j := v.1) rfl rfl arr_69 rfl om) rfl dc) dc ?_
  refine TA.op (OpOK.pure (PV.loadI (xs := xs) rfl Tb.one_3 m9z om) rfl dc) dc ?_
  refine TA.op (OpOK.pure (PV.loadBox rfl Tb.agg_24 m9z rfl) rfl dc) dc ?_
  refine TA.op (OpOK.call rfl Tb.gofn_132 (fun a w hs => depth_ok w _ _ _ (hr.new hs.new) om) rfl dc) dc ?_
  refine TA.op (OpOK.pure (PV.eql rfl rfl) rfl dc) dc ?_
  show TQ _ _ _ _ _
  refine TQ.thenC (TC.cd rfl (fun hfull => ?_) (fun hfull => ?_))
  let nx : Nat × HD × List Int := (v.1 + 1, v.2)
  have hnx : OS ls xs nx.1 nx.2 := hv.skip (by omega) (op_full (by simpa using hfull))
  refine TC.exit (TQ.thenE (TQ.blkS (TQ.thenC (TC.region (zq (PV.add rfl rfl (by omega)) rfl (zm rfl (TL.nil (TQ.thenN (TQ.backK nx l9z l9z (by repeat (first | exact List.Sublist.slnil | exact List.nil_sublist _ | exact List.Sublist.refl _ | exact List.sublist_append_left _ _ | refine List.Sublist.cons_cons _ ?_ | refine (List.append_sublist_append_left _).2 ?_ | refine List.Sublist.cons _ ?_ | refine List.Sublist.trans ?_ (List.sublist_append_right _ _))) hnx (by show ls.length - (v.1 + 1) < _; omega))))))))))
  refine TC.skip (TQ.thenC (TC.seq (zr (zq (PV.loadBox rfl Tb.agg_24 m9z rfl) rfl ?_))))
  refine zm rfl (TL.call rfl Tb.gofn_238 (fun a w hs => near_ok w _ _ _ (hr.new hs.new) hb v.1 om) rfl dc (fun x9 _ => ?_))
  refine zq (PV.len rfl Tb.sl_25) rfl (zm rfl (zn (TC.block (TC.lit [(2, _), (3, _), (4, _), (5, _), (6, _), (11, _), (12, _), (23, _), (24, _), (25, _)] l9z ?_))))
  refine TC.loopG [2, 3, 4, 5, 6, 11, 12, 23, 24] (X := Nat × Unit) (fun u => ∀ j, j < u.1 → ¬ xs.getD ((nearL ls v.1).getD j 0).toNat 0 < xs.getD v.1 0) (fun u => [(25, .int .i64 u.1)]) (fun u => (nearL ls v.1).length - u.1) (0, ()) (fun j hj => absurd hj (Nat.not_lt_zero _)) l9z ?_
  intro u hu
  refine TC.lit [(2, _), (3, _), (4, _), (5, _), (6, _), (11, _), (12, _), (23, _), (24, _), (25, _)] l9z ?_
  refine zr (zq (PV.lss rfl rfl) rfl (zn (TC.seq (TC.cd rfl (fun hlt2 => ?_) (fun hlt2 => ?_)))))
  refine TC.skip (TQ.thenC (TC.seq (TC.block (zr (zq (PV.index1 (j := u.1) rfl rfl Tb.elm_25 rfl om) rfl (zq (PV.loadG' rfl Tb.one_3 m9z (app_get om)) rfl ?_))))))
  refine za rfl (zn (TC.seq ?_))
  obtain ⟨n1, n2⟩ := near_bd (ls := ls) (c := v.1) (u := u.1) (by omega)
  refine TC.any Tb.mixed rfl rfl ?_
  refine TA.op (OpOK.pure (PV.move rfl) rfl dc) dc ?_
  refine TA.op (OpOK.pure (PV.indexArr (j := ((nearL ls v.1).getD u.1 0).toNat) rfl rfl arr_69 om om) rfl dc) dc ?_
  refine TA.op (OpOK.pure (PV.loadI (xs := xs) rfl Tb.one_3 m9z om) rfl dc) dc ?_
  refine TA.op (OpOK.pure (PV.move rfl) rfl dc) dc ?_
  refine TA.op (OpOK.pure (PV.indexArr (j := v.1) rfl rfl arr_69 rfl om) rfl dc) dc ?_
  refine TA.op (OpOK.pure (PV.loadI (xs := xs) rfl Tb.one_3 m9z om) rfl dc) dc ?_
  refine TA.op (OpOK.pure (PV.lss rfl rfl) rfl dc) dc ?_
  show TQ _ _ _ _ _
  refine TQ.thenC (TC.cd rfl (fun hlow => ?_) (fun hlow => ?_))
  let nx : Nat × HD × List Int := (v.1 + 1, v.2)
  have hnx : OS ls xs nx.1 nx.2 := hv.skip (by omega) (op_low (u := u.1) (by omega) hlow)
  refine TC.exit (TQ.blkE (by decide) (TQ.thenE (TQ.thenE (TQ.blkE (by decide) (TQ.thenE (TQ.blkS (TQ.thenC (TC.region (zq (PV.add rfl rfl (by omega)) rfl (zm rfl (TL.nil (TQ.thenN (TQ.backK nx l9z l9z (by repeat (first | exact List.Sublist.slnil | exact List.nil_sublist _ | exact List.Sublist.refl _ | exact List.sublist_append_left _ _ | refine List.Sublist.cons_cons _ ?_ | refine (List.append_sublist_append_left _).2 ?_ | refine List.Sublist.cons _ ?_ | refine List.Sublist.trans ?_ (List.sublist_append_right _ _))) hnx (by show ls.length - (v.1 + 1) < _; omega))))))))))))))
  refine TC.skip (TQ.blkN (TQ.thenC (TC.region (zq (PV.add rfl rfl om) rfl (zm rfl (TL.nil (TQ.thenN (TQ.backK (u.1 + 1, ()) l9z l9z s9z (fun j hj => if e : j < u.1 then hu j e else (show u.1 = j by simp only at hj; omega) ▸ hlow) (by simp only; omega)))))))))
  refine TC.exit (TQ.thenE (TQ.thenE (TQ.blkS (TQ.thenC ?_))))
  have hop : opB ls xs v.1 = true := op_yes (by simpa using hfull) (fun j hj => hu j (by omega))
  refine TC.region (zm rfl (zm rfl (TL.buildSlice (cs := #[.int .i64 (v.1 : Int)]) rfl Tb.sl_25 Tb.zi_3 dc (fill_i _) dc rfl dc (fun bI hbI => ?_))))
  refine TL.appendI (x0 := v.2) (v := (v.1 : Int)) rfl rfl m9z hv.ok h9z (by rw [hve]; omega) rfl dc (fun h9 ho9 => ?_)
  let nx : Nat × HD × List Int := (v.1 + 1, h9, v.2.2 ++ [(v.1 : Int)])
  have hnx : OS ls xs nx.1 nx.2 := hv.step (by omega) hop ho9
  refine za rfl (TL.nil (TQ.blkN (TQ.thenC (TC.region (zq (PV.add rfl rfl (by omega)) rfl (zm rfl (TL.nil (TQ.thenN (TQ.backK nx l9z l9z (by repeat (first | exact List.Sublist.slnil | exact List.nil_sublist _ | exact List.Sublist.refl _ | exact List.sublist_append_left _ _ | refine List.Sublist.cons_cons _ ?_ | refine (List.append_sublist_append_left _).2 ?_ | refine List.Sublist.cons _ ?_ | refine List.Sublist.trans ?_ (List.sublist_append_right _ _))) hnx (by show ls.length - (v.1 + 1) < _; omega))))))))))
  refine TC.exit (TQ.thenE (TQ.thenE (TQ.blkS (TQ.thenC (zr (zm rfl (za rfl (zt (TQ.scR ?_)))))))))
  refine TQ.retE1 rfl rfl ?_
  have e9 : v.1 = ls.length := by have := hv.le; omega
  have e8 := hv.eq
  rw [e9] at e8
  exact ⟨v.2.1, by rw [← e8], by rw [← e8]; exact hv.ok, by rw [← e8]; exact List.sublist_append_left _ _⟩
end Go.Proofs.YtbnjmkidbfmomaaGreatDoor.C
namespace Go.Sx
open Go.RowKit Go.Proofs.YtbnjmkidbfmomaaGreatDoor
section
variable {P : Program} {n : Nat} {w0 : World} {E : Env} {G : Heap} {ty : TypeId} {pos : String} {aft : Array Edge} {g : Option (Nat × Bool)} {ops : Array Oper} {Q : Exit → Act → World → Prop} {l : List Oper}
end
end Go.Sx
namespace Go.Proofs.YtbnjmkidbfmomaaGreatDoor.C
open Go.Sx Go.RowKit
theorem sz_3 : (Tryz.prog.info? 3).map (·.size) = some 1 := by kernel_rfl
def pad6 (xs : List Int) : List Int := xs ++ List.replicate (6 - xs.length) 0
theorem pad_len {xs : List Int} (h : xs.length ≤ 6) : (pad6 xs).length = 6 := by
  unfold pad6
  rw [List.length_append, List.length_replicate]
  omega
theorem pad_put {xs : List Int} (h : xs.length ≤ 6) : putA Z6 0 (xs.map (Value.int .i64)) = intsA (pad6 xs) := by
  have h1 := putA_list (xs.map (Value.int .i64)) 0 ((List.replicate 6 (0 : Int)).map (Value.int .i64)) (by simp; omega)
  rw [show Z6 = ((List.replicate 6 (0 : Int)).map (Value.int .i64)).toArray from rfl]
  refine Array.toList_inj.1 ?_
  rw [h1]
  unfold intsA pad6
  simp only [List.take_zero, List.nil_append, List.length_map, Nat.zero_add, List.map_append, ← List.map_drop, List.drop_replicate]
def opnI (ls : List (List Int)) (xs : List Int) : List Int := if holI ls xs = 0 then opN ls (pad6 xs) ls.length else []
set_option maxHeartbeats 1000000 in
theorem hollowOf_ok (w0 : World) (pl : Option Addr) (cl : Nat) (xs : List Int) (hx : IntsAt w0 pl xs) (hl : xs.length ≤ 6) :
    Calls Tryz.prog 214 #[.slice pl xs.length cl] w0 (Post (X := Unit) (fun _ => .agg (intsA (pad6 xs))) (fun _ => True) (fun _ => []) w0) := by
  refine calls Tryz.func214 rfl (n := 8) rfl (by simp) ?_
  refine zr (TL.alloc Tb.zero_250 rfl dc (fun b0 hb0 => ?_))
  refine zk (TL.alloc Tb.zero_250 rfl dc (fun b1 hb1 => ?_))
  refine zk (zq (PV.sliceAll rfl arr_69 dc) rfl (zm rfl (TL.copyI (xs := xs) (arr := Z6) (e := 3) rfl rfl Tb.sl_25 sz_3 hx hl dc (by rw [pad_put hl]; exact u9z) rfl dc ?_)))
  refine zk (zq (PV.loadBox (cs := (pad6 xs).map (Value.int .i64)) rfl Tb.agg_250 m9z (map_len (pad_len hl))) rfl ?_)
  refine TL.storeAgg (vs := (pad6 xs).map (Value.int .i64)) rfl rfl Tb.cells_250 u9z (map_len (pad_len hl)) rfl (ints_one _) rfl rfl ?_
  refine zt (TQ.retR rfl (Res.agg rfl Tb.agg_250 m9z (map_len (pad_len hl)) Res.nil) ?_)
  simp only [tup]
  exact ⟨(), rfl, trivial, nils⟩
end Go.Proofs.YtbnjmkidbfmomaaGreatDoor.C
namespace Go.Proofs.YtbnjmkidbfmomaaGreatDoor.C
open Go.Sx Go.RowKit
set_option maxHeartbeats 1000000 in
theorem Open_ok (w0 : World) (p : Option Addr) (cap : Nat) (ls : List (List Int)) (hr : LsAt w0 p ls) (pl : Option Addr) (cl : Nat) (xs : List Int) (hx : IntsAt w0 pl xs) :
    Calls Tryz.prog 184 #[bv p ls.length cap, .slice pl xs.length cl] w0 (Post (X := HD) (fun h => .tuple #[gval h (opnI ls xs).length, .int .i64 (holI ls xs)]) (fun h => goI (h, opnI ls xs)) (fun h => gbI (h, opnI ls xs)) w0) := by
  refine calls Tryz.func184 rfl (n := 17) rfl (by simp) ?_
  refine zr (TL.box rfl rfl dc (fun b0 hb0 => ?_))
  refine za rfl (za rfl (zn (TC.seq (zr (zq (PV.loadBox rfl Tb.agg_24 m9z rfl) rfl ?_)))))
  refine zm rfl (TL.call rfl Tb.gofn_55 (fun a w hs => checkHollow_ok w _ _ _ (hr.new hs.new) _ _ _ (hx.new hs.new)) rfl dc (fun _ _ => ?_))
  refine za rfl (zk (zm rfl (zq (PV.neq rfl rfl) rfl (zn (TC.cd rfl (fun hbad => ?_) (fun hbad => ?_))))))
  refine zr (zm rfl (za rfl (za rfl (zt (TQ.thenR (TQ.retE2 rfl rfl rfl ?_))))))
  have e9 : opnI ls xs = [] := if_neg hbad
  exact ⟨none, by rw [e9]; rfl, by rw [e9]; exact ⟨rfl, rfl⟩, nils⟩
  refine TC.skip (TQ.thenC (TC.seq ?_))
  have hb := (hol_nb hbad).1
  have hn := hb.vb.n
  have hl9 := hb.len
  have e9 : opnI ls xs = opN ls (pad6 xs) ls.length := if_pos (Decidable.of_not_not hbad)
  refine TC.mix [true, true, false, false, false, false] _ 4 Tb.mixed rfl kr kr kr kr (List.Sublist.refl _) ?_
  refine TB.op (SOK.pure (PV.loadBox rfl Tb.agg_24 m9z rfl) rfl) dc ?_
  refine TB.op (SOK.pure (PV.move rfl) rfl) dc ?_
  refine TB.no ?_
  refine TB.no ?_
  refine TB.no ?_
  refine TB.no ?_
  refine TB.fin ?_
  refine TX.step [2] kr dc ⟨⟨_, rfl, ?_⟩, trivial⟩
  refine TL.call rfl Tb.gofn_214 (fun a w hs => hollowOf_ok w _ _ _ (hx.new hs.new) om) rfl dc (fun _ _ => ?_)
  refine TL.nil ?_
  refine TX.next (.inl s9z) ?_
  refine TX.step [3] kr dc ⟨⟨_, rfl, ?_⟩, trivial⟩
  refine TL.call rfl Tb.gofn_213 (fun a w hs => open_ok w _ _ _ (hr.new hs.new) hn _ (pad_len om)) rfl dc (fun h9 hh9 => ?_)
  refine TL.nil ?_
  refine TX.next (.inl s9z) ?_
  refine TX.step [4] kr dc ⟨⟨_, rfl, ?_⟩, trivial⟩
  refine za rfl (TL.nil ?_)
  refine TX.next (.inr kr) ?_
  refine TX.step [5] kr dc ⟨⟨_, rfl, ?_⟩, trivial⟩
  refine za rfl (TL.nil ?_)
  refine TX.next (.inr kr) ?_
  refine TX.done kr ?_
  refine zc (TQ.retE2 rfl rfl rfl ?_)
  exact ⟨h9, by rw [e9, Decidable.of_not_not hbad], by rw [e9]; exact hh9, by rw [e9]; exact List.sublist_append_left _ _⟩
end Go.Proofs.YtbnjmkidbfmomaaGreatDoor.C
namespace Go.Proofs.YtbnjmkidbfmomaaGreatDoor.C
open Go.Sx Go.RowKit
structure HO (ls : List (List Int)) (hs : List Int) : Prop extends NB ls hs where
  stp : ∀ k, k + 1 < ls.length → -1 ≤ hs.getD (k + 1) 0 - hs.getD k 0 ∧ hs.getD (k + 1) 0 - hs.getD k 0 ≤ 1
theorem ho_of {ls : List (List Int)} {hs : List Int} (h : ¬ holI ls hs ≠ 0) : HO ls hs := by
  obtain ⟨h1, h2⟩ := hol_nb h
  refine ⟨h1, fun k hk => ?_⟩
  have := List.all_eq_true.1 h2 k (List.mem_range.2 (by have := h1.len; omega))
  exact of_decide_eq_true this
theorem num_ok {ls : List (List Int)} {hs : List Int} (hv : ¬ validI ls ≠ 0) (h : NB ls hs) : numI ls hs = 0 :=
  num_0 hv ⟨h.len, all_yes (d := 0) fun k _ => decide_eq_true (h.at_ k)⟩
theorem ho_to {ls : List (List Int)} {hs : List Int} (hv : ¬ validI ls ≠ 0) (h : HO ls hs) : holI ls hs = 0 :=
  hol_0 (by rw [num_ok hv h.toNB]; decide) (right_yes fun k hk => decide_eq_true (h.stp k (by have := h.len; omega)))
theorem goI_nil : goI (none, []) := ⟨rfl, rfl⟩
section
variable {P : Program} {n : Nat} {w0 : World} {E : Env} {G : Heap} {ty : TypeId} {pos : String} {aft : Array Edge} {g : Option (Nat × Bool)} {ops : Array Oper} {Q : Exit → Act → World → Prop} {l : List Oper}
end
theorem go_len {h : HD} {n : Nat} {xs l : List Int} (ho : gok h n 1 (ival xs)) (hl : l.length = n) : gok h n 1 (ival l) := by
  obtain ⟨h1, h2⟩ := ho
  refine ⟨by simp [hl], ?_⟩
  cases h with
  | none => exact h2
  | some hh =>
    obtain ⟨b, c, sp⟩ := hh
    simp only [List.length_map] at h1 h2 ⊢
    exact ⟨by omega, h2.2⟩
theorem go_lenI {h : HD} {n : Nat} {xs l : List Int} (ho : gok h n 1 (ival xs)) (hl : l.length = n) : goI (h, l) := by
  have := go_len ho hl
  subst hl
  exact this
theorem gog {x : HD × List Int} {n : Nat} (ho : goI x) (hl : x.2.length = n) : gok x.1 n 1 (ival x.2) := by subst hl; exact ho
/-! Lists that are joined, column by column. -/
end Go.Proofs.YtbnjmkidbfmomaaGreatDoor.C
