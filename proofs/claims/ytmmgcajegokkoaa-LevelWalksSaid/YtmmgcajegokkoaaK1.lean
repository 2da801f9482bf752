/- The parts and the trees, both ways. -/
import Derived.Test.YtmmgcajegokkoaaJ1
set_option linter.unusedVariables false
set_option linter.unusedSimpArgs false
namespace Go.Proofs.Ytmmgcajegokkoaa
open Go.Sx Go.RowKit

abbrev HD := Option (Nat × Nat × List Value)
abbrev ival (l : List Int) : List Value := l.map (Value.int .i64)
abbrev gvI (x : HD × List Int) : Value := gval x.1 x.2.length
abbrev gbI (x : HD × List Int) : Heap := gblk x.1 3 (ival x.2)
abbrev goI (x : HD × List Int) : Prop := gok x.1 x.2.length 1 (ival x.2)
abbrev gvP (x : HD × List (HD × List Int)) : Value := gval x.1 x.2.length
abbrev gbP (x : HD × List (HD × List Int)) : Heap := gblk x.1 31 (x.2.map gvI)
abbrev goP (x : HD × List (HD × List Int)) : Prop := gok x.1 x.2.length 1 (x.2.map gvI)
def bl (ps : List (HD × List Int)) : Heap := ps.reverse.flatMap gbI
theorem bl_snoc (ps : List (HD × List Int)) (x : HD × List Int) : bl (ps ++ [x]) = gbI x ++ bl ps := by simp [bl]
theorem gvI_one (x : HD × List Int) : (gvI x).oneCell' = true := by
  obtain ⟨h, l⟩ := x
  cases h <;> rfl
theorem fill_g (h : HD) (len : Nat) : Instr.fill (fun i => some (i * 1, 1)) ((Array.range (1 * 1)).map ((Value.slice none 0 0).cells[· % (Value.slice none 0 0).cells.size]!)) [(0, gval h len)] = some #[gval h len] := by
  cases h <;> kernel_rfl

theorem fill_i (v : Int) : Instr.fill (fun i => some (i * 1, 1)) ((Array.range (1 * 1)).map ((Value.int .i64 0).cells[· % (Value.int .i64 0).cells.size]!)) [(0, .int .i64 v)] = some #[.int .i64 v] := by kernel_rfl
section
variable {n : Nat} {w0 : World} {E : Env} {G : Heap} {d : Nat} {ty : TypeId} {pos : String} {aft : Array Edge} {g : Option (Nat × Bool)} {ops : Array Oper} {Q : Exit → Act → World → Prop} {l : List Oper}
theorem TL.appendI {s x : Operand} {x0 : HD × List Int} {b : Nat} {v : Int} {R : Heap} (hsv : evo E s = some (gvI x0)) (hx : evo E x = some (.slice (some ⟨b, 0, none⟩) 1 1)) (hm : (b, Obj.cells #[.int .i64 v] 3 (0, 0)) ∈ G)
    (hok : goI x0) (hT : TakeH x0.1 3 (ival x0.2) G R) (hb : x0.2.length ≤ 1000000) (hg : wants ops E g = some true) (hd : d < n)
    (h : ∀ h', goI (h', x0.2 ++ [v]) → TL Try.prog n w0 ops Q l ((d, gvI (h', x0.2 ++ [v])) :: E) (gbI (h', x0.2 ++ [v]) ++ R)) :
    TL Try.prog n w0 ops Q (⟨some d, .call { callee := .builtin .append, args := #[s, x], argTypes := #[31, 31] }, ty, pos, aft, g⟩ :: l) E G := by
  refine TL.append (news := [.int .i64 v]) (m := 1) hsv hx Tb.sl_31 Tb.zi_3 rfl (by decide) hok hT (fun a w hs => src_blk Tb.sl_31 hm rfl (fun j v h => by simpa using h) rfl hs.new) (fun w' hN => src_blk Tb.sl_31 hm rfl (fun j v h => by simpa using h) rfl hN) (by omega) (by omega) hg hd (fun h' hok' _ => ?_)
  have hh := h h'
  unfold goI gvI gbI ival at hh
  simp only [List.map_append, List.length_append, List.map_cons, List.map_nil, List.length_cons, List.length_nil, Nat.zero_add] at hh
  exact hh hok'
theorem TL.appendP {s x : Operand} {x0 : HD × List (HD × List Int)} {b : Nat} {y : HD × List Int} {R : Heap} (hsv : evo E s = some (gvP x0)) (hx : evo E x = some (.slice (some ⟨b, 0, none⟩) 1 1)) (hm : (b, Obj.cells #[gvI y] 31 (0, 0)) ∈ G)
    (hok : goP x0) (hT : TakeH x0.1 31 (x0.2.map gvI) G R) (hb : x0.2.length ≤ 1000000) (hg : wants ops E g = some true) (hd : d < n)
    (h : ∀ h', goP (h', x0.2 ++ [y]) → TL Try.prog n w0 ops Q l ((d, gvP (h', x0.2 ++ [y])) :: E) (gbP (h', x0.2 ++ [y]) ++ R)) :
    TL Try.prog n w0 ops Q (⟨some d, .call { callee := .builtin .append, args := #[s, x], argTypes := #[27, 27] }, ty, pos, aft, g⟩ :: l) E G := by
  refine TL.append (news := [gvI y]) (m := 1) hsv hx Tb.sl_27 Tb.zi_31 rfl (by decide) hok hT (fun a w hs => src_blk Tb.sl_27 hm rfl (fun j v h => by simpa using h) (by simp [gvI_one]) hs.new) (fun w' hN => src_blk Tb.sl_27 hm rfl (fun j v h => by simpa using h) (by simp [gvI_one]) hN) (by omega) (by omega) hg hd (fun h' hok' _ => ?_)
  have hh := h h'
  unfold goP gvP gbP at hh
  simp only [List.map_append, List.length_append, List.map_cons, List.map_nil, List.length_cons, List.length_nil, Nat.zero_add] at hh
  exact hh hok'
end

/-- The points below k with the label p. -/
def partK (xs : List Int) (p : Int) (k : Nat) : List Int := ((List.range k).filter fun q => xs.getD q 0 = p).map Int.ofNat
def partsK (N : Nat) (xs : List Int) (k : Nat) : List (List Int) := ((List.range k).filter fun p => xs.getD p 0 = (p : Int)).map fun p : Nat => partK xs (p : Int) N
theorem partK_yes {xs : List Int} {p : Int} {k : Nat} (h : xs.getD k 0 = p) : partK xs p (k + 1) = partK xs p k ++ [(k : Int)] := by
  rw [List.getD_eq_getElem?_getD] at h
  simp [partK, List.range_succ, h]
theorem partK_no {xs : List Int} {p : Int} {k : Nat} (h : ¬ xs.getD k 0 = p) : partK xs p (k + 1) = partK xs p k := by
  rw [List.getD_eq_getElem?_getD] at h
  simp [partK, List.range_succ, h]
theorem partsK_yes {N : Nat} {xs : List Int} {k : Nat} (h : xs.getD k 0 = (k : Int)) : partsK N xs (k + 1) = partsK N xs k ++ [partK xs k N] := by
  rw [List.getD_eq_getElem?_getD] at h
  simp [partsK, List.range_succ, h]
theorem partsK_no {N : Nat} {xs : List Int} {k : Nat} (h : ¬ xs.getD k 0 = (k : Int)) : partsK N xs (k + 1) = partsK N xs k := by
  rw [List.getD_eq_getElem?_getD] at h
  simp [partsK, List.range_succ, h]
theorem partK_len (xs : List Int) (p : Int) (k : Nat) : (partK xs p k).length ≤ k := by
  have := List.length_filter_le (fun q => decide (xs.getD q 0 = p)) (List.range k)
  simpa [partK] using this
theorem partsK_len (N : Nat) (xs : List Int) (k : Nat) : (partsK N xs k).length ≤ k := by
  have := List.length_filter_le (fun p => decide (xs.getD p 0 = (p : Int))) (List.range k)
  simpa [partsK] using this
structure PF (N : Nat) (xs : List Int) (k : Nat) (x : HD × List (HD × List Int)) : Prop where
  le : k ≤ N
  eq : x.2.map (·.2) = partsK N xs k
  ok : goP x
  all : ∀ y ∈ x.2, goI y
theorem PF.len {N : Nat} {xs : List Int} {k : Nat} {x : HD × List (HD × List Int)} (h : PF N xs k x) : x.2.length ≤ N := by
  have h1 := partsK_len N xs k
  have h2 := h.le
  rw [← h.eq, List.length_map] at h1
  omega
theorem PF.zero (N : Nat) (xs : List Int) : PF N xs 0 (none, []) := ⟨Nat.zero_le _, rfl, ⟨rfl, rfl⟩, by simp⟩
theorem PF.no {N : Nat} {xs : List Int} {k : Nat} {x : HD × List (HD × List Int)} (h : PF N xs k x) (hk : k < N) (hne : ¬ xs.getD k 0 = (k : Int)) : PF N xs (k + 1) x := ⟨hk, by rw [h.eq, partsK_no hne], h.ok, h.all⟩
theorem PF.yes {N : Nat} {xs : List Int} {k : Nat} {x : HD × List (HD × List Int)} {y : HD × List Int} {h' : HD} (h : PF N xs k x) (hk : k < N) (he : xs.getD k 0 = (k : Int)) (hy : y.2 = partK xs k N) (hyo : goI y) (ho : goP (h', x.2 ++ [y])) :
    PF N xs (k + 1) (h', x.2 ++ [y]) := ⟨hk, by simp only [List.map_append, List.map_cons, List.map_nil]; rw [h.eq, partsK_yes he, hy], ho, fun z hz => by
      rcases List.mem_append.1 hz with hz | hz
      · exact h.all z hz
      · rw [List.mem_singleton.1 hz]; exact hyo⟩
structure IF (xs : List Int) (p : Int) (N k : Nat) (y : HD × List Int) : Prop where
  le : k ≤ N
  eq : y.2 = partK xs p k
  ok : goI y
theorem IF.len {N k : Nat} {p : Int} {xs : List Int} {y : HD × List Int} (h : IF xs p N k y) : y.2.length ≤ N := by
  have h1 := partK_len xs p k
  have h2 := h.le
  rw [← h.eq] at h1
  omega
theorem IF.zero (N : Nat) (p : Int) (xs : List Int) : IF xs p N 0 (none, []) := ⟨Nat.zero_le _, rfl, ⟨rfl, rfl⟩⟩
theorem IF.no {N k : Nat} {p : Int} {xs : List Int} {y : HD × List Int} (h : IF xs p N k y) (hk : k < N) (hne : ¬ xs.getD k 0 = p) : IF xs p N (k + 1) y := ⟨hk, by rw [h.eq, partK_no hne], h.ok⟩
theorem IF.yes {N k : Nat} {p : Int} {xs : List Int} {y : HD × List Int} {h' : HD} (h : IF xs p N k y) (hk : k < N) (he : xs.getD k 0 = p) (ho : goI (h', y.2 ++ [(k : Int)])) : IF xs p N (k + 1) (h', y.2 ++ [(k : Int)]) :=
  ⟨hk, by simp only; rw [h.eq, partK_yes he], ho⟩
theorem vof {n : Int} {rs : List Rd} (h : ¬ validateI n rs ≠ 0) : Valid n rs := Decidable.of_not_not (p := validateI n rs = 0) h
structure PG (n : Int) (rs : List Rd) (x : HD × List (HD × List Int)) : Prop where
  eq : x.2.map (·.2) = if validateI n rs = 0 then partsK n.toNat (firstsL n rs) n.toNat else []
  ok : goP x
  all : ∀ y ∈ x.2, goI y
theorem PG.bad {n : Int} {rs : List Rd} (h : validateI n rs ≠ 0) : PG n rs (none, []) := ⟨by rw [if_neg h]; rfl, ⟨rfl, rfl⟩, by simp⟩
theorem PG.good {n : Int} {rs : List Rd} {x : HD × List (HD × List Int)} (h : validateI n rs = 0) (hx : PF n.toNat (firstsL n rs) n.toNat x) : PG n rs x := ⟨by rw [if_pos h]; exact hx.eq, hx.ok, hx.all⟩


set_option maxRecDepth 100000 in
set_option maxHeartbeats 1000000 in
theorem parts_ok (w0 : World) (n : Int) (p : Option Addr) (cap : Nat) (rs : List Rd) (hr : RdsAt w0 p rs) (hv : Valid n rs) :
    Calls Try.prog 61 #[sv n p rs.length cap] w0 (Post (X := HD × List (HD × List Int)) (fun x => gvP x) (fun x => PF n.toNat (firstsL n rs) n.toNat x) (fun x => gbP x ++ bl x.2) w0) := by
  have hp := hv.pts
  have hl := hv.len
  obtain ⟨N, rfl⟩ : ∃ N : Nat, n = N := ⟨n.toNat, by omega⟩
  have hfl : (firstsL (N : Int) rs).length = N := firstsL_len _ _
  refine calls Try.func61 rfl (n := 43) rfl (by simp) ?_
  refine TC.seq ?_
  refine TC.region ?_
  refine TL.box rfl rfl (by decide) (fun b0 hb0 => ?_)
  refine TL.pure (PV.assign rfl) rfl (by decide) ?_
  refine TL.nil ?_
  refine TQ.thenC ?_
  refine TC.seq ?_
  refine TC.region ?_
  refine TL.pure (PV.loadBox rfl Tb.agg_24 (by repeat (first | exact List.Mem.head _ | refine List.Mem.tail _ ?_ | refine List.mem_append_right _ ?_)) rfl) rfl (by decide) ?_
  refine TL.call rfl Tb.gofn_81 (fun a w hs => firsts_ok w _ _ _ _ (hr.new hs.new) hv) rfl (by decide) (fun bF _ => ?_)
  refine TL.pure (PV.assign rfl) rfl (by decide) ?_
  refine TL.nil ?_
  refine TQ.thenC ?_
  refine TC.seq ?_
  refine TC.region ?_
  refine TL.pure (PV.assign rfl) rfl (by decide) ?_
  refine TL.nil ?_
  refine TQ.thenC ?_
  refine TC.seq ?_
  refine TC.seq ?_
  refine TC.region ?_
  refine TL.pure (PV.move rfl) rfl (by decide) ?_
  refine TL.pure (PV.len rfl Tb.sl_31) rfl (by decide) ?_
  refine TL.pure (PV.move rfl) rfl (by decide) ?_
  refine TL.nil ?_
  refine TQ.thenC ?_
  refine TC.block ?_
  refine TC.loopK [2, 3, 12] (X := Nat × HD × List (HD × List Int)) (fun x => PF N (firstsL (N : Int) rs) x.1 x.2) (fun x => [(13, .int .i64 x.1), (4, gvP x.2)]) (fun x => gbP x.2 ++ (bl x.2.2 ++ [arrI bF (firstsL (N : Int) rs), (b0, .cells #[.int .i64 N, .slice p rs.length cap] 24 (0, 0))])) (fun x => N - x.1) (0, none, []) (PF.zero _ _) (by repeat (first | exact True.intro | refine And.intro rfl ?_)) (by repeat (first | exact List.Sublist.slnil | exact List.nil_sublist _ | exact List.Sublist.refl _ | refine List.Sublist.cons_cons _ ?_ | refine List.Sublist.cons _ ?_ | refine List.Sublist.trans ?_ (List.sublist_append_right _ _))) ?_
  intro x hx
  have hxl := hx.le
  refine TC.seq ?_
  refine TC.region ?_
  refine TL.pure (PV.lss rfl rfl) rfl (by decide) ?_
  refine TL.nil ?_
  refine TQ.thenC ?_
  refine TC.seq ?_
  first | refine TC.condD rfl (fun hlt0 => ?_) (fun hlt0 => ?_) | refine TC.cond rfl (fun hlt0 => ?_) (fun hlt0 => ?_)
  · skip
    refine TC.skip ?_
    refine TQ.thenC ?_
    refine TC.seq ?_
    refine TC.block ?_
    refine TC.seq ?_
    refine TC.region ?_
    refine TL.pure (PV.move rfl) rfl (by decide) ?_
    refine TL.pure (PV.assign rfl) rfl (by decide) ?_
    refine TL.nil ?_
    refine TQ.thenC ?_
    refine TC.seq ?_
    refine TC.seq ?_
    refine TC.region ?_
    refine TL.pure (PV.move rfl) rfl (by decide) ?_
    refine TL.pure (PV.move rfl) rfl (by decide) ?_
    refine TL.pure (PV.index1 rfl rfl Tb.elm_31 rfl (by omega)) rfl (by decide) ?_
    refine TL.pure (PV.loadI rfl Tb.one_3 (by repeat (first | exact List.Mem.head _ | refine List.Mem.tail _ ?_ | refine List.mem_append_right _ ?_)) (by omega)) rfl (by decide) ?_
    refine TL.pure (PV.move rfl) rfl (by decide) ?_
    refine TL.pure (PV.neq rfl rfl) rfl (by decide) ?_
    refine TL.nil ?_
    refine TQ.thenC ?_
    first | refine TC.condD rfl (fun hne => ?_) (fun hne => ?_) | refine TC.cond rfl (fun hne => ?_) (fun hne => ?_)
    · skip
      refine TC.exit ?_
      refine TQ.thenE ?_
      refine TQ.blkS ?_
      refine TQ.thenC ?_
      refine TC.region ?_
      refine TL.pure (PV.add rfl rfl (by omega)) rfl (by decide) ?_
      refine TL.pure (PV.move rfl) rfl (by decide) ?_
      refine TL.nil ?_
      refine TQ.thenN ?_
      refine TQ.backK (x.1 + 1, _, _) (by repeat (first | exact True.intro | refine And.intro rfl ?_)) (by repeat (first | exact True.intro | refine And.intro rfl ?_)) (by first | exact List.Sublist.refl _ | exact List.Sublist.append_left (List.Sublist.cons _ (List.Sublist.refl _)) _ | (rw [bl_snoc, List.append_assoc]; exact List.Sublist.append_left (List.Sublist.cons _ (List.Sublist.refl _)) _) | exact List.Sublist.trans (List.sublist_append_right _ _) (List.Sublist.refl _)) (by first | exact hx.no (Int.ofNat_lt.1 hlt0) hne | exact hx.yes (Int.ofNat_lt.1 hlt0) (Decidable.of_not_not hne) (by rw [hy.eq, show y.1 = N by omega]) hy.ok hO) (by simp only; omega)
    · skip
      refine TC.skip ?_
      refine TQ.thenC ?_
      refine TC.seq ?_
      refine TC.region ?_
      refine TL.pure (PV.assign rfl) rfl (by decide) ?_
      refine TL.nil ?_
      refine TQ.thenC ?_
      refine TC.seq ?_
      refine TC.seq ?_
      refine TC.region ?_
      refine TL.pure (PV.move rfl) rfl (by decide) ?_
      refine TL.pure (PV.len rfl Tb.sl_31) rfl (by decide) ?_
      refine TL.pure (PV.move rfl) rfl (by decide) ?_
      refine TL.nil ?_
      refine TQ.thenC ?_
      refine TC.block ?_
      refine TC.loopK [2, 3, 4, 5, 12, 13, 22, 23] (X := Nat × HD × List Int) (fun y => IF (firstsL (N : Int) rs) x.1 N y.1 y.2) (fun y => [(24, .int .i64 y.1), (6, gvI y.2)]) (fun y => gbI y.2 ++ (gbP x.2 ++ (bl x.2.2 ++ [arrI bF (firstsL (N : Int) rs), (b0, .cells #[.int .i64 N, .slice p rs.length cap] 24 (0, 0))]))) (fun y => N - y.1) (0, none, []) (IF.zero _ _ _) (by repeat (first | exact True.intro | refine And.intro rfl ?_)) (by repeat (first | exact List.Sublist.slnil | exact List.nil_sublist _ | exact List.Sublist.refl _ | refine List.Sublist.cons_cons _ ?_ | refine List.Sublist.cons _ ?_ | refine List.Sublist.trans ?_ (List.sublist_append_right _ _))) ?_
      intro y hy
      have hyl := hy.le
      refine TC.seq ?_
      refine TC.region ?_
      refine TL.pure (PV.lss rfl rfl) rfl (by decide) ?_
      refine TL.nil ?_
      refine TQ.thenC ?_
      refine TC.seq ?_
      first | refine TC.condD rfl (fun hlt1 => ?_) (fun hlt1 => ?_) | refine TC.cond rfl (fun hlt1 => ?_) (fun hlt1 => ?_)
      · skip
        refine TC.skip ?_
        refine TQ.thenC ?_
        refine TC.seq ?_
        refine TC.block ?_
        refine TC.seq ?_
        refine TC.region ?_
        refine TL.pure (PV.move rfl) rfl (by decide) ?_
        refine TL.pure (PV.index1 rfl rfl Tb.elm_31 rfl (by omega)) rfl (by decide) ?_
        refine TL.pure (PV.loadI rfl Tb.one_3 (by repeat (first | exact List.Mem.head _ | refine List.Mem.tail _ ?_ | refine List.mem_append_right _ ?_)) (by omega)) rfl (by decide) ?_
        refine TL.pure (PV.assign rfl) rfl (by decide) ?_
        refine TL.pure (PV.assign rfl) rfl (by decide) ?_
        refine TL.nil ?_
        refine TQ.thenC ?_
        refine TC.seq ?_
        refine TC.region ?_
        refine TL.pure (PV.move rfl) rfl (by decide) ?_
        refine TL.pure (PV.move rfl) rfl (by decide) ?_
        refine TL.pure (PV.eql rfl rfl) rfl (by decide) ?_
        refine TL.nil ?_
        refine TQ.thenC ?_
        first | refine TC.condD rfl (fun heq => ?_) (fun heq => ?_) | refine TC.cond rfl (fun heq => ?_) (fun heq => ?_)
        · skip
          refine TC.region ?_
          refine TL.pure (PV.move rfl) rfl (by decide) ?_
          refine TL.pure (PV.move rfl) rfl (by decide) ?_
          refine TL.buildSlice rfl Tb.sl_31 Tb.zi_3 (by decide) (fill_i _) (by decide) rfl (by decide) (fun bI hbI => ?_)
          refine TL.appendI rfl rfl (by repeat (first | exact List.Mem.head _ | refine List.Mem.tail _ ?_ | refine List.mem_append_right _ ?_)) hy.ok (by repeat (first | exact TakeH.here _ _ _ _ | apply TakeH.tail | apply TakeH.app)) (by have := hy.len; omega) rfl (by decide) (fun hI0 hI => ?_)
          refine TL.pure (PV.assign rfl) rfl (by decide) ?_
          refine TL.nil ?_
          refine TQ.blkN ?_
          refine TQ.thenC ?_
          refine TC.region ?_
          refine TL.pure (PV.add rfl rfl (by omega)) rfl (by decide) ?_
          refine TL.pure (PV.move rfl) rfl (by decide) ?_
          refine TL.nil ?_
          refine TQ.thenN ?_
          refine TQ.backK (y.1 + 1, _, _) (by repeat (first | exact True.intro | refine And.intro rfl ?_)) (by repeat (first | exact True.intro | refine And.intro rfl ?_)) (by first | exact List.Sublist.refl _ | exact List.Sublist.append_left (List.Sublist.cons _ (List.Sublist.refl _)) _ | (rw [bl_snoc, List.append_assoc]; exact List.Sublist.append_left (List.Sublist.cons _ (List.Sublist.refl _)) _) | exact List.Sublist.trans (List.sublist_append_right _ _) (List.Sublist.refl _)) (by first | exact hy.no (Int.ofNat_lt.1 hlt1) heq | exact hy.yes (Int.ofNat_lt.1 hlt1) heq hI) (by simp only; omega)
        · skip
          refine TC.skip ?_
          refine TQ.blkN ?_
          refine TQ.thenC ?_
          refine TC.region ?_
          refine TL.pure (PV.add rfl rfl (by omega)) rfl (by decide) ?_
          refine TL.pure (PV.move rfl) rfl (by decide) ?_
          refine TL.nil ?_
          refine TQ.thenN ?_
          refine TQ.backK (y.1 + 1, _, _) (by repeat (first | exact True.intro | refine And.intro rfl ?_)) (by repeat (first | exact True.intro | refine And.intro rfl ?_)) (by first | exact List.Sublist.refl _ | exact List.Sublist.append_left (List.Sublist.cons _ (List.Sublist.refl _)) _ | (rw [bl_snoc, List.append_assoc]; exact List.Sublist.append_left (List.Sublist.cons _ (List.Sublist.refl _)) _) | exact List.Sublist.trans (List.sublist_append_right _ _) (List.Sublist.refl _)) (by first | exact hy.no (Int.ofNat_lt.1 hlt1) heq | exact hy.yes (Int.ofNat_lt.1 hlt1) heq hI) (by simp only; omega)
      · skip
        refine TC.exit ?_
        refine TQ.thenE ?_
        refine TQ.thenE ?_
        refine TQ.blkS ?_
        refine TQ.thenC ?_
        refine TC.region ?_
        refine TL.pure (PV.move rfl) rfl (by decide) ?_
        refine TL.pure (PV.move rfl) rfl (by decide) ?_
        refine TL.buildSlice (cs := #[gvI y.2]) rfl Tb.sl_27 Tb.zi_31 (by decide) (fill_g _ _) (by decide) rfl (by decide) (fun bO hbO => ?_)
        refine TL.appendP rfl rfl (by repeat (first | exact List.Mem.head _ | refine List.Mem.tail _ ?_ | refine List.mem_append_right _ ?_)) hx.ok (by repeat (first | exact TakeH.here _ _ _ _ | apply TakeH.tail | apply TakeH.app)) (by have := hx.len; omega) rfl (by decide) (fun hO0 hO => ?_)
        refine TL.pure (PV.assign rfl) rfl (by decide) ?_
        refine TL.nil ?_
        refine TQ.blkN ?_
        refine TQ.thenC ?_
        refine TC.region ?_
        refine TL.pure (PV.add rfl rfl (by omega)) rfl (by decide) ?_
        refine TL.pure (PV.move rfl) rfl (by decide) ?_
        refine TL.nil ?_
        refine TQ.thenN ?_
        refine TQ.backK (x.1 + 1, _, _) (by repeat (first | exact True.intro | refine And.intro rfl ?_)) (by repeat (first | exact True.intro | refine And.intro rfl ?_)) (by first | exact List.Sublist.refl _ | exact List.Sublist.append_left (List.Sublist.cons _ (List.Sublist.refl _)) _ | (rw [bl_snoc, List.append_assoc]; exact List.Sublist.append_left (List.Sublist.cons _ (List.Sublist.refl _)) _) | exact List.Sublist.trans (List.sublist_append_right _ _) (List.Sublist.refl _)) (by first | exact hx.no (Int.ofNat_lt.1 hlt0) hne | exact hx.yes (Int.ofNat_lt.1 hlt0) (Decidable.of_not_not hne) (by rw [hy.eq, show y.1 = N by omega]) hy.ok hO) (by simp only; omega)
  · skip
    refine TC.exit ?_
    refine TQ.thenE ?_
    refine TQ.thenE ?_
    refine TQ.blkS ?_
    refine TQ.thenC ?_
    refine TC.seq ?_
    refine TC.region ?_
    refine TL.pure (PV.move rfl) rfl (by decide) ?_
    refine TL.pure (PV.assign rfl) rfl (by decide) ?_
    refine TL.nil ?_
    refine TQ.thenC ?_
    refine TC.ret ?_
    refine TQ.retE1 rfl rfl ?_
    exact ⟨x.2, rfl, by rw [Int.toNat_natCast]; rw [show x.1 = N by omega] at hx; exact hx, List.Sublist.append_left (List.sublist_append_left _ _) _⟩

set_option maxRecDepth 100000 in
theorem Parts_ok (w0 : World) (n : Int) (p : Option Addr) (cap : Nat) (rs : List Rd) (hr : RdsAt w0 p rs) :
    Calls Try.prog 19 #[sv n p rs.length cap] w0 (Post (X := HD × List (HD × List Int)) (fun x => .tuple #[gvP x, .int .i64 (validateI n rs)]) (PG n rs) (fun x => gbP x ++ bl x.2) w0) := by
  refine calls Try.func19 rfl (n := 12) rfl (by simp) ?_
  refine TC.seq ?_
  refine TC.region ?_
  refine TL.box rfl rfl (by decide) (fun b0 hb0 => ?_)
  refine TL.pure (PV.assign rfl) rfl (by decide) ?_
  refine TL.pure (PV.assign rfl) rfl (by decide) ?_
  refine TL.nil ?_
  refine TQ.thenC ?_
  refine TC.seq ?_
  refine TC.seq ?_
  refine TC.region ?_
  refine TL.pure (PV.loadBox rfl Tb.agg_24 (by repeat (first | exact List.Mem.head _ | refine List.Mem.tail _ ?_ | refine List.mem_append_right _ ?_)) rfl) rfl (by decide) ?_
  refine TL.call rfl Tb.gofn_23 (fun a w hs => validate_ok w _ _ _ _ (hr.new hs.new)) rfl (by decide) (fun _ _ => ?_)
  refine TL.pure (PV.assign rfl) rfl (by decide) ?_
  refine TL.nil ?_
  refine TQ.thenC ?_
  refine TC.seq ?_
  refine TC.region ?_
  refine TL.pure (PV.move rfl) rfl (by decide) ?_
  refine TL.pure (PV.neq rfl rfl) rfl (by decide) ?_
  refine TL.nil ?_
  refine TQ.thenC ?_
  first | refine TC.condD rfl (fun hne => ?_) (fun hne => ?_) | refine TC.cond rfl (fun hne => ?_) (fun hne => ?_)
  · skip
    refine TC.seq ?_
    refine TC.region ?_
    refine TL.pure (PV.move rfl) rfl (by decide) ?_
    refine TL.pure (PV.assign rfl) rfl (by decide) ?_
    refine TL.pure (PV.assign rfl) rfl (by decide) ?_
    refine TL.nil ?_
    refine TQ.thenC ?_
    refine TC.ret ?_
    refine TQ.thenR ?_
    refine TQ.retE2 rfl rfl rfl ?_
    exact ⟨(none, []), rfl, PG.bad hne, List.nil_sublist _⟩
  · skip
    refine TC.skip ?_
    refine TQ.thenC ?_
    refine TC.seq ?_
    refine TC.region ?_
    refine TL.pure (PV.loadBox rfl Tb.agg_24 (by repeat (first | exact List.Mem.head _ | refine List.Mem.tail _ ?_ | refine List.mem_append_right _ ?_)) rfl) rfl (by decide) ?_
    refine TL.call rfl Tb.gofn_61 (fun a w hs => parts_ok w _ _ _ _ (hr.new hs.new) (vof hne)) rfl (by decide) (fun x hx => ?_)
    refine TL.pure (PV.assign rfl) rfl (by decide) ?_
    refine TL.pure (PV.assign rfl) rfl (by decide) ?_
    refine TL.nil ?_
    refine TQ.thenC ?_
    refine TC.ret ?_
    refine TQ.retE2 rfl rfl rfl ?_
    exact ⟨x, by rw [show validateI n rs = 0 from vof hne], PG.good (vof hne) hx, List.sublist_append_left _ _⟩

set_option maxRecDepth 100000 in
set_option maxHeartbeats 1000000 in
theorem rParts_ok (w0 : World) (n : Int) (p : Option Addr) (cap : Nat) (rs : List Rd) (hr : RdsAt w0 p rs) :
    Calls Try.prog 20 #[sv n p rs.length cap] w0 (Post (X := HD × List (HD × List Int)) (fun x => .tuple #[gvP x, .int .i64 (validateI n rs)]) (PG n rs) (fun x => gbP x ++ bl x.2) w0) := by
  refine calls Try.func20 rfl (n := 50) rfl (by simp) ?_
  refine TC.seq ?_
  refine TC.region ?_
  refine TL.box rfl rfl (by decide) (fun b0 hb0 => ?_)
  refine TL.pure (PV.assign rfl) rfl (by decide) ?_
  refine TL.pure (PV.assign rfl) rfl (by decide) ?_
  refine TL.nil ?_
  refine TQ.thenC ?_
  refine TC.seq ?_
  refine TC.seq ?_
  refine TC.region ?_
  refine TL.pure (PV.loadBox rfl Tb.agg_24 (by repeat (first | exact List.Mem.head _ | refine List.Mem.tail _ ?_ | refine List.mem_append_right _ ?_)) rfl) rfl (by decide) ?_
  refine TL.call rfl Tb.gofn_24 (fun a w hs => rvalidate_ok w _ _ _ _ (hr.new hs.new)) rfl (by decide) (fun _ _ => ?_)
  refine TL.pure (PV.assign rfl) rfl (by decide) ?_
  refine TL.nil ?_
  refine TQ.thenC ?_
  refine TC.seq ?_
  refine TC.region ?_
  refine TL.pure (PV.move rfl) rfl (by decide) ?_
  refine TL.pure (PV.neq rfl rfl) rfl (by decide) ?_
  refine TL.nil ?_
  refine TQ.thenC ?_
  first | refine TC.condD rfl (fun hbad => ?_) (fun hbad => ?_) | refine TC.cond rfl (fun hbad => ?_) (fun hbad => ?_)
  · skip
    refine TC.seq ?_
    refine TC.region ?_
    refine TL.pure (PV.move rfl) rfl (by decide) ?_
    refine TL.pure (PV.assign rfl) rfl (by decide) ?_
    refine TL.pure (PV.assign rfl) rfl (by decide) ?_
    refine TL.nil ?_
    refine TQ.thenC ?_
    refine TC.ret ?_
    refine TQ.thenR ?_
    refine TQ.retE2 rfl rfl rfl ?_
    exact ⟨(none, []), rfl, PG.bad hbad, List.nil_sublist _⟩
  · skip
    refine TC.skip ?_
    refine TQ.thenC ?_
    refine TC.seq ?_
    have hv : Valid n rs := vof hbad
    have hp := hv.pts
    have hl := hv.len
    obtain ⟨N, rfl⟩ : ∃ N : Nat, n = N := ⟨n.toNat, by omega⟩
    have hfl : (firstsL (N : Int) rs).length = N := firstsL_len _ _
    refine TC.region ?_
    refine TL.pure (PV.loadBox rfl Tb.agg_24 (by repeat (first | exact List.Mem.head _ | refine List.Mem.tail _ ?_ | refine List.mem_append_right _ ?_)) rfl) rfl (by decide) ?_
    refine TL.call rfl Tb.gofn_62 (fun a w hs => whole_ok w _ _ _ _ (hr.new hs.new) (vof hbad)) rfl (by decide) (fun bF _ => ?_)
    refine TL.pure (PV.assign rfl) rfl (by decide) ?_
    refine TL.nil ?_
    refine TQ.thenC ?_
    refine TC.seq ?_
    refine TC.region ?_
    refine TL.pure (PV.assign rfl) rfl (by decide) ?_
    refine TL.nil ?_
    refine TQ.thenC ?_
    refine TC.seq ?_
    refine TC.seq ?_
    refine TC.region ?_
    refine TL.pure (PV.assign rfl) rfl (by decide) ?_
    refine TL.nil ?_
    refine TQ.thenC ?_
    refine TC.block ?_
    refine TC.loopK [1, 2, 3, 5] (X := Nat × HD × List (HD × List Int)) (fun x => PF N (firstsL (N : Int) rs) x.1 x.2) (fun x => [(7, .int .i64 x.1), (6, gvP x.2)]) (fun x => gbP x.2 ++ (bl x.2.2 ++ [arrI bF (firstsL (N : Int) rs), (b0, .cells #[.int .i64 N, .slice p rs.length cap] 24 (0, 0))])) (fun x => N - x.1) (0, none, []) (PF.zero _ _) (by repeat (first | exact True.intro | refine And.intro rfl ?_)) (by repeat (first | exact List.Sublist.slnil | exact List.nil_sublist _ | exact List.Sublist.refl _ | refine List.Sublist.cons_cons _ ?_ | refine List.Sublist.cons _ ?_ | refine List.Sublist.trans ?_ (List.sublist_append_right _ _))) ?_
    intro x hx
    have hxl := hx.le
    refine TC.seq ?_
    refine TC.seq ?_
    refine TC.region ?_
    refine TL.pure (PV.move rfl) rfl (by decide) ?_
    refine TL.pure (PV.fieldAddr rfl Tb.fo_24_0) rfl (by decide) ?_
    refine TL.pure (PV.load rfl Tb.one_3 (by repeat (first | exact List.Mem.head _ | refine List.Mem.tail _ ?_ | refine List.mem_append_right _ ?_)) rfl) rfl (by decide) ?_
    refine TL.pure (PV.lss rfl rfl) rfl (by decide) ?_
    refine TL.nil ?_
    refine TQ.thenC ?_
    first | refine TC.condD rfl (fun hlt0 => ?_) (fun hlt0 => ?_) | refine TC.cond rfl (fun hlt0 => ?_) (fun hlt0 => ?_)
    · skip
      refine TC.skip ?_
      refine TQ.thenC ?_
      refine TC.seq ?_
      refine TC.block ?_
      refine TC.seq ?_
      refine TC.seq ?_
      refine TC.region ?_
      refine TL.pure (PV.move rfl) rfl (by decide) ?_
      refine TL.pure (PV.move rfl) rfl (by decide) ?_
      refine TL.pure (PV.index1 rfl rfl Tb.elm_31 rfl (by omega)) rfl (by decide) ?_
      refine TL.pure (PV.loadI rfl Tb.one_3 (by repeat (first | exact List.Mem.head _ | refine List.Mem.tail _ ?_ | refine List.mem_append_right _ ?_)) (by omega)) rfl (by decide) ?_
      refine TL.pure (PV.move rfl) rfl (by decide) ?_
      refine TL.pure (PV.neq rfl rfl) rfl (by decide) ?_
      refine TL.nil ?_
      refine TQ.thenC ?_
      first | refine TC.condD rfl (fun hne => ?_) (fun hne => ?_) | refine TC.cond rfl (fun hne => ?_) (fun hne => ?_)
      · skip
        refine TC.exit ?_
        refine TQ.thenE ?_
        refine TQ.blkS ?_
        refine TQ.thenC ?_
        refine TC.region ?_
        refine TL.pure (PV.move rfl) rfl (by decide) ?_
        refine TL.pure (PV.add rfl rfl (by omega)) rfl (by decide) ?_
        refine TL.pure (PV.assign rfl) rfl (by decide) ?_
        refine TL.nil ?_
        refine TQ.thenN ?_
        refine TQ.backK (x.1 + 1, _, _) (by repeat (first | exact True.intro | refine And.intro rfl ?_)) (by repeat (first | exact True.intro | refine And.intro rfl ?_)) (by first | exact List.Sublist.refl _ | exact List.Sublist.append_left (List.Sublist.cons _ (List.Sublist.refl _)) _ | (rw [bl_snoc, List.append_assoc]; exact List.Sublist.append_left (List.Sublist.cons _ (List.Sublist.refl _)) _) | exact List.Sublist.trans (List.sublist_append_right _ _) (List.Sublist.refl _)) (by first | exact hx.no (Int.ofNat_lt.1 hlt0) hne | exact hx.yes (Int.ofNat_lt.1 hlt0) (Decidable.of_not_not hne) (by rw [hy.eq, show y.1 = N by omega]) hy.ok hO) (by simp only; omega)
      · skip
        refine TC.skip ?_
        refine TQ.thenC ?_
        refine TC.seq ?_
        refine TC.region ?_
        refine TL.pure (PV.assign rfl) rfl (by decide) ?_
        refine TL.nil ?_
        refine TQ.thenC ?_
        refine TC.seq ?_
        refine TC.seq ?_
        refine TC.region ?_
        refine TL.pure (PV.assign rfl) rfl (by decide) ?_
        refine TL.nil ?_
        refine TQ.thenC ?_
        refine TC.block ?_
        refine TC.loopK [1, 2, 3, 5, 6, 7] (X := Nat × HD × List Int) (fun y => IF (firstsL (N : Int) rs) x.1 N y.1 y.2) (fun y => [(9, .int .i64 y.1), (8, gvI y.2)]) (fun y => gbI y.2 ++ (gbP x.2 ++ (bl x.2.2 ++ [arrI bF (firstsL (N : Int) rs), (b0, .cells #[.int .i64 N, .slice p rs.length cap] 24 (0, 0))]))) (fun y => N - y.1) (0, none, []) (IF.zero _ _ _) (by repeat (first | exact True.intro | refine And.intro rfl ?_)) (by repeat (first | exact List.Sublist.slnil | exact List.nil_sublist _ | exact List.Sublist.refl _ | refine List.Sublist.cons_cons _ ?_ | refine List.Sublist.cons _ ?_ | refine List.Sublist.trans ?_ (List.sublist_append_right _ _))) ?_
        intro y hy
        have hyl := hy.le
        refine TC.seq ?_
        refine TC.seq ?_
        refine TC.region ?_
        refine TL.pure (PV.move rfl) rfl (by decide) ?_
        refine TL.pure (PV.fieldAddr rfl Tb.fo_24_0) rfl (by decide) ?_
        refine TL.pure (PV.load rfl Tb.one_3 (by repeat (first | exact List.Mem.head _ | refine List.Mem.tail _ ?_ | refine List.mem_append_right _ ?_)) rfl) rfl (by decide) ?_
        refine TL.pure (PV.lss rfl rfl) rfl (by decide) ?_
        refine TL.nil ?_
        refine TQ.thenC ?_
        first | refine TC.condD rfl (fun hlt1 => ?_) (fun hlt1 => ?_) | refine TC.cond rfl (fun hlt1 => ?_) (fun hlt1 => ?_)
        · skip
          refine TC.skip ?_
          refine TQ.thenC ?_
          refine TC.seq ?_
          refine TC.block ?_
          refine TC.seq ?_
          refine TC.region ?_
          refine TL.pure (PV.move rfl) rfl (by decide) ?_
          refine TL.pure (PV.move rfl) rfl (by decide) ?_
          refine TL.pure (PV.index1 rfl rfl Tb.elm_31 rfl (by omega)) rfl (by decide) ?_
          refine TL.pure (PV.loadI rfl Tb.one_3 (by repeat (first | exact List.Mem.head _ | refine List.Mem.tail _ ?_ | refine List.mem_append_right _ ?_)) (by omega)) rfl (by decide) ?_
          refine TL.pure (PV.move rfl) rfl (by decide) ?_
          refine TL.pure (PV.eql rfl rfl) rfl (by decide) ?_
          refine TL.nil ?_
          refine TQ.thenC ?_
          first | refine TC.condD rfl (fun heq => ?_) (fun heq => ?_) | refine TC.cond rfl (fun heq => ?_) (fun heq => ?_)
          · skip
            refine TC.region ?_
            refine TL.pure (PV.move rfl) rfl (by decide) ?_
            refine TL.pure (PV.move rfl) rfl (by decide) ?_
            refine TL.buildSlice rfl Tb.sl_31 Tb.zi_3 (by decide) (fill_i _) (by decide) rfl (by decide) (fun bI hbI => ?_)
            refine TL.appendI rfl rfl (by repeat (first | exact List.Mem.head _ | refine List.Mem.tail _ ?_ | refine List.mem_append_right _ ?_)) hy.ok (by repeat (first | exact TakeH.here _ _ _ _ | apply TakeH.tail | apply TakeH.app)) (by have := hy.len; omega) rfl (by decide) (fun hI0 hI => ?_)
            refine TL.pure (PV.assign rfl) rfl (by decide) ?_
            refine TL.nil ?_
            refine TQ.blkN ?_
            refine TQ.thenC ?_
            refine TC.region ?_
            refine TL.pure (PV.move rfl) rfl (by decide) ?_
            refine TL.pure (PV.add rfl rfl (by omega)) rfl (by decide) ?_
            refine TL.pure (PV.assign rfl) rfl (by decide) ?_
            refine TL.nil ?_
            refine TQ.thenN ?_
            refine TQ.backK (y.1 + 1, _, _) (by repeat (first | exact True.intro | refine And.intro rfl ?_)) (by repeat (first | exact True.intro | refine And.intro rfl ?_)) (by first | exact List.Sublist.refl _ | exact List.Sublist.append_left (List.Sublist.cons _ (List.Sublist.refl _)) _ | (rw [bl_snoc, List.append_assoc]; exact List.Sublist.append_left (List.Sublist.cons _ (List.Sublist.refl _)) _) | exact List.Sublist.trans (List.sublist_append_right _ _) (List.Sublist.refl _)) (by first | exact hy.no (Int.ofNat_lt.1 hlt1) heq | exact hy.yes (Int.ofNat_lt.1 hlt1) heq hI) (by simp only; omega)
          · skip
            refine TC.skip ?_
            refine TQ.blkN ?_
            refine TQ.thenC ?_
            refine TC.region ?_
            refine TL.pure (PV.move rfl) rfl (by decide) ?_
            refine TL.pure (PV.add rfl rfl (by omega)) rfl (by decide) ?_
            refine TL.pure (PV.assign rfl) rfl (by decide) ?_
            refine TL.nil ?_
            refine TQ.thenN ?_
            refine TQ.backK (y.1 + 1, _, _) (by repeat (first | exact True.intro | refine And.intro rfl ?_)) (by repeat (first | exact True.intro | refine And.intro rfl ?_)) (by first | exact List.Sublist.refl _ | exact List.Sublist.append_left (List.Sublist.cons _ (List.Sublist.refl _)) _ | (rw [bl_snoc, List.append_assoc]; exact List.Sublist.append_left (List.Sublist.cons _ (List.Sublist.refl _)) _) | exact List.Sublist.trans (List.sublist_append_right _ _) (List.Sublist.refl _)) (by first | exact hy.no (Int.ofNat_lt.1 hlt1) heq | exact hy.yes (Int.ofNat_lt.1 hlt1) heq hI) (by simp only; omega)
        · skip
          refine TC.exit ?_
          refine TQ.thenE ?_
          refine TQ.thenE ?_
          refine TQ.blkS ?_
          refine TQ.thenC ?_
          refine TC.region ?_
          refine TL.pure (PV.move rfl) rfl (by decide) ?_
          refine TL.pure (PV.move rfl) rfl (by decide) ?_
          refine TL.buildSlice (cs := #[gvI y.2]) rfl Tb.sl_27 Tb.zi_31 (by decide) (fill_g _ _) (by decide) rfl (by decide) (fun bO hbO => ?_)
          refine TL.appendP rfl rfl (by repeat (first | exact List.Mem.head _ | refine List.Mem.tail _ ?_ | refine List.mem_append_right _ ?_)) hx.ok (by repeat (first | exact TakeH.here _ _ _ _ | apply TakeH.tail | apply TakeH.app)) (by have := hx.len; omega) rfl (by decide) (fun hO0 hO => ?_)
          refine TL.pure (PV.assign rfl) rfl (by decide) ?_
          refine TL.nil ?_
          refine TQ.blkN ?_
          refine TQ.thenC ?_
          refine TC.region ?_
          refine TL.pure (PV.move rfl) rfl (by decide) ?_
          refine TL.pure (PV.add rfl rfl (by omega)) rfl (by decide) ?_
          refine TL.pure (PV.assign rfl) rfl (by decide) ?_
          refine TL.nil ?_
          refine TQ.thenN ?_
          refine TQ.backK (x.1 + 1, _, _) (by repeat (first | exact True.intro | refine And.intro rfl ?_)) (by repeat (first | exact True.intro | refine And.intro rfl ?_)) (by first | exact List.Sublist.refl _ | exact List.Sublist.append_left (List.Sublist.cons _ (List.Sublist.refl _)) _ | (rw [bl_snoc, List.append_assoc]; exact List.Sublist.append_left (List.Sublist.cons _ (List.Sublist.refl _)) _) | exact List.Sublist.trans (List.sublist_append_right _ _) (List.Sublist.refl _)) (by first | exact hx.no (Int.ofNat_lt.1 hlt0) hne | exact hx.yes (Int.ofNat_lt.1 hlt0) (Decidable.of_not_not hne) (by rw [hy.eq, show y.1 = N by omega]) hy.ok hO) (by simp only; omega)
    · skip
      refine TC.exit ?_
      refine TQ.thenE ?_
      refine TQ.thenE ?_
      refine TQ.blkS ?_
      refine TQ.thenC ?_
      refine TC.seq ?_
      refine TC.region ?_
      refine TL.pure (PV.move rfl) rfl (by decide) ?_
      refine TL.pure (PV.assign rfl) rfl (by decide) ?_
      refine TL.pure (PV.assign rfl) rfl (by decide) ?_
      refine TL.nil ?_
      refine TQ.thenC ?_
      refine TC.ret ?_
      refine TQ.retE2 rfl rfl rfl ?_
      exact ⟨x.2, by rw [show validateI (N : Int) rs = 0 from hv], PG.good hv (by rw [Int.toNat_natCast]; rw [show x.1 = N by omega] at hx; exact hx), List.Sublist.append_left (List.sublist_append_left _ _) _⟩

end Go.Proofs.Ytmmgcajegokkoaa
