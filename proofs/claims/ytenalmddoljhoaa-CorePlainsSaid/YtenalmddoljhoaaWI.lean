/- The groups of layers with fixed differences, and the plain bounds: the statement's own function. -/
import Derived.Test.YtenalmddoljhoaaWH
namespace Go.Proofs.Ytenalmddoljhoaa
open Go.Sx Go.RowKit

abbrev gvP (x : HD × List (HD × List Int)) : Value := gval x.1 x.2.length
abbrev gbP (x : HD × List (HD × List Int)) : Heap := gblk x.1 25 (x.2.map gvI)
abbrev goP (x : HD × List (HD × List Int)) : Prop := gok x.1 x.2.length 1 (x.2.map gvI)
def bl (ps : List (HD × List Int)) : Heap := ps.reverse.flatMap gbI
theorem bl_snoc (ps : List (HD × List Int)) (x : HD × List Int) : bl (ps ++ [x]) = gbI x ++ bl ps := by simp [bl]
theorem gvI_one (x : HD × List Int) : (gvI x).oneCell' = true := by
  obtain ⟨h, l⟩ := x
  cases h <;> rfl
theorem fill_g (h : HD) (len : Nat) : Instr.fill (fun i => some (i * 1, 1)) ((Array.range (1 * 1)).map ((Value.slice none 0 0).cells[· % (Value.slice none 0 0).cells.size]!)) [(0, gval h len)] = some #[gval h len] := by
  cases h <;> kernel_rfl
section
variable {n : Nat} {w0 : World} {E : Env} {G : Heap} {d : Nat} {ty : TypeId} {pos : String} {aft : Array Edge} {g : Option (Nat × Bool)} {ops : Array Oper} {Q : Exit → Act → World → Prop} {l : List Oper}
theorem TL.appendP {s x : Operand} {x0 : HD × List (HD × List Int)} {b : Nat} {y : HD × List Int} {R : Heap} (hsv : evo E s = some (gvP x0)) (hx : evo E x = some (.slice (some ⟨b, 0, none⟩) 1 1)) (hm : (b, Obj.cells #[gvI y] 25 (0, 0)) ∈ G)
    (hok : goP x0) (hT : TakeH x0.1 25 (x0.2.map gvI) G R) (hb : x0.2.length ≤ 1000000) (hg : wants ops E g = some true) (hd : d < n)
    (h : ∀ h', goP (h', x0.2 ++ [y]) → TL Try.prog n w0 ops Q l ((d, gvP (h', x0.2 ++ [y])) :: E) (gbP (h', x0.2 ++ [y]) ++ R)) :
    TL Try.prog n w0 ops Q (⟨some d, .call { callee := .builtin .append, args := #[s, x], argTypes := #[51, 51] }, ty, pos, aft, g⟩ :: l) E G := by
  refine TL.append (news := [gvI y]) (m := 1) hsv hx Tb.sl_51 Tb.zi_25 rfl (by decide) hok hT (fun a w hs => src_blk Tb.sl_51 hm rfl (fun j v h => by simpa using h) (by simp [gvI_one]) hs.new) (fun w' hN => src_blk Tb.sl_51 hm rfl (fun j v h => by simpa using h) (by simp [gvI_one]) hN) (by omega) (by omega) hg hd (fun h' hok' _ => ?_)
  have hh := h h'
  unfold goP gvP gbP at hh
  simp only [List.map_append, List.length_append, List.map_cons, List.map_nil, List.length_cons, List.length_nil, Nat.zero_add] at hh
  exact hh hok'
end
/-- A slice reads as the lists. -/
def LsAt (w : World) (p : Option Addr) (ls : List (List Int)) : Prop := ∀ j, j < ls.length → ∃ q, p = some q ∧ ∃ pj cj, w.cell? (q.add (j * 1)) = some (.slice pj (ls.getD j []).length cj) ∧ IntsAt w pj (ls.getD j [])
theorem LsAt.new {w0 w : World} {G : Heap} {p : Option Addr} {ls : List (List Int)} (h : LsAt w0 p ls) (hn : New w0 w G) : LsAt w p ls := fun j hj =>
  let ⟨q, hq, pj, cj, h1, h2⟩ := h j hj
  ⟨q, hq, pj, cj, hn.old h1, h2.new hn⟩
theorem LsAt.g {w0 w : World} {G : Heap} {x : HD × List (HD × List Int)} (hn : New w0 w G) (hm : ∀ y ∈ gbP x, y ∈ G) (hb : ∀ y ∈ bl x.2, y ∈ G) (ho : goP x) (ha : ∀ y ∈ x.2, goI y) : LsAt w (gp x.1) (x.2.map (·.2)) := by
  obtain ⟨_ | ⟨b, cap, sp⟩, l⟩ := x
  · intro j hj
    have : l.length = 0 := ho.2
    simp only [List.length_map] at hj
    omega
  · intro j hj
    have hj' : j < l.length := by simpa using hj
    have hmem : l.getD j (none, []) ∈ l := by simp [List.getD, hj']
    have hgo := ha _ hmem
    have hjl : (l.map (·.2)).getD j [] = (l.getD j (none, [])).2 := by simp [List.getD, hj']
    refine ⟨⟨b, 0, none⟩, rfl, gp (l.getD j (none, [])).1, gc (l.getD j (none, [])).1, ?_, ?_⟩
    · rw [add_off, hjl, ← gval_eq hgo]
      refine hn.cell (hm _ (.head _)) ?_
      rw [List.getElem?_toArray, Nat.zero_add, Nat.mul_one, List.getElem?_append_left (by simpa using hj')]
      simp [List.getD, hj']
    · rw [hjl]
      refine IntsAt.g hn (fun y hy => hb y ?_) hgo
      unfold bl
      rw [List.mem_flatMap]
      exact ⟨_, List.mem_reverse.2 hmem, hy⟩
/-- The numbers below k that f takes, and the groups that begin with their own number. -/
def grpK (f : Nat → Bool) (k : Nat) : List Int := ((List.range k).filter f).map Int.ofNat
def isHd (F : Nat → Nat → Bool) (N a : Nat) : Bool := decide ((grpK (F a) N).getD 0 0 = (a : Int))
def grpsK (F : Nat → Nat → Bool) (N k : Nat) : List (List Int) := ((List.range k).filter (isHd F N)).map fun a => grpK (F a) N
theorem grpK_yes {f : Nat → Bool} {k : Nat} (h : f k = true) : grpK f (k + 1) = grpK f k ++ [(k : Int)] := by simp [grpK, List.range_succ, h]
theorem grpK_no {f : Nat → Bool} {k : Nat} (h : f k = false) : grpK f (k + 1) = grpK f k := by simp [grpK, List.range_succ, h]
theorem grpsK_yes {F : Nat → Nat → Bool} {N k : Nat} (h : isHd F N k = true) : grpsK F N (k + 1) = grpsK F N k ++ [grpK (F k) N] := by simp [grpsK, List.range_succ, h]
theorem grpsK_no {F : Nat → Nat → Bool} {N k : Nat} (h : isHd F N k = false) : grpsK F N (k + 1) = grpsK F N k := by simp [grpsK, List.range_succ, h]
theorem grpK_len (f : Nat → Bool) (k : Nat) : (grpK f k).length ≤ k := by
  have := List.length_filter_le f (List.range k)
  simpa [grpK] using this
theorem grpK_pos {f : Nat → Bool} {a N : Nat} (ha : a < N) (h : f a = true) : 0 < (grpK f N).length := by
  refine List.length_pos_of_mem (a := (a : Int)) ?_
  exact List.mem_map.2 ⟨a, List.mem_filter.2 ⟨List.mem_range.2 ha, h⟩, rfl⟩
theorem grpsK_len (F : Nat → Nat → Bool) (N k : Nat) : (grpsK F N k).length ≤ k := by
  have := List.length_filter_le (isHd F N) (List.range k)
  simpa [grpsK] using this
structure PF (F : Nat → Nat → Bool) (N k : Nat) (x : HD × List (HD × List Int)) : Prop where
  le : k ≤ N
  eq : x.2.map (·.2) = grpsK F N k
  ok : goP x
  all : ∀ y ∈ x.2, goI y
theorem PF.len {F : Nat → Nat → Bool} {N k : Nat} {x : HD × List (HD × List Int)} (h : PF F N k x) : x.2.length ≤ N := by
  have h1 := grpsK_len F N k
  have h2 := h.le
  rw [← h.eq, List.length_map] at h1
  omega
theorem PF.zero (F : Nat → Nat → Bool) (N : Nat) : PF F N 0 (none, []) := ⟨Nat.zero_le _, rfl, ⟨rfl, rfl⟩, by simp⟩
structure IF (f : Nat → Bool) (N k : Nat) (y : HD × List Int) : Prop where
  le : k ≤ N
  eq : y.2 = grpK f k
  ok : goI y
theorem IF.len {f : Nat → Bool} {N k : Nat} {y : HD × List Int} (h : IF f N k y) : y.2.length ≤ N := by
  have h1 := grpK_len f k
  have h2 := h.le
  rw [← h.eq] at h1
  omega
theorem IF.zero (f : Nat → Bool) (N : Nat) : IF f N 0 (none, []) := ⟨Nat.zero_le _, rfl, ⟨rfl, rfl⟩⟩
theorem IF.no {f : Nat → Bool} {N k : Nat} {y : HD × List Int} (h : IF f N k y) (hk : k < N) (hne : f k = false) : IF f N (k + 1) y := ⟨hk, by rw [h.eq, grpK_no hne], h.ok⟩
theorem IF.yes {f : Nat → Bool} {N k : Nat} {y : HD × List Int} {h' : HD} (h : IF f N k y) (hk : k < N) (he : f k = true) (ho : goI (h', y.2 ++ [(k : Int)])) : IF f N (k + 1) (h', y.2 ++ [(k : Int)]) :=
  ⟨hk, by simp only; rw [h.eq, grpK_yes he], ho⟩
theorem IF.hd {F : Nat → Nat → Bool} {N a k : Nat} {y : HD × List Int} (h : IF (F a) N k y) (hk : k = N) : isHd F N a = decide (y.2.getD 0 0 = (a : Int)) := by
  unfold isHd
  rw [h.eq, hk]
theorem PF.no {F : Nat → Nat → Bool} {N k j : Nat} {x : HD × List (HD × List Int)} {y : HD × List Int} (h : PF F N k x) (hk : k < N) (hy : IF (F k) N j y) (hj : j = N) (hne : ¬ y.2.getD 0 0 = (k : Int)) : PF F N (k + 1) x :=
  ⟨hk, by rw [h.eq, grpsK_no ((hy.hd hj).trans (decide_eq_false hne))], h.ok, h.all⟩
theorem PF.yes {F : Nat → Nat → Bool} {N k j : Nat} {x : HD × List (HD × List Int)} {y : HD × List Int} {h' : HD} (h : PF F N k x) (hk : k < N) (hy : IF (F k) N j y) (hj : j = N) (he : y.2.getD 0 0 = (k : Int)) (ho : goP (h', x.2 ++ [y])) :
    PF F N (k + 1) (h', x.2 ++ [y]) := ⟨hk, by simp only [List.map_append, List.map_cons, List.map_nil]; rw [h.eq, grpsK_yes ((hy.hd hj).trans (decide_eq_true he)), hy.eq, hj], ho, fun z hz => by
      rcases List.mem_append.1 hz with hz | hz
      · exact h.all z hz
      · rw [List.mem_singleton.1 hz]; exact hy.ok⟩
def FX (N : Nat) (rs : List Bd) (a b : Nat) : Bool := fxB (plainB N rs) (a : Int) (b : Int)
theorem FX_self (N : Nat) (rs : List Bd) (a : Nat) : FX N rs a a = true := by simp [FX, fxB, fndB, fndM]
theorem fi_fx {N : Nat} {rs : List Bd} (hd : dOk (N : Int) rs = true) {a b : Nat} (ha : a < N) (hb : b < N) : fiB (N : Int) rs a b = FX N rs a b := by
  have hv := dok_valid hd
  have h : pofI (N : Int) rs [(a : Int), (b : Int)] = 0 := by rw [pof_c (not_not_intro hv) (by omega), if_pos hd]
  unfold fiB FX
  rw [if_neg (by simp [h]), pofL_is h, Int.toNat_natCast]
structure PG (n : Int) (rs : List Bd) (x : HD × List (HD × List Int)) : Prop where
  eq : x.2.map (·.2) = if pofI n rs [] = 0 then grpsK (FX n.toNat rs) n.toNat n.toNat else []
  ok : goP x
  all : ∀ y ∈ x.2, goI y
theorem PG.bad {n : Int} {rs : List Bd} (h : pofI n rs [] ≠ 0) : PG n rs (none, []) := ⟨by rw [if_neg h]; rfl, ⟨rfl, rfl⟩, by simp⟩
theorem PG.good {N k : Nat} {rs : List Bd} {x : HD × List (HD × List Int)} (h : pofI (N : Int) rs [] = 0) (hx : PF (FX N rs) N k x) (hk : k = N) : PG (N : Int) rs x := ⟨by rw [if_pos h, Int.toNat_natCast, hx.eq, hk], hx.ok, hx.all⟩
theorem PG.bd {n : Int} {rs : List Bd} {x : HD × List (HD × List Int)} (h : PG n rs x) : (x.2.map (·.2)).length ≤ 1000000 ∧ ∀ j, j < (x.2.map (·.2)).length → ((x.2.map (·.2)).getD j []).length ≤ 1000000 := by
  rw [h.eq]
  split
  · next hv =>
    have hp := (dok_valid (pof_dok hv)).pts
    refine ⟨by have := grpsK_len (FX n.toNat rs) n.toNat n.toNat; omega, fun j hj => ?_⟩
    have : (grpsK (FX n.toNat rs) n.toNat n.toNat).getD j [] ∈ grpsK (FX n.toNat rs) n.toNat n.toNat := by simp [List.getD, hj]
    obtain ⟨q, _, hq⟩ := List.mem_map.1 this
    rw [← hq]
    have := grpK_len (FX n.toNat rs q) n.toNat
    omega
  · exact ⟨by simp, fun j hj => by simp at hj⟩


set_option maxRecDepth 100000 in
theorem sameInts_ok (w0 : World) (p p2 : Option Addr) (c c2 : Nat) (xs ys : List Int) (hl : xs.length ≤ 1000000) (hx : IntsAt w0 p xs) (hy : IntsAt w0 p2 ys) :
    Calls Try.prog 77 #[.slice p xs.length c, .slice p2 ys.length c2] w0 (Post (X := Unit) (fun _ => .bool (decide (xs = ys))) (fun _ => True) (fun _ => []) w0) := by
  refine calls Try.func77 rfl (n := 26) rfl (by simp) ?_
  refine TC.seq ?_
  refine TC.region ?_
  refine TL.pure (PV.assign rfl) rfl (by decide) ?_
  refine TL.nil ?_
  refine TQ.thenC ?_
  refine TC.seq ?_
  refine TC.seq ?_
  refine TC.region ?_
  refine TL.pure (PV.move rfl) rfl (by decide) ?_
  refine TL.pure (PV.len rfl Tb.sl_25) rfl (by decide) ?_
  refine TL.pure (PV.move rfl) rfl (by decide) ?_
  refine TL.pure (PV.len rfl Tb.sl_25) rfl (by decide) ?_
  refine TL.pure (PV.neq rfl rfl) rfl (by decide) ?_
  refine TL.nil ?_
  refine TQ.thenC ?_
  first | refine TC.condD rfl (fun hne => ?_) (fun hne => ?_) | refine TC.cond rfl (fun hne => ?_) (fun hne => ?_)
  · skip
    refine TC.seq ?_
    refine TC.region ?_
    refine TL.pure (PV.assign rfl) rfl (by decide) ?_
    refine TL.nil ?_
    refine TQ.thenC ?_
    refine TC.ret ?_
    refine TQ.thenR ?_
    refine TQ.retE1 rfl rfl ?_
    exact ⟨(), by rw [decide_eq_false (fun e => hne (by rw [e]))], trivial, List.nil_sublist _⟩
  · skip
    refine TC.skip ?_
    refine TQ.thenC ?_
    refine TC.seq ?_
    refine TC.seq ?_
    refine TC.region ?_
    refine TL.pure (PV.assign rfl) rfl (by decide) ?_
    refine TL.nil ?_
    refine TQ.thenC ?_
    refine TC.block ?_
    -- live and written in the loop, not told: [4]
    refine TC.loopG [0, 1] (X := Nat) (fun k => k ≤ xs.length ∧ ∀ j, j < k → xs.getD j 0 = ys.getD j 0) (fun k => [(5, .int .i64 k)]) (fun k => xs.length - k) 0 ⟨Nat.zero_le _, fun j hj => by omega⟩ (by repeat (first | exact True.intro | refine And.intro rfl ?_)) ?_
    intro k hk
    refine TC.seq ?_
    refine TC.seq ?_
    refine TC.region ?_
    refine TL.pure (PV.move rfl) rfl (by decide) ?_
    refine TL.pure (PV.move rfl) rfl (by decide) ?_
    refine TL.pure (PV.len rfl Tb.sl_25) rfl (by decide) ?_
    refine TL.pure (PV.lss rfl rfl) rfl (by decide) ?_
    refine TL.nil ?_
    refine TQ.thenC ?_
    first | refine TC.condD rfl (fun hlt => ?_) (fun hlt => ?_) | refine TC.cond rfl (fun hlt => ?_) (fun hlt => ?_)
    · skip
      refine TC.skip ?_
      refine TQ.thenC ?_
      refine TC.seq ?_
      refine TC.block ?_
      refine TC.seq ?_
      obtain ⟨q, hqp, hq⟩ := hx k (by omega)
      obtain ⟨q2, hqp2, hq2⟩ := hy k (by omega)
      refine TC.any Tb.mixed rfl rfl ?_
      refine TA.op (OpOK.pure (PV.move rfl) rfl (by decide)) (by decide) ?_
      refine TA.op (OpOK.pure (PV.move rfl) rfl (by decide)) (by decide) ?_
      refine TA.op (OpOK.pure (PV.indexA rfl hqp rfl Tb.elm_25 rfl (by omega)) rfl (by decide)) (by decide) ?_
      refine TA.op (OpOK.pure (PV.loadOld rfl Tb.one_3 hq) rfl (by decide)) (by decide) ?_
      refine TA.op (OpOK.pure (PV.move rfl) rfl (by decide)) (by decide) ?_
      refine TA.op (OpOK.pure (PV.move rfl) rfl (by decide)) (by decide) ?_
      refine TA.op (OpOK.pure (PV.indexA rfl hqp2 rfl Tb.elm_25 rfl (by omega)) rfl (by decide)) (by decide) ?_
      refine TA.op (OpOK.pure (PV.loadOld rfl Tb.one_3 hq2) rfl (by decide)) (by decide) ?_
      refine TA.op (OpOK.pure (PV.neq rfl rfl) rfl (by decide)) (by decide) ?_
      show TQ _ _ _ _ _
      refine TQ.thenC ?_
      first | refine TC.condD rfl (fun hd => ?_) (fun hd => ?_) | refine TC.cond rfl (fun hd => ?_) (fun hd => ?_)
      · skip
        refine TC.seq ?_
        refine TC.region ?_
        refine TL.pure (PV.assign rfl) rfl (by decide) ?_
        refine TL.nil ?_
        refine TQ.thenC ?_
        refine TC.ret ?_
        refine TQ.blkR ?_
        refine TQ.thenR ?_
        refine TQ.thenR ?_
        refine TQ.blkR ?_
        refine TQ.thenR ?_
        refine TQ.retE1 rfl rfl ?_
        exact ⟨(), by rw [decide_eq_false (fun e => hd (by rw [e]))], trivial, List.nil_sublist _⟩
      · skip
        refine TC.skip ?_
        refine TQ.blkN ?_
        refine TQ.thenC ?_
        refine TC.region ?_
        refine TL.pure (PV.move rfl) rfl (by decide) ?_
        refine TL.pure (PV.add rfl rfl (by omega)) rfl (by decide) ?_
        refine TL.pure (PV.assign rfl) rfl (by decide) ?_
        refine TL.nil ?_
        refine TQ.thenN ?_
        refine TQ.backK (k + 1) (by repeat (first | exact True.intro | refine And.intro rfl ?_)) (by repeat (first | exact True.intro | refine And.intro rfl ?_)) (by repeat (first | exact List.Sublist.slnil | exact List.nil_sublist _ | exact List.Sublist.refl _ | refine List.Sublist.cons_cons _ ?_ | refine List.Sublist.cons _ ?_ | refine List.Sublist.trans ?_ (List.sublist_append_right _ _))) ⟨by omega, fun j hj => by by_cases h : j = k; · { rw [h]; omega }; · { exact hk.2 j (by omega) }⟩ (by omega)
    · skip
      refine TC.exit ?_
      refine TQ.thenE ?_
      refine TQ.thenE ?_
      refine TQ.blkS ?_
      refine TQ.thenC ?_
      refine TC.seq ?_
      refine TC.region ?_
      refine TL.pure (PV.assign rfl) rfl (by decide) ?_
      refine TL.nil ?_
      refine TQ.thenC ?_
      refine TC.ret ?_
      refine TQ.retE1 rfl rfl ?_
      exact ⟨(), by rw [decide_eq_true (take_all_eq 0 (by omega) (fun j hj => hk.2 j (by omega)))], trivial, List.nil_sublist _⟩

set_option maxRecDepth 100000 in
theorem sameLists_ok (w0 : World) (p p2 : Option Addr) (c c2 : Nat) (xs ys : List (List Int)) (hl : xs.length ≤ 1000000) (hll : ∀ j, j < xs.length → (xs.getD j []).length ≤ 1000000) (hx : LsAt w0 p xs) (hy : LsAt w0 p2 ys) :
    Calls Try.prog 44 #[.slice p xs.length c, .slice p2 ys.length c2] w0 (Post (X := Unit) (fun _ => .bool (decide (xs = ys))) (fun _ => True) (fun _ => []) w0) := by
  refine calls Try.func44 rfl (n := 27) rfl (by simp) ?_
  refine TC.seq ?_
  refine TC.region ?_
  refine TL.pure (PV.assign rfl) rfl (by decide) ?_
  refine TL.nil ?_
  refine TQ.thenC ?_
  refine TC.seq ?_
  refine TC.seq ?_
  refine TC.region ?_
  refine TL.pure (PV.move rfl) rfl (by decide) ?_
  refine TL.pure (PV.len rfl Tb.sl_51) rfl (by decide) ?_
  refine TL.pure (PV.move rfl) rfl (by decide) ?_
  refine TL.pure (PV.len rfl Tb.sl_51) rfl (by decide) ?_
  refine TL.pure (PV.neq rfl rfl) rfl (by decide) ?_
  refine TL.nil ?_
  refine TQ.thenC ?_
  first | refine TC.condD rfl (fun hne => ?_) (fun hne => ?_) | refine TC.cond rfl (fun hne => ?_) (fun hne => ?_)
  · skip
    refine TC.seq ?_
    refine TC.region ?_
    refine TL.pure (PV.assign rfl) rfl (by decide) ?_
    refine TL.nil ?_
    refine TQ.thenC ?_
    refine TC.ret ?_
    refine TQ.thenR ?_
    refine TQ.retE1 rfl rfl ?_
    exact ⟨(), by rw [decide_eq_false (fun e => hne (by rw [e]))], trivial, List.nil_sublist _⟩
  · skip
    refine TC.skip ?_
    refine TQ.thenC ?_
    refine TC.seq ?_
    refine TC.seq ?_
    refine TC.region ?_
    refine TL.pure (PV.assign rfl) rfl (by decide) ?_
    refine TL.nil ?_
    refine TQ.thenC ?_
    refine TC.block ?_
    -- live and written in the loop, not told: [4]
    refine TC.loopG [0, 1] (X := Nat) (fun k => k ≤ xs.length ∧ ∀ j, j < k → xs.getD j [] = ys.getD j []) (fun k => [(5, .int .i64 k)]) (fun k => xs.length - k) 0 ⟨Nat.zero_le _, fun j hj => by omega⟩ (by repeat (first | exact True.intro | refine And.intro rfl ?_)) ?_
    intro k hk
    refine TC.seq ?_
    refine TC.seq ?_
    refine TC.region ?_
    refine TL.pure (PV.move rfl) rfl (by decide) ?_
    refine TL.pure (PV.move rfl) rfl (by decide) ?_
    refine TL.pure (PV.len rfl Tb.sl_51) rfl (by decide) ?_
    refine TL.pure (PV.lss rfl rfl) rfl (by decide) ?_
    refine TL.nil ?_
    refine TQ.thenC ?_
    first | refine TC.condD rfl (fun hlt => ?_) (fun hlt => ?_) | refine TC.cond rfl (fun hlt => ?_) (fun hlt => ?_)
    · skip
      refine TC.skip ?_
      refine TQ.thenC ?_
      refine TC.seq ?_
      refine TC.block ?_
      refine TC.seq ?_
      obtain ⟨q, hqp, pj, cj, hq, hi⟩ := hx k (by omega)
      obtain ⟨q2, hqp2, pj2, cj2, hq2, hi2⟩ := hy k (by omega)
      refine TC.any Tb.mixed rfl rfl ?_
      refine TA.op (OpOK.pure (PV.move rfl) rfl (by decide)) (by decide) ?_
      refine TA.op (OpOK.pure (PV.move rfl) rfl (by decide)) (by decide) ?_
      refine TA.op (OpOK.pure (PV.indexA rfl hqp rfl Tb.elm_51 rfl (by omega)) rfl (by decide)) (by decide) ?_
      refine TA.op (OpOK.pure (PV.loadOld rfl Tb.one_25 hq) rfl (by decide)) (by decide) ?_
      refine TA.op (OpOK.pure (PV.move rfl) rfl (by decide)) (by decide) ?_
      refine TA.op (OpOK.pure (PV.move rfl) rfl (by decide)) (by decide) ?_
      refine TA.op (OpOK.pure (PV.indexA rfl hqp2 rfl Tb.elm_51 rfl (by omega)) rfl (by decide)) (by decide) ?_
      refine TA.op (OpOK.pure (PV.loadOld rfl Tb.one_25 hq2) rfl (by decide)) (by decide) ?_
      refine TA.op (OpOK.call rfl Tb.gofn_77 (fun a w hs => sameInts_ok w _ _ _ _ _ _ (hll k (by omega)) (hi.new hs.new) (hi2.new hs.new)) rfl (by decide)) (by decide) ?_
      refine TA.op (OpOK.pure ((by first | exact PV.notD rfl | exact PV.not rfl)) rfl (by decide)) (by decide) ?_
      show TQ _ _ _ _ _
      refine TQ.thenC ?_
      first | refine TC.condD rfl (fun hd => ?_) (fun hd => ?_) | refine TC.cond rfl (fun hd => ?_) (fun hd => ?_)
      · skip
        refine TC.seq ?_
        refine TC.region ?_
        refine TL.pure (PV.assign rfl) rfl (by decide) ?_
        refine TL.nil ?_
        refine TQ.thenC ?_
        refine TC.ret ?_
        refine TQ.blkR ?_
        refine TQ.thenR ?_
        refine TQ.thenR ?_
        refine TQ.blkR ?_
        refine TQ.thenR ?_
        refine TQ.retE1 rfl rfl ?_
        exact ⟨(), by rw [decide_eq_false (fun e => hd (by rw [e]))], trivial, List.nil_sublist _⟩
      · skip
        refine TC.skip ?_
        refine TQ.blkN ?_
        refine TQ.thenC ?_
        refine TC.region ?_
        refine TL.pure (PV.move rfl) rfl (by decide) ?_
        refine TL.pure (PV.add rfl rfl (by omega)) rfl (by decide) ?_
        refine TL.pure (PV.assign rfl) rfl (by decide) ?_
        refine TL.nil ?_
        refine TQ.thenN ?_
        refine TQ.backK (k + 1) (by repeat (first | exact True.intro | refine And.intro rfl ?_)) (by repeat (first | exact True.intro | refine And.intro rfl ?_)) (by repeat (first | exact List.Sublist.slnil | exact List.nil_sublist _ | exact List.Sublist.refl _ | refine List.Sublist.cons_cons _ ?_ | refine List.Sublist.cons _ ?_ | refine List.Sublist.trans ?_ (List.sublist_append_right _ _))) ⟨by omega, fun j hj => by by_cases h : j = k; · { rw [h]; exact Decidable.of_not_not hd }; · { exact hk.2 j (by omega) }⟩ (by omega)
    · skip
      refine TC.exit ?_
      refine TQ.thenE ?_
      refine TQ.thenE ?_
      refine TQ.blkS ?_
      refine TQ.thenC ?_
      refine TC.seq ?_
      refine TC.region ?_
      refine TL.pure (PV.assign rfl) rfl (by decide) ?_
      refine TL.nil ?_
      refine TQ.thenC ?_
      refine TC.ret ?_
      refine TQ.retE1 rfl rfl ?_
      exact ⟨(), by rw [decide_eq_true (take_all_eq [] (by omega) (fun j hj => hk.2 j (by omega)))], trivial, List.nil_sublist _⟩

theorem sameListsG (w : World) (x y : HD × List (HD × List Int)) (hx : goP x) (hy : goP y) (h1 : (x.2.map (·.2)).length ≤ 1000000) (h2 : ∀ j, j < (x.2.map (·.2)).length → ((x.2.map (·.2)).getD j []).length ≤ 1000000)
    (hx2 : LsAt w (gp x.1) (x.2.map (·.2))) (hy2 : LsAt w (gp y.1) (y.2.map (·.2))) :
    Calls Try.prog 44 #[gvP x, gvP y] w (Post (X := Unit) (fun _ => .bool (decide (x.2.map (·.2) = y.2.map (·.2)))) (fun _ => True) (fun _ => []) w) := by
  have h := sameLists_ok w (gp x.1) (gp y.1) (gc x.1) (gc y.1) _ _ h1 h2 hx2 hy2
  rw [List.length_map, List.length_map, ← gval_eq hx, ← gval_eq hy] at h
  exact h

set_option maxRecDepth 100000 in
set_option maxHeartbeats 4000000 in
theorem Groups_ok (w0 : World) (n : Int) (p : Option Addr) (cap : Nat) (rs : List Bd) (hr : BdsAt w0 p rs) :
    Calls Try.prog 40 #[cv n p rs.length cap] w0 (Post (X := HD × List (HD × List Int)) (fun x => .tuple #[gvP x, .int .i64 (pofI n rs [])]) (PG n rs) (fun x => gbP x ++ bl x.2) w0) := by
  refine calls Try.func40 rfl (n := 54) rfl (by simp) ?_
  refine TC.seq ?_
  refine TC.region ?_
  refine TL.box rfl rfl (by decide) (fun b0 hb0 => ?_)
  refine TL.pure (PV.assign rfl) rfl (by decide) ?_
  refine TL.pure (PV.assign rfl) rfl (by decide) ?_
  refine TL.nil ?_
  refine TQ.thenC ?_
  refine TC.seq ?_
  refine TC.region ?_
  refine TL.pure (PV.loadBox rfl Tb.agg_24 (by repeat (first | exact List.Mem.head _ | refine fB_T ?_ _ | refine List.Mem.tail _ ?_ | refine List.mem_append_right _ ?_)) rfl) rfl (by decide) ?_
  refine TL.call rfl Tb.gofn_69 (fun a w hs => plainOfG_ok w _ _ _ _ (hr.new hs.new) none 0 [] (fun j hj => absurd hj (Nat.not_lt_zero _)) (show (0 : Nat) ≤ 1000 by decide)) rfl (by decide) (fun h9 hh9 => ?_)
  refine TL.pure (PV.move rfl) rfl (by decide) ?_
  refine TL.pure (PV.extract rfl rfl) rfl (by decide) ?_
  refine TL.pure (PV.extract rfl rfl) rfl (by decide) ?_
  refine TL.pure (PV.assign rfl) rfl (by decide) ?_
  refine TL.pure (PV.assign rfl) rfl (by decide) ?_
  refine TL.nil ?_
  refine TQ.thenC ?_
  refine TC.seq ?_
  refine TC.seq ?_
  refine TC.region ?_
  refine TL.pure (PV.move rfl) rfl (by decide) ?_
  refine TL.pure (PV.neq rfl rfl) rfl (by decide) ?_
  refine TL.nil ?_
  refine TQ.thenC ?_
  first | refine TC.condD rfl (fun hbad => ?_) (fun hbad => ?_) | refine TC.cond rfl (fun hbad => ?_) (fun hbad => ?_)
  · skip
    refine TC.seq ?_
    refine TC.region ?_
    refine TL.pure (PV.move rfl) rfl (by decide) ?_
    refine TL.pure (PV.assign rfl) rfl (by decide) ?_
    refine TL.pure (PV.assign rfl) rfl (by decide) ?_
    refine TL.nil ?_
    refine TQ.thenC ?_
    refine TC.ret ?_
    refine TQ.thenR ?_
    refine TQ.retE2 rfl rfl rfl ?_
    exact ⟨(none, []), rfl, PG.bad hbad, List.nil_sublist _⟩
  · skip
    refine TC.skip ?_
    refine TQ.thenC ?_
    refine TC.seq ?_
    have e0 := Decidable.of_not_not hbad
    have hdk := pof_dok e0
    have hp := (dok_valid hdk).pts
    obtain ⟨N, rfl⟩ : ∃ N : Nat, n = N := ⟨n.toNat, by omega⟩
    have hL : pofL (N : Int) rs [] = plainB N rs := by have := pofL_is e0; rwa [Int.toNat_natCast] at this
    have hcv : ∀ {a b : Nat} {v : Bool}, fxB (pofL (N : Int) rs []) (a : Int) (b : Int) = v → FX N rs a b = v := fun {a b v} h => by rw [hL] at h; exact h
    refine TC.region ?_
    refine TL.pure (PV.assign rfl) rfl (by decide) ?_
    refine TL.nil ?_
    refine TQ.thenC ?_
    refine TC.seq ?_
    refine TC.seq ?_
    refine TC.region ?_
    refine TL.pure (PV.fieldAddr rfl Tb.fo_24_0) rfl (by decide) ?_
    refine TL.pure (PV.load rfl Tb.one_3 (by repeat (first | exact List.Mem.head _ | refine fB_T ?_ _ | refine List.Mem.tail _ ?_ | refine List.mem_append_right _ ?_)) rfl) rfl (by decide) ?_
    refine TL.pure (PV.move rfl) rfl (by decide) ?_
    refine TL.nil ?_
    refine TQ.thenC ?_
    refine TC.block ?_
    refine TC.lit [(1, _), (2, _), (3, _), (4, _), (6, _), (21, _), (22, _)] (by repeat (first | exact True.intro | refine And.intro rfl ?_)) ?_
    refine TC.loopK [1, 2, 3, 4, 21] (X := Nat × HD × List (HD × List Int)) (fun x => PF (FX N rs) N x.1 x.2) (fun x => [(22, .int .i64 x.1), (6, gvP x.2)]) (fun x => gbP x.2 ++ (bl x.2.2 ++ (gbB 88 h9 (pofL (N : Int) rs []) ++ [(b0, Obj.cells #[.int .i64 N, .slice p rs.length cap] 24 (0, 0))]))) (fun x => N - x.1) (0, none, []) (PF.zero _ _) (by repeat (first | exact True.intro | refine And.intro rfl ?_)) (List.Sublist.refl _) ?_
    intro x hx
    have hxl := hx.le
    refine TC.lit [(1, _), (2, _), (3, _), (4, _), (6, _), (21, _), (22, _)] (by repeat (first | exact True.intro | refine And.intro rfl ?_)) ?_
    refine TC.seq ?_
    refine TC.region ?_
    refine TL.pure (PV.lss rfl rfl) rfl (by decide) ?_
    refine TL.nil ?_
    refine TQ.thenC ?_
    refine TC.seq ?_
    first | refine TC.condD rfl (fun hlt0 => ?_) (fun hlt0 => ?_) | refine TC.cond rfl (fun hlt0 => ?_) (fun hlt0 => ?_)
    · skip
      refine TC.skip ?_
      refine TQ.thenC ?_
      refine TC.seq ?_
      refine TC.block ?_
      refine TC.seq ?_
      refine TC.region ?_
      refine TL.pure (PV.move rfl) rfl (by decide) ?_
      refine TL.pure (PV.assign rfl) rfl (by decide) ?_
      refine TL.nil ?_
      refine TQ.thenC ?_
      refine TC.seq ?_
      refine TC.region ?_
      refine TL.pure (PV.assign rfl) rfl (by decide) ?_
      refine TL.nil ?_
      refine TQ.thenC ?_
      refine TC.seq ?_
      refine TC.seq ?_
      refine TC.region ?_
      refine TL.pure (PV.fieldAddr rfl Tb.fo_24_0) rfl (by decide) ?_
      refine TL.pure (PV.load rfl Tb.one_3 (by repeat (first | exact List.Mem.head _ | refine fB_T ?_ _ | refine List.Mem.tail _ ?_ | refine List.mem_append_right _ ?_)) rfl) rfl (by decide) ?_
      refine TL.pure (PV.move rfl) rfl (by decide) ?_
      refine TL.nil ?_
      refine TQ.thenC ?_
      refine TC.block ?_
      refine TC.lit [(1, _), (2, _), (3, _), (4, _), (6, _), (7, _), (8, _), (21, _), (22, _), (26, _), (27, _)] (by repeat (first | exact True.intro | refine And.intro rfl ?_)) ?_
      refine TC.loopK [1, 2, 3, 4, 6, 7, 21, 22, 26] (X := Nat × HD × List Int) (fun y => IF (FX N rs x.1) N y.1 y.2) (fun y => [(27, .int .i64 y.1), (8, gvI y.2)]) (fun y => gbI y.2 ++ (gbP x.2 ++ (bl x.2.2 ++ (gbB 88 h9 (pofL (N : Int) rs []) ++ [(b0, Obj.cells #[.int .i64 N, .slice p rs.length cap] 24 (0, 0))])))) (fun y => N - y.1) (0, none, []) (IF.zero _ _) (by repeat (first | exact True.intro | refine And.intro rfl ?_)) (List.Sublist.refl _) ?_
      intro y hy
      have hyl := hy.le
      refine TC.lit [(1, _), (2, _), (3, _), (4, _), (6, _), (7, _), (8, _), (21, _), (22, _), (26, _), (27, _)] (by repeat (first | exact True.intro | refine And.intro rfl ?_)) ?_
      refine TC.seq ?_
      refine TC.region ?_
      refine TL.pure (PV.lss rfl rfl) rfl (by decide) ?_
      refine TL.nil ?_
      refine TQ.thenC ?_
      refine TC.seq ?_
      first | refine TC.condD rfl (fun hlt1 => ?_) (fun hlt1 => ?_) | refine TC.cond rfl (fun hlt1 => ?_) (fun hlt1 => ?_)
      · skip
        refine TC.skip ?_
        refine TQ.thenC ?_
        refine TC.seq ?_
        refine TC.block ?_
        refine TC.seq ?_
        refine TC.region ?_
        refine TL.pure (PV.move rfl) rfl (by decide) ?_
        refine TL.pure (PV.assign rfl) rfl (by decide) ?_
        refine TL.nil ?_
        refine TQ.thenC ?_
        refine TC.seq ?_
        refine TC.region ?_
        refine TL.pure (PV.move rfl) rfl (by decide) ?_
        refine TL.pure (PV.move rfl) rfl (by decide) ?_
        refine TL.pure (PV.move rfl) rfl (by decide) ?_
        refine TL.call rfl Tb.gofn_73 (fun a w hs => fixed_ok w h9 _ hh9 (BdsAt.s hs.new (fun yy hyy => by repeat (first | exact hyy | exact List.mem_append_left _ hyy | refine List.mem_append_right _ ?_ | refine List.Mem.tail _ ?_)) hh9) pofL_few pofL_bd (x.1 : Int) (y.1 : Int)) rfl (by decide) (fun _ _ => ?_)
        refine TL.pure (PV.move rfl) rfl (by decide) ?_
        refine TL.pure (PV.extract rfl rfl) rfl (by decide) ?_
        refine TL.pure (PV.extract rfl rfl) rfl (by decide) ?_
        refine TL.pure (PV.assign rfl) rfl (by decide) ?_
        refine TL.pure (PV.assign rfl) rfl (by decide) ?_
        refine TL.nil ?_
        refine TQ.thenC ?_
        refine TC.seq ?_
        refine TC.region ?_
        refine TL.pure (PV.move rfl) rfl (by decide) ?_
        refine TL.nil ?_
        refine TQ.thenC ?_
        first | refine TC.condD rfl (fun hfx => ?_) (fun hfx => ?_) | refine TC.cond rfl (fun hfx => ?_) (fun hfx => ?_)
        · skip
          refine TC.region ?_
          refine TL.pure (PV.move rfl) rfl (by decide) ?_
          refine TL.pure (PV.move rfl) rfl (by decide) ?_
          refine TL.buildSlice rfl Tb.sl_25 Tb.zi_3 (by decide) (fill_i _) (by decide) rfl (by decide) (fun bI hbI => ?_)
          refine TL.appendI rfl rfl (by repeat (first | exact List.Mem.head _ | refine List.Mem.tail _ ?_ | refine List.mem_append_right _ ?_)) hy.ok (by repeat (first | exact TakeH.here _ _ _ _ | apply TakeH.tail | apply TakeH.app)) (by have := hy.len; omega) rfl (by decide) (fun hI0 hI => ?_)
          refine TL.pure (PV.assign rfl) rfl (by decide) ?_
          refine TL.nil ?_
          refine TQ.blkN ?_
          refine TQ.thenC ?_
          refine TC.region ?_
          refine TL.pure (PV.add rfl rfl (by omega)) rfl (by decide) ?_
          refine TL.pure (PV.move rfl) rfl (by decide) ?_
          refine TL.nil ?_
          refine TQ.thenN ?_
          refine TQ.backK (y.1 + 1, _, _) (by repeat (first | exact True.intro | refine And.intro rfl ?_)) (by repeat (first | exact True.intro | refine And.intro rfl ?_)) (by first | exact List.Sublist.refl _ | exact List.Sublist.append_left (List.Sublist.cons _ (List.Sublist.refl _)) _ | (rw [bl_snoc, List.append_assoc]; exact List.Sublist.append_left (List.Sublist.cons _ (List.Sublist.refl _)) _) | exact List.Sublist.trans (List.sublist_append_right _ _) (List.Sublist.refl _)) (by first | exact hy.no (by omega) (hcv hfx) | exact hy.yes (by omega) (hcv hfx) hI) (by simp only; omega)
        · skip
          refine TC.skip ?_
          refine TQ.blkN ?_
          refine TQ.thenC ?_
          refine TC.region ?_
          refine TL.pure (PV.add rfl rfl (by omega)) rfl (by decide) ?_
          refine TL.pure (PV.move rfl) rfl (by decide) ?_
          refine TL.nil ?_
          refine TQ.thenN ?_
          refine TQ.backK (y.1 + 1, _, _) (by repeat (first | exact True.intro | refine And.intro rfl ?_)) (by repeat (first | exact True.intro | refine And.intro rfl ?_)) (by first | exact List.Sublist.refl _ | exact List.Sublist.append_left (List.Sublist.cons _ (List.Sublist.refl _)) _ | (rw [bl_snoc, List.append_assoc]; exact List.Sublist.append_left (List.Sublist.cons _ (List.Sublist.refl _)) _) | exact List.Sublist.trans (List.sublist_append_right _ _) (List.Sublist.refl _)) (by first | exact hy.no (by omega) (hcv hfx) | exact hy.yes (by omega) (hcv hfx) hI) (by simp only; omega)
      · skip
        refine TC.exit ?_
        refine TQ.thenE ?_
        refine TQ.thenE ?_
        refine TQ.blkS ?_
        refine TQ.thenC ?_
        refine TC.seq ?_
        have hyN : y.1 = N := by omega
        have hypos : 0 < y.2.2.length := by rw [hy.eq, hyN]; exact grpK_pos (by omega) (FX_self N rs x.1)
        refine TC.region ?_
        refine TL.pure (PV.move rfl) rfl (by decide) ?_
        refine TL.pure (PV.indexG (j := 0) rfl rfl hy.ok Tb.elm_25 rfl hypos) rfl (by decide) ?_
        refine TL.pure (PV.loadG' rfl Tb.one_3 (by have h8 := mem_gblk (e := 3) hy.ok hypos; repeat (first | exact List.mem_append_left _ h8 | refine List.mem_append_right _ ?_)) (ival_at (xs := y.2.2) rfl hypos)) rfl (by decide) ?_
        refine TL.pure (PV.move rfl) rfl (by decide) ?_
        refine TL.pure (PV.eql rfl rfl) rfl (by decide) ?_
        refine TL.nil ?_
        refine TQ.thenC ?_
        first | refine TC.condD rfl (fun hh => ?_) (fun hh => ?_) | refine TC.cond rfl (fun hh => ?_) (fun hh => ?_)
        · skip
          refine TC.region ?_
          refine TL.pure (PV.move rfl) rfl (by decide) ?_
          refine TL.pure (PV.move rfl) rfl (by decide) ?_
          refine TL.buildSlice (cs := #[gvI y.2]) rfl Tb.sl_51 Tb.zi_25 (by decide) (fill_g _ _) (by decide) rfl (by decide) (fun bO hbO => ?_)
          refine TL.appendP rfl rfl (by repeat (first | exact List.Mem.head _ | refine List.Mem.tail _ ?_ | refine List.mem_append_right _ ?_)) hx.ok (by repeat (first | exact TakeH.here _ _ _ _ | apply TakeH.tail | apply TakeH.app)) (by have := hx.len; omega) rfl (by decide) (fun hO0 hO => ?_)
          refine TL.pure (PV.assign rfl) rfl (by decide) ?_
          refine TL.nil ?_
          refine TQ.blkN ?_
          refine TQ.thenC ?_
          refine TC.region ?_
          refine TL.pure (PV.add rfl rfl (by omega)) rfl (by decide) ?_
          refine TL.pure (PV.move rfl) rfl (by decide) ?_
          refine TL.nil ?_
          refine TQ.thenN ?_
          refine TQ.backK (x.1 + 1, _, _) (by repeat (first | exact True.intro | refine And.intro rfl ?_)) (by repeat (first | exact True.intro | refine And.intro rfl ?_)) (by first | exact List.Sublist.refl _ | exact List.Sublist.append_left (List.Sublist.cons _ (List.Sublist.refl _)) _ | (rw [bl_snoc, List.append_assoc]; exact List.Sublist.append_left (List.Sublist.cons _ (List.Sublist.refl _)) _) | exact List.Sublist.trans (List.sublist_append_right _ _) (List.Sublist.refl _)) (by first | exact hx.no (by omega) hy (by omega) hh | exact hx.yes (by omega) hy (by omega) (by first | exact hh | exact Decidable.of_not_not hh) hO) (by simp only; omega)
        · skip
          refine TC.skip ?_
          refine TQ.blkN ?_
          refine TQ.thenC ?_
          refine TC.region ?_
          refine TL.pure (PV.add rfl rfl (by omega)) rfl (by decide) ?_
          refine TL.pure (PV.move rfl) rfl (by decide) ?_
          refine TL.nil ?_
          refine TQ.thenN ?_
          refine TQ.backK (x.1 + 1, _, _) (by repeat (first | exact True.intro | refine And.intro rfl ?_)) (by repeat (first | exact True.intro | refine And.intro rfl ?_)) (by first | exact List.Sublist.refl _ | exact List.Sublist.append_left (List.Sublist.cons _ (List.Sublist.refl _)) _ | (rw [bl_snoc, List.append_assoc]; exact List.Sublist.append_left (List.Sublist.cons _ (List.Sublist.refl _)) _) | exact List.Sublist.trans (List.sublist_append_right _ _) (List.Sublist.refl _)) (by first | exact hx.no (by omega) hy (by omega) hh | exact hx.yes (by omega) hy (by omega) (by first | exact hh | exact Decidable.of_not_not hh) hO) (by simp only; omega)
    · skip
      refine TC.exit ?_
      refine TQ.thenE ?_
      refine TQ.thenE ?_
      refine TQ.blkS ?_
      refine TQ.thenC ?_
      refine TC.seq ?_
      refine TC.region ?_
      refine TL.pure (PV.move rfl) rfl (by decide) ?_
      refine TL.pure (PV.assign rfl) rfl (by decide) ?_
      refine TL.pure (PV.assign rfl) rfl (by decide) ?_
      refine TL.nil ?_
      refine TQ.thenC ?_
      refine TC.ret ?_
      refine TQ.retE2 rfl rfl rfl ?_
      exact ⟨x.2, by rw [e0], PG.good e0 hx (by omega), List.Sublist.append_left (List.sublist_append_left _ _) _⟩

set_option maxRecDepth 100000 in
set_option maxHeartbeats 4000000 in
theorem rGroups_ok (w0 : World) (n : Int) (p : Option Addr) (cap : Nat) (rs : List Bd) (hr : BdsAt w0 p rs) :
    Calls Try.prog 41 #[cv n p rs.length cap] w0 (Post (X := HD × List (HD × List Int)) (fun x => .tuple #[gvP x, .int .i64 (pofI n rs [])]) (PG n rs) (fun x => gbP x ++ bl x.2) w0) := by
  refine calls Try.func41 rfl (n := 54) rfl (by simp) ?_
  refine TC.seq ?_
  refine TC.region ?_
  refine TL.box rfl rfl (by decide) (fun b0 hb0 => ?_)
  refine TL.pure (PV.assign rfl) rfl (by decide) ?_
  refine TL.pure (PV.assign rfl) rfl (by decide) ?_
  refine TL.nil ?_
  refine TQ.thenC ?_
  refine TC.seq ?_
  refine TC.seq ?_
  refine TC.region ?_
  refine TL.pure (PV.loadBox rfl Tb.agg_24 (by repeat (first | exact List.Mem.head _ | refine fB_T ?_ _ | refine List.Mem.tail _ ?_ | refine List.mem_append_right _ ?_)) rfl) rfl (by decide) ?_
  refine TL.call rfl Tb.gofn_22 (fun a w hs => rvalidate_ok w _ _ _ _ (hr.new hs.new)) rfl (by decide) (fun _ _ => ?_)
  refine TL.pure (PV.assign rfl) rfl (by decide) ?_
  refine TL.nil ?_
  refine TQ.thenC ?_
  refine TC.seq ?_
  refine TC.region ?_
  refine TL.pure (PV.move rfl) rfl (by decide) ?_
  refine TL.pure (PV.neq rfl rfl) rfl (by decide) ?_
  refine TL.nil ?_
  refine TQ.thenC ?_
  first | refine TC.condD rfl (fun hbad => ?_) (fun hbad => ?_) | refine TC.cond rfl (fun hbad => ?_) (fun hbad => ?_)
  · skip
    refine TC.seq ?_
    refine TC.region ?_
    refine TL.pure (PV.move rfl) rfl (by decide) ?_
    refine TL.pure (PV.assign rfl) rfl (by decide) ?_
    refine TL.pure (PV.assign rfl) rfl (by decide) ?_
    refine TL.nil ?_
    refine TQ.thenC ?_
    refine TC.ret ?_
    refine TQ.thenR ?_
    refine TQ.retE2 rfl rfl rfl ?_
    have hq : pofI n rs [] = validateI n rs := pof_inv hbad
    exact ⟨(none, []), by rw [hq]; rfl, PG.bad (by rw [hq]; exact hbad), List.nil_sublist _⟩
  · skip
    refine TC.skip ?_
    refine TQ.thenC ?_
    refine TC.seq ?_
    refine TC.seq ?_
    have hv := vof hbad
    have hp := hv.pts
    have e1 := clashW_dOk hv
    have q1 := pof_nil hv
    refine TC.region ?_
    refine TL.pure (PV.loadBox rfl Tb.agg_24 (by repeat (first | exact List.Mem.head _ | refine fB_T ?_ _ | refine List.Mem.tail _ ?_ | refine List.mem_append_right _ ?_)) rfl) rfl (by decide) ?_
    refine TL.call rfl Tb.gofn_58 (fun a w hs => clashes_ok w _ _ _ _ (hr.new hs.new) hv) rfl (by decide) (fun _ _ => ?_)
    refine TL.nil ?_
    refine TQ.thenC ?_
    first | refine TC.condD rfl (fun hcl => ?_) (fun hcl => ?_) | refine TC.cond rfl (fun hcl => ?_) (fun hcl => ?_)
    · skip
      refine TC.seq ?_
      refine TC.region ?_
      refine TL.pure (PV.assign rfl) rfl (by decide) ?_
      refine TL.pure (PV.assign rfl) rfl (by decide) ?_
      refine TL.nil ?_
      refine TQ.thenC ?_
      refine TC.ret ?_
      refine TQ.thenR ?_
      refine TQ.retE2 rfl rfl rfl ?_
      have hd : ¬ dOk n rs = true := fun h => by simp_all
      rw [if_neg hd] at q1
      exact ⟨(none, []), by rw [q1]; rfl, PG.bad (by rw [q1]; decide), List.nil_sublist _⟩
    · skip
      refine TC.skip ?_
      refine TQ.thenC ?_
      refine TC.seq ?_
      have hdk : dOk n rs = true := by simp_all
      rw [if_pos hdk] at q1
      have e0 := q1
      obtain ⟨N, rfl⟩ : ∃ N : Nat, n = N := ⟨n.toNat, by omega⟩
      have hcv : ∀ {a b : Nat} {v : Bool} (ha : a < N) (hb : b < N), fiB (N : Int) rs a b = v → FX N rs a b = v := fun {a b v} ha hb h => (fi_fx hdk ha hb).symm.trans h
      refine TC.region ?_
      refine TL.pure (PV.assign rfl) rfl (by decide) ?_
      refine TL.nil ?_
      refine TQ.thenC ?_
      refine TC.seq ?_
      refine TC.seq ?_
      refine TC.region ?_
      refine TL.pure (PV.assign rfl) rfl (by decide) ?_
      refine TL.nil ?_
      refine TQ.thenC ?_
      refine TC.block ?_
      refine TC.lit [(1, _), (2, _), (3, _), (5, _), (6, _)] (by repeat (first | exact True.intro | refine And.intro rfl ?_)) ?_
      refine TC.loopK [1, 2, 3] (X := Nat × HD × List (HD × List Int)) (fun x => PF (FX N rs) N x.1 x.2) (fun x => [(6, .int .i64 x.1), (5, gvP x.2)]) (fun x => gbP x.2 ++ (bl x.2.2 ++ [(b0, Obj.cells #[.int .i64 N, .slice p rs.length cap] 24 (0, 0))])) (fun x => N - x.1) (0, none, []) (PF.zero _ _) (by repeat (first | exact True.intro | refine And.intro rfl ?_)) (List.Sublist.refl _) ?_
      intro x hx
      have hxl := hx.le
      refine TC.lit [(1, _), (2, _), (3, _), (5, _), (6, _)] (by repeat (first | exact True.intro | refine And.intro rfl ?_)) ?_
      refine TC.seq ?_
      refine TC.seq ?_
      refine TC.region ?_
      refine TL.pure (PV.move rfl) rfl (by decide) ?_
      refine TL.pure (PV.fieldAddr rfl Tb.fo_24_0) rfl (by decide) ?_
      refine TL.pure (PV.load rfl Tb.one_3 (by repeat (first | exact List.Mem.head _ | refine fB_T ?_ _ | refine List.Mem.tail _ ?_ | refine List.mem_append_right _ ?_)) rfl) rfl (by decide) ?_
      refine TL.pure (PV.lss rfl rfl) rfl (by decide) ?_
      refine TL.nil ?_
      refine TQ.thenC ?_
      first | refine TC.condD rfl (fun hlt0 => ?_) (fun hlt0 => ?_) | refine TC.cond rfl (fun hlt0 => ?_) (fun hlt0 => ?_)
      · skip
        refine TC.skip ?_
        refine TQ.thenC ?_
        refine TC.seq ?_
        refine TC.block ?_
        refine TC.seq ?_
        refine TC.region ?_
        refine TL.pure (PV.assign rfl) rfl (by decide) ?_
        refine TL.nil ?_
        refine TQ.thenC ?_
        refine TC.seq ?_
        refine TC.seq ?_
        refine TC.region ?_
        refine TL.pure (PV.assign rfl) rfl (by decide) ?_
        refine TL.nil ?_
        refine TQ.thenC ?_
        refine TC.block ?_
        refine TC.lit [(1, _), (2, _), (3, _), (5, _), (6, _), (7, _), (8, _)] (by repeat (first | exact True.intro | refine And.intro rfl ?_)) ?_
        refine TC.loopK [1, 2, 3, 5, 6] (X := Nat × HD × List Int) (fun y => IF (FX N rs x.1) N y.1 y.2) (fun y => [(8, .int .i64 y.1), (7, gvI y.2)]) (fun y => gbI y.2 ++ (gbP x.2 ++ (bl x.2.2 ++ [(b0, Obj.cells #[.int .i64 N, .slice p rs.length cap] 24 (0, 0))]))) (fun y => N - y.1) (0, none, []) (IF.zero _ _) (by repeat (first | exact True.intro | refine And.intro rfl ?_)) (List.Sublist.refl _) ?_
        intro y hy
        have hyl := hy.le
        refine TC.lit [(1, _), (2, _), (3, _), (5, _), (6, _), (7, _), (8, _)] (by repeat (first | exact True.intro | refine And.intro rfl ?_)) ?_
        refine TC.seq ?_
        refine TC.seq ?_
        refine TC.region ?_
        refine TL.pure (PV.move rfl) rfl (by decide) ?_
        refine TL.pure (PV.fieldAddr rfl Tb.fo_24_0) rfl (by decide) ?_
        refine TL.pure (PV.load rfl Tb.one_3 (by repeat (first | exact List.Mem.head _ | refine fB_T ?_ _ | refine List.Mem.tail _ ?_ | refine List.mem_append_right _ ?_)) rfl) rfl (by decide) ?_
        refine TL.pure (PV.lss rfl rfl) rfl (by decide) ?_
        refine TL.nil ?_
        refine TQ.thenC ?_
        first | refine TC.condD rfl (fun hlt1 => ?_) (fun hlt1 => ?_) | refine TC.cond rfl (fun hlt1 => ?_) (fun hlt1 => ?_)
        · skip
          refine TC.skip ?_
          refine TQ.thenC ?_
          refine TC.seq ?_
          refine TC.block ?_
          refine TC.seq ?_
          refine TC.region ?_
          refine TL.pure (PV.loadBox rfl Tb.agg_24 (by repeat (first | exact List.Mem.head _ | refine fB_T ?_ _ | refine List.Mem.tail _ ?_ | refine List.mem_append_right _ ?_)) rfl) rfl (by decide) ?_
          refine TL.pure (PV.move rfl) rfl (by decide) ?_
          refine TL.pure (PV.move rfl) rfl (by decide) ?_
          refine TL.call rfl Tb.gofn_32 (fun a w hs => rFixed_ok w _ _ _ _ (hr.new hs.new) (x.1 : Int) (y.1 : Int)) rfl (by decide) (fun _ _ => ?_)
          refine TL.pure (PV.move rfl) rfl (by decide) ?_
          refine TL.pure (PV.extract rfl rfl) rfl (by decide) ?_
          refine TL.pure (PV.extract rfl rfl) rfl (by decide) ?_
          refine TL.pure (PV.extract rfl rfl) rfl (by decide) ?_
          refine TL.pure (PV.assign rfl) rfl (by decide) ?_
          refine TL.pure (PV.assign rfl) rfl (by decide) ?_
          refine TL.pure (PV.assign rfl) rfl (by decide) ?_
          refine TL.nil ?_
          refine TQ.thenC ?_
          refine TC.seq ?_
          refine TC.region ?_
          refine TL.pure (PV.move rfl) rfl (by decide) ?_
          refine TL.nil ?_
          refine TQ.thenC ?_
          first | refine TC.condD rfl (fun hfx => ?_) (fun hfx => ?_) | refine TC.cond rfl (fun hfx => ?_) (fun hfx => ?_)
          · skip
            refine TC.region ?_
            refine TL.pure (PV.move rfl) rfl (by decide) ?_
            refine TL.pure (PV.move rfl) rfl (by decide) ?_
            refine TL.buildSlice rfl Tb.sl_25 Tb.zi_3 (by decide) (fill_i _) (by decide) rfl (by decide) (fun bI hbI => ?_)
            refine TL.appendI rfl rfl (by repeat (first | exact List.Mem.head _ | refine List.Mem.tail _ ?_ | refine List.mem_append_right _ ?_)) hy.ok (by repeat (first | exact TakeH.here _ _ _ _ | apply TakeH.tail | apply TakeH.app)) (by have := hy.len; omega) rfl (by decide) (fun hI0 hI => ?_)
            refine TL.pure (PV.assign rfl) rfl (by decide) ?_
            refine TL.nil ?_
            refine TQ.blkN ?_
            refine TQ.thenC ?_
            refine TC.region ?_
            refine TL.pure (PV.move rfl) rfl (by decide) ?_
            refine TL.pure (PV.add rfl rfl (by omega)) rfl (by decide) ?_
            refine TL.pure (PV.assign rfl) rfl (by decide) ?_
            refine TL.nil ?_
            refine TQ.thenN ?_
            refine TQ.backK (y.1 + 1, _, _) (by repeat (first | exact True.intro | refine And.intro rfl ?_)) (by repeat (first | exact True.intro | refine And.intro rfl ?_)) (by first | exact List.Sublist.refl _ | exact List.Sublist.append_left (List.Sublist.cons _ (List.Sublist.refl _)) _ | (rw [bl_snoc, List.append_assoc]; exact List.Sublist.append_left (List.Sublist.cons _ (List.Sublist.refl _)) _) | exact List.Sublist.trans (List.sublist_append_right _ _) (List.Sublist.refl _)) (by first | exact hy.no (by omega) (hcv (by omega) (by omega) hfx) | exact hy.yes (by omega) (hcv (by omega) (by omega) hfx) hI) (by simp only; omega)
          · skip
            refine TC.skip ?_
            refine TQ.blkN ?_
            refine TQ.thenC ?_
            refine TC.region ?_
            refine TL.pure (PV.move rfl) rfl (by decide) ?_
            refine TL.pure (PV.add rfl rfl (by omega)) rfl (by decide) ?_
            refine TL.pure (PV.assign rfl) rfl (by decide) ?_
            refine TL.nil ?_
            refine TQ.thenN ?_
            refine TQ.backK (y.1 + 1, _, _) (by repeat (first | exact True.intro | refine And.intro rfl ?_)) (by repeat (first | exact True.intro | refine And.intro rfl ?_)) (by first | exact List.Sublist.refl _ | exact List.Sublist.append_left (List.Sublist.cons _ (List.Sublist.refl _)) _ | (rw [bl_snoc, List.append_assoc]; exact List.Sublist.append_left (List.Sublist.cons _ (List.Sublist.refl _)) _) | exact List.Sublist.trans (List.sublist_append_right _ _) (List.Sublist.refl _)) (by first | exact hy.no (by omega) (hcv (by omega) (by omega) hfx) | exact hy.yes (by omega) (hcv (by omega) (by omega) hfx) hI) (by simp only; omega)
        · skip
          refine TC.exit ?_
          refine TQ.thenE ?_
          refine TQ.thenE ?_
          refine TQ.blkS ?_
          refine TQ.thenC ?_
          refine TC.seq ?_
          have hyN : y.1 = N := by omega
          have hypos : 0 < y.2.2.length := by rw [hy.eq, hyN]; exact grpK_pos (by omega) (FX_self N rs x.1)
          refine TC.region ?_
          refine TL.pure (PV.move rfl) rfl (by decide) ?_
          refine TL.pure (PV.indexG (j := 0) rfl rfl hy.ok Tb.elm_25 rfl hypos) rfl (by decide) ?_
          refine TL.pure (PV.loadG' rfl Tb.one_3 (by have h8 := mem_gblk (e := 3) hy.ok hypos; repeat (first | exact List.mem_append_left _ h8 | refine List.mem_append_right _ ?_)) (ival_at (xs := y.2.2) rfl hypos)) rfl (by decide) ?_
          refine TL.pure (PV.move rfl) rfl (by decide) ?_
          refine TL.pure (PV.eql rfl rfl) rfl (by decide) ?_
          refine TL.nil ?_
          refine TQ.thenC ?_
          first | refine TC.condD rfl (fun hh => ?_) (fun hh => ?_) | refine TC.cond rfl (fun hh => ?_) (fun hh => ?_)
          · skip
            refine TC.region ?_
            refine TL.pure (PV.move rfl) rfl (by decide) ?_
            refine TL.pure (PV.move rfl) rfl (by decide) ?_
            refine TL.buildSlice (cs := #[gvI y.2]) rfl Tb.sl_51 Tb.zi_25 (by decide) (fill_g _ _) (by decide) rfl (by decide) (fun bO hbO => ?_)
            refine TL.appendP rfl rfl (by repeat (first | exact List.Mem.head _ | refine List.Mem.tail _ ?_ | refine List.mem_append_right _ ?_)) hx.ok (by repeat (first | exact TakeH.here _ _ _ _ | apply TakeH.tail | apply TakeH.app)) (by have := hx.len; omega) rfl (by decide) (fun hO0 hO => ?_)
            refine TL.pure (PV.assign rfl) rfl (by decide) ?_
            refine TL.nil ?_
            refine TQ.blkN ?_
            refine TQ.thenC ?_
            refine TC.region ?_
            refine TL.pure (PV.move rfl) rfl (by decide) ?_
            refine TL.pure (PV.add rfl rfl (by omega)) rfl (by decide) ?_
            refine TL.pure (PV.assign rfl) rfl (by decide) ?_
            refine TL.nil ?_
            refine TQ.thenN ?_
            refine TQ.backK (x.1 + 1, _, _) (by repeat (first | exact True.intro | refine And.intro rfl ?_)) (by repeat (first | exact True.intro | refine And.intro rfl ?_)) (by first | exact List.Sublist.refl _ | exact List.Sublist.append_left (List.Sublist.cons _ (List.Sublist.refl _)) _ | (rw [bl_snoc, List.append_assoc]; exact List.Sublist.append_left (List.Sublist.cons _ (List.Sublist.refl _)) _) | exact List.Sublist.trans (List.sublist_append_right _ _) (List.Sublist.refl _)) (by first | exact hx.no (by omega) hy (by omega) hh | exact hx.yes (by omega) hy (by omega) (by first | exact hh | exact Decidable.of_not_not hh) hO) (by simp only; omega)
          · skip
            refine TC.skip ?_
            refine TQ.blkN ?_
            refine TQ.thenC ?_
            refine TC.region ?_
            refine TL.pure (PV.move rfl) rfl (by decide) ?_
            refine TL.pure (PV.add rfl rfl (by omega)) rfl (by decide) ?_
            refine TL.pure (PV.assign rfl) rfl (by decide) ?_
            refine TL.nil ?_
            refine TQ.thenN ?_
            refine TQ.backK (x.1 + 1, _, _) (by repeat (first | exact True.intro | refine And.intro rfl ?_)) (by repeat (first | exact True.intro | refine And.intro rfl ?_)) (by first | exact List.Sublist.refl _ | exact List.Sublist.append_left (List.Sublist.cons _ (List.Sublist.refl _)) _ | (rw [bl_snoc, List.append_assoc]; exact List.Sublist.append_left (List.Sublist.cons _ (List.Sublist.refl _)) _) | exact List.Sublist.trans (List.sublist_append_right _ _) (List.Sublist.refl _)) (by first | exact hx.no (by omega) hy (by omega) hh | exact hx.yes (by omega) hy (by omega) (by first | exact hh | exact Decidable.of_not_not hh) hO) (by simp only; omega)
      · skip
        refine TC.exit ?_
        refine TQ.thenE ?_
        refine TQ.thenE ?_
        refine TQ.blkS ?_
        refine TQ.thenC ?_
        refine TC.seq ?_
        refine TC.region ?_
        refine TL.pure (PV.move rfl) rfl (by decide) ?_
        refine TL.pure (PV.assign rfl) rfl (by decide) ?_
        refine TL.pure (PV.assign rfl) rfl (by decide) ?_
        refine TL.nil ?_
        refine TQ.thenC ?_
        refine TC.ret ?_
        refine TQ.retE2 rfl rfl rfl ?_
        exact ⟨x.2, by rw [e0], PG.good e0 hx (by omega), List.Sublist.append_left (List.sublist_append_left _ _) _⟩

set_option maxRecDepth 100000 in
set_option maxHeartbeats 4000000 in
theorem corePlains_ok (w0 : World) (n : Int) (p : Option Addr) (cap : Nat) (rs : List Bd) (hr : BdsAt w0 p rs) :
    Calls Try.prog 10 #[cv n p rs.length cap] w0 (Post (X := Unit) (fun _ => .bool true) (fun _ => True) (fun _ => []) w0) := by
  refine calls Try.func10 rfl (n := 55) rfl (by simp) ?_
  refine TC.seq ?_
  refine TC.region ?_
  refine TL.box rfl rfl (by decide) (fun b0 hb0 => ?_)
  refine TL.pure (PV.assign rfl) rfl (by decide) ?_
  refine TL.nil ?_
  refine TQ.thenC ?_
  refine TC.seq ?_
  refine TC.seq ?_
  refine TC.region ?_
  refine TL.pure (PV.loadBox rfl Tb.agg_24 (by repeat (first | exact List.Mem.head _ | refine fB_T ?_ _ | refine List.Mem.tail _ ?_ | refine List.mem_append_right _ ?_)) rfl) rfl (by decide) ?_
  refine TL.call rfl Tb.gofn_17 (fun a w hs => long_ok w _ _ _ _ (hr.new hs.new)) rfl (by decide) (fun _ _ => ?_)
  refine TL.nil ?_
  refine TQ.thenC ?_
  first | refine TC.condD rfl (fun h0 => ?_) (fun h0 => ?_) | refine TC.cond rfl (fun h0 => ?_) (fun h0 => ?_)
  · skip
    refine TC.seq ?_
    refine TC.region ?_
    refine TL.call rfl Tb.gofn_18 (fun a w hs => knownOk w) rfl (by decide) (fun _ _ => ?_)
    refine TL.pure (PV.assign rfl) rfl (by decide) ?_
    refine TL.nil ?_
    refine TQ.thenC ?_
    refine TC.ret ?_
    refine TQ.thenR ?_
    refine TQ.retE1 rfl rfl ?_
    first | exact ⟨(), rfl, trivial, List.nil_sublist _⟩ | (exfalso; simp_all; done)
  · skip
    refine TC.skip ?_
    refine TQ.thenC ?_
    refine TC.seq ?_
    refine TC.region ?_
    refine TL.pure (PV.loadBox rfl Tb.agg_24 (by repeat (first | exact List.Mem.head _ | refine fB_T ?_ _ | refine List.Mem.tail _ ?_ | refine List.mem_append_right _ ?_)) rfl) rfl (by decide) ?_
    refine TL.call rfl Tb.gofn_40 (fun a w hs => Groups_ok w _ _ _ _ (hr.new hs.new)) rfl (by decide) (fun xa ha => ?_)
    refine TL.pure (PV.move rfl) rfl (by decide) ?_
    refine TL.pure (PV.extract rfl rfl) rfl (by decide) ?_
    refine TL.pure (PV.extract rfl rfl) rfl (by decide) ?_
    refine TL.pure (PV.assign rfl) rfl (by decide) ?_
    refine TL.pure (PV.assign rfl) rfl (by decide) ?_
    refine TL.nil ?_
    refine TQ.thenC ?_
    refine TC.seq ?_
    refine TC.region ?_
    refine TL.pure (PV.loadBox rfl Tb.agg_24 (by repeat (first | exact List.Mem.head _ | refine fB_T ?_ _ | refine List.Mem.tail _ ?_ | refine List.mem_append_right _ ?_)) rfl) rfl (by decide) ?_
    refine TL.call rfl Tb.gofn_41 (fun a w hs => rGroups_ok w _ _ _ _ (hr.new hs.new)) rfl (by decide) (fun xb hb => ?_)
    refine TL.pure (PV.move rfl) rfl (by decide) ?_
    refine TL.pure (PV.extract rfl rfl) rfl (by decide) ?_
    refine TL.pure (PV.extract rfl rfl) rfl (by decide) ?_
    refine TL.pure (PV.assign rfl) rfl (by decide) ?_
    refine TL.pure (PV.assign rfl) rfl (by decide) ?_
    refine TL.nil ?_
    refine TQ.thenC ?_
    refine TC.seq ?_
    refine TC.region ?_
    refine TL.pure (PV.loadBox rfl Tb.agg_24 (by repeat (first | exact List.Mem.head _ | refine fB_T ?_ _ | refine List.Mem.tail _ ?_ | refine List.mem_append_right _ ?_)) rfl) rfl (by decide) ?_
    refine TL.call rfl Tb.gofn_42 (fun a w hs => Plain_ok w _ _ _ _ (hr.new hs.new)) rfl (by decide) (fun h8 hh8 => ?_)
    refine TL.pure (PV.move rfl) rfl (by decide) ?_
    refine TL.pure (PV.extract rfl rfl) rfl (by decide) ?_
    refine TL.pure (PV.extract rfl rfl) rfl (by decide) ?_
    refine TL.pure (PV.assign rfl) rfl (by decide) ?_
    refine TL.pure (PV.assign rfl) rfl (by decide) ?_
    refine TL.nil ?_
    refine TQ.thenC ?_
    refine TC.seq ?_
    refine TC.region ?_
    refine TL.pure (PV.loadBox rfl Tb.agg_24 (by repeat (first | exact List.Mem.head _ | refine fB_T ?_ _ | refine List.Mem.tail _ ?_ | refine List.mem_append_right _ ?_)) rfl) rfl (by decide) ?_
    refine TL.call rfl Tb.gofn_43 (fun a w hs => rPlain_ok w _ _ _ _ (hr.new hs.new)) rfl (by decide) (fun h9 hh9 => ?_)
    refine TL.pure (PV.move rfl) rfl (by decide) ?_
    refine TL.pure (PV.extract rfl rfl) rfl (by decide) ?_
    refine TL.pure (PV.extract rfl rfl) rfl (by decide) ?_
    refine TL.pure (PV.assign rfl) rfl (by decide) ?_
    refine TL.pure (PV.assign rfl) rfl (by decide) ?_
    refine TL.nil ?_
    refine TQ.thenC ?_
    refine TC.seq ?_
    have e1 := ha.eq.trans hb.eq.symm
    refine TC.region ?_
    refine TL.pure (PV.move rfl) rfl (by decide) ?_
    refine TL.pure (PV.move rfl) rfl (by decide) ?_
    refine TL.call rfl Tb.gofn_44 (fun a w hs => sameListsG w xa xb ha.ok hb.ok ha.bd.1 ha.bd.2 (LsAt.g hs.new (fun y hy => by simp only [List.mem_append]; simp [hy]) (fun y hy => by simp only [List.mem_append]; simp [hy]) ha.ok ha.all) (LsAt.g hs.new (fun y hy => by simp only [List.mem_append]; simp [hy]) (fun y hy => by simp only [List.mem_append]; simp [hy]) hb.ok hb.all)) rfl (by decide) (fun _ _ => ?_)
    refine TL.pure (PV.move rfl) rfl (by decide) ?_
    first | refine TL.splitD 37 rfl (fun h1 => ?_) (fun h1 => ?_) | refine TL.split 37 rfl (fun h1 => ?_) (fun h1 => ?_)
    · skip
      refine TL.pure (PV.move rfl) rfl (by decide) ?_
      refine TL.pure (PV.move rfl) rfl (by decide) ?_
      refine TL.pure (PV.eql rfl rfl) rfl (by decide) ?_
      refine TL.pure (PV.pickT rfl rfl) rfl (by decide) ?_
      refine TL.pure (PV.move rfl) rfl (by decide) ?_
      first | refine TL.splitD 42 rfl (fun h2 => ?_) (fun h2 => ?_) | refine TL.split 42 rfl (fun h2 => ?_) (fun h2 => ?_)
      · skip
        refine TL.pure (PV.move rfl) rfl (by decide) ?_
        refine TL.pure (PV.move rfl) rfl (by decide) ?_
        refine TL.call rfl Tb.gofn_45 (fun a w hs => sameG hh8 hh9 (BdsAt.s hs.new (fun yy hyy => by repeat (first | exact hyy | exact List.mem_append_left _ hyy | refine List.mem_append_right _ ?_ | refine List.Mem.tail _ ?_)) hh8) (BdsAt.s hs.new (fun yy hyy => by repeat (first | exact hyy | exact List.mem_append_left _ hyy | refine List.mem_append_right _ ?_ | refine List.Mem.tail _ ?_)) hh9) (Nat.le_trans pofL_sm (by decide)) (Nat.le_trans pofL_sm (by decide))) rfl (by decide) (fun _ _ => ?_)
        refine TL.pure (PV.pickT rfl rfl) rfl (by decide) ?_
        refine TL.pure (PV.move rfl) rfl (by decide) ?_
        first | refine TL.splitD 47 rfl (fun h3 => ?_) (fun h3 => ?_) | refine TL.split 47 rfl (fun h3 => ?_) (fun h3 => ?_)
        · skip
          refine TL.pure (PV.move rfl) rfl (by decide) ?_
          refine TL.pure (PV.move rfl) rfl (by decide) ?_
          refine TL.pure (PV.eql rfl rfl) rfl (by decide) ?_
          refine TL.pure (PV.pickT rfl rfl) rfl (by decide) ?_
          refine TL.pure (PV.move rfl) rfl (by decide) ?_
          first | refine TL.splitD 52 rfl (fun h4 => ?_) (fun h4 => ?_) | refine TL.split 52 rfl (fun h4 => ?_) (fun h4 => ?_)
          · skip
            refine TL.call rfl Tb.gofn_18 (fun a w hs => knownOk w) rfl (by decide) (fun _ _ => ?_)
            refine TL.pure (PV.pickT rfl rfl) rfl (by decide) ?_
            refine TL.pure (PV.assign rfl) rfl (by decide) ?_
            refine TL.nil ?_
            refine TQ.thenC ?_
            refine TC.ret ?_
            refine TQ.retE1 rfl rfl ?_
            first | exact ⟨(), rfl, trivial, List.nil_sublist _⟩ | (exfalso; simp_all; done)
          · skip
            refine TL.skip rfl (fun k hk => by cases hk; decide) ?_
            refine TL.pure (PV.pickF rfl rfl) rfl (by decide) ?_
            refine TL.pure (PV.assign rfl) rfl (by decide) ?_
            refine TL.nil ?_
            refine TQ.thenC ?_
            refine TC.ret ?_
            refine TQ.retE1 rfl rfl ?_
            first | exact ⟨(), rfl, trivial, List.nil_sublist _⟩ | (exfalso; simp_all; done)
        · skip
          refine TL.skip rfl (fun k hk => by cases hk; decide) ?_
          refine TL.skip rfl (fun k hk => by cases hk; decide) ?_
          refine TL.skip rfl (fun k hk => by cases hk; decide) ?_
          refine TL.pure (PV.pickF rfl rfl) rfl (by decide) ?_
          refine TL.pure (PV.move rfl) rfl (by decide) ?_
          refine TL.skip rfl (fun k hk => by cases hk; decide) ?_
          refine TL.pure (PV.pickF rfl rfl) rfl (by decide) ?_
          refine TL.pure (PV.assign rfl) rfl (by decide) ?_
          refine TL.nil ?_
          refine TQ.thenC ?_
          refine TC.ret ?_
          refine TQ.retE1 rfl rfl ?_
          first | exact ⟨(), rfl, trivial, List.nil_sublist _⟩ | (exfalso; simp_all; done)
      · skip
        refine TL.skip rfl (fun k hk => by cases hk; decide) ?_
        refine TL.skip rfl (fun k hk => by cases hk; decide) ?_
        refine TL.skip rfl (fun k hk => by cases hk; decide) ?_
        refine TL.pure (PV.pickF rfl rfl) rfl (by decide) ?_
        refine TL.pure (PV.move rfl) rfl (by decide) ?_
        refine TL.skip rfl (fun k hk => by cases hk; decide) ?_
        refine TL.skip rfl (fun k hk => by cases hk; decide) ?_
        refine TL.skip rfl (fun k hk => by cases hk; decide) ?_
        refine TL.pure (PV.pickF rfl rfl) rfl (by decide) ?_
        refine TL.pure (PV.move rfl) rfl (by decide) ?_
        refine TL.skip rfl (fun k hk => by cases hk; decide) ?_
        refine TL.pure (PV.pickF rfl rfl) rfl (by decide) ?_
        refine TL.pure (PV.assign rfl) rfl (by decide) ?_
        refine TL.nil ?_
        refine TQ.thenC ?_
        refine TC.ret ?_
        refine TQ.retE1 rfl rfl ?_
        first | exact ⟨(), rfl, trivial, List.nil_sublist _⟩ | (exfalso; simp_all; done)
    · skip
      refine TL.skip rfl (fun k hk => by cases hk; decide) ?_
      refine TL.skip rfl (fun k hk => by cases hk; decide) ?_
      refine TL.skip rfl (fun k hk => by cases hk; decide) ?_
      refine TL.pure (PV.pickF rfl rfl) rfl (by decide) ?_
      refine TL.pure (PV.move rfl) rfl (by decide) ?_
      refine TL.skip rfl (fun k hk => by cases hk; decide) ?_
      refine TL.skip rfl (fun k hk => by cases hk; decide) ?_
      refine TL.skip rfl (fun k hk => by cases hk; decide) ?_
      refine TL.pure (PV.pickF rfl rfl) rfl (by decide) ?_
      refine TL.pure (PV.move rfl) rfl (by decide) ?_
      refine TL.skip rfl (fun k hk => by cases hk; decide) ?_
      refine TL.skip rfl (fun k hk => by cases hk; decide) ?_
      refine TL.skip rfl (fun k hk => by cases hk; decide) ?_
      refine TL.pure (PV.pickF rfl rfl) rfl (by decide) ?_
      refine TL.pure (PV.move rfl) rfl (by decide) ?_
      refine TL.skip rfl (fun k hk => by cases hk; decide) ?_
      refine TL.pure (PV.pickF rfl rfl) rfl (by decide) ?_
      refine TL.pure (PV.assign rfl) rfl (by decide) ?_
      refine TL.nil ?_
      refine TQ.thenC ?_
      refine TC.ret ?_
      refine TQ.retE1 rfl rfl ?_
      first | exact ⟨(), rfl, trivial, List.nil_sublist _⟩ | (exfalso; simp_all; done)

theorem corePlains_all (W : World) (n : Int) (p : Option Addr) (cap : Nat) (rs : List Bd) (hr : BdsAt W p rs) (_ : rs.length ≤ cap) (_ : I64 n) :
    Calls Try.prog 10 #[cv n p rs.length cap] W (Post (X := Unit) (fun _ => .bool true) (fun _ => True) (fun _ => []) W) := corePlains_ok W n p cap rs hr

end Go.Proofs.Ytenalmddoljhoaa
