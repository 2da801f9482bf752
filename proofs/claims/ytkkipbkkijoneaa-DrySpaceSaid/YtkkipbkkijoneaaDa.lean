/- Which yards, fillings and lists are right: contracts. -/
import Derived.Test.YtkkipbkkijoneaaAn
import Derived.Test.YtkkipbkkijoneaaSv
set_option linter.unusedVariables false
set_option linter.unusedSimpArgs false
namespace Go.Proofs.Ytkkipbkkijoneaa
open Go.Sx Go.RowKit

/-- A step: what it takes and what it gives. -/
structure St where
  t : List Int
  g : List Int
  deriving Inhabited, DecidableEq
abbrev sv (p1 : Option Addr) (n1 c1 : Nat) (p2 : Option Addr) (n2 c2 : Nat) : Value := .agg #[.slice p1 n1 c1, .slice p2 n2 c2]
abbrev yv (n : Int) (p : Option Addr) (k c : Nat) : Value := .agg #[.int .i64 n, .slice p k c]
/-- A slice reads as the steps. -/
def StsAt (w : World) (p : Option Addr) (ss : List St) : Prop := ∀ j, j < ss.length → ∃ q, p = some q ∧ ∃ p1 p2 c1 c2, w.cell? ((q.add (j * 2)).add 0) = some (.slice p1 (ss.getD j default).t.length c1) ∧
  w.cell? ((q.add (j * 2)).add 1) = some (.slice p2 (ss.getD j default).g.length c2) ∧ IntsAt w p1 (ss.getD j default).t ∧ IntsAt w p2 (ss.getD j default).g
theorem StsAt.new {w0 w : World} {G : Heap} {p : Option Addr} {ss : List St} (h : StsAt w0 p ss) (hn : New w0 w G) : StsAt w p ss := fun j hj =>
  let ⟨q, hq, p1, p2, c1, c2, h1, h2, h3, h4⟩ := h j hj
  ⟨q, hq, p1, p2, c1, c2, hn.old h1, hn.old h2, h3.new hn, h4.new hn⟩
theorem two_cells {w : World} {a : Addr} {u v : Value} (h0 : w.cell? (a.add 0) = some u) (h1 : w.cell? (a.add 1) = some v) : ∀ j x, [u, v][j]? = some x → w.cell? (a.add j) = some x := by
  intro j x h
  match j with
  | 0 => simp only [List.getElem?_cons_zero, Option.some.injEq] at h; subst h; exact h0
  | 1 => simp only [List.getElem?_cons_succ, List.getElem?_cons_zero, Option.some.injEq] at h; subst h; exact h1
  | j + 2 => simp at h
/-- A slice reads as the lists. -/
def LsAt (w : World) (p : Option Addr) (ls : List (List Int)) : Prop := ∀ j, j < ls.length → ∃ q, p = some q ∧ ∃ pj cj, w.cell? (q.add (j * 1)) = some (.slice pj (ls.getD j []).length cj) ∧ IntsAt w pj (ls.getD j [])
theorem LsAt.new {w0 w : World} {G : Heap} {p : Option Addr} {ls : List (List Int)} (h : LsAt w0 p ls) (hn : New w0 w G) : LsAt w p ls := fun j hj =>
  let ⟨q, hq, pj, cj, h1, h2⟩ := h j hj
  ⟨q, hq, pj, cj, hn.old h1, h2.new hn⟩
theorem fill_o (x : Option Addr) (n c : Nat) : Instr.fill (fun i => some (i * 1, 1)) ((Array.range (1 * 1)).map ((Value.slice none 0 0).cells[· % (Value.slice none 0 0).cells.size]!)) [(0, .slice x n c)] = some #[.slice x n c] := by kernel_rfl
theorem fill_oo (x y : Option Addr) (n c m d : Nat) : Instr.fill (fun i => some (i * 1, 1)) ((Array.range (2 * 1)).map ((Value.slice none 0 0).cells[· % (Value.slice none 0 0).cells.size]!)) [(0, .slice x n c), (1, .slice y m d)] = some #[.slice x n c, .slice y m d] := by kernel_rfl
theorem fill_i (v : Int) : Instr.fill (fun i => some (i * 1, 1)) ((Array.range (1 * 1)).map ((Value.int .i64 0).cells[· % (Value.int .i64 0).cells.size]!)) [(0, .int .i64 v)] = some #[.int .i64 v] := by kernel_rfl
theorem LsAt.one {w0 w : World} {G : Heap} {bO cl : Nat} {e : TypeId} {pl : Option Addr} {xs : List Int} (hn : New w0 w G) (hO : (bO, Obj.cells #[.slice pl xs.length cl] e (0, 0)) ∈ G) (hx : IntsAt w pl xs) : LsAt w (some ⟨bO, 0, none⟩) [xs] := by
  intro j hj
  have e : j = 0 := by simp only [List.length_cons, List.length_nil] at hj; omega
  subst e
  refine ⟨_, rfl, pl, cl, ?_, hx⟩
  rw [add_off]
  exact hn.cell hO rfl
theorem LsAt.two {w0 w : World} {G : Heap} {bO cl c2 : Nat} {e : TypeId} {pl p2 : Option Addr} {xs ys : List Int} (hn : New w0 w G) (hO : (bO, Obj.cells #[.slice pl xs.length cl, .slice p2 ys.length c2] e (0, 0)) ∈ G) (hx : IntsAt w pl xs) (hy : IntsAt w p2 ys) : LsAt w (some ⟨bO, 0, none⟩) [xs, ys] := by
  intro j hj
  have e : j = 0 ∨ j = 1 := by simp only [List.length_cons, List.length_nil] at hj; omega
  rcases e with rfl | rfl
  · refine ⟨_, rfl, pl, cl, ?_, hx⟩
    rw [add_off]
    exact hn.cell hO rfl
  · refine ⟨_, rfl, p2, c2, ?_, hy⟩
    rw [add_off]
    exact hn.cell hO rfl
theorem IntsAt.one1 {w0 w : World} {G : Heap} {b : Nat} {v : Int} {e : TypeId} (hn : New w0 w G) (hm : (b, Obj.cells #[.int .i64 v] e (0, 0)) ∈ G) : IntsAt w (some ⟨b, 0, none⟩) [v] := IntsAt.arr (xs := [v]) hn (by simpa [intsA] using hm)
theorem PV.fieldAddrA {P : Program} {n : Nat} {w0 : World} {E : Env} {G : Heap} {d : Option Nat} {ty : TypeId} {pos : String} {aft : Array Edge} {g : Option (Nat × Bool)} {x : Operand} {q : Addr} {k : Nat} {t f : Nat} (hx : evo E x = some (.pointer (some q))) (hf : fieldOff P t f = some k) :
    PV P n w0 E G ⟨d, .fieldAddr t x f, ty, pos, aft, g⟩ (.pointer (some (q.add k))) :=
  fun a w hs => by
    unfold fieldOff at hf
    cases hu : P.underlying t with
    | none => simp [hu] at hf
    | some u =>
      cases u <;> simp only [hu] at hf <;> try (simp at hf; done)
      rename_i fs
      cases hfd : fs[f]? with
      | none => simp [hfd] at hf
      | some fd =>
        simp only [hfd] at hf
        cases hi : P.info? fd.type with
        | none => simp [hi] at hf
        | some i =>
          simp only [hi] at hf
          split at hf
          · cases hf
          · rename_i hne
            cases hf
            simp only [execOp, hs.ev hx]
            simp [Instr.fieldAt, run_underlying hu, hfd, Instr.sureAddr, fieldPlace, sizeOf, typeInfo, hi, hne]
def wiB (a lo hi : Int) : Bool := decide (lo ≤ a ∧ a ≤ hi)
theorem all_no {α : Type} {l : List α} {f : α → Bool} {k : Nat} {d : α} (hk : k < l.length) (h : f (l.getD k d) = false) : l.all f = false := by
  rw [Bool.eq_false_iff]
  intro h1
  have := List.all_eq_true.1 h1 (l.getD k d) (by simp [List.getD, hk])
  rw [this] at h
  cases h
theorem all_yes {α : Type} {l : List α} {f : α → Bool} {d : α} (h : ∀ k, k < l.length → f (l.getD k d) = true) : l.all f = true := by
  refine List.all_eq_true.2 fun x hx => ?_
  obtain ⟨j, hj, rfl⟩ := List.getElem_of_mem hx
  have := h j hj
  simpa [List.getD, hj] using this
theorem all_at' {α : Type} {l : List α} {f : α → Bool} {k : Nat} {d : α} (h : l.all f = true) (hk : k < l.length) : f (l.getD k d) = true := by
  rw [List.all_eq_true] at h
  exact h _ (by simp [List.getD, hk])
def numB (n lo hi : Int) (xs : List Int) : Bool := decide ((xs.length : Int) = n) && xs.all fun x => wiB x lo hi
theorem num_len {n lo hi : Int} {xs : List Int} (h : numB n lo hi xs = true) : (xs.length : Int) = n := by
  unfold numB at h
  simp only [Bool.and_eq_true, decide_eq_true_eq] at h
  exact h.1
theorem num_in {n lo hi : Int} {xs : List Int} (h : numB n lo hi xs = true) {k : Nat} (hk : k < xs.length) : lo ≤ xs.getD k 0 ∧ xs.getD k 0 ≤ hi := by
  unfold numB at h
  simp only [Bool.and_eq_true, decide_eq_true_eq] at h
  exact of_decide_eq_true (all_at' (d := 0) (f := fun x => wiB x lo hi) h.2 hk)
theorem num_at {n lo hi : Int} {xs : List Int} (h : numB n lo hi xs = true) (h0 : lo ≤ 0 ∧ 0 ≤ hi) (k : Nat) : lo ≤ xs.getD k 0 ∧ xs.getD k 0 ≤ hi := by
  by_cases hk : k < xs.length
  · exact num_in h hk
  · have e : xs.getD k 0 = 0 := by simp [List.getD, hk]
    omega
theorem num_1 {n lo hi : Int} {xs : List Int} (h : ¬ (xs.length : Int) = n) : numB n lo hi xs = false := by unfold numB; rw [decide_eq_false h, Bool.false_and]
theorem num_2 {n lo hi : Int} {xs : List Int} {k : Nat} (hk : k < xs.length) (h : ¬ (lo ≤ xs.getD k 0 ∧ xs.getD k 0 ≤ hi)) : numB n lo hi xs = false := by
  unfold numB
  rw [all_no (k := k) (d := 0) hk (decide_eq_false h), Bool.and_false]
theorem num_3 {n lo hi : Int} {xs : List Int} (h : (xs.length : Int) = n) (h2 : ∀ k, k < xs.length → lo ≤ xs.getD k 0 ∧ xs.getD k 0 ≤ hi) : numB n lo hi xs = true := by
  unfold numB
  rw [decide_eq_true h, all_yes (f := fun x => wiB x lo hi) (d := 0) (fun k hk => decide_eq_true (h2 k hk))]
  rfl
def okS (n : Int) (s : St) : Bool := numB n 0 3 s.t && numB n 0 3 s.g
def validI (n : Int) (ss : List St) : Int := if n < 1 ∨ 6 < n then 1 else if 6 < ss.length then 3 else if ss.all (okS n) = true then 0 else 1
theorem valid_1 {n : Int} {ss : List St} (h : n < 1 ∨ 6 < n) : validI n ss = 1 := if_pos h
theorem valid_3 {n : Int} {ss : List St} (h : ¬ (n < 1 ∨ 6 < n)) (h2 : 6 < ss.length) : validI n ss = 3 := by unfold validI; rw [if_neg h, if_pos h2]
theorem valid_n {n : Int} {ss : List St} (h : ¬ (n < 1 ∨ 6 < n)) (h2 : ¬ 6 < ss.length) {k : Nat} (hk : k < ss.length) (h3 : okS n (ss.getD k default) = false) : validI n ss = 1 := by
  unfold validI; rw [if_neg h, if_neg h2, if_neg (by rw [all_no hk h3]; decide)]
theorem valid_0 {n : Int} {ss : List St} (h : ¬ (n < 1 ∨ 6 < n)) (h2 : ¬ 6 < ss.length) (h3 : ∀ k, k < ss.length → okS n (ss.getD k default) = true) : validI n ss = 0 := by
  unfold validI; rw [if_neg h, if_neg h2, if_pos (all_yes h3)]
/-- The yard is valid. -/
structure VY (n : Int) (ss : List St) : Prop where
  hn : 1 ≤ n ∧ n ≤ 6
  len : ss.length ≤ 6
  st : ∀ k, k < ss.length → okS n (ss.getD k default) = true
theorem vy_of {n : Int} {ss : List St} (h : ¬ validI n ss ≠ 0) : VY n ss := by
  have h0 := Decidable.of_not_not h
  unfold validI at h0
  split at h0
  · cases h0
  · split at h0
    · cases h0
    · split at h0
      · rename_i h1 h2 h3
        exact ⟨by omega, by omega, fun k hk => all_at' h3 hk⟩
      · cases h0
theorem VY.v {n : Int} {ss : List St} (h : VY n ss) : validI n ss = 0 := valid_0 (by have := h.hn; omega) (by have := h.len; omega) h.st
theorem VY.tl {n : Int} {ss : List St} (h : VY n ss) {k : Nat} (hk : k < ss.length) : (((ss.getD k default).t.length : Nat) : Int) = n ∧ (((ss.getD k default).g.length : Nat) : Int) = n := by
  have := h.st k hk
  unfold okS at this
  rw [Bool.and_eq_true] at this
  exact ⟨num_len this.1, num_len this.2⟩
theorem VY.tb {n : Int} {ss : List St} (h : VY n ss) {k : Nat} (hk : k < ss.length) (j : Nat) : (0 ≤ (ss.getD k default).t.getD j 0 ∧ (ss.getD k default).t.getD j 0 ≤ 3) ∧ 0 ≤ (ss.getD k default).g.getD j 0 ∧ (ss.getD k default).g.getD j 0 ≤ 3 := by
  have := h.st k hk
  unfold okS at this
  rw [Bool.and_eq_true] at this
  exact ⟨num_at this.1 (by decide) j, num_at this.2 (by decide) j⟩
/-- No list of the steps is too long for any machine. -/
def SmS (ss : List St) : Prop := ss.length ≤ 1000000 ∧ ∀ k, (ss.getD k default).t.length ≤ 1000000 ∧ (ss.getD k default).g.length ≤ 1000000
def listI (k : Nat) (xs : List Int) : Int := if 40 < xs.length then 3 else if (xs.all fun x => wiB x 0 (k - 1)) = true then 0 else 4
theorem list_3 {k : Nat} {xs : List Int} (h : 40 < xs.length) : listI k xs = 3 := if_pos h
theorem list_at {k : Nat} {xs : List Int} (h : ¬ listI k xs ≠ 0) : xs.length ≤ 40 ∧ ∀ j, j < xs.length → 0 ≤ xs.getD j 0 ∧ xs.getD j 0 < k := by
  have h0 := Decidable.of_not_not h
  unfold listI at h0
  split at h0
  · cases h0
  · split at h0
    · rename_i h1 h2
      refine ⟨by omega, fun j hj => ?_⟩
      have : 0 ≤ xs.getD j 0 ∧ xs.getD j 0 ≤ k - 1 := of_decide_eq_true (all_at' (d := 0) (f := fun x => wiB x 0 (k - 1)) h2 hj)
      omega
    · cases h0
/-- The first element that a test takes. -/
def Fst {α : Type} [Inhabited α] (φ : α → Bool) (xs : List α) (i : Int) : Prop := (i = -1 ∧ ∀ j, j < xs.length → φ (xs.getD j default) = false) ∨ ∃ k : Nat, i = k ∧ k < xs.length ∧ φ (xs.getD k default) = true ∧ ∀ j, j < k → φ (xs.getD j default) = false
theorem fst_any {α : Type} [Inhabited α] {φ : α → Bool} {xs : List α} {i : Int} (h : Fst φ xs i) : xs.any φ = decide (0 ≤ i) := by
  rcases h with ⟨rfl, h⟩ | ⟨k, rfl, hk, h, _⟩
  · rw [decide_eq_false (by decide), List.any_eq_false]
    intro x hx
    obtain ⟨j, hj, rfl⟩ := List.getElem_of_mem hx
    have := h j hj
    simpa [List.getD, hj] using this
  · rw [decide_eq_true (by omega), List.any_eq_true]
    exact ⟨xs.getD k default, by simp [List.getD, hk], h⟩
theorem getD_mem {xs : List Int} {k : Nat} (hk : k < xs.length) : xs.getD k 0 ∈ xs := by simp [List.getD, hk]
theorem any_all (lo hi : Int) : ∀ xs : List Int, (!xs.any fun x => decide (x < lo) || decide (hi < x)) = xs.all fun x => wiB x lo hi
  | [] => rfl
  | x :: xs => by
    rw [List.any_cons, List.all_cons, Bool.not_or, any_all lo hi xs]
    congr 1
    unfold wiB
    rw [Bool.eq_iff_iff]
    simp


set_option maxRecDepth 100000 in
theorem within_ok (w0 : World) (a lo hi : Int) :
    Calls Try.prog 71 #[.int .i64 a, .int .i64 lo, .int .i64 hi] w0 (Post (X := Unit) (fun _ => .bool (wiB a lo hi)) (fun _ => True) (fun _ => []) w0) := by
  refine calls Try.func71 rfl (n := 15) rfl (by simp) ?_
  refine TC.seq ?_
  refine TC.region ?_
  refine TL.pure (PV.assign rfl) rfl (by decide) ?_
  refine TL.nil ?_
  refine TQ.thenC ?_
  refine TC.seq ?_
  refine TC.region ?_
  refine TL.pure (PV.move rfl) rfl (by decide) ?_
  refine TL.pure (PV.move rfl) rfl (by decide) ?_
  refine TL.pure (PV.geq rfl rfl) rfl (by decide) ?_
  refine TL.pure (PV.move rfl) rfl (by decide) ?_
  first | refine TL.splitD 10 rfl (fun e1 => ?_) (fun e1 => ?_) | refine TL.split 10 rfl (fun e1 => ?_) (fun e1 => ?_)
  · skip
    refine TL.pure (PV.move rfl) rfl (by decide) ?_
    refine TL.pure (PV.move rfl) rfl (by decide) ?_
    refine TL.pure (PV.leq rfl rfl) rfl (by decide) ?_
    refine TL.pure (PV.pickT rfl rfl) rfl (by decide) ?_
    refine TL.pure (PV.assign rfl) rfl (by decide) ?_
    refine TL.nil ?_
    refine TQ.thenC ?_
    refine TC.ret ?_
    refine TQ.retE1 rfl rfl ?_
    exact ⟨(), by unfold wiB; congr 1; rw [decide_eq_decide]; simp_all, trivial, List.nil_sublist _⟩
  · skip
    refine TL.skip rfl (fun k hk => by cases hk; decide) ?_
    refine TL.skip rfl (fun k hk => by cases hk; decide) ?_
    refine TL.skip rfl (fun k hk => by cases hk; decide) ?_
    refine TL.pure (PV.pickF rfl rfl) rfl (by decide) ?_
    refine TL.pure (PV.assign rfl) rfl (by decide) ?_
    refine TL.nil ?_
    refine TQ.thenC ?_
    refine TC.ret ?_
    refine TQ.retE1 rfl rfl ?_
    exact ⟨(), by unfold wiB; rw [decide_eq_false (by omega)], trivial, List.nil_sublist _⟩

set_option maxRecDepth 100000 in
theorem indexFunc_ok (w0 : World) (pl : Option Addr) (cl : Nat) (xs : List Int) (hx : IntsAt w0 pl xs) (hl : xs.length ≤ 1000000) (f : FuncId) (caps : List Value) (φ : Int → Bool) (hfn : goFn Try.prog f = true) (hcb : ∀ w G, New w0 w G → ∀ x : Int, x ∈ xs → Calls Try.prog f (Value.int .i64 x :: caps).toArray w (Post (X := Unit) (fun _ => .bool (φ x)) (fun _ => True) (fun _ => []) w)) :
    Calls Try.prog 121 #[.slice pl xs.length cl, .func (.func f) #[] caps.toArray] w0 (Post (X := Int) (fun i => .int .i64 i) (fun i => Fst φ xs i) (fun _ => []) w0) := by
  refine calls Try.func121 rfl (n := 19) rfl (by simp) ?_
  refine TC.seq ?_
  refine TC.region ?_
  refine TL.pure (PV.assign rfl) rfl (by decide) ?_
  refine TL.nil ?_
  refine TQ.thenC ?_
  refine TC.seq ?_
  refine TC.seq ?_
  refine TC.region ?_
  refine TL.pure (PV.move rfl) rfl (by decide) ?_
  refine TL.pure (PV.len rfl Tb.sl_25) rfl (by decide) ?_
  refine TL.pure (PV.move rfl) rfl (by decide) ?_
  refine TL.nil ?_
  refine TQ.thenC ?_
  refine TC.block ?_
  -- live and written in the loop, not told: [4]
  refine TC.loopG [0, 1, 7] (X := Nat) (fun k => k ≤ xs.length ∧ ∀ j, j < k → φ (xs.getD j 0) = false) (fun k => [(8, .int .i64 k)]) (fun k => xs.length - k) 0 ⟨Nat.zero_le _, fun j hj => absurd hj (Nat.not_lt_zero _)⟩ (by repeat (first | exact True.intro | refine And.intro rfl ?_)) ?_
  intro k hk
  refine TC.seq ?_
  refine TC.region ?_
  refine TL.pure (PV.lss rfl rfl) rfl (by decide) ?_
  refine TL.nil ?_
  refine TQ.thenC ?_
  refine TC.seq ?_
  first | refine TC.condD rfl (fun hlt => ?_) (fun hlt => ?_) | refine TC.cond rfl (fun hlt => ?_) (fun hlt => ?_)
  · skip
    refine TC.skip ?_
    refine TQ.thenC ?_
    refine TC.seq ?_
    refine TC.block ?_
    refine TC.seq ?_
    refine TC.region ?_
    refine TL.pure (PV.move rfl) rfl (by decide) ?_
    refine TL.pure (PV.assign rfl) rfl (by decide) ?_
    refine TL.nil ?_
    refine TQ.thenC ?_
    refine TC.seq ?_
    obtain ⟨q2, hq2p, hq2⟩ := hx k (by omega)
    refine TC.region ?_
    refine TL.pure (PV.move rfl) rfl (by decide) ?_
    refine TL.pure (PV.move rfl) rfl (by decide) ?_
    refine TL.pure (PV.move rfl) rfl (by decide) ?_
    refine TL.pure (PV.indexA rfl hq2p rfl Tb.elm_25 rfl (by omega)) rfl (by decide) ?_
    refine TL.pure (PV.loadOld rfl Tb.one_3 hq2) rfl (by decide) ?_
    refine TL.callF (f := f) (caps := caps) (X := Unit) (fun _ => .bool (φ (xs.getD k 0))) (fun _ => True) (fun _ => []) rfl rfl hfn (fun a w hs => (hcb w _ hs.new (xs.getD k 0) (getD_mem (by omega))).mono fun e w' ⟨x9, h1, h2, h3⟩ => ⟨x9, h1, h2, hs.new.trans h3⟩) rfl (by decide) (fun _ _ => ?_)
    refine TL.nil ?_
    refine TQ.thenC ?_
    first | refine TC.condD rfl (fun hno => ?_) (fun hno => ?_) | refine TC.cond rfl (fun hno => ?_) (fun hno => ?_)
    · skip
      refine TC.seq ?_
      refine TC.region ?_
      refine TL.pure (PV.move rfl) rfl (by decide) ?_
      refine TL.pure (PV.assign rfl) rfl (by decide) ?_
      refine TL.nil ?_
      refine TQ.thenC ?_
      refine TC.ret ?_
      refine TQ.blkR ?_
      refine TQ.thenR ?_
      refine TQ.thenR ?_
      refine TQ.blkR ?_
      refine TQ.thenR ?_
      refine TQ.retE1 rfl rfl ?_
      first | exact ⟨k, rfl, .inr ⟨k, rfl, by omega, by simpa using hno, hk.2⟩, List.nil_sublist _⟩ | exact ⟨-1, rfl, .inl ⟨rfl, fun j hj => hk.2 j (by omega)⟩, List.nil_sublist _⟩
    · skip
      refine TC.skip ?_
      refine TQ.blkN ?_
      refine TQ.thenC ?_
      refine TC.region ?_
      refine TL.pure (PV.add rfl rfl (by omega)) rfl (by decide) ?_
      refine TL.pure (PV.move rfl) rfl (by decide) ?_
      refine TL.nil ?_
      refine TQ.thenN ?_
      refine TQ.backK (k + 1) (by repeat (first | exact True.intro | refine And.intro rfl ?_)) (by repeat (first | exact True.intro | refine And.intro rfl ?_)) (by repeat (first | exact List.Sublist.slnil | exact List.nil_sublist _ | exact List.Sublist.refl _ | refine List.Sublist.cons_cons _ ?_ | refine List.Sublist.cons _ ?_ | refine List.Sublist.trans ?_ (List.sublist_append_right _ _))) ⟨by omega, fun j hj => if e : j < k then hk.2 j e else (show k = j by omega) ▸ (by simpa using hno)⟩ (by omega)
  · skip
    refine TC.exit ?_
    refine TQ.thenE ?_
    refine TQ.thenE ?_
    refine TQ.blkS ?_
    refine TQ.thenC ?_
    refine TC.seq ?_
    refine TC.region ?_
    refine TL.pure (PV.assign rfl) rfl (by decide) ?_
    refine TL.nil ?_
    refine TQ.thenC ?_
    refine TC.ret ?_
    refine TQ.retE1 rfl rfl ?_
    first | exact ⟨k, rfl, .inr ⟨k, rfl, by omega, by simpa using hno, hk.2⟩, List.nil_sublist _⟩ | exact ⟨-1, rfl, .inl ⟨rfl, fun j hj => hk.2 j (by omega)⟩, List.nil_sublist _⟩

set_option maxRecDepth 100000 in
theorem containsFunc_ok (w0 : World) (pl : Option Addr) (cl : Nat) (xs : List Int) (hx : IntsAt w0 pl xs) (hl : xs.length ≤ 1000000) (f : FuncId) (caps : List Value) (φ : Int → Bool) (hfn : goFn Try.prog f = true) (hcb : ∀ w G, New w0 w G → ∀ x : Int, x ∈ xs → Calls Try.prog f (Value.int .i64 x :: caps).toArray w (Post (X := Unit) (fun _ => .bool (φ x)) (fun _ => True) (fun _ => []) w)) :
    Calls Try.prog 115 #[.slice pl xs.length cl, .func (.func f) #[] caps.toArray] w0 (Post (X := Unit) (fun _ => .bool (xs.any φ)) (fun _ => True) (fun _ => []) w0) := by
  refine calls Try.func115 rfl (n := 9) rfl (by simp) ?_
  refine TC.seq ?_
  refine TC.region ?_
  refine TL.pure (PV.assign rfl) rfl (by decide) ?_
  refine TL.nil ?_
  refine TQ.thenC ?_
  refine TC.seq ?_
  refine TC.region ?_
  refine TL.pure (PV.move rfl) rfl (by decide) ?_
  refine TL.pure (PV.move rfl) rfl (by decide) ?_
  refine TL.call rfl Tb.gofn_121 (fun a w hs => indexFunc_ok w _ _ xs (hx.new hs.new) hl f caps φ hfn (fun w2 G2 hn2 x hm => hcb w2 _ (hs.new.trans hn2) x hm)) rfl (by decide) (fun i9 hi9 => ?_)
  refine TL.pure (PV.geq rfl rfl) rfl (by decide) ?_
  refine TL.pure (PV.assign rfl) rfl (by decide) ?_
  refine TL.nil ?_
  refine TQ.thenC ?_
  refine TC.ret ?_
  refine TQ.retE1 rfl rfl ?_
  exact ⟨(), by rw [fst_any hi9], trivial, List.nil_sublist _⟩

set_option maxRecDepth 100000 in
theorem areWithinF_ok (w0 : World) (x lo hi : Int) (a b : Addr) (ha : w0.cell? a = some (.int .i64 lo)) (hb : w0.cell? b = some (.int .i64 hi)) :
    Calls Try.prog 116 #[.int .i64 x, .pointer (some a), .pointer (some b)] w0 (Post (X := Unit) (fun _ => .bool (decide (x < lo) || decide (hi < x))) (fun _ => True) (fun _ => []) w0) := by
  refine calls Try.func116 rfl (n := 13) rfl (by simp) ?_
  refine TC.seq ?_
  refine TC.region ?_
  refine TL.pure (PV.assign rfl) rfl (by decide) ?_
  refine TL.nil ?_
  refine TQ.thenC ?_
  refine TC.seq ?_
  refine TC.region ?_
  refine TL.pure (PV.move rfl) rfl (by decide) ?_
  refine TL.pure (PV.loadOld rfl Tb.one_3 (ha)) rfl (by decide) ?_
  refine TL.pure (PV.lss rfl rfl) rfl (by decide) ?_
  refine TL.pure (PV.move rfl) rfl (by decide) ?_
  first | refine TL.splitD 8 rfl (fun e1 => ?_) (fun e1 => ?_) | refine TL.split 8 rfl (fun e1 => ?_) (fun e1 => ?_)
  · skip
    refine TL.skip rfl (fun k hk => by cases hk; decide) ?_
    refine TL.skip rfl (fun k hk => by cases hk; decide) ?_
    refine TL.skip rfl (fun k hk => by cases hk; decide) ?_
    refine TL.pure (PV.pickT rfl rfl) rfl (by decide) ?_
    refine TL.pure (PV.assign rfl) rfl (by decide) ?_
    refine TL.nil ?_
    refine TQ.thenC ?_
    refine TC.ret ?_
    refine TQ.retE1 rfl rfl ?_
    first | exact ⟨(), by rw [decide_eq_true e1]; rfl, trivial, List.nil_sublist _⟩ | exact ⟨(), by rw [decide_eq_false e1]; rfl, trivial, List.nil_sublist _⟩
  · skip
    refine TL.pure (PV.move rfl) rfl (by decide) ?_
    refine TL.pure (PV.loadOld rfl Tb.one_3 (hb)) rfl (by decide) ?_
    refine TL.pure (PV.gtr rfl rfl) rfl (by decide) ?_
    refine TL.pure (PV.pickF rfl rfl) rfl (by decide) ?_
    refine TL.pure (PV.assign rfl) rfl (by decide) ?_
    refine TL.nil ?_
    refine TQ.thenC ?_
    refine TC.ret ?_
    refine TQ.retE1 rfl rfl ?_
    first | exact ⟨(), by rw [decide_eq_true e1]; rfl, trivial, List.nil_sublist _⟩ | exact ⟨(), by rw [decide_eq_false e1]; rfl, trivial, List.nil_sublist _⟩

set_option maxRecDepth 100000 in
theorem areWithin_ok (w0 : World) (pl : Option Addr) (cl : Nat) (xs : List Int) (hx : IntsAt w0 pl xs) (hl : xs.length ≤ 1000000) (lo hi : Int) :
    Calls Try.prog 105 #[.slice pl xs.length cl, .int .i64 lo, .int .i64 hi] w0 (Post (X := Unit) (fun _ => .bool (xs.all fun x => wiB x lo hi)) (fun _ => True) (fun _ => []) w0) := by
  refine calls Try.func105 rfl (n := 11) rfl (by simp) ?_
  refine TC.seq ?_
  refine TC.region ?_
  refine TL.box rfl rfl (by decide) (fun b0 hb0 => ?_)
  refine TL.box rfl rfl (by decide) (fun b1 hb1 => ?_)
  refine TL.pure (PV.assign rfl) rfl (by decide) ?_
  refine TL.nil ?_
  refine TQ.thenC ?_
  refine TC.seq ?_
  refine TC.region ?_
  refine TL.pure (PV.move rfl) rfl (by decide) ?_
  refine TL.pure (PV.makeFunc rfl) rfl (by decide) ?_
  refine TL.call rfl Tb.gofn_115 (fun a w hs => containsFunc_ok w _ _ xs (hx.new hs.new) hl 116 [.pointer (some ⟨b0, 0, none⟩), .pointer (some ⟨b1, 0, none⟩)] (fun x => decide (x < lo) || decide (hi < x)) Tb.gofn_116 (fun w2 G2 hn2 x _ => areWithinF_ok w2 x lo hi ⟨b0, 0, none⟩ ⟨b1, 0, none⟩ ((hs.new.trans hn2).cell (by repeat (first | exact List.Mem.head _ | refine List.Mem.tail _ ?_ | refine List.mem_append_right _ ?_)) rfl) ((hs.new.trans hn2).cell (by repeat (first | exact List.Mem.head _ | refine List.Mem.tail _ ?_ | refine List.mem_append_right _ ?_)) rfl))) rfl (by decide) (fun _ _ => ?_)
  refine TL.pure ((by first | exact PV.notD rfl | exact PV.not rfl)) rfl (by decide) ?_
  refine TL.pure (PV.assign rfl) rfl (by decide) ?_
  refine TL.nil ?_
  refine TQ.thenC ?_
  refine TC.ret ?_
  refine TQ.retE1 rfl rfl ?_
  exact ⟨(), by rw [any_all], trivial, List.nil_sublist _⟩

set_option maxRecDepth 100000 in
theorem areNumbers_ok (w0 : World) (pl : Option Addr) (cl : Nat) (xs : List Int) (hx : IntsAt w0 pl xs) (hl : xs.length ≤ 1000000) (n lo hi : Int) :
    Calls Try.prog 70 #[.slice pl xs.length cl, .int .i64 n, .int .i64 lo, .int .i64 hi] w0 (Post (X := Unit) (fun _ => .bool (numB n lo hi xs)) (fun _ => True) (fun _ => []) w0) := by
  refine calls Try.func70 rfl (n := 19) rfl (by simp) ?_
  refine TC.seq ?_
  refine TC.region ?_
  refine TL.pure (PV.assign rfl) rfl (by decide) ?_
  refine TL.nil ?_
  refine TQ.thenC ?_
  refine TC.seq ?_
  refine TC.region ?_
  refine TL.pure (PV.move rfl) rfl (by decide) ?_
  refine TL.pure (PV.len rfl Tb.sl_25) rfl (by decide) ?_
  refine TL.pure (PV.move rfl) rfl (by decide) ?_
  refine TL.pure (PV.eql rfl rfl) rfl (by decide) ?_
  refine TL.pure (PV.move rfl) rfl (by decide) ?_
  first | refine TL.splitD 13 rfl (fun e1 => ?_) (fun e1 => ?_) | refine TL.split 13 rfl (fun e1 => ?_) (fun e1 => ?_)
  · skip
    refine TL.pure (PV.move rfl) rfl (by decide) ?_
    refine TL.pure (PV.move rfl) rfl (by decide) ?_
    refine TL.pure (PV.move rfl) rfl (by decide) ?_
    refine TL.call rfl Tb.gofn_105 (fun a w hs => areWithin_ok w _ _ xs (hx.new hs.new) hl _ _) rfl (by decide) (fun _ _ => ?_)
    refine TL.pure (PV.pickT rfl rfl) rfl (by decide) ?_
    refine TL.pure (PV.assign rfl) rfl (by decide) ?_
    refine TL.nil ?_
    refine TQ.thenC ?_
    refine TC.ret ?_
    refine TQ.retE1 rfl rfl ?_
    first | exact ⟨(), by unfold numB; rw [decide_eq_true e1]; rfl, trivial, List.nil_sublist _⟩ | exact ⟨(), by rw [num_1 e1], trivial, List.nil_sublist _⟩
  · skip
    refine TL.skip rfl (fun k hk => by cases hk; decide) ?_
    refine TL.skip rfl (fun k hk => by cases hk; decide) ?_
    refine TL.skip rfl (fun k hk => by cases hk; decide) ?_
    refine TL.skip rfl (fun k hk => by cases hk; decide) ?_
    refine TL.pure (PV.pickF rfl rfl) rfl (by decide) ?_
    refine TL.pure (PV.assign rfl) rfl (by decide) ?_
    refine TL.nil ?_
    refine TQ.thenC ?_
    refine TC.ret ?_
    refine TQ.retE1 rfl rfl ?_
    first | exact ⟨(), by unfold numB; rw [decide_eq_true e1]; rfl, trivial, List.nil_sublist _⟩ | exact ⟨(), by rw [num_1 e1], trivial, List.nil_sublist _⟩

set_option maxRecDepth 100000 in
theorem rall_ok (w0 : World) (pl : Option Addr) (cl : Nat) (xs : List Int) (hx : IntsAt w0 pl xs) (hl : xs.length ≤ 1000000) (n lo hi : Int) :
    Calls Try.prog 72 #[.slice pl xs.length cl, .int .i64 n, .int .i64 lo, .int .i64 hi] w0 (Post (X := Unit) (fun _ => .bool (numB n lo hi xs)) (fun _ => True) (fun _ => []) w0) := by
  refine calls Try.func72 rfl (n := 28) rfl (by simp) ?_
  refine TC.seq ?_
  refine TC.region ?_
  refine TL.pure (PV.assign rfl) rfl (by decide) ?_
  refine TL.nil ?_
  refine TQ.thenC ?_
  refine TC.seq ?_
  refine TC.seq ?_
  refine TC.region ?_
  refine TL.pure (PV.move rfl) rfl (by decide) ?_
  refine TL.pure (PV.len rfl Tb.sl_25) rfl (by decide) ?_
  refine TL.pure (PV.move rfl) rfl (by decide) ?_
  refine TL.pure (PV.neq rfl rfl) rfl (by decide) ?_
  refine TL.nil ?_
  refine TQ.thenC ?_
  first | refine TC.condD rfl (fun hne => ?_) (fun hne => ?_) | refine TC.cond rfl (fun hne => ?_) (fun hne => ?_)
  · skip
    refine TC.seq ?_
    refine TC.region ?_
    refine TL.pure (PV.assign rfl) rfl (by decide) ?_
    refine TL.nil ?_
    refine TQ.thenC ?_
    refine TC.ret ?_
    refine TQ.thenR ?_
    refine TQ.retE1 rfl rfl ?_
    exact ⟨(), by rw [num_1 hne], trivial, List.nil_sublist _⟩
  · skip
    refine TC.skip ?_
    refine TQ.thenC ?_
    refine TC.seq ?_
    refine TC.seq ?_
    refine TC.region ?_
    refine TL.pure (PV.assign rfl) rfl (by decide) ?_
    refine TL.nil ?_
    refine TQ.thenC ?_
    refine TC.block ?_
    -- live and written in the loop, not told: [8]
    refine TC.loopG [0, 2, 3] (X := Nat) (fun k => k ≤ xs.length ∧ ∀ j, j < k → lo ≤ xs.getD j 0 ∧ xs.getD j 0 ≤ hi) (fun k => [(9, .int .i64 k)]) (fun k => xs.length - k) 0 ⟨Nat.zero_le _, fun j hj => absurd hj (Nat.not_lt_zero _)⟩ (by repeat (first | exact True.intro | refine And.intro rfl ?_)) ?_
    intro k hk
    refine TC.seq ?_
    refine TC.seq ?_
    refine TC.region ?_
    refine TL.pure (PV.move rfl) rfl (by decide) ?_
    refine TL.pure (PV.move rfl) rfl (by decide) ?_
    refine TL.pure (PV.len rfl Tb.sl_25) rfl (by decide) ?_
    refine TL.pure (PV.lss rfl rfl) rfl (by decide) ?_
    refine TL.nil ?_
    refine TQ.thenC ?_
    first | refine TC.condD rfl (fun hlt => ?_) (fun hlt => ?_) | refine TC.cond rfl (fun hlt => ?_) (fun hlt => ?_)
    · skip
      refine TC.skip ?_
      refine TQ.thenC ?_
      refine TC.seq ?_
      refine TC.block ?_
      refine TC.seq ?_
      obtain ⟨q2, hq2p, hq2⟩ := hx k (by omega)
      refine TC.region ?_
      refine TL.pure (PV.move rfl) rfl (by decide) ?_
      refine TL.pure (PV.move rfl) rfl (by decide) ?_
      refine TL.pure (PV.indexA rfl hq2p rfl Tb.elm_25 rfl (by omega)) rfl (by decide) ?_
      refine TL.pure (PV.loadOld rfl Tb.one_3 hq2) rfl (by decide) ?_
      refine TL.pure (PV.move rfl) rfl (by decide) ?_
      refine TL.pure (PV.move rfl) rfl (by decide) ?_
      refine TL.call rfl Tb.gofn_71 (fun a w hs => within_ok w _ _ _) rfl (by decide) (fun _ _ => ?_)
      refine TL.pure ((by first | exact PV.notD rfl | exact PV.not rfl)) rfl (by decide) ?_
      refine TL.nil ?_
      refine TQ.thenC ?_
      first | refine TC.condD rfl (fun hno => ?_) (fun hno => ?_) | refine TC.cond rfl (fun hno => ?_) (fun hno => ?_)
      · skip
        refine TC.seq ?_
        refine TC.region ?_
        refine TL.pure (PV.assign rfl) rfl (by decide) ?_
        refine TL.nil ?_
        refine TQ.thenC ?_
        refine TC.ret ?_
        refine TQ.blkR ?_
        refine TQ.thenR ?_
        refine TQ.thenR ?_
        refine TQ.blkR ?_
        refine TQ.thenR ?_
        refine TQ.retE1 rfl rfl ?_
        exact ⟨(), by rw [num_2 (k := k) (by omega) (by simpa using hno)], trivial, List.nil_sublist _⟩
      · skip
        refine TC.skip ?_
        refine TQ.blkN ?_
        refine TQ.thenC ?_
        refine TC.region ?_
        refine TL.pure (PV.move rfl) rfl (by decide) ?_
        refine TL.pure (PV.add rfl rfl (by omega)) rfl (by decide) ?_
        refine TL.pure (PV.assign rfl) rfl (by decide) ?_
        refine TL.nil ?_
        refine TQ.thenN ?_
        refine TQ.backK (k + 1) (by repeat (first | exact True.intro | refine And.intro rfl ?_)) (by repeat (first | exact True.intro | refine And.intro rfl ?_)) (by repeat (first | exact List.Sublist.slnil | exact List.nil_sublist _ | exact List.Sublist.refl _ | refine List.Sublist.cons_cons _ ?_ | refine List.Sublist.cons _ ?_ | refine List.Sublist.trans ?_ (List.sublist_append_right _ _))) ⟨by omega, fun j hj => if e : j < k then hk.2 j e else (show k = j by omega) ▸ (by simpa using hno)⟩ (by omega)
    · skip
      refine TC.exit ?_
      refine TQ.thenE ?_
      refine TQ.thenE ?_
      refine TQ.blkS ?_
      refine TQ.thenC ?_
      refine TC.seq ?_
      refine TC.region ?_
      refine TL.pure (PV.assign rfl) rfl (by decide) ?_
      refine TL.nil ?_
      refine TQ.thenC ?_
      refine TC.ret ?_
      refine TQ.retE1 rfl rfl ?_
      exact ⟨(), by rw [num_3 (by omega) (fun j hj => hk.2 j (by omega))], trivial, List.nil_sublist _⟩

set_option maxRecDepth 100000 in
set_option maxHeartbeats 1000000 in
theorem validate_ok (w0 : World) (n : Int) (p : Option Addr) (cp : Nat) (ss : List St) (hr : StsAt w0 p ss) (hS : SmS ss) :
    Calls Try.prog 24 #[yv n p ss.length cp] w0 (Post (X := Unit) (fun _ => .int .i64 (validI n ss)) (fun _ => True) (fun _ => []) w0) := by
  refine calls Try.func24 rfl (n := 39) rfl (by simp) ?_
  refine TC.seq ?_
  refine TC.region ?_
  refine TL.box rfl rfl (by decide) (fun b0 hb0 => ?_)
  refine TL.pure (PV.assign rfl) rfl (by decide) ?_
  refine TL.nil ?_
  refine TQ.thenC ?_
  refine TC.seq ?_
  refine TC.seq ?_
  refine TC.region ?_
  refine TL.pure (PV.fieldAddr rfl Tb.fo_24_0) rfl (by decide) ?_
  refine TL.pure (PV.load rfl Tb.one_3 (by repeat (first | exact List.Mem.head _ | refine List.Mem.tail _ ?_ | refine List.mem_append_right _ ?_)) rfl) rfl (by decide) ?_
  refine TL.pure (PV.lss rfl rfl) rfl (by decide) ?_
  refine TL.pure (PV.move rfl) rfl (by decide) ?_
  first | refine TL.splitD 8 rfl (fun a1 => ?_) (fun a1 => ?_) | refine TL.split 8 rfl (fun a1 => ?_) (fun a1 => ?_)
  · skip
    refine TL.skip rfl (fun k hk => by cases hk; decide) ?_
    refine TL.skip rfl (fun k hk => by cases hk; decide) ?_
    refine TL.skip rfl (fun k hk => by cases hk; decide) ?_
    refine TL.pure (PV.pickT rfl rfl) rfl (by decide) ?_
    refine TL.nil ?_
    refine TQ.thenC ?_
    refine TC.condT rfl ?_
    refine TC.seq ?_
    refine TC.region ?_
    refine TL.pure (PV.assign rfl) rfl (by decide) ?_
    refine TL.nil ?_
    refine TQ.thenC ?_
    refine TC.ret ?_
    refine TQ.thenR ?_
    refine TQ.retE1 rfl rfl ?_
    exact ⟨(), by rw [valid_1 (by omega)], trivial, List.nil_sublist _⟩
  · skip
    refine TL.pure (PV.fieldAddr rfl Tb.fo_24_0) rfl (by decide) ?_
    refine TL.pure (PV.load rfl Tb.one_3 (by repeat (first | exact List.Mem.head _ | refine List.Mem.tail _ ?_ | refine List.mem_append_right _ ?_)) rfl) rfl (by decide) ?_
    refine TL.pure (PV.gtr rfl rfl) rfl (by decide) ?_
    refine TL.pure (PV.pickF rfl rfl) rfl (by decide) ?_
    refine TL.nil ?_
    refine TQ.thenC ?_
    first | refine TC.condD rfl (fun a2 => ?_) (fun a2 => ?_) | refine TC.cond rfl (fun a2 => ?_) (fun a2 => ?_)
    · skip
      refine TC.seq ?_
      refine TC.region ?_
      refine TL.pure (PV.assign rfl) rfl (by decide) ?_
      refine TL.nil ?_
      refine TQ.thenC ?_
      refine TC.ret ?_
      refine TQ.thenR ?_
      refine TQ.retE1 rfl rfl ?_
      exact ⟨(), by rw [valid_1 (by omega)], trivial, List.nil_sublist _⟩
    · skip
      refine TC.skip ?_
      refine TQ.thenC ?_
      refine TC.seq ?_
      refine TC.seq ?_
      refine TC.region ?_
      refine TL.pure (PV.fieldAddr rfl Tb.fo_24_1) rfl (by decide) ?_
      refine TL.pure (PV.load rfl Tb.one_22 (by repeat (first | exact List.Mem.head _ | refine List.Mem.tail _ ?_ | refine List.mem_append_right _ ?_)) rfl) rfl (by decide) ?_
      refine TL.pure (PV.len rfl Tb.sl_22) rfl (by decide) ?_
      refine TL.pure (PV.gtr rfl rfl) rfl (by decide) ?_
      refine TL.nil ?_
      refine TQ.thenC ?_
      first | refine TC.condD rfl (fun a3 => ?_) (fun a3 => ?_) | refine TC.cond rfl (fun a3 => ?_) (fun a3 => ?_)
      · skip
        refine TC.seq ?_
        refine TC.region ?_
        refine TL.pure (PV.assign rfl) rfl (by decide) ?_
        refine TL.nil ?_
        refine TQ.thenC ?_
        refine TC.ret ?_
        refine TQ.thenR ?_
        refine TQ.retE1 rfl rfl ?_
        exact ⟨(), by rw [valid_3 (by omega) (by omega)], trivial, List.nil_sublist _⟩
      · skip
        refine TC.skip ?_
        refine TQ.thenC ?_
        refine TC.seq ?_
        refine TC.seq ?_
        refine TC.region ?_
        refine TL.pure (PV.fieldAddr rfl Tb.fo_24_1) rfl (by decide) ?_
        refine TL.pure (PV.load rfl Tb.one_22 (by repeat (first | exact List.Mem.head _ | refine List.Mem.tail _ ?_ | refine List.mem_append_right _ ?_)) rfl) rfl (by decide) ?_
        refine TL.pure (PV.len rfl Tb.sl_22) rfl (by decide) ?_
        refine TL.pure (PV.move rfl) rfl (by decide) ?_
        refine TL.nil ?_
        refine TQ.thenC ?_
        refine TC.block ?_
        -- live and written in the loop, not told: [2]
        refine TC.loopG [1, 18, 19] (X := Nat) (fun k => k ≤ ss.length ∧ ∀ j, j < k → okS n (ss.getD j default) = true) (fun k => [(20, .int .i64 k)]) (fun k => ss.length - k) 0 ⟨Nat.zero_le _, fun j hj => absurd hj (Nat.not_lt_zero _)⟩ (by repeat (first | exact True.intro | refine And.intro rfl ?_)) ?_
        intro k hk
        refine TC.seq ?_
        refine TC.region ?_
        refine TL.pure (PV.lss rfl rfl) rfl (by decide) ?_
        refine TL.nil ?_
        refine TQ.thenC ?_
        refine TC.seq ?_
        first | refine TC.condD rfl (fun hlt => ?_) (fun hlt => ?_) | refine TC.cond rfl (fun hlt => ?_) (fun hlt => ?_)
        · skip
          refine TC.skip ?_
          refine TQ.thenC ?_
          refine TC.seq ?_
          refine TC.block ?_
          refine TC.seq ?_
          have hS1 := hS.1
          obtain ⟨q1, hq1p, pa, pb, ca, cb, hq10, hq11, hta, htb⟩ := hr k (by omega)
          refine TC.region ?_
          refine TL.pure (PV.indexA rfl hq1p rfl Tb.elm_22 rfl (by omega)) rfl (by decide) ?_
          refine TL.pure (PV.loadAggA rfl Tb.agg_63 rfl (two_cells hq10 hq11)) rfl (by decide) ?_
          refine TL.alloc Tb.zero_63 rfl (by decide) (fun b1 hb1 => ?_)
          refine TL.storeAgg (vs := [.slice pa (ss.getD k default).t.length ca, .slice pb (ss.getD k default).g.length cb]) rfl rfl Tb.cells_63 (by repeat (first | exact Upd.head _ | apply Upd.tail | apply Upd.appR)) rfl rfl rfl rfl rfl ?_
          refine TL.nil ?_
          refine TQ.thenC ?_
          refine TC.seq ?_
          refine TC.region ?_
          refine TL.pure (PV.fieldAddr rfl Tb.fo_63_0) rfl (by decide) ?_
          refine TL.pure (PV.load rfl Tb.one_25 (by repeat (first | exact List.Mem.head _ | refine List.Mem.tail _ ?_ | refine List.mem_append_right _ ?_)) rfl) rfl (by decide) ?_
          refine TL.pure (PV.fieldAddr rfl Tb.fo_24_0) rfl (by decide) ?_
          refine TL.pure (PV.load rfl Tb.one_3 (by repeat (first | exact List.Mem.head _ | refine List.Mem.tail _ ?_ | refine List.mem_append_right _ ?_)) rfl) rfl (by decide) ?_
          refine TL.call rfl Tb.gofn_70 (fun a w hs => areNumbers_ok w _ _ _ (hta.new hs.new) (hS.2 k).1 _ _ _) rfl (by decide) (fun _ _ => ?_)
          refine TL.pure ((by first | exact PV.notD rfl | exact PV.not rfl)) rfl (by decide) ?_
          refine TL.pure (PV.move rfl) rfl (by decide) ?_
          first | refine TL.splitD 30 rfl (fun a4 => ?_) (fun a4 => ?_) | refine TL.split 30 rfl (fun a4 => ?_) (fun a4 => ?_)
          · skip
            refine TL.skip rfl (fun k hk => by cases hk; decide) ?_
            refine TL.skip rfl (fun k hk => by cases hk; decide) ?_
            refine TL.skip rfl (fun k hk => by cases hk; decide) ?_
            refine TL.skip rfl (fun k hk => by cases hk; decide) ?_
            refine TL.skip rfl (fun k hk => by cases hk; decide) ?_
            refine TL.skip rfl (fun k hk => by cases hk; decide) ?_
            refine TL.pure (PV.pickT rfl rfl) rfl (by decide) ?_
            refine TL.nil ?_
            refine TQ.thenC ?_
            refine TC.condT rfl ?_
            refine TC.seq ?_
            refine TC.region ?_
            refine TL.pure (PV.assign rfl) rfl (by decide) ?_
            refine TL.nil ?_
            refine TQ.thenC ?_
            refine TC.ret ?_
            refine TQ.blkR ?_
            refine TQ.thenR ?_
            refine TQ.thenR ?_
            refine TQ.blkR ?_
            refine TQ.thenR ?_
            refine TQ.retE1 rfl rfl ?_
            exact ⟨(), by rw [valid_n (k := k) (by omega) (by omega) (by omega) (by unfold okS; simp_all)], trivial, List.nil_sublist _⟩
          · skip
            refine TL.pure (PV.fieldAddr rfl Tb.fo_63_1) rfl (by decide) ?_
            refine TL.pure (PV.load rfl Tb.one_25 (by repeat (first | exact List.Mem.head _ | refine List.Mem.tail _ ?_ | refine List.mem_append_right _ ?_)) rfl) rfl (by decide) ?_
            refine TL.pure (PV.fieldAddr rfl Tb.fo_24_0) rfl (by decide) ?_
            refine TL.pure (PV.load rfl Tb.one_3 (by repeat (first | exact List.Mem.head _ | refine List.Mem.tail _ ?_ | refine List.mem_append_right _ ?_)) rfl) rfl (by decide) ?_
            refine TL.call rfl Tb.gofn_70 (fun a w hs => areNumbers_ok w _ _ _ (htb.new hs.new) (hS.2 k).2 _ _ _) rfl (by decide) (fun _ _ => ?_)
            refine TL.pure ((by first | exact PV.notD rfl | exact PV.not rfl)) rfl (by decide) ?_
            refine TL.pure (PV.pickF rfl rfl) rfl (by decide) ?_
            refine TL.nil ?_
            refine TQ.thenC ?_
            first | refine TC.condD rfl (fun a5 => ?_) (fun a5 => ?_) | refine TC.cond rfl (fun a5 => ?_) (fun a5 => ?_)
            · skip
              refine TC.seq ?_
              refine TC.region ?_
              refine TL.pure (PV.assign rfl) rfl (by decide) ?_
              refine TL.nil ?_
              refine TQ.thenC ?_
              refine TC.ret ?_
              refine TQ.blkR ?_
              refine TQ.thenR ?_
              refine TQ.thenR ?_
              refine TQ.blkR ?_
              refine TQ.thenR ?_
              refine TQ.retE1 rfl rfl ?_
              exact ⟨(), by rw [valid_n (k := k) (by omega) (by omega) (by omega) (by unfold okS; simp_all)], trivial, List.nil_sublist _⟩
            · skip
              refine TC.skip ?_
              refine TQ.blkN ?_
              refine TQ.thenC ?_
              refine TC.region ?_
              refine TL.pure (PV.add rfl rfl (by omega)) rfl (by decide) ?_
              refine TL.pure (PV.move rfl) rfl (by decide) ?_
              refine TL.nil ?_
              refine TQ.thenN ?_
              refine TQ.backK (k + 1) (by repeat (first | exact True.intro | refine And.intro rfl ?_)) (by repeat (first | exact True.intro | refine And.intro rfl ?_)) (by repeat (first | exact List.Sublist.slnil | exact List.nil_sublist _ | exact List.Sublist.refl _ | refine List.Sublist.cons_cons _ ?_ | refine List.Sublist.cons _ ?_ | refine List.Sublist.trans ?_ (List.sublist_append_right _ _))) ⟨by omega, fun j hj => if e : j < k then hk.2 j e else (show k = j by omega) ▸ (by unfold okS; simp_all)⟩ (by omega)
        · skip
          refine TC.exit ?_
          refine TQ.thenE ?_
          refine TQ.thenE ?_
          refine TQ.blkS ?_
          refine TQ.thenC ?_
          refine TC.seq ?_
          refine TC.region ?_
          refine TL.pure (PV.assign rfl) rfl (by decide) ?_
          refine TL.nil ?_
          refine TQ.thenC ?_
          refine TC.ret ?_
          refine TQ.retE1 rfl rfl ?_
          exact ⟨(), by rw [valid_0 (by omega) (by omega) (fun j hj => hk.2 j (by omega))], trivial, List.nil_sublist _⟩

end Go.Proofs.Ytkkipbkkijoneaa
