/- Which heaps are valid, and numbers within limits: contracts. -/
import Derived.Test.YtbnjmkidbfmomaaGreatDoorQMA
import Derived.Test.YtbnjmkidbfmomaaGreatDoorQSd
import Derived.Test.YtbnjmkidbfmomaaGreatDoorQMD
set_option linter.unusedVariables false
set_option linter.unusedSimpArgs false
namespace Go.Proofs.YtbnjmkidbfmomaaGreatDoor.H
open Go.Sx Go.RowKit Go.Sand

abbrev hv (p : Option Addr) (n c : Nat) (q : Option Addr) (k d : Nat) : Value := .agg #[.slice p n c, .slice q k d]
def wiB (a lo hi : Int) : Bool := decide (lo ≤ a ∧ a ≤ hi)
theorem all_no {α : Type} {l : List α} {f : α → Bool} {k : Nat} {d : α} (hk : k < l.length) (h : f (l.getD k d) = false) : l.all f = false := by
  rw [Bool.eq_false_iff]
  intro h1
  have := List.all_eq_true.1 h1 (l.getD k d) (by simp [List.getD, hk])
  rw [this] at h
  cases h
theorem all_yes {α : Type} {l : List α} {f : α → Bool} {d : α} (h : ∀ k, k < l.length → f (l.getD k d) = true) : l.all f = true := by
  refine List.all_eq_true.2 fun x hx => ?_
  obtain ⟨j, hj, rfl⟩ := List.getElem_of_mem hx
  have := h j hj
  simpa [List.getD, hj] using this
theorem all_at' {α : Type} {l : List α} {f : α → Bool} {k : Nat} {d : α} (h : l.all f = true) (hk : k < l.length) : f (l.getD k d) = true := by
  rw [List.all_eq_true] at h
  exact h _ (by simp [List.getD, hk])
def numB (n most : Int) (xs : List Int) : Bool := decide ((xs.length : Int) = n) && xs.all fun x => wiB x 0 most
abbrev lk (ls : List (List Int)) : Nat → Nat → Int := fun i j => getM ls i j
abbrev gd (gs : List Int) : Nat → Int := fun i => gs.getD i 0
def MutP (ls : List (List Int)) (n : Nat) : Prop := ∀ i j, i < n → j < n → getM ls i j = getM ls j i ∧ (i = j → getM ls i j = 0)
structure Shp (ls : List (List Int)) (gs : List Int) : Prop where
  n : 1 ≤ gs.length ∧ gs.length ≤ 5
  len : ls.length = gs.length
  row : ∀ k, k < ls.length → numB gs.length 2 (ls.getD k []) = true
  gr : numB gs.length 2 gs = true
  mu : MutP ls gs.length
/-- Turves can get from each heap to the ground. -/
def JoiP (ls : List (List Int)) (gs : List Int) : Prop := ∀ i, i < gs.length → Rch gs.length (lk ls) (gd gs) i
open Classical in
noncomputable def validI (ls : List (List Int)) (gs : List Int) : Int := if Shp ls gs then if JoiP ls gs then 0 else 9 else 1
theorem valid_1 {ls : List (List Int)} {gs : List Int} (h : ¬ Shp ls gs) : validI ls gs = 1 := if_neg h
theorem valid_9 {ls : List (List Int)} {gs : List Int} (h : Shp ls gs) (h2 : ¬ JoiP ls gs) : validI ls gs = 9 := by unfold validI; rw [if_pos h, if_neg h2]
theorem valid_0 {ls : List (List Int)} {gs : List Int} (h : Shp ls gs) (h2 : JoiP ls gs) : validI ls gs = 0 := by unfold validI; rw [if_pos h, if_pos h2]
theorem num_len {n most : Int} {xs : List Int} (h : numB n most xs = true) : (xs.length : Int) = n := by
  unfold numB at h
  simp only [Bool.and_eq_true, decide_eq_true_eq] at h
  exact h.1
theorem num_at {n most : Int} {xs : List Int} (h : numB n most xs = true) (h0 : 0 ≤ most) (k : Nat) : 0 ≤ xs.getD k 0 ∧ xs.getD k 0 ≤ most := by
  unfold numB at h
  simp only [Bool.and_eq_true, decide_eq_true_eq] at h
  by_cases hk : k < xs.length
  · have := all_at' (d := 0) h.2 hk
    exact of_decide_eq_true this
  · have e : xs.getD k 0 = 0 := by simp [List.getD, hk]
    omega
theorem num_1 {n most : Int} {xs : List Int} (h : ¬ (xs.length : Int) = n) : numB n most xs = false := by unfold numB; rw [decide_eq_false h, Bool.false_and]
theorem Shp.rowl {ls : List (List Int)} {gs : List Int} (h : Shp ls gs) {k : Nat} (hk : k < ls.length) : (ls.getD k []).length = gs.length := by
  have := num_len (h.row k hk)
  omega
theorem Shp.ent {ls : List (List Int)} {gs : List Int} (h : Shp ls gs) (i j : Nat) : 0 ≤ getM ls i j ∧ getM ls i j ≤ 2 := by
  by_cases hi : i < ls.length
  · exact num_at (h.row i hi) (by decide) j
  · have e : ls.getD i [] = [] := by simp [List.getD, hi]
    unfold getM
    rw [e]
    exact ⟨by simp, by simp⟩
theorem Shp.gat {ls : List (List Int)} {gs : List Int} (h : Shp ls gs) (i : Nat) : 0 ≤ gs.getD i 0 ∧ gs.getD i 0 ≤ 2 := num_at h.gr (by decide) i
/-- What is known of valid heaps. -/
structure HB (ls : List (List Int)) (gs : List Int) : Prop extends Shp ls gs where
  G : Gr gs.length (lk ls) (gd gs)
theorem hb_of {ls : List (List Int)} {gs : List Int} (h : ¬ validI ls gs ≠ 0) : HB ls gs := by
  have h0 := Decidable.of_not_not h
  by_cases h1 : Shp ls gs
  · by_cases h2 : JoiP ls gs
    · exact ⟨h1, ⟨fun i j _ _ => (h1.ent i j).1, fun i j hi hj => (h1.mu i j hi hj).1, fun i _ => (h1.gat i).1, h2⟩⟩
    · rw [valid_9 h1 h2] at h0; cases h0
  · rw [valid_1 h1] at h0; cases h0
/-- The first element that a test takes. -/
def Fst (φ : Int → Bool) (xs : List Int) (i : Int) : Prop := (i = -1 ∧ ∀ j, j < xs.length → φ (xs.getD j 0) = false) ∨ ∃ k : Nat, i = k ∧ k < xs.length ∧ φ (xs.getD k 0) = true
theorem fst_any {φ : Int → Bool} {xs : List Int} {i : Int} (h : Fst φ xs i) : xs.any φ = decide (0 ≤ i) := by
  rcases h with ⟨rfl, h⟩ | ⟨k, rfl, hk, h⟩
  · rw [decide_eq_false (by decide), List.any_eq_false]
    intro x hx
    obtain ⟨j, hj, rfl⟩ := List.getElem_of_mem hx
    have := h j hj
    simpa [List.getD, hj] using this
  · rw [decide_eq_true (by omega), List.any_eq_true]
    exact ⟨xs.getD k 0, by simp [List.getD, hk], h⟩
theorem any_all (most : Int) : ∀ xs : List Int, (!xs.any fun x => decide (x < 0) || decide (most < x)) = xs.all fun x => wiB x 0 most
  | [] => rfl
  | x :: xs => by
    rw [List.any_cons, List.all_cons, Bool.not_or, any_all most xs]
    congr 1
    unfold wiB
    rw [Bool.eq_iff_iff]
    simp

set_option maxRecDepth 100000 in
theorem indexFunc_ok (w0 : World) (pl : Option Addr) (cl : Nat) (xs : List Int) (hx : IntsAt w0 pl xs) (hl : xs.length ≤ 1000000) (f : FuncId) (caps : List Value) (φ : Int → Bool) (hfn : goFn Tryz.prog f = true) (hcb : ∀ w G, New w0 w G → ∀ x : Int, Calls Tryz.prog f (Value.int .i64 x :: caps).toArray w (Post (X := Unit) (fun _ => .bool (φ x)) (fun _ => True) (fun _ => []) w)) :
    Calls Tryz.prog 202 #[.slice pl xs.length cl, .func (.func f) #[] caps.toArray] w0 (Post (X := Int) (fun i => .int .i64 i) (fun i => Fst φ xs i) (fun _ => []) w0) := by
  refine calls Tryz.func202 rfl (n := 19) rfl (by simp) ?_
  refine TC.seq ?_
  refine TC.region ?_
  refine TL.pure (PV.assign rfl) rfl (by decide) ?_
  refine TL.nil ?_
  refine TQ.thenC ?_
  refine TC.seq ?_
  refine TC.seq ?_
  refine TC.region ?_
  refine TL.pure (PV.move rfl) rfl (by decide) ?_
  refine TL.pure (PV.len rfl Tb.sl_25) rfl (by decide) ?_
  refine TL.pure (PV.move rfl) rfl (by decide) ?_
  refine TL.nil ?_
  refine TQ.thenC ?_
  refine TC.block ?_
  -- live and written in the loop, not told: [4]
  refine TC.loopG [0, 1, 7] (X := Nat) (fun k => k ≤ xs.length ∧ ∀ j, j < k → φ (xs.getD j 0) = false) (fun k => [(8, .int .i64 k)]) (fun k => xs.length - k) 0 ⟨Nat.zero_le _, fun j hj => absurd hj (Nat.not_lt_zero _)⟩ (by repeat (first | exact True.intro | refine And.intro rfl ?_)) ?_
  intro k hk
  refine TC.seq ?_
  refine TC.region ?_
  refine TL.pure (PV.lss rfl rfl) rfl (by decide) ?_
  refine TL.nil ?_
  refine TQ.thenC ?_
  refine TC.seq ?_
  first | refine TC.condD rfl (fun hlt => ?_) (fun hlt => ?_) | refine TC.cond rfl (fun hlt => ?_) (fun hlt => ?_)
  · refine TC.skip ?_
    refine TQ.thenC ?_
    refine TC.seq ?_
    refine TC.block ?_
    refine TC.seq ?_
    refine TC.region ?_
    refine TL.pure (PV.move rfl) rfl (by decide) ?_
    refine TL.pure (PV.assign rfl) rfl (by decide) ?_
    refine TL.nil ?_
    refine TQ.thenC ?_
    refine TC.seq ?_
    obtain ⟨q2, hq2p, hq2⟩ := hx k (by omega)
    refine TC.region ?_
    refine TL.pure (PV.move rfl) rfl (by decide) ?_
    refine TL.pure (PV.move rfl) rfl (by decide) ?_
    refine TL.pure (PV.move rfl) rfl (by decide) ?_
    refine TL.pure (PV.indexA rfl hq2p rfl Tb.elm_25 rfl (by omega)) rfl (by decide) ?_
    refine TL.pure (PV.loadOld rfl Tb.one_3 hq2) rfl (by decide) ?_
    refine TL.callF (f := f) (caps := caps) (X := Unit) (fun _ => .bool (φ (xs.getD k 0))) (fun _ => True) (fun _ => []) rfl rfl hfn (fun a w hs => (hcb w _ hs.new (xs.getD k 0)).mono fun e w' ⟨x9, h1, h2, h3⟩ => ⟨x9, h1, h2, hs.new.trans h3⟩) rfl (by decide) (fun _ _ => ?_)
    refine TL.nil ?_
    refine TQ.thenC ?_
    first | refine TC.condD rfl (fun hno => ?_) (fun hno => ?_) | refine TC.cond rfl (fun hno => ?_) (fun hno => ?_)
    · refine TC.seq ?_
      refine TC.region ?_
      refine TL.pure (PV.move rfl) rfl (by decide) ?_
      refine TL.pure (PV.assign rfl) rfl (by decide) ?_
      refine TL.nil ?_
      refine TQ.thenC ?_
      refine TC.ret ?_
      refine TQ.blkR ?_
      refine TQ.thenR ?_
      refine TQ.thenR ?_
      refine TQ.blkR ?_
      refine TQ.thenR ?_
      refine TQ.retE1 rfl rfl ?_
      first | exact ⟨k, rfl, .inr ⟨k, rfl, by omega, by simpa using hno⟩, List.nil_sublist _⟩ | exact ⟨-1, rfl, .inl ⟨rfl, fun j hj => hk.2 j (by omega)⟩, List.nil_sublist _⟩
    · refine TC.skip ?_
      refine TQ.blkN ?_
      refine TQ.thenC ?_
      refine TC.region ?_
      refine TL.pure (PV.add rfl rfl (by omega)) rfl (by decide) ?_
      refine TL.pure (PV.move rfl) rfl (by decide) ?_
      refine TL.nil ?_
      refine TQ.thenN ?_
      refine TQ.backK (k + 1) (by repeat (first | exact True.intro | refine And.intro rfl ?_)) (by repeat (first | exact True.intro | refine And.intro rfl ?_)) (by repeat (first | exact .slnil | exact List.nil_sublist _ | exact .refl _ | refine .cons_cons _ ?_ | refine .cons _ ?_ | refine .trans ?_ (List.sublist_append_right _ _))) ⟨by omega, fun j hj => if e : j < k then hk.2 j e else (show k = j by omega) ▸ (by simpa using hno)⟩ (by omega)
  · refine TC.exit ?_
    refine TQ.thenE ?_
    refine TQ.thenE ?_
    refine TQ.blkS ?_
    refine TQ.thenC ?_
    refine TC.seq ?_
    refine TC.region ?_
    refine TL.pure (PV.assign rfl) rfl (by decide) ?_
    refine TL.nil ?_
    refine TQ.thenC ?_
    refine TC.ret ?_
    refine TQ.retE1 rfl rfl ?_
    first | exact ⟨k, rfl, .inr ⟨k, rfl, by omega, by simpa using hno⟩, List.nil_sublist _⟩ | exact ⟨-1, rfl, .inl ⟨rfl, fun j hj => hk.2 j (by omega)⟩, List.nil_sublist _⟩

set_option maxRecDepth 100000 in
theorem containsFunc_ok (w0 : World) (pl : Option Addr) (cl : Nat) (xs : List Int) (hx : IntsAt w0 pl xs) (hl : xs.length ≤ 1000000) (f : FuncId) (caps : List Value) (φ : Int → Bool) (hfn : goFn Tryz.prog f = true) (hcb : ∀ w G, New w0 w G → ∀ x : Int, Calls Tryz.prog f (Value.int .i64 x :: caps).toArray w (Post (X := Unit) (fun _ => .bool (φ x)) (fun _ => True) (fun _ => []) w)) :
    Calls Tryz.prog 170 #[.slice pl xs.length cl, .func (.func f) #[] caps.toArray] w0 (Post (X := Unit) (fun _ => .bool (xs.any φ)) (fun _ => True) (fun _ => []) w0) := by
  refine calls Tryz.func170 rfl (n := 9) rfl (by simp) ?_
  refine TC.seq ?_
  refine TC.region ?_
  refine TL.pure (PV.assign rfl) rfl (by decide) ?_
  refine TL.nil ?_
  refine TQ.thenC ?_
  refine TC.seq ?_
  refine TC.region ?_
  refine TL.pure (PV.move rfl) rfl (by decide) ?_
  refine TL.pure (PV.move rfl) rfl (by decide) ?_
  refine TL.call rfl Tb.gofn_202 (fun a w hs => indexFunc_ok w _ _ xs (hx.new hs.new) hl f caps φ hfn (fun w2 G2 hn2 x => hcb w2 _ (hs.new.trans hn2) x)) rfl (by decide) (fun i9 hi9 => ?_)
  refine TL.pure (PV.geq rfl rfl) rfl (by decide) ?_
  refine TL.pure (PV.assign rfl) rfl (by decide) ?_
  refine TL.nil ?_
  refine TQ.thenC ?_
  refine TC.ret ?_
  refine TQ.retE1 rfl rfl ?_
  exact ⟨(), by rw [fst_any hi9], trivial, List.nil_sublist _⟩

set_option maxRecDepth 100000 in
theorem areNumbersF_ok (w0 : World) (x most : Int) (a : Addr) (ha : w0.cell? a = some (.int .i64 most)) :
    Calls Tryz.prog 171 #[.int .i64 x, .pointer (some a)] w0 (Post (X := Unit) (fun _ => .bool (decide (x < 0) || decide (most < x))) (fun _ => True) (fun _ => []) w0) := by
  refine calls Tryz.func171 rfl (n := 11) rfl (by simp) ?_
  refine TC.seq ?_
  refine TC.region ?_
  refine TL.pure (PV.assign rfl) rfl (by decide) ?_
  refine TL.nil ?_
  refine TQ.thenC ?_
  refine TC.seq ?_
  refine TC.region ?_
  refine TL.pure (PV.move rfl) rfl (by decide) ?_
  refine TL.pure (PV.lss rfl rfl) rfl (by decide) ?_
  refine TL.pure (PV.move rfl) rfl (by decide) ?_
  first | refine TL.splitD 6 rfl (fun e1 => ?_) (fun e1 => ?_) | refine TL.split 6 rfl (fun e1 => ?_) (fun e1 => ?_)
  · refine TL.skip rfl (fun k hk => by cases hk; decide) ?_
    refine TL.skip rfl (fun k hk => by cases hk; decide) ?_
    refine TL.skip rfl (fun k hk => by cases hk; decide) ?_
    refine TL.pure (PV.pickT rfl rfl) rfl (by decide) ?_
    refine TL.pure (PV.assign rfl) rfl (by decide) ?_
    refine TL.nil ?_
    refine TQ.thenC ?_
    refine TC.ret ?_
    refine TQ.retE1 rfl rfl ?_
    first | exact ⟨(), by rw [decide_eq_true e1]; rfl, trivial, List.nil_sublist _⟩ | exact ⟨(), by rw [decide_eq_false e1]; rfl, trivial, List.nil_sublist _⟩
  · refine TL.pure (PV.move rfl) rfl (by decide) ?_
    refine TL.pure (PV.loadOld rfl Tb.one_3 (ha)) rfl (by decide) ?_
    refine TL.pure (PV.gtr rfl rfl) rfl (by decide) ?_
    refine TL.pure (PV.pickF rfl rfl) rfl (by decide) ?_
    refine TL.pure (PV.assign rfl) rfl (by decide) ?_
    refine TL.nil ?_
    refine TQ.thenC ?_
    refine TC.ret ?_
    refine TQ.retE1 rfl rfl ?_
    first | exact ⟨(), by rw [decide_eq_true e1]; rfl, trivial, List.nil_sublist _⟩ | exact ⟨(), by rw [decide_eq_false e1]; rfl, trivial, List.nil_sublist _⟩

set_option maxRecDepth 100000 in
theorem areNumbers_ok (w0 : World) (pl : Option Addr) (cl : Nat) (xs : List Int) (hx : IntsAt w0 pl xs) (hl : xs.length ≤ 1000000) (n most : Int) :
    Calls Tryz.prog 135 #[.slice pl xs.length cl, .int .i64 n, .int .i64 most] w0 (Post (X := Unit) (fun _ => .bool (numB n most xs)) (fun _ => True) (fun _ => []) w0) := by
  refine calls Tryz.func135 rfl (n := 17) rfl (by simp) ?_
  refine TC.seq ?_
  refine TC.region ?_
  refine TL.box rfl rfl (by decide) (fun b0 hb0 => ?_)
  refine TL.pure (PV.assign rfl) rfl (by decide) ?_
  refine TL.nil ?_
  refine TQ.thenC ?_
  refine TC.seq ?_
  refine TC.region ?_
  refine TL.pure (PV.move rfl) rfl (by decide) ?_
  refine TL.pure (PV.len rfl Tb.sl_25) rfl (by decide) ?_
  refine TL.pure (PV.move rfl) rfl (by decide) ?_
  refine TL.pure (PV.eql rfl rfl) rfl (by decide) ?_
  refine TL.pure (PV.move rfl) rfl (by decide) ?_
  first | refine TL.splitD 11 rfl (fun e1 => ?_) (fun e1 => ?_) | refine TL.split 11 rfl (fun e1 => ?_) (fun e1 => ?_)
  · refine TL.pure (PV.move rfl) rfl (by decide) ?_
    refine TL.pure (PV.makeFunc rfl) rfl (by decide) ?_
    refine TL.call rfl Tb.gofn_170 (fun a w hs => containsFunc_ok w _ _ xs (hx.new hs.new) hl 171 [.pointer (some ⟨b0, 0, none⟩)] (fun x => decide (x < 0) || decide (most < x)) Tb.gofn_171 (fun w2 G2 hn2 x => areNumbersF_ok w2 x most ⟨b0, 0, none⟩ ((hs.new.trans hn2).cell (by repeat (first | exact List.Mem.head _ | refine List.Mem.tail _ ?_ | refine List.mem_append_right _ ?_)) rfl))) rfl (by decide) (fun _ _ => ?_)
    refine TL.pure ((by first | exact PV.notD rfl | exact PV.not rfl)) rfl (by decide) ?_
    refine TL.pure (PV.pickT rfl rfl) rfl (by decide) ?_
    refine TL.pure (PV.assign rfl) rfl (by decide) ?_
    refine TL.nil ?_
    refine TQ.thenC ?_
    refine TC.ret ?_
    refine TQ.retE1 rfl rfl ?_
    first | exact ⟨(), by unfold numB; rw [decide_eq_true e1, any_all]; rfl, trivial, List.nil_sublist _⟩ | exact ⟨(), by rw [num_1 e1], trivial, List.nil_sublist _⟩
  · refine TL.skip rfl (fun k hk => by cases hk; decide) ?_
    refine TL.skip rfl (fun k hk => by cases hk; decide) ?_
    refine TL.skip rfl (fun k hk => by cases hk; decide) ?_
    refine TL.skip rfl (fun k hk => by cases hk; decide) ?_
    refine TL.pure (PV.pickF rfl rfl) rfl (by decide) ?_
    refine TL.pure (PV.assign rfl) rfl (by decide) ?_
    refine TL.nil ?_
    refine TQ.thenC ?_
    refine TC.ret ?_
    refine TQ.retE1 rfl rfl ?_
    first | exact ⟨(), by unfold numB; rw [decide_eq_true e1, any_all]; rfl, trivial, List.nil_sublist _⟩ | exact ⟨(), by rw [num_1 e1], trivial, List.nil_sublist _⟩

end Go.Proofs.YtbnjmkidbfmomaaGreatDoor.H
