/- Heapings, limits, what is calm: contracts. -/
import Derived.Test.YtbnjmkidbfmomaaGreatDoorQHc
set_option linter.unusedVariables false
set_option linter.unusedSimpArgs false
namespace Go.Proofs.YtbnjmkidbfmomaaGreatDoor.H
open Go.Sx Go.RowKit Go.Sand

noncomputable def givI (ls : List (List Int)) (gs : List Int) (xss : List (List Int)) : Int := if validI ls gs ≠ 0 then validI ls gs else if xss.all (numB gs.length 30) = true then 0 else 1
theorem giv_bad {ls : List (List Int)} {gs : List Int} {xss : List (List Int)} (h : validI ls gs ≠ 0) : givI ls gs xss = validI ls gs := if_pos h
theorem giv_1 {ls : List (List Int)} {gs : List Int} {xss : List (List Int)} {k : Nat} (h : ¬ validI ls gs ≠ 0) (hk : k < xss.length) (h2 : numB gs.length 30 (xss.getD k []) = false) : givI ls gs xss = 1 := by
  unfold givI
  rw [if_neg h, if_neg (by rw [all_no hk h2]; decide)]
theorem giv_0 {ls : List (List Int)} {gs : List Int} {xss : List (List Int)} (h : ¬ validI ls gs ≠ 0) (h2 : ∀ k, k < xss.length → numB gs.length 30 (xss.getD k []) = true) : givI ls gs xss = 0 := by
  unfold givI
  rw [if_neg h, if_pos (all_yes h2)]
theorem giv_hb {ls : List (List Int)} {gs : List Int} {xss : List (List Int)} (h : ¬ givI ls gs xss ≠ 0) : HB ls gs ∧ ∀ k, k < xss.length → numB gs.length 30 (xss.getD k []) = true := by
  have h0 := Decidable.of_not_not h
  by_cases h1 : validI ls gs ≠ 0
  · rw [giv_bad h1] at h0; exact absurd h0 h1
  · refine ⟨hb_of h1, fun k hk => ?_⟩
    unfold givI at h0
    rw [if_neg h1] at h0
    by_cases h2 : xss.all (numB gs.length 30) = true
    · exact all_at' h2 hk
    · rw [if_neg h2] at h0; cases h0
theorem giv_ne {ls : List (List Int)} {gs : List Int} {x : List Int} {xss : List (List Int)} (h : ¬ givI ls gs (x :: xss) ≠ 0) : x.length = gs.length ∧ ∀ k, 0 ≤ x.getD k 0 ∧ x.getD k 0 ≤ 30 := by
  have h1 := (giv_hb h).2 0 (by simp)
  have h2 := num_len h1
  exact ⟨by simp only [List.getD_cons_zero] at h2; omega, fun k => num_at h1 (by decide) k⟩
abbrev limI (ls : List (List Int)) (gs : List Int) (i : Nat) : Int := lim gs.length (lk ls) (gd gs) i
theorem sm_two {ls : List (List Int)} {gs : List Int} (h : Shp ls gs) (i : Nat) : ∀ k : Nat, 0 ≤ sm k (lk ls i) ∧ sm k (lk ls i) ≤ 2 * k
  | 0 => by simp [sm]
  | k + 1 => by
    have h1 := sm_two h i k
    have h2 := h.ent i k
    have e : sm (k + 1) (lk ls i) = sm k (lk ls i) + getM ls i k := rfl
    omega
theorem HB.lim {ls : List (List Int)} {gs : List Int} (h : HB ls gs) {i : Nat} (hi : i < gs.length) : 1 ≤ limI ls gs i ∧ limI ls gs i ≤ 12 := by
  have h1 := lim_pos h.G hi
  have h2 := sm_two h.toShp i gs.length
  have h3 := h.gat i
  have h4 := h.n
  refine ⟨h1, ?_⟩
  unfold limI Sand.lim
  show gs.getD i 0 + _ ≤ 12
  omega
def calmB (ls : List (List Int)) (gs : List Int) (xs : List Int) : Bool := (List.range xs.length).all fun i => decide (xs.getD i 0 < limI ls gs i)
theorem ints_ext {xs ys : List Int} (hl : xs.length = ys.length) (h : ∀ j, j < xs.length → xs.getD j 0 = ys.getD j 0) : xs = ys := by
  refine List.ext_getElem hl fun j h1 h2 => ?_
  have := h j h1
  simpa [List.getD, h1, h2] using this
theorem fill_o (x : Option Addr) (n c : Nat) : Instr.fill (fun i => some (i * 1, 1)) ((Array.range (1 * 1)).map ((Value.slice none 0 0).cells[· % (Value.slice none 0 0).cells.size]!)) [(0, .slice x n c)] = some #[.slice x n c] := by kernel_rfl
theorem LsAt.one {w0 w : World} {G : Heap} {bO cl : Nat} {e : TypeId} {pl : Option Addr} {xs : List Int} (hn : New w0 w G) (hO : (bO, Obj.cells #[.slice pl xs.length cl] e (0, 0)) ∈ G) (hx : IntsAt w pl xs) : LsAt w (some ⟨bO, 0, none⟩) [xs] := by
  intro j hj
  have e : j = 0 := by simp only [List.length_cons, List.length_nil] at hj; omega
  subst e
  refine ⟨_, rfl, pl, cl, ?_, hx⟩
  rw [add_off]
  exact hn.cell hO rfl
theorem LsAt.two {w0 w : World} {G : Heap} {bO cl c2 : Nat} {e : TypeId} {pl p2 : Option Addr} {xs ys : List Int} (hn : New w0 w G) (hO : (bO, Obj.cells #[.slice pl xs.length cl, .slice p2 ys.length c2] e (0, 0)) ∈ G) (hx : IntsAt w pl xs) (hy : IntsAt w p2 ys) : LsAt w (some ⟨bO, 0, none⟩) [xs, ys] := by
  intro j hj
  have e : j = 0 ∨ j = 1 := by simp only [List.length_cons, List.length_nil] at hj; omega
  rcases e with rfl | rfl
  · refine ⟨_, rfl, pl, cl, ?_, hx⟩
    rw [add_off]
    exact hn.cell hO rfl
  · refine ⟨_, rfl, p2, c2, ?_, hy⟩
    rw [add_off]
    exact hn.cell hO rfl
def eqN (xs ys : List Int) : Nat → Bool
  | 0 => true
  | k + 1 => eqN xs ys k && decide (xs.getD k 0 = ys.getD k 0)

set_option maxRecDepth 100000 in
set_option maxHeartbeats 1000000 in
theorem validateHeapings_ok (w0 : World) (p : Option Addr) (cp : Nat) (ls : List (List Int)) (hr : LsAt w0 p ls) (q : Option Addr) (cq : Nat) (gs : List Int) (hg : IntsAt w0 q gs) (hlo : ∀ k, (ls.getD k []).length ≤ 1000000) (pv : Option Addr) (cv : Nat) (xss : List (List Int)) (hxv : LsAt w0 pv xss) (hvl : xss.length ≤ 1000000) (hvo : ∀ k, (xss.getD k []).length ≤ 1000000) :
    Calls Tryz.prog 158 #[hv p ls.length cp q gs.length cq, .slice pv xss.length cv] w0 (Post (X := Unit) (fun _ => .int .i64 (givI ls gs xss)) (fun _ => True) (fun _ => []) w0) := by
  refine calls Tryz.func158 rfl (n := 26) rfl (by simp) ?_
  refine TC.seq ?_
  refine TC.region ?_
  refine TL.box rfl rfl (by decide) (fun b0 hb0 => ?_)
  refine TL.pure (PV.assign rfl) rfl (by decide) ?_
  refine TL.nil ?_
  refine TQ.thenC ?_
  refine TC.seq ?_
  refine TC.seq ?_
  refine TC.region ?_
  refine TL.pure (PV.loadBox rfl Tb.agg_27 (by repeat (first | exact List.Mem.head _ | refine List.Mem.tail _ ?_ | refine List.mem_append_right _ ?_)) rfl) rfl (by decide) ?_
  refine TL.call rfl Tb.gofn_97 (fun a w hs => validate_ok w _ _ _ (hr.new hs.new) _ _ _ (hg.new hs.new) hlo) rfl (by decide) (fun _ _ => ?_)
  refine TL.pure (PV.assign rfl) rfl (by decide) ?_
  refine TL.nil ?_
  refine TQ.thenC ?_
  refine TC.seq ?_
  refine TC.region ?_
  refine TL.pure (PV.move rfl) rfl (by decide) ?_
  refine TL.pure (PV.neq rfl rfl) rfl (by decide) ?_
  refine TL.nil ?_
  refine TQ.thenC ?_
  first | refine TC.condD rfl (fun hbad => ?_) (fun hbad => ?_) | refine TC.cond rfl (fun hbad => ?_) (fun hbad => ?_)
  · refine TC.seq ?_
    refine TC.region ?_
    refine TL.pure (PV.move rfl) rfl (by decide) ?_
    refine TL.pure (PV.assign rfl) rfl (by decide) ?_
    refine TL.nil ?_
    refine TQ.thenC ?_
    refine TC.ret ?_
    refine TQ.thenR ?_
    refine TQ.retE1 rfl rfl ?_
    exact ⟨(), by rw [giv_bad hbad], trivial, List.nil_sublist _⟩
  · refine TC.skip ?_
    refine TQ.thenC ?_
    refine TC.seq ?_
    refine TC.seq ?_
    refine TC.region ?_
    refine TL.pure (PV.move rfl) rfl (by decide) ?_
    refine TL.pure (PV.len rfl Tb.sl_22) rfl (by decide) ?_
    refine TL.pure (PV.move rfl) rfl (by decide) ?_
    refine TL.nil ?_
    refine TQ.thenC ?_
    refine TC.block ?_
    -- live and written in the loop, not told: [4]
    refine TC.loopG [2, 13, 14] (X := Nat) (fun k => k ≤ xss.length ∧ ∀ j, j < k → numB gs.length 30 (xss.getD j []) = true) (fun k => [(15, .int .i64 k)]) (fun k => xss.length - k) 0 ⟨Nat.zero_le _, fun j hj => absurd hj (Nat.not_lt_zero _)⟩ (by repeat (first | exact True.intro | refine And.intro rfl ?_)) ?_
    intro k hk
    refine TC.seq ?_
    refine TC.region ?_
    refine TL.pure (PV.lss rfl rfl) rfl (by decide) ?_
    refine TL.nil ?_
    refine TQ.thenC ?_
    refine TC.seq ?_
    first | refine TC.condD rfl (fun hlt => ?_) (fun hlt => ?_) | refine TC.cond rfl (fun hlt => ?_) (fun hlt => ?_)
    · refine TC.skip ?_
      refine TQ.thenC ?_
      refine TC.seq ?_
      refine TC.block ?_
      refine TC.seq ?_
      obtain ⟨q1, hq1p, p1, c1, hq1, hi1⟩ := hxv k (by omega)
      refine TC.region ?_
      refine TL.pure (PV.indexA rfl hq1p rfl Tb.elm_22 rfl (by omega)) rfl (by decide) ?_
      refine TL.pure (PV.loadOld rfl Tb.one_25 hq1) rfl (by decide) ?_
      refine TL.pure (PV.assign rfl) rfl (by decide) ?_
      refine TL.nil ?_
      refine TQ.thenC ?_
      refine TC.seq ?_
      refine TC.region ?_
      refine TL.pure (PV.move rfl) rfl (by decide) ?_
      refine TL.pure (PV.fieldAddr rfl Tb.fo_27_1) rfl (by decide) ?_
      refine TL.pure (PV.load rfl Tb.one_25 (by repeat (first | exact List.Mem.head _ | refine List.Mem.tail _ ?_ | refine List.mem_append_right _ ?_)) rfl) rfl (by decide) ?_
      refine TL.pure (PV.len rfl Tb.sl_25) rfl (by decide) ?_
      refine TL.call rfl Tb.gofn_135 (fun a w hs => areNumbers_ok w _ _ _ (hi1.new hs.new) (hvo k) _ _) rfl (by decide) (fun _ _ => ?_)
      refine TL.pure ((by first | exact PV.notD rfl | exact PV.not rfl)) rfl (by decide) ?_
      refine TL.nil ?_
      refine TQ.thenC ?_
      first | refine TC.condD rfl (fun hno => ?_) (fun hno => ?_) | refine TC.cond rfl (fun hno => ?_) (fun hno => ?_)
      · refine TC.seq ?_
        refine TC.region ?_
        refine TL.pure (PV.assign rfl) rfl (by decide) ?_
        refine TL.nil ?_
        refine TQ.thenC ?_
        refine TC.ret ?_
        refine TQ.blkR ?_
        refine TQ.thenR ?_
        refine TQ.thenR ?_
        refine TQ.blkR ?_
        refine TQ.thenR ?_
        refine TQ.retE1 rfl rfl ?_
        exact ⟨(), by rw [giv_1 (k := k) hbad (by omega) (by simpa using hno)], trivial, List.nil_sublist _⟩
      · refine TC.skip ?_
        refine TQ.blkN ?_
        refine TQ.thenC ?_
        refine TC.region ?_
        refine TL.pure (PV.add rfl rfl (by omega)) rfl (by decide) ?_
        refine TL.pure (PV.move rfl) rfl (by decide) ?_
        refine TL.nil ?_
        refine TQ.thenN ?_
        refine TQ.backK (k + 1) (by repeat (first | exact True.intro | refine And.intro rfl ?_)) (by repeat (first | exact True.intro | refine And.intro rfl ?_)) (by repeat (first | exact .slnil | exact List.nil_sublist _ | exact .refl _ | refine .cons_cons _ ?_ | refine .cons _ ?_ | refine .trans ?_ (List.sublist_append_right _ _))) ⟨by omega, fun j hj => if e : j < k then hk.2 j e else (show k = j by omega) ▸ (by simpa using hno)⟩ (by omega)
    · refine TC.exit ?_
      refine TQ.thenE ?_
      refine TQ.thenE ?_
      refine TQ.blkS ?_
      refine TQ.thenC ?_
      refine TC.seq ?_
      refine TC.region ?_
      refine TL.pure (PV.assign rfl) rfl (by decide) ?_
      refine TL.nil ?_
      refine TQ.thenC ?_
      refine TC.ret ?_
      refine TQ.retE1 rfl rfl ?_
      exact ⟨(), by rw [giv_0 hbad (fun j hj => hk.2 j (by omega))], trivial, List.nil_sublist _⟩

set_option maxRecDepth 100000 in
theorem isHeap_ok (w0 : World) (p : Option Addr) (cp : Nat) (ls : List (List Int)) (hr : LsAt w0 p ls) (q : Option Addr) (cq : Nat) (gs : List Int) (hg : IntsAt w0 q gs) (i : Int) :
    Calls Tryz.prog 239 #[hv p ls.length cp q gs.length cq, .int .i64 i] w0 (Post (X := Unit) (fun _ => .bool (decide (0 ≤ i ∧ i < gs.length))) (fun _ => True) (fun _ => []) w0) := by
  refine calls Tryz.func239 rfl (n := 14) rfl (by simp) ?_
  refine TC.seq ?_
  refine TC.region ?_
  refine TL.box rfl rfl (by decide) (fun b0 hb0 => ?_)
  refine TL.pure (PV.assign rfl) rfl (by decide) ?_
  refine TL.nil ?_
  refine TQ.thenC ?_
  refine TC.seq ?_
  refine TC.region ?_
  refine TL.pure (PV.move rfl) rfl (by decide) ?_
  refine TL.pure (PV.geq rfl rfl) rfl (by decide) ?_
  refine TL.pure (PV.move rfl) rfl (by decide) ?_
  first | refine TL.splitD 7 rfl (fun e1 => ?_) (fun e1 => ?_) | refine TL.split 7 rfl (fun e1 => ?_) (fun e1 => ?_)
  · refine TL.pure (PV.move rfl) rfl (by decide) ?_
    refine TL.pure (PV.fieldAddr rfl Tb.fo_27_1) rfl (by decide) ?_
    refine TL.pure (PV.load rfl Tb.one_25 (by repeat (first | exact List.Mem.head _ | refine List.Mem.tail _ ?_ | refine List.mem_append_right _ ?_)) rfl) rfl (by decide) ?_
    refine TL.pure (PV.len rfl Tb.sl_25) rfl (by decide) ?_
    refine TL.pure (PV.lss rfl rfl) rfl (by decide) ?_
    refine TL.pure (PV.pickT rfl rfl) rfl (by decide) ?_
    refine TL.pure (PV.assign rfl) rfl (by decide) ?_
    refine TL.nil ?_
    refine TQ.thenC ?_
    refine TC.ret ?_
    refine TQ.retE1 rfl rfl ?_
    first | exact ⟨(), by rw [decide_eq_false (by omega : ¬ (0 ≤ i ∧ i < gs.length))], trivial, List.nil_sublist _⟩ | exact ⟨(), by congr 1; rw [decide_eq_decide]; omega, trivial, List.nil_sublist _⟩
  · refine TL.skip rfl (fun k hk => by cases hk; decide) ?_
    refine TL.skip rfl (fun k hk => by cases hk; decide) ?_
    refine TL.skip rfl (fun k hk => by cases hk; decide) ?_
    refine TL.skip rfl (fun k hk => by cases hk; decide) ?_
    refine TL.skip rfl (fun k hk => by cases hk; decide) ?_
    refine TL.pure (PV.pickF rfl rfl) rfl (by decide) ?_
    refine TL.pure (PV.assign rfl) rfl (by decide) ?_
    refine TL.nil ?_
    refine TQ.thenC ?_
    refine TC.ret ?_
    refine TQ.retE1 rfl rfl ?_
    first | exact ⟨(), by rw [decide_eq_false (by omega : ¬ (0 ≤ i ∧ i < gs.length))], trivial, List.nil_sublist _⟩ | exact ⟨(), by congr 1; rw [decide_eq_decide]; omega, trivial, List.nil_sublist _⟩

set_option maxRecDepth 100000 in
theorem limit_ok (w0 : World) (p : Option Addr) (cp : Nat) (ls : List (List Int)) (hr : LsAt w0 p ls) (q : Option Addr) (cq : Nat) (gs : List Int) (hg : IntsAt w0 q gs) (hB : HB ls gs) (i : Nat) (hi : i < gs.length) :
    Calls Tryz.prog 219 #[hv p ls.length cp q gs.length cq, .int .i64 i] w0 (Post (X := Unit) (fun _ => .int .i64 (limI ls gs i)) (fun _ => True) (fun _ => []) w0) := by
  have hn9 := hB.n
  have hl9 := hB.len
  have hrk := hB.rowl (k := i) (by omega)
  have hga := hB.gat i
  refine calls Tryz.func219 rfl (n := 28) rfl (by simp) ?_
  refine TC.seq ?_
  refine TC.region ?_
  refine TL.box rfl rfl (by decide) (fun b0 hb0 => ?_)
  refine TL.pure (PV.assign rfl) rfl (by decide) ?_
  refine TL.nil ?_
  refine TQ.thenC ?_
  refine TC.seq ?_
  obtain ⟨q3, hq3p, hq3⟩ := hg i (by omega)
  obtain ⟨q1, hq1p, p1, c1, hq1, hi1⟩ := hr i (by omega)
  refine TC.region ?_
  refine TL.pure (PV.fieldAddr rfl Tb.fo_27_1) rfl (by decide) ?_
  refine TL.pure (PV.load rfl Tb.one_25 (by repeat (first | exact List.Mem.head _ | refine List.Mem.tail _ ?_ | refine List.mem_append_right _ ?_)) rfl) rfl (by decide) ?_
  refine TL.pure (PV.move rfl) rfl (by decide) ?_
  refine TL.pure (PV.indexA rfl hq3p rfl Tb.elm_25 rfl (by omega)) rfl (by decide) ?_
  refine TL.pure (PV.loadOld rfl Tb.one_3 hq3) rfl (by decide) ?_
  refine TL.pure (PV.assign rfl) rfl (by decide) ?_
  refine TL.nil ?_
  refine TQ.thenC ?_
  refine TC.seq ?_
  refine TC.seq ?_
  refine TC.region ?_
  refine TL.pure (PV.fieldAddr rfl Tb.fo_27_0) rfl (by decide) ?_
  refine TL.pure (PV.load rfl Tb.one_22 (by repeat (first | exact List.Mem.head _ | refine List.Mem.tail _ ?_ | refine List.mem_append_right _ ?_)) rfl) rfl (by decide) ?_
  refine TL.pure (PV.move rfl) rfl (by decide) ?_
  refine TL.pure (PV.indexA rfl hq1p rfl Tb.elm_22 rfl (by omega)) rfl (by decide) ?_
  refine TL.pure (PV.loadOld rfl Tb.one_25 hq1) rfl (by decide) ?_
  refine TL.pure (PV.len rfl Tb.sl_25) rfl (by decide) ?_
  refine TL.pure (PV.move rfl) rfl (by decide) ?_
  refine TL.nil ?_
  refine TQ.thenC ?_
  refine TC.block ?_
  refine TC.loopG [4, 17, 18] (X := Nat) (fun k => k ≤ gs.length) (fun k => [(19, .int .i64 k), (5, .int .i64 (gs.getD i 0 + sm k (lk ls i)))]) (fun k => gs.length - k) 0 (Nat.zero_le _) (by refine And.intro rfl (And.intro ?_ True.intro); show some _ = some _; simp [sm]) ?_
  intro k hk
  refine TC.seq ?_
  refine TC.region ?_
  refine TL.pure (PV.lss rfl rfl) rfl (by decide) ?_
  refine TL.nil ?_
  refine TQ.thenC ?_
  refine TC.seq ?_
  first | refine TC.condD rfl (fun h0 => ?_) (fun h0 => ?_) | refine TC.cond rfl (fun h0 => ?_) (fun h0 => ?_)
  · refine TC.skip ?_
    refine TQ.thenC ?_
    refine TC.seq ?_
    refine TC.block ?_
    refine TC.seq ?_
    obtain ⟨q2, hq2p, hq2⟩ := hi1 k (by omega)
    have hsm := sm_two hB.toShp i k
    have hen : 0 ≤ (ls.getD i []).getD k 0 ∧ (ls.getD i []).getD k 0 ≤ 2 := hB.ent i k
    refine TC.region ?_
    refine TL.pure (PV.indexA rfl hq2p rfl Tb.elm_25 rfl (by omega)) rfl (by decide) ?_
    refine TL.pure (PV.loadOld rfl Tb.one_3 hq2) rfl (by decide) ?_
    refine TL.pure (PV.assign rfl) rfl (by decide) ?_
    refine TL.nil ?_
    refine TQ.thenC ?_
    refine TC.region ?_
    refine TL.pure (PV.move rfl) rfl (by decide) ?_
    refine TL.pure (PV.move rfl) rfl (by decide) ?_
    refine TL.pure (PV.add rfl rfl (by omega)) rfl (by decide) ?_
    refine TL.pure (PV.assign rfl) rfl (by decide) ?_
    refine TL.nil ?_
    refine TQ.blkN ?_
    refine TQ.thenC ?_
    refine TC.region ?_
    refine TL.pure (PV.add rfl rfl (by omega)) rfl (by decide) ?_
    refine TL.pure (PV.move rfl) rfl (by decide) ?_
    refine TL.nil ?_
    refine TQ.thenN ?_
    refine TQ.backK (k + 1) (by refine And.intro rfl (And.intro ?_ True.intro); show some _ = some _; unfold lk getM; first | rfl | (rw [Int.add_assoc]; rfl)) (by repeat (first | exact True.intro | refine And.intro rfl ?_)) (by repeat (first | exact .slnil | exact List.nil_sublist _ | exact .refl _ | refine .cons_cons _ ?_ | refine .cons _ ?_ | refine .trans ?_ (List.sublist_append_right _ _))) (by omega) (by omega)
  · refine TC.exit ?_
    refine TQ.thenE ?_
    refine TQ.thenE ?_
    refine TQ.blkS ?_
    refine TQ.thenC ?_
    refine TC.seq ?_
    refine TC.region ?_
    refine TL.pure (PV.move rfl) rfl (by decide) ?_
    refine TL.pure (PV.assign rfl) rfl (by decide) ?_
    refine TL.nil ?_
    refine TQ.thenC ?_
    refine TC.ret ?_
    refine TQ.retE1 rfl rfl ?_
    exact ⟨(), by rw [show k = gs.length by omega]; rfl, trivial, List.nil_sublist _⟩

end Go.Proofs.YtbnjmkidbfmomaaGreatDoor.H
