/- Orders: contracts. -/
import Derived.Test.YtfgjojoipbbacaaQDC
set_option linter.unusedVariables false
set_option linter.unusedSimpArgs false
namespace Go.Proofs.Ytfgjojoipbbacaa
open Go.Sx Go.RowKit

theorem mem_getD {xs : List Int} {v : Int} : v ∈ xs ↔ ∃ k, k < xs.length ∧ xs.getD k 0 = v := by
  constructor
  · intro h
    obtain ⟨j, hj, rfl⟩ := List.getElem_of_mem h
    exact ⟨j, hj, by simp [List.getD, hj]⟩
  · rintro ⟨k, hk, rfl⟩
    simp [List.getD, hk]
theorem mem_op {ls : List (List Int)} {xs : List Int} {n : Nat} {v : Int} (h0 : 0 ≤ v) (hn : v < n) : v ∈ opN ls xs n ↔ opB ls xs v.toNat = true := by
  rw [mem_getD]
  constructor
  · rintro ⟨k, hk, e⟩
    obtain ⟨c, h1, h2, h3⟩ := op_get hk
    obtain rfl : v = c := by rw [← e, h2]
    rwa [Int.toNat_natCast]
  · intro h
    obtain ⟨u, h1, h2⟩ := op_idx h (n := n) (by omega)
    exact ⟨u, h1, by omega⟩
/-- What is cut behind the first so many columns of an order. -/
def hwL (n : Nat) (us : List Int) : Nat → List Int
  | 0 => List.replicate n 0
  | k + 1 => upL (hwL n us k) (us.getD k 0).toNat
theorem hw_len (n : Nat) (us : List Int) : ∀ k, (hwL n us k).length = n
  | 0 => by simp [hwL]
  | k + 1 => by show (upL (hwL n us k) _).length = n; rw [List.length_set, hw_len n us k]
abbrev oaB (ls : List (List Int)) (us : List Int) (k : Nat) : Bool := opB ls (pad6 (hwL ls.length us k)) (us.getD k 0).toNat
theorem rep_at (n k : Nat) : (List.replicate n (0 : Int)).getD k 0 = 0 := by
  by_cases hk : k < n <;> simp [List.getD, hk]
theorem ho_zero {ls : List (List Int)} (hv : VB ls) : HO ls (List.replicate ls.length 0) :=
  ⟨⟨hv, by simp, fun k => by rw [rep_at]; omega⟩, fun k _ => by rw [rep_at, rep_at]; omega⟩
theorem hw_ho {ls : List (List Int)} (hv : VB ls) {us : List Int} : ∀ k, (∀ j, j < k → 0 ≤ us.getD j 0 ∧ us.getD j 0 < ls.length ∧ oaB ls us j = true) → HO ls (hwL ls.length us k)
  | 0, _ => ho_zero hv
  | k + 1, h => (hw_ho hv k fun j hj => h j (by omega)).up (by have := h k (by omega); omega) (h k (by omega)).2.2
theorem pad_zero {n : Nat} (hn : n ≤ 6) : pad6 (List.replicate n 0) = Zl := by
  unfold pad6
  rw [List.length_replicate, List.replicate_append_replicate, show n + (6 - n) = 6 by omega]
  rfl
theorem pad_take {xs : List Int} {n : Nat} (h : xs.length = n) : (pad6 xs).take n = xs := by
  unfold pad6
  exact List.take_left' h
structure CoR where
  l : List Int
  n : Int
  e : Int
inductive OrP (ls : List (List Int)) (us : List Int) : CoR → Prop
  | bad : validI ls ≠ 0 → OrP ls us ⟨[], 0, validI ls⟩
  | long : ¬ validI ls ≠ 0 → 24 < us.length → OrP ls us ⟨[], 0, 3⟩
  | none : ¬ validI ls ≠ 0 → ¬ 24 < us.length → (∃ k, k < us.length ∧ ¬ (0 ≤ us.getD k 0 ∧ us.getD k 0 < ls.length)) → OrP ls us ⟨[], 0, 4⟩
  | rule (k : Nat) : ¬ validI ls ≠ 0 → ¬ 24 < us.length → (∀ j, j < us.length → 0 ≤ us.getD j 0 ∧ us.getD j 0 < ls.length) → k < us.length → (∀ j, j < k → oaB ls us j = true) → ¬ oaB ls us k = true → OrP ls us ⟨[], k, 6⟩
  | ok : ¬ validI ls ≠ 0 → ¬ 24 < us.length → (∀ j, j < us.length → 0 ≤ us.getD j 0 ∧ us.getD j 0 < ls.length) → (∀ j, j < us.length → oaB ls us j = true) → OrP ls us ⟨hwL ls.length us us.length, us.length, 0⟩
theorem OrP.unique {ls : List (List Int)} {us : List Int} {a b : CoR} (h : OrP ls us a) (k : OrP ls us b) : a = b := by
  cases h with
  | bad h1 => cases k with
    | bad _ => rfl
    | long k1 _ | none k1 _ _ | rule _ k1 _ _ _ _ _ | ok k1 _ _ _ => exact absurd h1 k1
  | long h1 h2 => cases k with
    | bad k1 => exact absurd k1 h1
    | long _ _ => rfl
    | none _ k2 _ | rule _ _ k2 _ _ _ _ | ok _ k2 _ _ => exact absurd h2 k2
  | none h1 h2 h3 =>
    obtain ⟨i, hi, hi2⟩ := h3
    cases k with
    | bad k1 => exact absurd k1 h1
    | long _ k2 => exact absurd k2 h2
    | none _ _ _ => rfl
    | rule _ _ _ k3 _ _ _ | ok _ _ k3 _ => exact absurd (k3 i hi) hi2
  | rule i h1 h2 h3 h4 h5 h6 => cases k with
    | bad k1 => exact absurd k1 h1
    | long _ k2 => exact absurd k2 h2
    | none _ _ k3 => obtain ⟨j, hj, hj2⟩ := k3; exact absurd (h3 j hj) hj2
    | rule j _ _ _ k4 k5 k6 =>
      rcases Nat.lt_trichotomy i j with e | e | e
      · exact absurd (k5 i e) h6
      · subst e; rfl
      · exact absurd (h5 j e) k6
    | ok _ _ _ k4 => exact absurd (k4 i h4) h6
  | ok h1 h2 h3 h4 => cases k with
    | bad k1 => exact absurd k1 h1
    | long _ k2 => exact absurd k2 h2
    | none _ _ k3 => obtain ⟨j, hj, hj2⟩ := k3; exact absurd (h3 j hj) hj2
    | rule j _ _ _ k4 _ k6 => exact absurd (h4 j k4) k6
    | ok _ _ _ _ => rfl
theorem OrP.len {ls : List (List Int)} {us : List Int} {a : CoR} (h : OrP ls us a) : a.l.length ≤ 1000000 := by
  cases h with
  | ok h1 _ _ _ => show (hwL _ _ _).length ≤ _; rw [hw_len]; have := (vb_of h1).n; omega
  | _ => exact Nat.zero_le _
set_option maxRecDepth 100000 in
theorem indexI_ok (w0 : World) (pl : Option Addr) (cl : Nat) (xs : List Int) (hx : IntsAt w0 pl xs) (hl : xs.length ≤ 1000000) (v : Int) :
    Calls Try.prog 105 #[.slice pl xs.length cl, .int .i64 v] w0 (Post (X := Int) (fun i => .int .i64 i) (fun i => (i = -1 ∧ ∀ j, j < xs.length → ¬ v = xs.getD j 0) ∨ (0 ≤ i ∧ ∃ k, k < xs.length ∧ v = xs.getD k 0)) (fun _ => []) w0) := by
  refine calls Try.func105 rfl (n := 19) rfl (by simp) ?_
  refine TC.seq ?_
  refine TC.region ?_
  refine TL.pure (PV.assign rfl) rfl (by decide) ?_
  refine TL.nil ?_
  refine TQ.thenC ?_
  refine TC.seq ?_
  refine TC.seq ?_
  refine TC.region ?_
  refine TL.pure (PV.move rfl) rfl (by decide) ?_
  refine TL.pure (PV.len rfl Tb.sl_25) rfl (by decide) ?_
  refine TL.pure (PV.move rfl) rfl (by decide) ?_
  refine TL.nil ?_
  refine TQ.thenC ?_
  refine TC.block ?_
  -- live and written in the loop, not told: [4]
  refine TC.loopG [0, 1, 7] (X := Nat) (fun k => k ≤ xs.length ∧ ∀ j, j < k → ¬ v = xs.getD j 0) (fun k => [(8, .int .i64 k)]) (fun k => xs.length - k) 0 ⟨Nat.zero_le _, fun j hj => absurd hj (Nat.not_lt_zero _)⟩ (by repeat (first | exact True.intro | refine And.intro rfl ?_)) ?_
  intro k hk
  refine TC.seq ?_
  refine TC.region ?_
  refine TL.pure (PV.lss rfl rfl) rfl (by decide) ?_
  refine TL.nil ?_
  refine TQ.thenC ?_
  refine TC.seq ?_
  first | refine TC.condD rfl (fun hlt => ?_) (fun hlt => ?_) | refine TC.cond rfl (fun hlt => ?_) (fun hlt => ?_)
  · skip
    refine TC.skip ?_
    refine TQ.thenC ?_
    refine TC.seq ?_
    refine TC.block ?_
    refine TC.seq ?_
    refine TC.region ?_
    refine TL.pure (PV.move rfl) rfl (by decide) ?_
    refine TL.pure (PV.assign rfl) rfl (by decide) ?_
    refine TL.nil ?_
    refine TQ.thenC ?_
    refine TC.seq ?_
    obtain ⟨q2, hq2p, hq2⟩ := hx k (by omega)
    refine TC.region ?_
    refine TL.pure (PV.move rfl) rfl (by decide) ?_
    refine TL.pure (PV.move rfl) rfl (by decide) ?_
    refine TL.pure (PV.move rfl) rfl (by decide) ?_
    refine TL.pure (PV.indexA rfl hq2p rfl Tb.elm_25 rfl (by omega)) rfl (by decide) ?_
    refine TL.pure (PV.loadOld rfl Tb.one_3 hq2) rfl (by decide) ?_
    refine TL.pure (PV.eql rfl rfl) rfl (by decide) ?_
    refine TL.nil ?_
    refine TQ.thenC ?_
    first | refine TC.condD rfl (fun hno => ?_) (fun hno => ?_) | refine TC.cond rfl (fun hno => ?_) (fun hno => ?_)
    · skip
      refine TC.seq ?_
      refine TC.region ?_
      refine TL.pure (PV.move rfl) rfl (by decide) ?_
      refine TL.pure (PV.assign rfl) rfl (by decide) ?_
      refine TL.nil ?_
      refine TQ.thenC ?_
      refine TC.ret ?_
      refine TQ.blkR ?_
      refine TQ.thenR ?_
      refine TQ.thenR ?_
      refine TQ.blkR ?_
      refine TQ.thenR ?_
      refine TQ.retE1 rfl rfl ?_
      first | exact ⟨k, rfl, .inr ⟨by omega, k, by omega, hno⟩, List.nil_sublist _⟩ | exact ⟨-1, rfl, .inl ⟨rfl, fun j hj => hk.2 j (by omega)⟩, List.nil_sublist _⟩
    · skip
      refine TC.skip ?_
      refine TQ.blkN ?_
      refine TQ.thenC ?_
      refine TC.region ?_
      refine TL.pure (PV.add rfl rfl (by omega)) rfl (by decide) ?_
      refine TL.pure (PV.move rfl) rfl (by decide) ?_
      refine TL.nil ?_
      refine TQ.thenN ?_
      refine TQ.backK (k + 1) (by repeat (first | exact True.intro | refine And.intro rfl ?_)) (by repeat (first | exact True.intro | refine And.intro rfl ?_)) (by repeat (first | exact List.Sublist.slnil | exact List.nil_sublist _ | exact List.Sublist.refl _ | refine List.Sublist.cons_cons _ ?_ | refine List.Sublist.cons _ ?_ | refine List.Sublist.trans ?_ (List.sublist_append_right _ _))) ⟨by omega, fun j hj => if e : j < k then hk.2 j e else (show k = j by omega) ▸ hno⟩ (by omega)
  · skip
    refine TC.exit ?_
    refine TQ.thenE ?_
    refine TQ.thenE ?_
    refine TQ.blkS ?_
    refine TQ.thenC ?_
    refine TC.seq ?_
    refine TC.region ?_
    refine TL.pure (PV.assign rfl) rfl (by decide) ?_
    refine TL.nil ?_
    refine TQ.thenC ?_
    refine TC.ret ?_
    refine TQ.retE1 rfl rfl ?_
    first | exact ⟨k, rfl, .inr ⟨by omega, k, by omega, hno⟩, List.nil_sublist _⟩ | exact ⟨-1, rfl, .inl ⟨rfl, fun j hj => hk.2 j (by omega)⟩, List.nil_sublist _⟩

set_option maxRecDepth 100000 in
theorem containsI_ok (w0 : World) (pl : Option Addr) (cl : Nat) (xs : List Int) (hx : IntsAt w0 pl xs) (hl : xs.length ≤ 1000000) (v : Int) :
    Calls Try.prog 89 #[.slice pl xs.length cl, .int .i64 v] w0 (Post (X := Unit) (fun _ => .bool (decide (v ∈ xs))) (fun _ => True) (fun _ => []) w0) := by
  refine calls Try.func89 rfl (n := 9) rfl (by simp) ?_
  refine TC.seq ?_
  refine TC.region ?_
  refine TL.pure (PV.assign rfl) rfl (by decide) ?_
  refine TL.nil ?_
  refine TQ.thenC ?_
  refine TC.seq ?_
  refine TC.region ?_
  refine TL.pure (PV.move rfl) rfl (by decide) ?_
  refine TL.pure (PV.move rfl) rfl (by decide) ?_
  refine TL.call rfl Tb.gofn_105 (fun a w hs => indexI_ok w _ _ xs (hx.new hs.new) hl v) rfl (by decide) (fun i9 hi9 => ?_)
  refine TL.pure (PV.geq rfl rfl) rfl (by decide) ?_
  refine TL.pure (PV.assign rfl) rfl (by decide) ?_
  refine TL.nil ?_
  refine TQ.thenC ?_
  refine TC.ret ?_
  refine TQ.retE1 rfl rfl ?_
  refine ⟨(), ?_, trivial, List.nil_sublist _⟩
  congr 1
  rw [decide_eq_decide, mem_getD]
  rcases hi9 with ⟨rfl, h9⟩ | ⟨h9, k, hk, hk2⟩
  · exact ⟨fun h => absurd h (by decide), fun ⟨k, hk, h⟩ => absurd h.symm (h9 k hk)⟩
  · exact ⟨fun _ => ⟨k, hk, hk2.symm⟩, fun _ => h9⟩

set_option maxRecDepth 100000 in
set_option maxHeartbeats 2000000 in
theorem CheckOrder_ok (w0 : World) (p : Option Addr) (cap : Nat) (ls : List (List Int)) (hr : LsAt w0 p ls) (pl : Option Addr) (cl : Nat) (xs : List Int) (hx : IntsAt w0 pl xs) :
    Calls Try.prog 53 #[bv p ls.length cap, .slice pl xs.length cl] w0 (Post (X := HD × CoR) (fun y => .tuple #[gval y.1 y.2.l.length, .int .i64 y.2.n, .int .i64 y.2.e]) (fun y => OrP ls xs y.2 ∧ goI (y.1, y.2.l)) (fun y => gbI (y.1, y.2.l)) w0) := by
  refine calls Try.func53 rfl (n := 55) rfl (by simp) ?_
  refine TC.seq ?_
  refine TC.region ?_
  refine TL.box rfl rfl (by decide) (fun b0 hb0 => ?_)
  refine TL.pure (PV.assign rfl) rfl (by decide) ?_
  refine TL.pure (PV.assign rfl) rfl (by decide) ?_
  refine TL.pure (PV.assign rfl) rfl (by decide) ?_
  refine TL.nil ?_
  refine TQ.thenC ?_
  refine TC.seq ?_
  refine TC.seq ?_
  refine TC.region ?_
  refine TL.pure (PV.loadBox rfl Tb.agg_24 (by repeat (first | exact List.Mem.head _ | refine List.Mem.tail _ ?_ | refine List.mem_append_right _ ?_)) rfl) rfl (by decide) ?_
  refine TL.call rfl Tb.gofn_21 (fun a w hs => validate_ok w _ _ _ (hr.new hs.new)) rfl (by decide) (fun _ _ => ?_)
  refine TL.pure (PV.assign rfl) rfl (by decide) ?_
  refine TL.nil ?_
  refine TQ.thenC ?_
  refine TC.seq ?_
  refine TC.region ?_
  refine TL.pure (PV.move rfl) rfl (by decide) ?_
  refine TL.pure (PV.neq rfl rfl) rfl (by decide) ?_
  refine TL.nil ?_
  refine TQ.thenC ?_
  first | refine TC.condD rfl (fun hbad => ?_) (fun hbad => ?_) | refine TC.cond rfl (fun hbad => ?_) (fun hbad => ?_)
  · skip
    refine TC.seq ?_
    refine TC.region ?_
    refine TL.pure (PV.move rfl) rfl (by decide) ?_
    refine TL.pure (PV.assign rfl) rfl (by decide) ?_
    refine TL.pure (PV.assign rfl) rfl (by decide) ?_
    refine TL.pure (PV.assign rfl) rfl (by decide) ?_
    refine TL.nil ?_
    refine TQ.thenC ?_
    refine TC.ret ?_
    refine TQ.thenR ?_
    refine TQ.retE3 rfl rfl rfl rfl ?_
    exact ⟨(none, ⟨[], 0, validI ls⟩), rfl, ⟨.bad hbad, goI_nil⟩, List.nil_sublist _⟩
  · skip
    refine TC.skip ?_
    refine TQ.thenC ?_
    refine TC.seq ?_
    refine TC.seq ?_
    have hb := vb_of hbad
    have hn9 := hb.n
    have hd9 := hb.d
    refine TC.region ?_
    refine TL.pure (PV.move rfl) rfl (by decide) ?_
    refine TL.pure (PV.len rfl Tb.sl_25) rfl (by decide) ?_
    refine TL.pure (PV.gtr rfl rfl) rfl (by decide) ?_
    refine TL.nil ?_
    refine TQ.thenC ?_
    first | refine TC.condD rfl (fun hlong => ?_) (fun hlong => ?_) | refine TC.cond rfl (fun hlong => ?_) (fun hlong => ?_)
    · skip
      refine TC.seq ?_
      refine TC.region ?_
      refine TL.pure (PV.assign rfl) rfl (by decide) ?_
      refine TL.pure (PV.assign rfl) rfl (by decide) ?_
      refine TL.pure (PV.assign rfl) rfl (by decide) ?_
      refine TL.nil ?_
      refine TQ.thenC ?_
      refine TC.ret ?_
      refine TQ.thenR ?_
      refine TQ.retE3 rfl rfl rfl rfl ?_
      exact ⟨(none, ⟨[], 0, 3⟩), rfl, ⟨.long hbad (by omega), goI_nil⟩, List.nil_sublist _⟩
    · skip
      refine TC.skip ?_
      refine TQ.thenC ?_
      refine TC.seq ?_
      refine TC.seq ?_
      refine TC.region ?_
      refine TL.pure (PV.move rfl) rfl (by decide) ?_
      refine TL.pure (PV.len rfl Tb.sl_25) rfl (by decide) ?_
      refine TL.pure (PV.move rfl) rfl (by decide) ?_
      refine TL.nil ?_
      refine TQ.thenC ?_
      refine TC.block ?_
      -- live and written in the loop, not told: [4, 5, 6]
      refine TC.lit [(1, _), (2, _), (21, _), (22, _), (23, _)] (by repeat (first | exact True.intro | refine And.intro rfl ?_)) ?_
      refine TC.loopG [1, 2, 21, 22] (X := Nat) (fun u => u ≤ xs.length ∧ ∀ j, j < u → 0 ≤ xs.getD j 0 ∧ xs.getD j 0 < ls.length) (fun u => [(23, .int .i64 u)]) (fun u => xs.length - u) 0 ⟨Nat.zero_le _, fun j hj => absurd hj (Nat.not_lt_zero _)⟩ (by repeat (first | exact True.intro | refine And.intro rfl ?_)) ?_
      intro u hu
      refine TC.lit [(1, _), (2, _), (21, _), (22, _), (23, _)] (by repeat (first | exact True.intro | refine And.intro rfl ?_)) ?_
      refine TC.seq ?_
      refine TC.region ?_
      refine TL.pure (PV.lss rfl rfl) rfl (by decide) ?_
      refine TL.nil ?_
      refine TQ.thenC ?_
      refine TC.seq ?_
      first | refine TC.condD rfl (fun hlt => ?_) (fun hlt => ?_) | refine TC.cond rfl (fun hlt => ?_) (fun hlt => ?_)
      · skip
        refine TC.skip ?_
        refine TQ.thenC ?_
        refine TC.seq ?_
        refine TC.block ?_
        refine TC.seq ?_
        obtain ⟨q2, hq2p, hq2⟩ := hx u (by omega)
        refine TC.region ?_
        refine TL.pure (PV.indexA rfl hq2p rfl Tb.elm_25 rfl (by omega)) rfl (by decide) ?_
        refine TL.pure (PV.loadOld rfl Tb.one_3 hq2) rfl (by decide) ?_
        refine TL.pure (PV.assign rfl) rfl (by decide) ?_
        refine TL.nil ?_
        refine TQ.thenC ?_
        refine TC.seq ?_
        refine TC.region ?_
        refine TL.pure (PV.loadBox rfl Tb.agg_24 (by repeat (first | exact List.Mem.head _ | refine List.Mem.tail _ ?_ | refine List.mem_append_right _ ?_)) rfl) rfl (by decide) ?_
        refine TL.pure (PV.move rfl) rfl (by decide) ?_
        refine TL.call rfl Tb.gofn_88 (fun a w hs => isColumn_ok w _ _ _ (hr.new hs.new) hn9 _) rfl (by decide) (fun _ _ => ?_)
        refine TL.pure ((by first | exact PV.notD rfl | exact PV.not rfl)) rfl (by decide) ?_
        refine TL.nil ?_
        refine TQ.thenC ?_
        first | refine TC.condD rfl (fun hnc => ?_) (fun hnc => ?_) | refine TC.cond rfl (fun hnc => ?_) (fun hnc => ?_)
        · skip
          refine TC.seq ?_
          refine TC.region ?_
          refine TL.pure (PV.assign rfl) rfl (by decide) ?_
          refine TL.pure (PV.assign rfl) rfl (by decide) ?_
          refine TL.pure (PV.assign rfl) rfl (by decide) ?_
          refine TL.nil ?_
          refine TQ.thenC ?_
          refine TC.ret ?_
          refine TQ.blkR ?_
          refine TQ.thenR ?_
          refine TQ.thenR ?_
          refine TQ.blkR ?_
          refine TQ.thenR ?_
          refine TQ.retE3 rfl rfl rfl rfl ?_
          exact ⟨(none, ⟨[], 0, 4⟩), rfl, ⟨.none hbad (by omega) ⟨u, by omega, (by first | omega | (have h7 := hnc; simp only [decide_eq_true_eq, decide_eq_false_iff_not, Bool.not_eq_true, Bool.not_eq_false', nrB, wiB] at h7; omega))⟩, goI_nil⟩, List.nil_sublist _⟩
        · skip
          refine TC.skip ?_
          refine TQ.blkN ?_
          refine TQ.thenC ?_
          refine TC.region ?_
          refine TL.pure (PV.add rfl rfl (by omega)) rfl (by decide) ?_
          refine TL.pure (PV.move rfl) rfl (by decide) ?_
          refine TL.nil ?_
          refine TQ.thenN ?_
          refine TQ.backK (u + 1) (by repeat (first | exact True.intro | refine And.intro rfl ?_)) (by repeat (first | exact True.intro | refine And.intro rfl ?_)) (by repeat (first | exact List.Sublist.slnil | exact List.nil_sublist _ | exact List.Sublist.refl _ | refine List.Sublist.cons_cons _ ?_ | refine List.Sublist.cons _ ?_ | refine List.Sublist.trans ?_ (List.sublist_append_right _ _))) ⟨by omega, fun j hj => if e : j < u then hu.2 j e else (show u = j by omega) ▸ (by first | omega | (have h7 := hnc; simp only [decide_eq_true_eq, decide_eq_false_iff_not, Bool.not_eq_true, Bool.not_eq_false', nrB, wiB] at h7; omega))⟩ (by omega)
      · skip
        refine TC.exit ?_
        refine TQ.thenE ?_
        refine TQ.thenE ?_
        refine TQ.blkS ?_
        refine TQ.thenC ?_
        refine TC.seq ?_
        have hrng : ∀ j, j < xs.length → 0 ≤ xs.getD j 0 ∧ xs.getD j 0 < ls.length := fun j hj => hu.2 j (by omega)
        refine TC.region ?_
        refine TL.alloc Tb.zero_69 rfl (by decide) (fun b10 hb10 => ?_)
        refine TL.nil ?_
        refine TQ.thenC ?_
        refine TC.seq ?_
        refine TC.seq ?_
        refine TC.region ?_
        refine TL.pure (PV.move rfl) rfl (by decide) ?_
        refine TL.pure (PV.len rfl Tb.sl_25) rfl (by decide) ?_
        refine TL.pure (PV.move rfl) rfl (by decide) ?_
        refine TL.nil ?_
        refine TQ.thenC ?_
        refine TC.block ?_
        -- live and written in the loop, not told: [4, 5, 6]
        refine TC.lit [(1, _), (2, _), (10, _), (32, _), (33, _), (34, _)] (by repeat (first | exact True.intro | refine And.intro rfl ?_)) ?_
        refine TC.loopK [1, 2, 10, 32, 33] (X := Nat) (fun k => k ≤ xs.length ∧ ∀ j, j < k → oaB ls xs j = true) (fun k => [(34, .int .i64 k)]) (fun k => (b10, Obj.cells (intsA (pad6 (hwL ls.length xs k))) 69 (0, 0)) :: [(b0, Obj.cells #[.slice p ls.length cap] 24 (0, 0))]) (fun k => xs.length - k) 0 ⟨Nat.zero_le _, fun j hj => absurd hj (Nat.not_lt_zero _)⟩ (by repeat (first | exact True.intro | refine And.intro rfl ?_)) (by rw [show hwL ls.length xs 0 = List.replicate ls.length 0 from rfl, pad_zero hn9.2]; exact List.Sublist.refl _) ?_
        intro k hk
        refine TC.lit [(1, _), (2, _), (10, _), (32, _), (33, _), (34, _)] (by repeat (first | exact True.intro | refine And.intro rfl ?_)) ?_
        refine TC.seq ?_
        refine TC.region ?_
        refine TL.pure (PV.lss rfl rfl) rfl (by decide) ?_
        refine TL.nil ?_
        refine TQ.thenC ?_
        refine TC.seq ?_
        first | refine TC.condD rfl (fun hlt2 => ?_) (fun hlt2 => ?_) | refine TC.cond rfl (fun hlt2 => ?_) (fun hlt2 => ?_)
        · skip
          refine TC.skip ?_
          refine TQ.thenC ?_
          refine TC.seq ?_
          refine TC.block ?_
          refine TC.seq ?_
          obtain ⟨q2, hq2p, hq2⟩ := hx k (by omega)
          have hzk := hrng k (by omega)
          have hzt : xs.getD k 0 = ((xs.getD k 0).toNat : Int) := by omega
          have hlw := hw_len ls.length xs k
          have h6 : (pad6 (hwL ls.length xs k)).length = 6 := pad_len (by omega)
          have hho := hw_ho hb k (fun j hj => ⟨(hrng j (by omega)).1, (hrng j (by omega)).2, hk.2 j hj⟩)
          refine TC.region ?_
          refine TL.pure (PV.move rfl) rfl (by decide) ?_
          refine TL.pure (PV.indexA rfl hq2p rfl Tb.elm_25 rfl (by omega)) rfl (by decide) ?_
          refine TL.pure (PV.loadOld rfl Tb.one_3 hq2) rfl (by decide) ?_
          refine TL.pure (PV.assign rfl) rfl (by decide) ?_
          refine TL.pure (PV.assign rfl) rfl (by decide) ?_
          refine TL.nil ?_
          refine TQ.thenC ?_
          refine TC.seq ?_
          refine TC.seq ?_
          refine TC.region ?_
          refine TL.pure (PV.loadBox rfl Tb.agg_24 (by repeat (first | exact List.Mem.head _ | refine List.Mem.tail _ ?_ | refine List.mem_append_right _ ?_)) rfl) rfl (by decide) ?_
          refine TL.pure (PV.loadBox (cs := (pad6 (hwL ls.length xs k)).map (Value.int .i64)) rfl Tb.agg_69 (by repeat (first | exact List.Mem.head _ | refine List.Mem.tail _ ?_ | refine List.mem_append_right _ ?_)) (map_len h6)) rfl (by decide) ?_
          refine TL.call rfl Tb.gofn_86 (fun a w hs => open_ok w _ _ _ (hr.new hs.new) hn9 (pad6 (hwL ls.length xs k)) h6) rfl (by decide) (fun h9 hh9 => ?_)
          refine TL.pure (PV.move rfl) rfl (by decide) ?_
          refine TL.call rfl Tb.gofn_89 (fun a w hs => (by rw [show gvI (h9, opN ls (pad6 (hwL ls.length xs k)) ls.length) = .slice (gp h9) _ (gc h9) from gval_eq hh9]; exact containsI_ok w _ _ _ (IntsAt.g (x := (h9, opN ls (pad6 (hwL ls.length xs k)) ls.length)) hs.new (fun yy hyy => by repeat (first | exact List.mem_append_left _ hyy | exact List.mem_append_left _ (List.mem_append_right _ hyy) | exact List.mem_append_left _ (List.mem_append_left _ hyy) | refine List.mem_append_right _ ?_ | refine List.Mem.tail _ ?_)) hh9) (by show (opN ls (pad6 (hwL ls.length xs k)) ls.length).length ≤ 1000000; have := op_len ls (pad6 (hwL ls.length xs k)) ls.length; omega) _)) rfl (by decide) (fun _ _ => ?_)
          refine TL.pure ((by first | exact PV.notD rfl | exact PV.not rfl)) rfl (by decide) ?_
          refine TL.nil ?_
          refine TQ.thenC ?_
          first | refine TC.condD rfl (fun hno => ?_) (fun hno => ?_) | refine TC.cond rfl (fun hno => ?_) (fun hno => ?_)
          · skip
            refine TC.seq ?_
            refine TC.region ?_
            refine TL.pure (PV.move rfl) rfl (by decide) ?_
            refine TL.pure (PV.assign rfl) rfl (by decide) ?_
            refine TL.pure (PV.assign rfl) rfl (by decide) ?_
            refine TL.pure (PV.assign rfl) rfl (by decide) ?_
            refine TL.nil ?_
            refine TQ.thenC ?_
            refine TC.ret ?_
            refine TQ.thenR ?_
            refine TQ.blkR ?_
            refine TQ.thenR ?_
            refine TQ.thenR ?_
            refine TQ.blkR ?_
            refine TQ.thenR ?_
            refine TQ.retE3 rfl rfl rfl rfl ?_
            exact ⟨(none, ⟨[], k, 6⟩), rfl, ⟨.rule k hbad (by omega) hrng (by omega) hk.2 (fun h => by first | exact hno ((mem_op hzk.1 hzk.2).2 h) | (rw [decide_eq_true ((mem_op hzk.1 hzk.2).2 h)] at hno; exact absurd hno (by decide))), goI_nil⟩, List.nil_sublist _⟩
          · skip
            refine TC.skip ?_
            refine TQ.thenC ?_
            refine TC.region ?_
            refine TL.pure (PV.loadBox (cs := (pad6 (hwL ls.length xs k)).map (Value.int .i64)) rfl Tb.agg_69 (by repeat (first | exact List.Mem.head _ | refine List.Mem.tail _ ?_ | refine List.mem_append_right _ ?_)) (map_len h6)) rfl (by decide) ?_
            refine TL.pure (PV.move rfl) rfl (by decide) ?_
            refine TL.call rfl Tb.gofn_90 (fun a w hs => (by rw [hzt]; exact deeper_ok w (pad6 (hwL ls.length xs k)) h6 (xs.getD k 0).toNat (by omega) (by rw [pad_at]; have := hho.at_ (xs.getD k 0).toNat; omega))) rfl (by decide) (fun _ _ => ?_)
            have hset : (pad6 (hwL ls.length xs k)).set (xs.getD k 0).toNat ((pad6 (hwL ls.length xs k)).getD (xs.getD k 0).toNat 0 + 1) = pad6 (hwL ls.length xs (k + 1)) := (pad_up (by omega) (by omega)).symm
            have h6s := hw_len ls.length xs (k + 1)
            rw [hset]
            refine TL.storeAgg (vs := (pad6 (hwL ls.length xs (k + 1))).map (Value.int .i64)) rfl rfl Tb.cells_69 (by repeat (first | exact Upd.head _ | apply Upd.tail | apply Upd.appR)) (map_len (pad_len (by omega))) (map_len h6) (ints_one _) rfl rfl ?_
            refine TL.nil ?_
            refine TQ.blkN ?_
            refine TQ.thenC ?_
            refine TC.region ?_
            refine TL.pure (PV.add rfl rfl (by omega)) rfl (by decide) ?_
            refine TL.pure (PV.move rfl) rfl (by decide) ?_
            refine TL.nil ?_
            refine TQ.thenN ?_
            refine TQ.backK (k + 1) (by repeat (first | exact True.intro | refine And.intro rfl ?_)) (by repeat (first | exact True.intro | refine And.intro rfl ?_)) (List.sublist_append_right _ _) ⟨by omega, fun j hj => if e : j < k then hk.2 j e else (show k = j by omega) ▸ (mem_op hzk.1 hzk.2).1 (by simpa using hno)⟩ (by omega)
        · skip
          refine TC.exit ?_
          refine TQ.thenE ?_
          refine TQ.thenE ?_
          refine TQ.blkS ?_
          refine TQ.thenC ?_
          refine TC.seq ?_
          have hlw := hw_len ls.length xs k
          have h6 : (pad6 (hwL ls.length xs k)).length = 6 := pad_len (by omega)
          have hke : k = xs.length := by omega
          refine TC.region ?_
          refine TL.pure (PV.loadBox (cs := (pad6 (hwL ls.length xs k)).map (Value.int .i64)) rfl Tb.agg_69 (by repeat (first | exact List.Mem.head _ | refine List.Mem.tail _ ?_ | refine List.mem_append_right _ ?_)) (map_len h6)) rfl (by decide) ?_
          refine TL.pure (PV.loadBox rfl Tb.agg_24 (by repeat (first | exact List.Mem.head _ | refine List.Mem.tail _ ?_ | refine List.mem_append_right _ ?_)) rfl) rfl (by decide) ?_
          refine TL.call rfl Tb.gofn_85 (fun a w hs => in_ok w (pad6 (hwL ls.length xs k)) h6 _ _ _ (hr.new hs.new) hn9) rfl (by decide) (fun h9 hh9 => ?_)
          refine TL.pure (PV.move rfl) rfl (by decide) ?_
          refine TL.pure (PV.len rfl Tb.sl_25) rfl (by decide) ?_
          refine TL.pure (PV.assign rfl) rfl (by decide) ?_
          refine TL.pure (PV.assign rfl) rfl (by decide) ?_
          refine TL.pure (PV.assign rfl) rfl (by decide) ?_
          refine TL.nil ?_
          refine TQ.thenC ?_
          refine TC.ret ?_
          refine TQ.retE3 rfl rfl rfl rfl ?_
          have ht : (pad6 (hwL ls.length xs k)).take ls.length = hwL ls.length xs xs.length := by rw [pad_take (by rw [hlw]), hke]
          exact ⟨(h9, ⟨hwL ls.length xs xs.length, xs.length, 0⟩), by rw [ht], ⟨.ok hbad (by omega) hrng (fun j hj => hk.2 j (by omega)), by rw [← ht]; exact hh9⟩, by rw [ht]; exact List.sublist_append_left _ _⟩

end Go.Proofs.Ytfgjojoipbbacaa
