/- Sums, squares, what is cut: contracts. -/
import Derived.Test.YtbnjmkidbfmomaaGreatDoorQME
import Derived.Test.YtbnjmkidbfmomaaGreatDoorQSv
import Derived.Test.YtbnjmkidbfmomaaGreatDoorQSw
import Derived.Test.YtbnjmkidbfmomaaGreatDoorQMD
set_option linter.unusedVariables false
set_option linter.unusedSimpArgs false
namespace Go.Proofs.YtbnjmkidbfmomaaGreatDoor
open Go.Sx Go.RowKit Go.Bt Go.Lib Go.Sand

theorem nil25_guard (x y : Operand) (a : Option Addr) (k c : Nat) (w : World) : (eqGuard .eql 25 x y (.slice a k c) (.slice none 0 0)).run Tryz.prog w = .ok () w := by simp [eqGuard]
theorem nil25 (a : Option Addr) (k c : Nat) (w : World) : (binOp .eql 25 (.slice a k c) (.slice none 0 0)).run Tryz.prog w = .ok (.bool a.isNone) w := Go.Lib.run_eql_slice_nil w 25 3 a k c 0 0 Tb.sl_25
/-- A list's sum so far. -/
abbrev sK (xs : List Int) (k : Nat) : Int := sm k fun j => xs.getD j 0
theorem sK_succ (xs : List Int) (k : Nat) : sK xs (k + 1) = sK xs k + xs.getD k 0 := rfl
theorem sK_bd {xs : List Int} (h : ∀ k, -1000000 ≤ xs.getD k 0 ∧ xs.getD k 0 ≤ 1000000) : ∀ k : Nat, -1000000 * (k : Int) ≤ sK xs k ∧ sK xs k ≤ 1000000 * (k : Int)
  | 0 => by simp [sK, Sand.sm]
  | k + 1 => by
    have h1 := sK_bd h k
    have h2 := h k
    rw [sK_succ]; omega
def bareK (s : St) (hol : List Int) (k j : Nat) : Nat := Mo.msk s.md.N fun i => (decide (i % s.W.length < k) && decide (((i / s.W.length : Nat) : Int) < hol.getD (i % s.W.length) 0)) || (decide (i % s.W.length = k) && decide (i / s.W.length < j))
theorem bareK_t (s : St) (hol : List Int) (k j i : Nat) : (bareK s hol k j).testBit i = (decide (i < s.md.N) && ((decide (i % s.W.length < k) && decide (((i / s.W.length : Nat) : Int) < hol.getD (i % s.W.length) 0)) || (decide (i % s.W.length = k) && decide (i / s.W.length < j)))) := Mo.msk_t _ _ _
theorem bareK_zero (s : St) (hol : List Int) : bareK s hol 0 0 = 0 := Nat.eq_of_testBit_eq fun i => by rw [bareK_t]; simp
theorem bareK_end {s : St} (hv : SV s) (hol : List Int) : bareK s hol s.W.length 0 = bare s hol := Nat.eq_of_testBit_eq fun i => by
  rw [bareK_t, bare_t, decide_eq_true (Nat.mod_lt i (by have := hv.n5; omega))]; simp
theorem bareK_col {s : St} {hol : List Int} {k j : Nat} (hj : ((j : Nat) : Int) = hol.getD k 0) : bareK s hol k j = bareK s hol (k + 1) 0 := Nat.eq_of_testBit_eq fun i => by
  rw [bareK_t, bareK_t]
  congr 1
  by_cases h1 : i % s.W.length < k
  · rw [decide_eq_true h1, decide_eq_true (show i % s.W.length < k + 1 by omega), decide_eq_false (show ¬ i % s.W.length = k by omega), decide_eq_false (show ¬ i % s.W.length = k + 1 by omega)]; simp
  · by_cases h2 : i % s.W.length = k
    · rw [decide_eq_false h1, decide_eq_true h2, decide_eq_true (show i % s.W.length < k + 1 by omega), decide_eq_false (show ¬ i % s.W.length = k + 1 by omega), h2, ← hj]
      simp only [Bool.true_and, Bool.false_and, Bool.or_false, Bool.false_or]
      exact decide_eq_decide.2 (by omega)
    · rw [decide_eq_false h1, decide_eq_false h2, decide_eq_false (show ¬ i % s.W.length < k + 1 by omega)]; simp
theorem bareK_row {s : St} {hol : List Int} {k j : Nat} (hk : k < s.W.length) (hj : j < C.dep s.W) : bareK s hol k (j + 1) = bareK s hol k j ||| 2 ^ (s.sq j k) := Nat.eq_of_testBit_eq fun i => by
  rw [Nat.testBit_or, bareK_t, bareK_t, Nat.testBit_two_pow]
  have h := sq_at (s := s) (r := j) (c := k) hk
  have hN := sq_lt (s := s) (r := j) (c := k) hk hj
  by_cases e : s.sq j k = i
  · subst e
    rw [decide_eq_true (rfl : s.sq j k = s.sq j k), h.2.1, h.2.2, decide_eq_true hN]; simp
  · rw [decide_eq_false e, Bool.or_false]
    by_cases hi : i < s.md.N
    · rw [decide_eq_true hi, Bool.true_and, Bool.true_and]
      congr 1
      by_cases h2 : i % s.W.length = k
      · rw [decide_eq_true h2, Bool.true_and, Bool.true_and]
        have h3 : i / s.W.length ≠ j := fun h4 => e (by rw [h.1, ← h2, ← h4, Nat.mul_comm]; exact Nat.div_add_mod i _)
        exact decide_eq_decide.2 (by omega)
      · rw [decide_eq_false h2]; rfl
    · rw [decide_eq_false hi]; rfl
theorem bareK_lt (s : St) (hol : List Int) (k j : Nat) : bareK s hol k j < 2 ^ s.md.N := Mo.msk_lt _ _
theorem sq_cast {s : St} {r k : Int} (hr : 0 ≤ r) (hk : 0 ≤ k) : r * (s.W.length : Int) + k = ((s.sq r k : Nat) : Int) := by
  have : 0 ≤ r * (s.W.length : Int) := Int.mul_nonneg hr (by omega)
  show _ = (((r * (s.W.length : Int) + k).toNat : Nat) : Int)
  omega

set_option maxRecDepth 100000 in
theorem sum_ok (w0 : World) (p : Option Addr) (n : Nat) (xs : List Int) (hx : IntsAt w0 p xs) (hl : xs.length ≤ 1000000) (hb : ∀ k, -1000000 ≤ xs.getD k 0 ∧ xs.getD k 0 ≤ 1000000) :
    Calls Tryz.prog 111 #[.slice p xs.length n] w0 (Post (X := Unit) (fun _ => .int .i64 (sL xs)) (fun _ => True) (fun _ => []) w0) := by
  refine calls Tryz.func111 rfl (n := 17) rfl (by simp) ?_
  refine TC.seq ?_
  refine TC.region ?_
  refine TL.pure (PV.assign rfl) rfl (by decide) ?_
  refine TL.nil ?_
  refine TQ.thenC ?_
  refine TC.seq ?_
  refine TC.region ?_
  refine TL.pure (PV.assign rfl) rfl (by decide) ?_
  refine TL.nil ?_
  refine TQ.thenC ?_
  refine TC.seq ?_
  refine TC.seq ?_
  refine TC.region ?_
  refine TL.pure (PV.move rfl) rfl (by decide) ?_
  refine TL.pure (PV.len rfl Tb.sl_25) rfl (by decide) ?_
  refine TL.pure (PV.move rfl) rfl (by decide) ?_
  refine TL.nil ?_
  refine TQ.thenC ?_
  refine TC.block ?_
  refine TC.loopK [2, 6, 7] (X := Nat) (fun k => k ≤ xs.length) (fun k => [(8, .int .i64 (k : Nat)), (3, .int .i64 (sK xs k))]) (fun k => []) (fun k => xs.length - k) 0 (Nat.zero_le _) (by repeat (first | exact True.intro | refine And.intro rfl ?_)) (by repeat (first | exact .slnil | exact List.nil_sublist _ | exact .refl _ | refine .cons_cons _ ?_ | refine .cons _ ?_ | refine .trans ?_ (List.sublist_append_right _ _))) ?_
  intro k hk
  refine TC.seq ?_
  refine TC.region ?_
  refine TL.pure (PV.lss rfl rfl) rfl (by decide) ?_
  refine TL.nil ?_
  refine TQ.thenC ?_
  refine TC.seq ?_
  first | refine TC.condD rfl (fun hlt => ?_) (fun hlt => ?_) | refine TC.cond rfl (fun hlt => ?_) (fun hlt => ?_)
  · refine TC.skip ?_
    refine TQ.thenC ?_
    refine TC.seq ?_
    refine TC.block ?_
    refine TC.seq ?_
    obtain ⟨q, qp, qv⟩ := hx k (by omega)
    refine TC.region ?_
    refine TL.pure (PV.indexA rfl qp rfl Tb.elm_25 rfl (by omega)) rfl (by decide) ?_
    refine TL.pure (PV.loadOld rfl Tb.one_3 qv) rfl (by decide) ?_
    refine TL.pure (PV.assign rfl) rfl (by decide) ?_
    refine TL.nil ?_
    refine TQ.thenC ?_
    have h1 := sK_bd hb k
    have h2 := hb k
    refine TC.region ?_
    refine TL.pure (PV.move rfl) rfl (by decide) ?_
    refine TL.pure (PV.move rfl) rfl (by decide) ?_
    refine TL.pure (PV.add rfl rfl (by omega)) rfl (by decide) ?_
    refine TL.pure (PV.assign rfl) rfl (by decide) ?_
    refine TL.nil ?_
    refine TQ.blkN ?_
    refine TQ.thenC ?_
    refine TC.region ?_
    refine TL.pure (PV.add rfl rfl (by omega)) rfl (by decide) ?_
    refine TL.pure (PV.move rfl) rfl (by decide) ?_
    refine TL.nil ?_
    refine TQ.thenN ?_
    refine TQ.backK (k + 1) (by repeat (first | exact True.intro | refine And.intro rfl ?_)) (by repeat (first | exact True.intro | refine And.intro rfl ?_)) (by repeat (first | exact .slnil | exact List.nil_sublist _ | exact .refl _ | refine .cons_cons _ ?_ | refine .cons _ ?_ | refine .trans ?_ (List.sublist_append_right _ _))) (by omega) (by omega)
  · refine TC.exit ?_
    refine TQ.thenE ?_
    refine TQ.thenE ?_
    refine TQ.blkS ?_
    refine TQ.thenC ?_
    refine TC.seq ?_
    have hke : k = xs.length := by omega
    refine TC.region ?_
    refine TL.pure (PV.move rfl) rfl (by decide) ?_
    refine TL.pure (PV.assign rfl) rfl (by decide) ?_
    refine TL.nil ?_
    refine TQ.thenC ?_
    refine TC.ret ?_
    refine TQ.retE1 rfl rfl ?_
    exact ⟨(), by rw [hke]; rfl, trivial, List.nil_sublist _⟩

set_option maxRecDepth 100000 in
theorem onHeaps_ok (w0 : World) (c : Co) (v : TV) (hx : IntsAt w0 v.pt c.tur) (hl : c.tur.length ≤ 1000000) (hb : ∀ k, -1000000 ≤ c.tur.getD k 0 ∧ c.tur.getD k 0 ≤ 1000000) :
    Calls Tryz.prog 112 #[.agg (tyL c v).toArray] w0 (Post (X := Unit) (fun _ => .int .i64 (sL c.tur)) (fun _ => True) (fun _ => []) w0) := by
  refine calls Tryz.func112 rfl (n := 6) rfl (by simp) ?_
  refine TC.seq ?_
  refine TC.region ?_
  refine TL.box rfl rfl (by decide) (fun b0 hb0 => ?_)
  refine TL.pure (PV.assign rfl) rfl (by decide) ?_
  refine TL.nil ?_
  refine TQ.thenC ?_
  refine TC.seq ?_
  refine TC.region ?_
  refine TL.pure (PV.fieldAddr rfl Tb.fo_101_2) rfl (by decide) ?_
  refine TL.pure (PV.load rfl Tb.one_25 (by repeat (first | exact List.Mem.head _ | refine List.Mem.tail _ ?_ | refine List.mem_append_right _ ?_)) rfl) rfl (by decide) ?_
  refine TL.call rfl Tb.gofn_111 (fun a w hs => sum_ok w _ _ c.tur (hx.new hs.new) hl hb) rfl (by decide) (fun _ _ => ?_)
  refine TL.pure (PV.assign rfl) rfl (by decide) ?_
  refine TL.nil ?_
  refine TQ.thenC ?_
  refine TC.ret ?_
  refine TQ.retE1 rfl rfl ?_
  exact ⟨(), rfl, trivial, List.nil_sublist _⟩

set_option maxRecDepth 100000 in
theorem square_ok (w0 : World) (s : St) (c : Co) (v : TV) (hl : c.hol.length = s.W.length) (h6 : s.W.length ≤ 6) (r k : Int) (hr : 0 ≤ r ∧ r ≤ 2000) (hk : 0 ≤ k ∧ k ≤ 2000) :
    Calls Tryz.prog 160 #[.agg (tyL c v).toArray, .int .i64 r, .int .i64 k] w0 (Post (X := Unit) (fun _ => .int .i64 (s.sq r k : Nat)) (fun _ => True) (fun _ => []) w0) := by
  have hm0 : 0 ≤ r * (c.hol.length : Int) := Int.mul_nonneg hr.1 (by omega)
  have hm1 : r * (c.hol.length : Int) ≤ 2000 * 6 := Int.mul_le_mul hr.2 (by omega) (by omega) (by omega)
  refine calls Tryz.func160 rfl (n := 14) rfl (by simp) ?_
  refine TC.seq ?_
  refine TC.region ?_
  refine TL.box rfl rfl (by decide) (fun b0 hb0 => ?_)
  refine TL.pure (PV.assign rfl) rfl (by decide) ?_
  refine TL.nil ?_
  refine TQ.thenC ?_
  refine TC.seq ?_
  refine TC.region ?_
  refine TL.pure (PV.move rfl) rfl (by decide) ?_
  refine TL.pure (PV.fieldAddr rfl Tb.fo_101_1) rfl (by decide) ?_
  refine TL.pure (PV.load rfl Tb.one_25 (by repeat (first | exact List.Mem.head _ | refine List.Mem.tail _ ?_ | refine List.mem_append_right _ ?_)) rfl) rfl (by decide) ?_
  refine TL.pure (PV.len rfl Tb.sl_25) rfl (by decide) ?_
  refine TL.pure (PV.mul rfl rfl (by omega)) rfl (by decide) ?_
  refine TL.pure (PV.move rfl) rfl (by decide) ?_
  refine TL.pure (PV.add rfl rfl (by omega)) rfl (by decide) ?_
  refine TL.pure (PV.assign rfl) rfl (by decide) ?_
  refine TL.nil ?_
  refine TQ.thenC ?_
  refine TC.ret ?_
  refine TQ.retE1 rfl rfl ?_
  exact ⟨(), by rw [hl, sq_cast hr.1 hk.1], trivial, List.nil_sublist _⟩

set_option maxRecDepth 100000 in
theorem isWet_ok (w0 : World) (s : St) (c : Co) (v : TV) (hl : c.hol.length = s.W.length) (h6 : s.W.length ≤ 6) (hw : c.wet < 9223372036854775808) (r k : Int) (hr : 0 ≤ r ∧ r ≤ 2000) (hk : 0 ≤ k ∧ k ≤ 2000) (hq : s.sq r k ≤ 60) :
    Calls Tryz.prog 186 #[.agg (tyL c v).toArray, .int .i64 r, .int .i64 k] w0 (Post (X := Unit) (fun _ => .bool (c.wet.testBit (s.sq r k))) (fun _ => True) (fun _ => []) w0) := by
  refine calls Tryz.func186 rfl (n := 17) rfl (by simp) ?_
  refine TC.seq ?_
  refine TC.region ?_
  refine TL.box rfl rfl (by decide) (fun b0 hb0 => ?_)
  refine TL.pure (PV.assign rfl) rfl (by decide) ?_
  refine TL.nil ?_
  refine TQ.thenC ?_
  refine TC.seq ?_
  refine TC.mixV [true, true, true, true, true, true, false, true, true, true, true] [(b0, Obj.cells (tyL c v).toArray 101 (0, 0))] 11 Tb.mixed rfl (by kernel_rfl) (by kernel_rfl) (by kernel_rfl) (by kernel_rfl) (by repeat (first | exact .slnil | exact List.nil_sublist _ | exact .refl _ | refine .cons_cons _ ?_ | refine .cons _ ?_ | refine .trans ?_ (List.sublist_append_right _ _))) ?_
  refine TV.virt 0 rfl rfl (by decide) rfl (by kernel_rfl) (SOK.pure (PV.fieldAddr rfl Tb.fo_101_0) rfl) ?_
  refine TV.virt 1 rfl rfl (by decide) rfl (by kernel_rfl) (SOK.pure (PV.fieldAddr rfl Tb.fo_99_1) rfl) ?_
  refine TV.virt 2 rfl rfl (by decide) rfl (by kernel_rfl) (SOK.pure (PV.load rfl Tb.one_3 (by repeat (first | exact List.Mem.head _ | refine List.Mem.tail _ ?_ | refine List.mem_append_right _ ?_)) rfl) rfl) ?_
  refine TV.virt 3 rfl rfl (by decide) rfl (by kernel_rfl) (SOK.pure (PV.loadBox rfl Tb.agg_101 (by repeat (first | exact List.Mem.head _ | refine List.Mem.tail _ ?_ | refine List.mem_append_right _ ?_)) rfl) rfl) ?_
  refine TV.virt 4 rfl rfl (by decide) rfl (by kernel_rfl) (SOK.pure (PV.move rfl) rfl) ?_
  refine TV.virt 5 rfl rfl (by decide) rfl (by kernel_rfl) (SOK.pure (PV.move rfl) rfl) ?_
  refine TV.step [6] (by kernel_rfl) (by decide) rfl ⟨⟨_, rfl, ?_⟩, trivial⟩
  refine TL.call rfl Tb.gofn_160 (fun a w hs => square_ok w s c v hl h6 r k hr hk) rfl (by decide) (fun _ _ => ?_)
  refine TL.nil ?_
  refine TV.next (.inl (by repeat (first | exact .slnil | exact List.nil_sublist _ | exact .refl _ | refine .cons_cons _ ?_ | refine .cons _ ?_ | refine .trans ?_ (List.sublist_append_right _ _)))) ?_
  refine TV.virt 7 rfl rfl (by decide) rfl (by kernel_rfl) (SOK.pure (M.PV.shrK rfl rfl (by omega) (by show ((s.sq r k : Nat) : Int) ≤ 64; omega) (M.nat_shr _ _)) rfl) ?_
  refine TV.virt 8 rfl rfl (by decide) rfl (by kernel_rfl) (SOK.pure (M.PV.andK rfl rfl rfl) rfl) ?_
  refine TV.virt 9 rfl rfl (by decide) rfl (by kernel_rfl) (SOK.pure (PV.eql rfl rfl) rfl) ?_
  refine TV.virt 10 rfl rfl (by decide) rfl (by kernel_rfl) (SOK.pure (PV.assign rfl) rfl) ?_
  refine TV.done (by kernel_rfl) ?_
  refine TQ.thenC ?_
  refine TC.ret ?_
  refine TQ.retE1 rfl rfl ?_
  exact ⟨(), congrArg Value.bool (M.Has_eq hw), trivial, List.nil_sublist _⟩

set_option maxRecDepth 100000 in
theorem bare_ok (w0 : World) (s : St) (hv : SV s) (c : Co) (v : TV) (ho : C.NB s.W c.hol) (hx : IntsAt w0 v.ph c.hol) :
    Calls Tryz.prog 110 #[.agg (tyL c v).toArray] w0 (Post (X := Unit) (fun _ => .int .i64 (bare s c.hol : Nat)) (fun _ => True) (fun _ => []) w0) := by
  have hl := ho.len
  have h5 := hv.n5
  have h4 := hv.d4
  refine calls Tryz.func110 rfl (n := 29) rfl (by simp) ?_
  refine TC.seq ?_
  refine TC.region ?_
  refine TL.box rfl rfl (by decide) (fun b0 hb0 => ?_)
  refine TL.pure (PV.assign rfl) rfl (by decide) ?_
  refine TL.nil ?_
  refine TQ.thenC ?_
  refine TC.seq ?_
  refine TC.region ?_
  refine TL.pure (PV.assign rfl) rfl (by decide) ?_
  refine TL.nil ?_
  refine TQ.thenC ?_
  refine TC.seq ?_
  refine TC.seq ?_
  refine TC.region ?_
  refine TL.pure (PV.fieldAddr rfl Tb.fo_101_1) rfl (by decide) ?_
  refine TL.pure (PV.load rfl Tb.one_25 (by repeat (first | exact List.Mem.head _ | refine List.Mem.tail _ ?_ | refine List.mem_append_right _ ?_)) rfl) rfl (by decide) ?_
  refine TL.pure (PV.len rfl Tb.sl_25) rfl (by decide) ?_
  refine TL.pure (PV.move rfl) rfl (by decide) ?_
  refine TL.nil ?_
  refine TQ.thenC ?_
  refine TC.block ?_
  refine TC.lit [(1, _), (2, _), (3, _), (8, _), (9, _), (10, _)] (by repeat (first | exact True.intro | refine And.intro rfl ?_)) ?_
  refine TC.loopK [1, 2, 8, 9] (X := Nat) (fun k => k ≤ c.hol.length) (fun k => [(10, .int .i64 (k : Nat)), (3, .int .i64 (bareK s c.hol k 0 : Nat))]) (fun k => [(b0, Obj.cells (tyL c v).toArray 101 (0, 0))]) (fun k => c.hol.length - k) 0 (Nat.zero_le _) (by rw [bareK_zero]; exact ⟨rfl, rfl, trivial⟩) (by repeat (first | exact .slnil | exact List.nil_sublist _ | exact .refl _ | refine .cons_cons _ ?_ | refine .cons _ ?_ | refine .trans ?_ (List.sublist_append_right _ _))) ?_
  intro k hk
  refine TC.lit [(1, _), (2, _), (3, _), (8, _), (9, _), (10, _)] (by repeat (first | exact True.intro | refine And.intro rfl ?_)) ?_
  refine TC.seq ?_
  refine TC.region ?_
  refine TL.pure (PV.lss rfl rfl) rfl (by decide) ?_
  refine TL.nil ?_
  refine TQ.thenC ?_
  refine TC.seq ?_
  first | refine TC.condD rfl (fun hlt => ?_) (fun hlt => ?_) | refine TC.cond rfl (fun hlt => ?_) (fun hlt => ?_)
  · refine TC.skip ?_
    refine TQ.thenC ?_
    refine TC.seq ?_
    refine TC.block ?_
    refine TC.seq ?_
    obtain ⟨q, qp, qv⟩ := hx k (by omega)
    refine TC.region ?_
    refine TL.pure (PV.move rfl) rfl (by decide) ?_
    refine TL.pure (PV.indexA rfl qp rfl Tb.elm_25 rfl (by omega)) rfl (by decide) ?_
    refine TL.pure (PV.loadOld rfl Tb.one_3 qv) rfl (by decide) ?_
    refine TL.pure (PV.assign rfl) rfl (by decide) ?_
    refine TL.pure (PV.assign rfl) rfl (by decide) ?_
    refine TL.nil ?_
    refine TQ.thenC ?_
    refine TC.seq ?_
    have hka := ho.at_ k
    obtain ⟨m9, hm9⟩ := Int.eq_ofNat_of_zero_le hka.1
    refine TC.region ?_
    refine TL.pure (PV.move rfl) rfl (by decide) ?_
    refine TL.pure (PV.move rfl) rfl (by decide) ?_
    refine TL.nil ?_
    refine TQ.thenC ?_
    refine TC.block ?_
    refine TC.lit [(1, _), (2, _), (3, _), (4, _), (8, _), (9, _), (10, _), (15, _), (16, _)] (by repeat (first | exact True.intro | refine And.intro rfl ?_)) ?_
    refine TC.loopK [1, 2, 4, 8, 9, 10, 15] (X := Nat) (fun j => (j : Int) ≤ c.hol.getD k 0) (fun j => [(16, .int .i64 (j : Nat)), (3, .int .i64 (bareK s c.hol k j : Nat))]) (fun j => [(b0, Obj.cells (tyL c v).toArray 101 (0, 0))]) (fun j => m9 - j) 0 (by omega) (by exact ⟨rfl, rfl, trivial⟩) (by repeat (first | exact .slnil | exact List.nil_sublist _ | exact .refl _ | refine .cons_cons _ ?_ | refine .cons _ ?_ | refine .trans ?_ (List.sublist_append_right _ _))) ?_
    intro j hj
    refine TC.lit [(1, _), (2, _), (3, _), (4, _), (8, _), (9, _), (10, _), (15, _), (16, _)] (by repeat (first | exact True.intro | refine And.intro rfl ?_)) ?_
    refine TC.seq ?_
    refine TC.region ?_
    refine TL.pure (PV.lss rfl rfl) rfl (by decide) ?_
    refine TL.nil ?_
    refine TQ.thenC ?_
    refine TC.seq ?_
    first | refine TC.condD rfl (fun hlt2 => ?_) (fun hlt2 => ?_) | refine TC.cond rfl (fun hlt2 => ?_) (fun hlt2 => ?_)
    · refine TC.skip ?_
      refine TQ.thenC ?_
      refine TC.seq ?_
      refine TC.block ?_
      refine TC.seq ?_
      refine TC.region ?_
      refine TL.pure (PV.move rfl) rfl (by decide) ?_
      refine TL.pure (PV.assign rfl) rfl (by decide) ?_
      refine TL.nil ?_
      refine TQ.thenC ?_
      have hq60 : s.sq (j : Int) (k : Int) ≤ 60 := by have := sq_lt (s := s) (r := j) (c := k) (by omega) (by omega); have := hv.N36; omega
      have hB := wet63 hv (bareK_lt s c.hol k j)
      have hrw := bareK_row (s := s) (hol := c.hol) (k := k) (j := j) (by omega) (by omega)
      refine TC.region ?_
      refine TL.pure (PV.move rfl) rfl (by decide) ?_
      refine TL.pure (PV.loadBox rfl Tb.agg_101 (by repeat (first | exact List.Mem.head _ | refine List.Mem.tail _ ?_ | refine List.mem_append_right _ ?_)) rfl) rfl (by decide) ?_
      refine TL.pure (PV.move rfl) rfl (by decide) ?_
      refine TL.pure (PV.move rfl) rfl (by decide) ?_
      refine TL.call rfl Tb.gofn_160 (fun a w hs => square_ok w s c v hl (by omega) j k ⟨by omega, by omega⟩ ⟨by omega, by omega⟩) rfl (by decide) (fun _ _ => ?_)
      refine TL.pure (M.PV.shlK rfl rfl (by omega) (by omega) (M.shl_nat hq60)) rfl (by decide) ?_
      refine TL.pure (M.PV.orK rfl rfl (M.or_nat hB (M.p63 (by omega)))) rfl (by decide) ?_
      refine TL.pure (PV.assign rfl) rfl (by decide) ?_
      refine TL.nil ?_
      refine TQ.blkN ?_
      refine TQ.thenC ?_
      refine TC.region ?_
      refine TL.pure (PV.add rfl rfl (by omega)) rfl (by decide) ?_
      refine TL.pure (PV.move rfl) rfl (by decide) ?_
      refine TL.nil ?_
      refine TQ.thenN ?_
      refine TQ.backK (j + 1) (by rw [hrw]; exact ⟨rfl, rfl, trivial⟩) (by repeat (first | exact True.intro | refine And.intro rfl ?_)) (by repeat (first | exact .slnil | exact List.nil_sublist _ | exact .refl _ | refine .cons_cons _ ?_ | refine .cons _ ?_ | refine .trans ?_ (List.sublist_append_right _ _))) (by omega) (by omega)
    · refine TC.exit ?_
      refine TQ.thenE ?_
      refine TQ.thenE ?_
      refine TQ.blkS ?_
      refine TQ.blkN ?_
      refine TQ.thenC ?_
      have hcl := bareK_col (s := s) (hol := c.hol) (k := k) (j := j) (by omega)
      refine TC.region ?_
      refine TL.pure (PV.add rfl rfl (by omega)) rfl (by decide) ?_
      refine TL.pure (PV.move rfl) rfl (by decide) ?_
      refine TL.nil ?_
      refine TQ.thenN ?_
      refine TQ.backK (k + 1) (by rw [← hcl]; exact ⟨rfl, rfl, trivial⟩) (by repeat (first | exact True.intro | refine And.intro rfl ?_)) (by repeat (first | exact .slnil | exact List.nil_sublist _ | exact .refl _ | refine .cons_cons _ ?_ | refine .cons _ ?_ | refine .trans ?_ (List.sublist_append_right _ _))) (by omega) (by omega)
  · refine TC.exit ?_
    refine TQ.thenE ?_
    refine TQ.thenE ?_
    refine TQ.blkS ?_
    refine TQ.thenC ?_
    refine TC.seq ?_
    have hke : k = s.W.length := by omega
    refine TC.region ?_
    refine TL.pure (PV.move rfl) rfl (by decide) ?_
    refine TL.pure (PV.assign rfl) rfl (by decide) ?_
    refine TL.nil ?_
    refine TQ.thenC ?_
    refine TC.ret ?_
    refine TQ.retE1 rfl rfl ?_
    exact ⟨(), by rw [← bareK_end hv, hke], trivial, List.nil_sublist _⟩

set_option maxRecDepth 100000 in
set_option maxHeartbeats 1000000 in
theorem clone_ok (w0 : World) (pl : Option Addr) (cl : Nat) (xs : List Int) (hx : IntsAt w0 pl xs) (hl : xs.length ≤ 1000000) :
    Calls Tryz.prog 67 #[.slice pl xs.length cl] w0 (Post (X := HD) (fun h => gval h xs.length) (fun h => goI (h, xs)) (fun h => gbI (h, xs)) w0) := by
  refine calls Tryz.func67 rfl (n := 8) rfl (by simp) ?_
  refine TC.seq ?_
  refine TC.region ?_
  refine TL.pure (PV.assign rfl) rfl (by decide) ?_
  refine TL.nil ?_
  refine TQ.thenC ?_
  refine TC.seq ?_
  refine TC.seq ?_
  refine TC.region ?_
  refine TL.pure (PV.move rfl) rfl (by decide) ?_
  refine TL.pure (PV.cmp rfl rfl (nil25_guard _ _ _ _ _) (nil25 _ _ _)) rfl (by decide) ?_
  refine TL.nil ?_
  refine TQ.thenC ?_
  first | refine TC.condD rfl (fun hnil => ?_) (fun hnil => ?_) | refine TC.cond rfl (fun hnil => ?_) (fun hnil => ?_)
  · refine TC.seq ?_
    refine TC.region ?_
    refine TL.pure (PV.assign rfl) rfl (by decide) ?_
    refine TL.nil ?_
    refine TQ.thenC ?_
    refine TC.ret ?_
    refine TQ.thenR ?_
    refine TQ.retE1 rfl rfl ?_
    have hp0 : pl = none := by simpa using hnil
    subst hp0
    have hx0 := ints_nil hx
    subst hx0
    exact ⟨none, rfl, ⟨rfl, rfl⟩, List.nil_sublist _⟩
  · refine TC.skip ?_
    refine TQ.thenC ?_
    refine TC.seq ?_
    refine TC.region ?_
    refine TL.buildSlice0 Tb.sl_25 Tb.zi_3 rfl (by decide) (fun bE hbE => ?_)
    refine TL.pure (PV.move rfl) rfl (by decide) ?_
    refine TL.append0 (news := ival xs) rfl rfl Tb.sl_25 Tb.zi_3 rfl (Take.head _) (fun w' hN => ints_src Tb.sl_25 rfl (hx.new hN)) (by omega) (by omega) rfl (by decide) (fun h1 hh1 => ?_)
    refine TL.pure (PV.assign rfl) rfl (by decide) ?_
    refine TL.nil ?_
    refine TQ.thenC ?_
    refine TC.ret ?_
    refine TQ.retE1 rfl rfl ?_
    exact ⟨h1, rfl, by simpa [goI] using hh1, List.sublist_append_left _ _⟩

set_option maxRecDepth 100000 in
theorem plus_ok (w0 : World) (pl : Option Addr) (cl : Nat) (xs : List Int) (hx : IntsAt w0 pl xs) (hl : xs.length ≤ 1000000) (i : Nat) (hi : i < xs.length) (d : Int) (hd : -1000000 ≤ d ∧ d ≤ 1000000) (hb : -1000000 ≤ xs.getD i 0 ∧ xs.getD i 0 ≤ 1000000) :
    Calls Tryz.prog 188 #[.slice pl xs.length cl, .int .i64 i, .int .i64 d] w0 (Post (X := HD) (fun h => gval h xs.length) (fun h => goI (h, xs.set i (xs.getD i 0 + d))) (fun h => gbI (h, xs.set i (xs.getD i 0 + d))) w0) := by
  refine calls Tryz.func188 rfl (n := 18) rfl (by simp) ?_
  refine TC.seq ?_
  refine TC.region ?_
  refine TL.pure (PV.assign rfl) rfl (by decide) ?_
  refine TL.nil ?_
  refine TQ.thenC ?_
  refine TC.seq ?_
  refine TC.region ?_
  refine TL.pure (PV.move rfl) rfl (by decide) ?_
  refine TL.call rfl Tb.gofn_67 (fun a w hs => clone_ok w _ _ xs (hx.new hs.new) hl) rfl (by decide) (fun h1 hh1 => ?_)
  refine TL.pure (PV.assign rfl) rfl (by decide) ?_
  refine TL.nil ?_
  refine TQ.thenC ?_
  refine TC.seq ?_
  refine TC.region ?_
  refine TL.pure (PV.move rfl) rfl (by decide) ?_
  refine TL.pure (PV.move rfl) rfl (by decide) ?_
  refine TL.pure (PV.indexG (len := xs.length) (ys := ival xs) (j := i) rfl rfl hh1 Tb.elm_25 rfl (by omega)) rfl (by decide) ?_
  refine TL.pure (PV.loadGI (y := (h1, xs)) (v := xs.getD i 0) rfl Tb.one_3 (fun y hy => List.mem_append_left _ hy) hh1 (by omega) rfl) rfl (by decide) ?_
  refine TL.pure (PV.move rfl) rfl (by decide) ?_
  refine TL.pure (PV.add rfl rfl (by omega)) rfl (by decide) ?_
  refine TL.pure (PV.indexG (len := xs.length) (ys := ival xs) (j := i) rfl rfl hh1 Tb.elm_25 rfl (by omega)) rfl (by decide) ?_
  refine TL.putI (h := h1) (xs := xs) (xs' := xs.set i (xs.getD i 0 + d)) (j := i) rfl rfl Tb.cells_3 hh1 rfl (by repeat (first | exact PutH.here _ _ _ _ | apply PutH.tail | apply PutH.app)) (by omega) rfl rfl ?_
  refine TL.nil ?_
  refine TQ.thenC ?_
  refine TC.seq ?_
  refine TC.region ?_
  refine TL.pure (PV.move rfl) rfl (by decide) ?_
  refine TL.pure (PV.assign rfl) rfl (by decide) ?_
  refine TL.nil ?_
  refine TQ.thenC ?_
  refine TC.ret ?_
  refine TQ.retE1 rfl rfl ?_
  exact ⟨h1, rfl, C.go_lenI hh1 (by rw [List.length_set]), List.sublist_append_left _ _⟩

end Go.Proofs.YtbnjmkidbfmomaaGreatDoor
