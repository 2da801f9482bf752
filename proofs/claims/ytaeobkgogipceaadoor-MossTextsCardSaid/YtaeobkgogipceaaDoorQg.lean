/- Orders and days: contracts. -/
import Derived.Test.YtaeobkgogipceaaDoorQf
set_option linter.unusedVariables false
set_option linter.unusedSimpArgs false
namespace Go.Proofs.YtaeobkgogipceaaDoor
open Go.Sx Go.RowKit

def Fst {α : Type} [Inhabited α] (φ : α → Bool) (xs : List α) (i : Int) : Prop := (i = -1 ∧ ∀ j, j < xs.length → φ (xs.getD j default) = false) ∨ ∃ k : Nat, i = k ∧ k < xs.length ∧ φ (xs.getD k default) = true ∧ ∀ j, j < k → φ (xs.getD j default) = false
theorem fst_any {α : Type} [Inhabited α] {φ : α → Bool} {xs : List α} {i : Int} (h : Fst φ xs i) : xs.any φ = decide (0 ≤ i) := by
  rcases h with ⟨rfl, h⟩ | ⟨k, rfl, hk, h, _⟩
  · rw [decide_eq_false (by decide), List.any_eq_false]
    intro x hx
    obtain ⟨j, hj, rfl⟩ := List.getElem_of_mem hx
    have := h j hj
    simpa [List.getD, hj] using this
  · rw [decide_eq_true (by omega), List.any_eq_true]
    exact ⟨xs.getD k default, by simp [List.getD, hk], h⟩
theorem getD_mem {xs : List Int} {k : Nat} (hk : k < xs.length) : xs.getD k 0 ∈ xs := by simp [List.getD, hk]
def oL (r c k w : Int) : List Int := if gI r c k w = 0 then ofN (Mo.ordL (Mo.mD r c k) w.toNat) else []
theorem oL_no {r c k w : Int} (h : gI r c k w ≠ 0) : oL r c k w = [] := if_neg h
theorem oL_ok {m : Mo.Md} (ho : Mo.Ok m) {S : Nat} (hS : S < 2 ^ m.N) : oL m.R m.C m.K S = ofN (Mo.ordL m S) := if_pos (gI_ok ho hS)
theorem ofN_snoc (l : List Nat) (s : Nat) : ofN (l ++ [s]) = ofN l ++ [(s : Int)] := by simp [ofN]
/-- The reference's search for an order. -/
structure OS (m : Mo.Md) (S s W : Nat) (l : List Nat) : Prop where
  le : s ≤ m.N
  lt : W < 2 ^ m.N
  no : ∀ j, j < s → Mo.rdB m W j = false
  eq : Mo.ordL m S = l ++ Mo.ordL m W
  len : l.length ≤ 36
theorem OS.zero {m : Mo.Md} {S : Nat} (hS : S < 2 ^ m.N) : OS m S 0 S [] := ⟨Nat.zero_le _, hS, fun j hj => absurd hj (Nat.not_lt_zero _), rfl, Nat.zero_le _⟩
theorem OS.skip {m : Mo.Md} {S s W : Nat} {l : List Nat} (h : OS m S s W l) (hs : s < m.N) (hn : Mo.rdB m W s = false) : OS m S (s + 1) W l :=
  ⟨hs, h.lt, fun j hj => by
    by_cases e : j = s
    · rw [e]; exact hn
    · exact h.no j (by omega), h.eq, h.len⟩
theorem OS.put {m : Mo.Md} (ho : Mo.Ok m) {S s W : Nat} {l : List Nat} (hS : S < 2 ^ m.N) (h : OS m S s W l) (hs : s < m.N) (hr : Mo.rdB m W s = true) : OS m S 0 (W ||| 2 ^ s) (l ++ [s]) ∧ Mo.pc (W ||| 2 ^ s) = Mo.pc W + 1 := by
  have h1 : (Mo.rdy m W).testBit s = true := by rw [Mo.rdy_t, decide_eq_true hs, hr]; rfl
  have h2 : Mo.rdy m W ≠ 0 := fun e => by rw [e, Nat.zero_testBit] at h1; cases h1
  have h3 : Lib.ctz 64 (Mo.rdy m W) = s := Mo.low_eq (Mo.p64 ho (Mo.rdy_lt m W)) h1 fun i hi => by rw [Mo.rdy_t, h.no i hi, Bool.and_false]
  have h4 := Mo.ordL_cons ho h.lt h2
  rw [h3] at h4
  have h5 : Mo.ordL m S = (l ++ [s]) ++ Mo.ordL m (W ||| 2 ^ s) := by rw [h.eq, h4, List.append_assoc]; rfl
  refine ⟨⟨Nat.zero_le _, Mo.add_lt h.lt hs, fun j hj => absurd hj (Nat.not_lt_zero _), h5, ?_⟩, Mo.pc_add ho hs (Mo.rd_dry hr)⟩
  have h6 := congrArg List.length h5
  rw [List.length_append] at h6
  have := ord_lt ho hS
  omega
theorem OS.done {m : Mo.Md} {S W : Nat} {l : List Nat} (h : OS m S m.N W l) : l = Mo.ordL m S := by
  have : Mo.rdy m W = 0 := Mo.msk_zero.2 h.no
  rw [h.eq, Mo.ordL_nil this, List.append_nil]
theorem rdB_yes {m : Mo.Md} {W s : Nat} (h1 : (!W.testBit s) = true) (h2 : (m.K : Int) ≤ ((Mo.ar m W s : Nat) : Int)) : Mo.rdB m W s = true := by
  unfold Mo.rdB; rw [h1, decide_eq_true (by omega)]; rfl
theorem rdB_no1 {m : Mo.Md} {W s : Nat} (h1 : (!W.testBit s) = false) : Mo.rdB m W s = false := by unfold Mo.rdB; rw [h1]; rfl
theorem rdB_no2 {m : Mo.Md} {W s : Nat} (h2 : ¬ (m.K : Int) ≤ ((Mo.ar m W s : Nat) : Int)) : Mo.rdB m W s = false := by
  unfold Mo.rdB; rw [decide_eq_false (by omega), Bool.and_false]
/-- An order, square by square: what is wet at the end, how many, and the error. -/
def coF (m : Mo.Md) : Nat → Nat → List Int → Nat × Nat × Int
  | W, k, [] => (W, k, 0)
  | W, k, x :: xs => if Mo.rdB m W x.toNat = true then coF m (W ||| 2 ^ x.toNat) (k + 1) xs else (0, k, 6)
def sqB (m : Mo.Md) (x : Int) : Bool := decide (0 ≤ x ∧ x < ((m.N : Nat) : Int))
def coT (r c k w : Int) (xs : List Int) : Nat × Nat × Int := if gI r c k w = 0 then (if xs.all (sqB (Mo.mD r c k)) = true then coF (Mo.mD r c k) w.toNat 0 xs else (0, 0, 4)) else (0, 0, gI r c k w)
theorem coT_no {r c k w : Int} {xs : List Int} (h : gI r c k w ≠ 0) : coT r c k w xs = (0, 0, gI r c k w) := if_neg h
theorem coT_ok {m : Mo.Md} (ho : Mo.Ok m) {S : Nat} (hS : S < 2 ^ m.N) (xs : List Int) : coT m.R m.C m.K S xs = if xs.all (sqB m) = true then coF m S 0 xs else (0, 0, 4) := if_pos (gI_ok ho hS)
theorem drop_at {xs : List Int} {k : Nat} (h : k < xs.length) : xs.drop k = xs.getD k 0 :: xs.drop (k + 1) := by
  rw [List.drop_eq_getElem_cons h]; simp [List.getD, h]
theorem coF_yes {m : Mo.Md} {W k : Nat} {xs : List Int} (h : k < xs.length) (hr : Mo.rdB m W (xs.getD k 0).toNat = true) : coF m W k (xs.drop k) = coF m (W ||| 2 ^ (xs.getD k 0).toNat) (k + 1) (xs.drop (k + 1)) := by
  rw [drop_at h]; exact if_pos hr
theorem coF_no {m : Mo.Md} {W k : Nat} {xs : List Int} (h : k < xs.length) (hr : Mo.rdB m W (xs.getD k 0).toNat = false) : coF m W k (xs.drop k) = (0, k, 6) := by
  rw [drop_at h]; exact if_neg (by rw [hr]; decide)
theorem coF_end {m : Mo.Md} {W k : Nat} {xs : List Int} (h : xs.length ≤ k) : coF m W k (xs.drop k) = (W, k, 0) := by
  rw [List.drop_eq_nil_of_le h]; rfl
theorem sq_at {m : Mo.Md} {xs : List Int} (h : xs.all (sqB m) = true) {k : Nat} (hk : k < xs.length) : 0 ≤ xs.getD k 0 ∧ xs.getD k 0 < ((m.N : Nat) : Int) := of_decide_eq_true (List.all_eq_true.1 h _ (getD_mem hk))
theorem sq_all {m : Mo.Md} {xs : List Int} (h : ∀ k, k < xs.length → 0 ≤ xs.getD k 0 ∧ xs.getD k 0 < ((m.N : Nat) : Int)) : xs.all (sqB m) = true := by
  rw [List.all_eq_true]
  intro x hx
  obtain ⟨j, hj, rfl⟩ := List.getElem_of_mem hx
  have := h j hj
  exact decide_eq_true (by simpa [List.getD, hj] using this)
theorem sq_none {m : Mo.Md} {xs : List Int} {k : Nat} (hk : k < xs.length) (h : ¬ (0 ≤ xs.getD k 0 ∧ xs.getD k 0 < ((m.N : Nat) : Int))) : ¬ xs.all (sqB m) = true := fun e => h (sq_at e hk)
theorem any_not (m : Mo.Md) (xs : List Int) : (xs.any fun x => !sqB m x) = !xs.all (sqB m) := by
  induction xs with
  | nil => rfl
  | cons x xs ih => rw [List.any_cons, List.all_cons, ih, Bool.not_and]
theorem rdy_has {m : Mo.Md} {W s : Nat} (h : s < m.N) : (Mo.rdy m W).testBit s = Mo.rdB m W s := by rw [Mo.rdy_t, decide_eq_true h]; rfl
theorem toNat_cast {x : Int} (h : 0 ≤ x) : ((x.toNat : Nat) : Int) = x := Int.toNat_of_nonneg h
/-! ## The day of a square -/
def IsDay (m : Mo.Md) (S s k : Nat) : Prop := (Mo.it m S k).testBit s = true ∧ ∀ j, j < k → (Mo.it m S j).testBit s = false
open Classical in
noncomputable def dayN (m : Mo.Md) (S s : Nat) : Nat := if h : ∃ k, IsDay m S s k then h.choose else 0
theorem day_eq {m : Mo.Md} {S s k : Nat} (h : IsDay m S s k) : dayN m S s = k := by
  have he : ∃ k, IsDay m S s k := ⟨k, h⟩
  unfold dayN
  rw [dif_pos he]
  have h2 := he.choose_spec
  rcases Nat.lt_trichotomy he.choose k with h3 | h3 | h3
  · have := h.2 _ h3; rw [h2.1] at this; cases this
  · exact h3
  · have := h2.2 _ h3; rw [h.1] at this; cases this
def dE (r c k w s : Int) : Int := if gI r c k w = 0 then (if 0 ≤ s ∧ s < ((Mo.Md.N (Mo.mD r c k) : Nat) : Int) then 0 else 4) else gI r c k w
def dB (r c k w s : Int) : Bool := decide (dE r c k w s = 0) && (Mo.en (Mo.mD r c k) w.toNat).testBit s.toNat
noncomputable def dN (r c k w s : Int) : Int := if dB r c k w s = true then ((dayN (Mo.mD r c k) w.toNat s.toNat : Nat) : Int) else 0
theorem dE_no {r c k w s : Int} (h : gI r c k w ≠ 0) : dE r c k w s = gI r c k w := if_neg h
theorem dE_ok {m : Mo.Md} (ho : Mo.Ok m) {S : Nat} (hS : S < 2 ^ m.N) (s : Int) : dE m.R m.C m.K S s = if 0 ≤ s ∧ s < ((m.N : Nat) : Int) then 0 else 4 := if_pos (gI_ok ho hS)
theorem d_err {r c k w s : Int} (h : dE r c k w s ≠ 0) : dB r c k w s = false ∧ dN r c k w s = 0 := by
  have h1 : dB r c k w s = false := by unfold dB; rw [decide_eq_false h]; rfl
  exact ⟨h1, by unfold dN; rw [h1]; rfl⟩
theorem d_ok {m : Mo.Md} (ho : Mo.Ok m) {S : Nat} (hS : S < 2 ^ m.N) {s : Nat} (hs : s < m.N) : dE m.R m.C m.K S s = 0 ∧ dB m.R m.C m.K S s = (Mo.en m S).testBit s ∧ dN m.R m.C m.K S s = if (Mo.en m S).testBit s = true then ((dayN m S s : Nat) : Int) else 0 := by
  have h1 : dE m.R m.C m.K S s = 0 := by rw [dE_ok ho hS, if_pos (by omega)]
  have h2 : dB m.R m.C m.K S s = (Mo.en m S).testBit s := by unfold dB; rw [decide_eq_true h1]; rfl
  exact ⟨h1, h2, by unfold dN; rw [h2]; rfl⟩
theorem day_lt {m : Mo.Md} {S s k : Nat} (he : (Mo.en m S).testBit s = true) (h : (Mo.it m S k).testBit s = false) (hk : k ≤ Mo.dy m S) : k < Mo.dy m S := by
  by_cases e : k = Mo.dy m S
  · subst e
    rw [show Mo.it m S (Mo.dy m S) = Mo.en m S from rfl, he] at h; cases h
  · omega
theorem day_or {m : Mo.Md} {S s : Nat} (he : (Mo.en m S).testBit s = false) (k : Nat) (hk : k ≤ Mo.dy m S) : (Mo.it m S k).testBit s = false := by
  cases h : (Mo.it m S k).testBit s
  · rfl
  · have := Mo.it_mono hk s h
    rw [show Mo.it m S (Mo.dy m S) = Mo.en m S from rfl, he] at this; cases this
theorem day_le {m : Mo.Md} {S s : Nat} (he : (Mo.en m S).testBit s = true) : dayN m S s ≤ Mo.dy m S ∧ (Mo.it m S (dayN m S s)).testBit s = true := by
  have : ∀ n, ∀ k, k + n = Mo.dy m S → (∀ j, j < k → (Mo.it m S j).testBit s = false) → ∃ k, k ≤ Mo.dy m S ∧ IsDay m S s k := by
    intro n
    induction n with
    | zero => intro k hk hj; obtain rfl : k = Mo.dy m S := by omega
              exact ⟨_, Nat.le_refl _, he, hj⟩
    | succ n ih =>
      intro k hk hj
      cases h : (Mo.it m S k).testBit s
      · exact ih (k + 1) (by omega) fun j hj2 => by
          by_cases e : j = k
          · rw [e]; exact h
          · exact hj j (by omega)
      · exact ⟨k, by omega, h, hj⟩
  obtain ⟨k, hk, hd⟩ := this (Mo.dy m S) 0 (by omega) fun j hj => absurd hj (Nat.not_lt_zero _)
  rw [day_eq hd]
  exact ⟨hk, hd.1⟩


set_option maxRecDepth 100000 in
theorem smallestFirst_ok (w0 : World) (m : Mo.Md) (S : Nat) :
    Calls Tryd.prog 80 #[mV m, .int .i64 S] w0 (Post (X := Nat × Nat) (fun y => .func (.func 98) #[] #[.pointer (some ⟨y.1, 0, none⟩), .pointer (some ⟨y.2, 0, none⟩)]) (fun _ => True) (fun y => [(y.1, Obj.cells #[.int .i64 (S : Nat)] 3 (0, 0)), (y.2, Obj.cells #[.int .i64 m.R, .int .i64 m.C, .int .i64 m.K] 23 (0, 0))]) w0) := by
  refine calls Tryd.func80 rfl (n := 6) rfl (by simp) ?_
  refine TC.seq ?_
  refine TC.region ?_
  refine TL.box rfl rfl (by decide) (fun b0 hb0 => ?_)
  refine TL.box rfl rfl (by decide) (fun b1 hb1 => ?_)
  refine TL.pure (PV.assign rfl) rfl (by decide) ?_
  refine TL.nil ?_
  refine TQ.thenC ?_
  refine TC.seq ?_
  refine TC.region ?_
  refine TL.pure (PV.makeFunc rfl) rfl (by decide) ?_
  refine TL.pure (PV.assign rfl) rfl (by decide) ?_
  refine TL.nil ?_
  refine TQ.thenC ?_
  refine TC.ret ?_
  refine TQ.retE1 rfl rfl ?_
  exact ⟨(b1, b0), rfl, trivial, List.Sublist.refl _⟩

set_option maxRecDepth 100000 in
set_option maxHeartbeats 1000000 in
theorem order_it (w0 : World) (ht : TzAt w0) (m : Mo.Md) (ho : Mo.Ok m) (S : Nat) (hS : S < 2 ^ m.N) (b1 b0 : Nat) :
    Iter Tryd.prog 98 [.pointer (some ⟨b1, 0, none⟩), .pointer (some ⟨b0, 0, none⟩)] (fun s : Nat => [.int .i64 s]) w0 [(b1, Obj.cells #[.int .i64 (S : Nat)] 3 (0, 0)), (b0, Obj.cells #[.int .i64 m.R, .int .i64 m.C, .int .i64 m.K] 23 (0, 0))] (fun l => l = Mo.ordL m S) (fun l => l <+: Mo.ordL m S) := by
  intro X Y w lY F H Fx Hx s0 hk hY h0 hN
  have hN36 := ho.N36
  refine callsIG Tryd.func98 rfl (n := 27) rfl (by simp) hN ?_
  refine TG.seq ?_
  refine TG.region (by repeat (first | with_reducible exact RB.lo | with_reducible exact QN.lo | with_reducible exact bodyM_lo | with_reducible exact bodyP_lo | with_reducible apply lo_then | with_reducible apply lo_blk)) (by kernel_rfl) ?_
  refine TL.pure (PV.load rfl Tb.one_3 (hk _ _ (List.Mem.head _)) rfl) rfl (by decide) ?_
  refine TL.pure (PV.assign rfl) rfl (by decide) ?_
  refine TL.nil ?_
  refine TQ.thenG ?_
  refine TG.seq ?_
  refine TG.region (by repeat (first | with_reducible exact RB.lo | with_reducible exact QN.lo | with_reducible exact bodyM_lo | with_reducible exact bodyP_lo | with_reducible apply lo_then | with_reducible apply lo_blk)) (by kernel_rfl) ?_
  refine TL.pure (PV.loadBox rfl Tb.agg_23 (hk _ _ (.tail _ (.head _))) rfl) rfl (by decide) ?_
  refine TL.pure (PV.move rfl) rfl (by decide) ?_
  refine TL.call rfl Tb.gofn_65 (fun a w hs => ready_ok w (ht.new hs.new) m ho S hS) rfl (by decide) (fun _ _ => ?_)
  refine TL.pure (PV.assign rfl) rfl (by decide) ?_
  refine TL.nil ?_
  refine TQ.thenG ?_
  refine TG.block ?_
  refine TG.loopK [0, 2] (X := Nat × Nat × X) (fun y => y.2.1 < 2 ^ m.N ∧ y.1 ≤ (Mo.ordL m S).length ∧ Mo.ordL m S = (Mo.ordL m S).take y.1 ++ Mo.ordL m y.2.1 ∧ F ((Mo.ordL m S).take y.1) y.2.2) (fun y => [(4, .int .i64 y.2.1), (5, .int .i64 (Mo.rdy m y.2.1 : Nat))]) (fun y => H y.2.2) (fun y => (Mo.ordL m S).length - y.1) (0, S, s0) ⟨hS, Nat.zero_le _, rfl, h0⟩ (by repeat (first | exact True.intro | refine And.intro rfl ?_)) (List.Sublist.refl _) ?_
  intro y hy
  refine TG.seq ?_
  refine TG.seq ?_
  refine TG.region (by repeat (first | with_reducible exact RB.lo | with_reducible exact QN.lo | with_reducible exact bodyM_lo | with_reducible exact bodyP_lo | with_reducible apply lo_then | with_reducible apply lo_blk)) (by kernel_rfl) ?_
  refine TL.pure (PV.move rfl) rfl (by decide) ?_
  refine TL.pure (PV.neq rfl rfl) rfl (by decide) ?_
  refine TL.nil ?_
  refine TQ.thenG ?_
  first | refine TG.condD rfl (fun hne => ?_) (fun hne => ?_) | refine TG.cond rfl (fun hne => ?_) (fun hne => ?_)
  · skip
    have hn0 : Mo.rdy m y.2.1 ≠ 0 := by omega
    have h64 : Mo.rdy m y.2.1 < 18446744073709551616 := by have := rdy63 ho y.2.1; omega
    have hnx := Mo.next_rd ho hn0
    have hcs : Mo.ordL m S = (Mo.ordL m S).take y.1 ++ (Lib.ctz 64 (Mo.rdy m y.2.1) :: Mo.ordL m (y.2.1 ||| 2 ^ Lib.ctz 64 (Mo.rdy m y.2.1))) := by rw [← Mo.ordL_cons ho hy.1 hn0]; exact hy.2.2.1
    have htk := take_cons hcs hy.2.1
    have hlt2 := Mo.add_lt hy.1 hnx.1
    refine TG.skip ?_
    refine TQ.thenG ?_
    refine TG.seq ?_
    refine TG.block ?_
    refine TG.seq ?_
    refine TG.region (by repeat (first | with_reducible exact RB.lo | with_reducible exact QN.lo | with_reducible exact bodyM_lo | with_reducible exact bodyP_lo | with_reducible apply lo_then | with_reducible apply lo_blk)) (by kernel_rfl) ?_
    refine TL.pure (PV.move rfl) rfl (by decide) ?_
    refine TL.pure (PV.conv Tb.int_3 Tb.int_43 rfl (conv_u h64)) rfl (by decide) ?_
    refine TL.call rfl Tb.gofn_96 (fun a w hs => tz_ok w (ht.new hs.new) _ h64 hn0) rfl (by decide) (fun _ _ => ?_)
    refine TL.pure (PV.assign rfl) rfl (by decide) ?_
    refine TL.nil ?_
    refine TQ.thenG ?_
    refine TG.seq ?_
    refine TG.seq ?_
    refine TG.regionL ?_
    refine TGL.pre 2 (by repeat (first | with_reducible exact RB.lo | with_reducible exact QN.lo | with_reducible exact bodyM_lo | with_reducible exact bodyP_lo | with_reducible apply lo_then | with_reducible apply lo_blk)) (by kernel_rfl) ?_
    simp only [List.take_succ_cons, List.take_zero, List.drop_succ_cons, List.drop_zero]
    refine TL.pure (PV.move rfl) rfl (by decide) ?_
    refine TL.pure (PV.move rfl) rfl (by decide) ?_
    refine TL.nil ?_
    refine TQ.thenL ?_
    refine TGL.yield (F ((Mo.ordL m S).take (y.1 + 1))) H (fun z => Fx ((Mo.ordL m S).take (y.1 + 1)) z) Hx rfl rfl (fun w' hw' => ?_) rfl (by decide) (fun s1 hs1 => ?_) (fun z hz => ?_)
    · skip
      have h7 := hY ((Mo.ordL m S).take y.1) (Lib.ctz 64 (Mo.rdy m y.2.1)) y.2.2 w' [] (by rw [← htk.1]; exact List.take_prefix _ _) hy.2.2.2 (by rw [List.append_nil]; exact hw')
      rw [← htk.1] at h7
      simpa using h7
    · skip
      refine TGL.opsAll (by repeat (first | with_reducible exact RB.lo | with_reducible exact QN.lo | with_reducible exact bodyM_lo | with_reducible exact bodyP_lo | with_reducible apply lo_then | with_reducible apply lo_blk)) (by kernel_rfl) ?_
      refine TL.pure (PV.not rfl) rfl (by decide) ?_
      refine TL.nil ?_
      refine TQ.thenG ?_
      refine TG.condF rfl ?_
      refine TG.skip ?_
      refine TQ.thenG ?_
      refine TG.region (by repeat (first | with_reducible exact RB.lo | with_reducible exact QN.lo | with_reducible exact bodyM_lo | with_reducible exact bodyP_lo | with_reducible apply lo_then | with_reducible apply lo_blk)) (by kernel_rfl) ?_
      refine TL.pure (PV.move rfl) rfl (by decide) ?_
      refine TL.pure (PV.move rfl) rfl (by decide) ?_
      refine TL.call rfl Tb.gofn_79 (fun a w hs => only_ok w _ (by omega)) rfl (by decide) (fun _ _ => ?_)
      refine TL.pure (PV.orK rfl rfl (i64_or_nat (set63 ho hy.1) (p63 (by omega)))) rfl (by decide) ?_
      refine TL.pure (PV.assign rfl) rfl (by decide) ?_
      refine TL.nil ?_
      refine TQ.gblkN ?_
      refine TQ.thenG ?_
      refine TG.region (by repeat (first | with_reducible exact RB.lo | with_reducible exact QN.lo | with_reducible exact bodyM_lo | with_reducible exact bodyP_lo | with_reducible apply lo_then | with_reducible apply lo_blk)) (by kernel_rfl) ?_
      refine TL.pure (PV.loadBox rfl Tb.agg_23 (hk _ _ (.tail _ (.head _))) rfl) rfl (by decide) ?_
      refine TL.pure (PV.move rfl) rfl (by decide) ?_
      refine TL.call rfl Tb.gofn_65 (fun a w hs => ready_ok w (ht.new hs.new) m ho _ hlt2) rfl (by decide) (fun _ _ => ?_)
      refine TL.pure (PV.assign rfl) rfl (by decide) ?_
      refine TL.nil ?_
      refine TQ.backG (y.1 + 1, (y.2.1 ||| 2 ^ Lib.ctz 64 (Mo.rdy m y.2.1)), s1) (by repeat (first | exact True.intro | refine And.intro rfl ?_)) (by repeat (first | exact True.intro | refine And.intro rfl ?_)) (List.Sublist.refl _) ⟨hlt2, htk.2.2, htk.2.1, hs1⟩ (by have := htk.2.2; simp only; omega)
    · skip
      refine TGL.opsAll (by repeat (first | with_reducible exact RB.lo | with_reducible exact QN.lo | with_reducible exact bodyM_lo | with_reducible exact bodyP_lo | with_reducible apply lo_then | with_reducible apply lo_blk)) (by kernel_rfl) ?_
      refine TL.pure (PV.not rfl) rfl (by decide) ?_
      refine TL.nil ?_
      refine TQ.thenG ?_
      refine TG.condT rfl ?_
      refine TG.ret ?_
      refine TQ.gthenR ?_
      refine TQ.gblkR ?_
      refine TQ.gthenR ?_
      refine TQ.gthenR ?_
      refine TQ.gblkR ?_
      refine TQ.retI rfl (fun w9 v9 hw9 => ⟨⟨_, rfl⟩, .inr ⟨_, z, List.take_prefix _ _, hz, hw9⟩⟩)
  · skip
    refine TG.exit ?_
    refine TQ.gthenE ?_
    refine TQ.gthenE ?_
    refine TQ.gblkS ?_
    have hz9 : Mo.rdy m y.2.1 = 0 := by omega
    have hz8 := hy.2.2.1
    rw [Mo.ordL_nil hz9, List.append_nil] at hz8
    refine TQ.retIN rfl (fun w9 v9 hw9 => ⟨⟨_, rfl⟩, .inl ⟨(Mo.ordL m S).take y.1, y.2.2, hz8.symm, hy.2.2.2, hw9⟩⟩)

set_option maxRecDepth 100000 in
set_option maxHeartbeats 1000000 in
theorem listOfO_ok {w0 w : World} {R : Heap} (ht : TzAt w0) (m : Mo.Md) (ho : Mo.Ok m) (S : Nat) (hS : S < 2 ^ m.N) (c1 c0 : Nat) (hL : (Mo.ordL m S).length ≤ 36) (hn : New w0 w ((c1, Obj.cells #[.int .i64 (S : Nat)] 3 (0, 0)) :: (c0, Obj.cells #[.int .i64 m.R, .int .i64 m.C, .int .i64 m.K] 23 (0, 0)) :: R)) :
    Calls Tryd.prog 57 #[.func (.func 98) #[] #[.pointer (some ⟨c1, 0, none⟩), .pointer (some ⟨c0, 0, none⟩)]] w (Post (X := Value × Heap) (fun x => x.1) (fun x => RdI (ofN (Mo.ordL m S)) x) (fun x => x.2 ++ ((c1, Obj.cells #[.int .i64 (S : Nat)] 3 (0, 0)) :: (c0, Obj.cells #[.int .i64 m.R, .int .i64 m.C, .int .i64 m.K] 23 (0, 0)) :: R)) w0) := by
  refine callsRFM hn Tryd.func57 rfl (n := 16) rfl (by simp) ?_
  refine TC.seq ?_
  refine TC.region ?_
  refine TL.pure (PV.assign rfl) rfl (by decide) ?_
  refine TL.nil ?_
  refine TQ.thenC ?_
  refine TC.seq ?_
  refine TC.region ?_
  refine TL.alloc Tb.zero_84 rfl (by decide) (fun b0 hb0 => ?_)
  refine TL.nil ?_
  refine TQ.thenC ?_
  refine TC.seq ?_
  refine TC.region ?_
  refine TL.alloc Tb.zero_3 rfl (by decide) (fun b1 hb1 => ?_)
  refine TL.store rfl rfl Tb.cells_3 rfl (by repeat (first | exact Upd.head _ | apply Upd.tail | apply Upd.appR)) (by first | decide | (simp; done) | (simp; omega) | omega) rfl rfl ?_
  refine TL.nil ?_
  refine TQ.thenC ?_
  refine TC.seq ?_
  refine TC.seq ?_
  refine TC.region ?_
  refine TL.pure (PV.move rfl) rfl (by decide) ?_
  refine TL.nil ?_
  refine TQ.thenC ?_
  refine TC.block ?_
  refine TC.rangeFunc (encs := fun s : Nat => [.int .i64 s]) (kept := [(c1, Obj.cells #[.int .i64 (S : Nat)] 3 (0, 0)), (c0, Obj.cells #[.int .i64 m.R, .int .i64 m.C, .int .i64 m.K] 23 (0, 0))]) (α := Nat) (X := List Nat) (Y := Unit) (Z := List Nat) (ps := [7]) (fun pre s => s = pre) (fun s => (b1, Obj.cells #[.int .i64 (s.length : Nat)] 3 (0, 0)) :: (b0, Obj.cells (padA s) 84 (0, 0)) :: (c1, Obj.cells #[.int .i64 (S : Nat)] 3 (0, 0)) :: (c0, Obj.cells #[.int .i64 m.R, .int .i64 m.C, .int .i64 m.K] 23 (0, 0)) :: R) (fun pre y => False) (fun y => []) [] (fun x s z => z = s) (fun x z => [(5, .int .i64 x), (3, .pointer (some ⟨b0, 0, none⟩)), (4, .pointer (some ⟨b1, 0, none⟩))]) (fun x z => (b1, Obj.cells #[.int .i64 (z.length : Nat)] 3 (0, 0)) :: (b0, Obj.cells (padA z) 84 (0, 0)) :: (c1, Obj.cells #[.int .i64 (S : Nat)] 3 (0, 0)) :: (c0, Obj.cells #[.int .i64 m.R, .int .i64 m.C, .int .i64 m.K] 23 (0, 0)) :: R) rfl Tb.gofn_98 (order_it w0 ht m ho S hS c1 c0) (fun _ => rfl) (by decide) rfl (List.Sublist.refl _) (fun s q hq => by simp only [List.mem_cons, List.not_mem_nil, or_false] at hq; rcases hq with rfl | rfl <;> simp) ?_ ?_ ?_ ?_
  · skip
    intro lR TR pre x s hp_ hF_
    refine TG.region (by repeat (first | with_reducible exact RB.lo | with_reducible exact QN.lo | with_reducible exact bodyM_lo | with_reducible exact bodyP_lo | with_reducible apply lo_then | with_reducible apply lo_blk)) (by kernel_rfl) ?_
    refine TL.pure (PV.assign rfl) rfl (by decide) ?_
    refine TL.nil ?_
    refine TQ.gmid s rfl (by repeat (first | exact True.intro | refine And.intro rfl ?_)) (List.Sublist.refl _)
  · skip
    intro lR TR pre x s z hp_ hF_ hz_
    obtain rfl : s = z := hz_.symm
    obtain rfl : s = pre := hF_
    have hpl := hp_.length_le
    rw [List.length_append, List.length_singleton] at hpl
    refine TG.block ?_
    refine TG.seq ?_
    refine TG.region (by repeat (first | with_reducible exact RB.lo | with_reducible exact QN.lo | with_reducible exact bodyM_lo | with_reducible exact bodyP_lo | with_reducible apply lo_then | with_reducible apply lo_blk)) (by kernel_rfl) ?_
    refine TL.pure (PV.load rfl Tb.one_3 (by repeat (first | exact List.Mem.head _ | refine List.Mem.tail _ ?_ | refine List.mem_append_right _ ?_)) rfl) rfl (by decide) ?_
    refine TL.pure (PV.move rfl) rfl (by decide) ?_
    refine TL.pure (PV.indexArr (j := s.length) rfl rfl arr_84 rfl (by omega)) rfl (by decide) ?_
    refine TL.store (cs := padA s) rfl rfl Tb.cells_3 rfl (by rw [padA_set (by omega)]; exact (by repeat (first | exact Upd.head _ | apply Upd.tail | apply Upd.appR))) (by rw [padA_size (by omega)]; omega) rfl rfl ?_
    refine TL.nil ?_
    refine TQ.thenG ?_
    refine TG.region (by repeat (first | with_reducible exact RB.lo | with_reducible exact QN.lo | with_reducible exact bodyM_lo | with_reducible exact bodyP_lo | with_reducible apply lo_then | with_reducible apply lo_blk)) (by kernel_rfl) ?_
    refine TL.pure (PV.load rfl Tb.one_3 (by repeat (first | exact List.Mem.head _ | refine List.Mem.tail _ ?_ | refine List.mem_append_right _ ?_)) rfl) rfl (by decide) ?_
    refine TL.pure (PV.add rfl rfl (by omega)) rfl (by decide) ?_
    refine TL.store rfl rfl Tb.cells_3 rfl (by repeat (first | exact Upd.head _ | apply Upd.tail | apply Upd.appR)) (by first | decide | (simp; done) | (simp; omega) | omega) rfl rfl ?_
    refine TL.nil ?_
    refine TQ.gblkN ?_
    refine TQ.goOn (s ++ [x]) rfl ?_
    have e9 : (((s ++ [x]).length : Nat) : Int) = ((s.length : Nat) : Int) + 1 := by rw [List.length_append]; rfl
    simp only [e9]
    exact List.Sublist.refl _
  · skip
    intro dB lB oB xs_ s hD_ hF_
    obtain rfl : s = xs_ := hF_
    have hD9 := hD_
    have hsl : s.length ≤ 36 := by rw [hD9]; exact hL
    refine TQ.gblkN ?_
    refine TQ.thenD ?_
    refine TG.seq ?_
    refine TG.region (by repeat (first | with_reducible exact RB.lo | with_reducible exact QN.lo | with_reducible exact bodyM_lo | with_reducible exact bodyP_lo | with_reducible apply lo_then | with_reducible apply lo_blk)) (by kernel_rfl) ?_
    refine TL.pure (PV.load rfl Tb.one_3 (by repeat (first | exact List.Mem.head _ | refine List.Mem.tail _ ?_ | refine List.mem_append_right _ ?_)) rfl) rfl (by decide) ?_
    refine TL.pure (PV.load rfl Tb.one_3 (by repeat (first | exact List.Mem.head _ | refine List.Mem.tail _ ?_ | refine List.mem_append_right _ ?_)) rfl) rfl (by decide) ?_
    refine TL.pure (PV.sliceArr3 (h := s.length) rfl rfl rfl arr_84 rfl rfl (by omega) (by decide)) rfl (by decide) ?_
    refine TL.pure (PV.assign rfl) rfl (by decide) ?_
    refine TL.nil ?_
    refine TQ.thenG ?_
    refine TG.ret ?_
    refine TQ.retM (by repeat (first | exact Take.head _ | apply Take.tail | apply Take.appR)) ?_
    refine TQ.retE1 rfl rfl ?_
    exact ⟨(.slice (some ⟨b0, 0, none⟩) s.length s.length, [(b0, Obj.cells (padA s) 84 (0, 0))]), rfl, by rw [← hD9]; exact padA_rd, by simp only [List.cons_append, List.nil_append]; exact List.Sublist.cons _ (List.Sublist.cons_cons _ (List.Sublist.cons_cons _ (List.Sublist.cons_cons _ (List.sublist_append_left _ _))))⟩
  · skip
    intro dB lB oB xs_ y hP_ hF_
    exact hF_.elim

end Go.Proofs.YtaeobkgogipceaaDoor
