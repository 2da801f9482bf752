/- The greatest siphon in a set, by the reference: contracts. -/
import Derived.Test.YtkkipbkkijoneaaDn
set_option linter.unusedVariables false
set_option linter.unusedSimpArgs false
namespace Go.Proofs.Ytkkipbkkijoneaa
open Go.Sx Go.RowKit

theorem mask_ex (f : Nat → Bool) : ∀ n : Nat, ∃ m, m < 2 ^ n ∧ ∀ i, i < n → m / 2 ^ i % 2 = if f i = true then 1 else 0
  | 0 => ⟨0, by decide, fun i hi => absurd hi (Nat.not_lt_zero _)⟩
  | n + 1 => by
    obtain ⟨m, h1, h2⟩ := mask_ex f n
    have hp : 2 ^ (n + 1) = 2 ^ n + 2 ^ n := by rw [Nat.pow_succ]; omega
    refine ⟨m + 2 ^ n * (if f n = true then 1 else 0), by rw [hp]; split <;> omega, fun i hi => ?_⟩
    by_cases e : i = n
    · subst e
      rw [Nat.add_mul_div_left _ _ (Nat.two_pow_pos i), Nat.div_eq_of_lt h1]
      split <;> rfl
    · have e2 : 2 ^ n = 2 ^ i * (2 * 2 ^ (n - i - 1)) := by
        rw [← Nat.mul_assoc, ← Nat.pow_succ, ← Nat.pow_add]
        congr 1
        omega
      rw [e2, Nat.mul_assoc, Nat.add_mul_div_left _ _ (Nat.two_pow_pos i), Nat.mul_assoc, Nat.add_mul_mod_self_left]
      exact h2 i (by omega)
/-- The part of a set that a mask tells. -/
def subL (S : List Int) (m j : Nat) : List Int := ((List.range j).filter fun i => decide (m / 2 ^ i % 2 = 1)).map fun i => S.getD i 0
theorem sub_zero (S : List Int) (m : Nat) : subL S m 0 = [] := rfl
theorem sub_yes {S : List Int} {m j : Nat} (h : m / 2 ^ j % 2 = 1) : subL S m (j + 1) = subL S m j ++ [S.getD j 0] := by
  unfold subL
  rw [List.range_succ, List.filter_append, List.filter_cons_of_pos (by rw [decide_eq_true h]), List.filter_nil, List.map_append]
  rfl
theorem sub_no {S : List Int} {m j : Nat} (h : ¬ m / 2 ^ j % 2 = 1) : subL S m (j + 1) = subL S m j := by
  unfold subL
  rw [List.range_succ, List.filter_append, List.filter_cons_of_neg (by rw [decide_eq_false h]; decide), List.filter_nil, List.append_nil]
theorem sub_len (S : List Int) (m j : Nat) : (subL S m j).length ≤ j := by
  unfold subL
  rw [List.length_map]
  have := List.length_filter_le (fun i => decide (m / 2 ^ i % 2 = 1)) (List.range j)
  rw [List.length_range] at this
  exact this
theorem mem_sub {S : List Int} {m j : Nat} {x : Int} : x ∈ subL S m j ↔ ∃ i, i < j ∧ m / 2 ^ i % 2 = 1 ∧ S.getD i 0 = x := by
  unfold subL
  rw [List.mem_map]
  constructor
  · rintro ⟨i, h1, h2⟩
    rw [List.mem_filter, List.mem_range, decide_eq_true_eq] at h1
    exact ⟨i, h1.1, h1.2, h2⟩
  · rintro ⟨i, h1, h2, h3⟩
    exact ⟨i, List.mem_filter.2 ⟨List.mem_range.2 h1, decide_eq_true h2⟩, h3⟩
theorem sub_mem {S : List Int} {m j : Nat} (hj : j ≤ S.length) : ∀ x ∈ subL S m j, x ∈ S := fun x hx => by
  obtain ⟨i, h1, _, rfl⟩ := mem_sub.1 hx
  exact getD_mem (by omega)
theorem Sip.mem {ss : List St} {T U : List Int} (h : ∀ q, q ∈ T ↔ q ∈ U) (hs : Sip ss T) : Sip ss U := fun s hs2 hg => by
  obtain ⟨q, hq, hq2⟩ := tou_iff.1 hg
  obtain ⟨r, hr, hr2⟩ := tou_iff.1 (hs s hs2 (tou_iff.2 ⟨q, (h q).2 hq, hq2⟩))
  exact tou_iff.2 ⟨r, (h r).1 hr, hr2⟩
/-- A place lies in a siphon that one of the first masks tells. -/
def inK (ss : List St) (S : List Int) (k p : Nat) : Prop := ∃ m, m < k ∧ Sip ss (subL S m S.length) ∧ (p : Int) ∈ subL S m S.length
theorem inK_zero (ss : List St) (S : List Int) (p : Nat) : ¬ inK ss S 0 p := fun ⟨m, h, _⟩ => Nat.not_lt_zero _ h
theorem inK_succ {ss : List St} {S : List Int} {k p : Nat} : inK ss S (k + 1) p ↔ inK ss S k p ∨ (Sip ss (subL S k S.length) ∧ (p : Int) ∈ subL S k S.length) := by
  constructor
  · rintro ⟨m, h1, h2⟩
    by_cases e : m = k
    · subst e; exact .inr h2
    · exact .inl ⟨m, by omega, h2⟩
  · rintro (⟨m, h1, h2⟩ | h)
    · exact ⟨m, by omega, h2⟩
    · exact ⟨k, by omega, h⟩
open Classical in
theorem mem_gs {ss : List St} {S : List Int} {p : Int} : p ∈ gsL ss S ↔ ∃ T : List Int, (∀ q ∈ T, q ∈ S) ∧ Sip ss T ∧ p ∈ T := by
  unfold gsL
  rw [List.mem_filter, decide_eq_true_eq]
  exact ⟨fun h => h.2, fun ⟨T, h1, h2, h3⟩ => ⟨h1 p h3, T, h1, h2, h3⟩⟩
theorem inK_all {ss : List St} {S : List Int} {p : Nat} : inK ss S (2 ^ S.length) p ↔ (p : Int) ∈ gsL ss S := by
  rw [mem_gs]
  constructor
  · rintro ⟨m, _, h2, h3⟩
    exact ⟨_, sub_mem (Nat.le_refl _), h2, h3⟩
  · rintro ⟨T, h1, h2, h3⟩
    obtain ⟨m, hm, hb⟩ := mask_ex (fun i => decide (S.getD i 0 ∈ T)) S.length
    have he : ∀ q, q ∈ T ↔ q ∈ subL S m S.length := fun q => by
      rw [mem_sub]
      constructor
      · intro hq
        obtain ⟨i, hi, e⟩ := List.getElem_of_mem (h1 q hq)
        have e2 : S.getD i 0 = q := by rw [List.getD_eq_getElem?_getD, List.getElem?_eq_getElem hi]; exact e
        exact ⟨i, hi, by rw [hb i hi, if_pos (by rw [e2]; exact decide_eq_true hq)], e2⟩
      · rintro ⟨i, hi, h4, rfl⟩
        rw [hb i hi] at h4
        by_cases hq : S.getD i 0 ∈ T
        · exact hq
        · rw [if_neg (by rw [decide_eq_false hq]; decide)] at h4
          exact absurd h4 (by decide)
    exact ⟨m, hm, h2.mem he, (he _).1 h3⟩
/-- The places of a list of marks. -/
def outL (bs : List Bool) (p : Nat) : List Int := ((List.range p).filter fun i => bs.getD i false).map fun i : Nat => ((i : Nat) : Int)
theorem out_yes {bs : List Bool} {p : Nat} (h : bs.getD p false = true) : outL bs (p + 1) = outL bs p ++ [(p : Int)] := by
  unfold outL
  rw [List.range_succ, List.filter_append, List.filter_cons_of_pos (p := fun i => bs.getD i false) h, List.filter_nil, List.map_append]
  rfl
theorem out_no {bs : List Bool} {p : Nat} (h : bs.getD p false = false) : outL bs (p + 1) = outL bs p := by
  unfold outL
  rw [List.range_succ, List.filter_append, List.filter_cons_of_neg (p := fun i => bs.getD i false) (by rw [h]; decide), List.filter_nil, List.append_nil]
theorem out_len (bs : List Bool) (p : Nat) : (outL bs p).length ≤ p := by
  unfold outL
  rw [List.length_map]
  have := List.length_filter_le (fun i => bs.getD i false) (List.range p)
  rw [List.length_range] at this
  exact this
theorem asc_ext : ∀ {a b : List Int}, a.Pairwise (· < ·) → b.Pairwise (· < ·) → (∀ x, x ∈ a ↔ x ∈ b) → a = b
  | [], [], _, _, _ => rfl
  | [], y :: b, _, _, h => absurd ((h y).2 (.head _)) (by simp)
  | x :: a, [], _, _, h => absurd ((h x).1 (.head _)) (by simp)
  | x :: a, y :: b, ha, hb, h => by
    rw [List.pairwise_cons] at ha hb
    have e : x = y := by
      have h1 := (h x).1 (.head _)
      have h2 := (h y).2 (.head _)
      rcases List.mem_cons.1 h1 with h1 | h1
      · exact h1
      · rcases List.mem_cons.1 h2 with h2 | h2
        · exact h2.symm
        · have := ha.1 y h2
          have := hb.1 x h1
          omega
    subst e
    congr 1
    refine asc_ext ha.2 hb.2 fun z => ?_
    have hz := h z
    rw [List.mem_cons, List.mem_cons] at hz
    constructor
    · intro h1
      have := ha.1 z h1
      rcases hz.1 (.inr h1) with h2 | h2
      · omega
      · exact h2
    · intro h1
      have := hb.1 z h1
      rcases hz.2 (.inr h1) with h2 | h2
      · omega
      · exact h2
theorem plc_lt {n : Int} {xs : List Int} (h : Plc n xs) : ∀ j i, i < j → j < xs.length → xs.getD i 0 < xs.getD j 0
  | 0, i, hij, _ => absurd hij (Nat.not_lt_zero _)
  | j + 1, i, hij, hj => by
    have h1 := (h (j + 1) hj).2 (by omega)
    rw [Nat.add_sub_cancel] at h1
    by_cases e : i = j
    · subst e; exact h1
    · have := plc_lt h j i (by omega) (by omega)
      omega
theorem plc_asc {n : Int} {xs : List Int} (h : Plc n xs) : xs.Pairwise (· < ·) := by
  rw [List.pairwise_iff_getElem]
  intro i j hi hj hij
  have := plc_lt h j i hij hj
  rw [List.getD_eq_getElem?_getD, List.getD_eq_getElem?_getD, List.getElem?_eq_getElem hi, List.getElem?_eq_getElem hj] at this
  exact this
theorem out_asc (bs : List Bool) (p : Nat) : (outL bs p).Pairwise (· < ·) := by
  unfold outL
  rw [List.pairwise_map]
  refine List.Pairwise.imp (fun h => by omega) ((List.pairwise_lt_range (n := p)).sublist List.filter_sublist)
theorem out_eq {n : Int} {ss : List St} {S : List Int} {bs : List Bool} {N : Nat} (hS : Plc n S) (hN : n = N) (hb : ∀ p, p < N → (bs.getD p false = true ↔ (p : Int) ∈ gsL ss S)) : outL bs N = gsL ss S := by
  refine asc_ext (out_asc _ _) ((plc_asc hS).sublist List.filter_sublist) fun x => ?_
  unfold outL
  rw [List.mem_map]
  constructor
  · rintro ⟨i, h1, rfl⟩
    rw [List.mem_filter, List.mem_range] at h1
    exact (hb i h1.1).1 h1.2
  · intro hx
    have h1 := hS.inp x ((List.filter_sublist (l := S)).subset hx)
    have h2 : ((x.toNat : Nat) : Int) = x := by omega
    exact ⟨x.toNat, List.mem_filter.2 ⟨List.mem_range.2 (by omega), (hb x.toNat (by omega)).2 (by rw [h2]; exact hx)⟩, h2⟩
structure GM (ss : List St) (S : List Int) (N k : Nat) (bs : List Bool) : Prop where
  le : k ≤ 2 ^ S.length
  len : bs.length = N
  mem : ∀ p, p < N → (bs.getD p false = true ↔ inK ss S k p)
theorem GM.zero (ss : List St) (S : List Int) (N : Nat) : GM ss S N 0 (List.replicate N false) := ⟨Nat.zero_le _, by simp, fun p hp => by
  constructor
  · intro h; simp [List.getD, hp] at h
  · intro h; exact absurd h (inK_zero _ _ _)⟩
theorem GM.skip {ss : List St} {S : List Int} {N k : Nat} {bs : List Bool} (h : GM ss S N k bs) (hk : k < 2 ^ S.length) (hs : ¬ Sip ss (subL S k S.length)) : GM ss S N (k + 1) bs :=
  ⟨hk, h.len, fun p hp => by rw [h.mem p hp, inK_succ]; exact ⟨.inl, fun h => h.elim id fun h => absurd h.1 hs⟩⟩
theorem GM.put {ss : List St} {S : List Int} {N k : Nat} {bs bs' : List Bool} (h : GM ss S N k bs) (hk : k < 2 ^ S.length) (hs : Sip ss (subL S k S.length)) (hl : bs'.length = N)
    (hb : ∀ p, p < N → (bs'.getD p false = true ↔ (bs.getD p false = true ∨ (p : Int) ∈ subL S k S.length))) : GM ss S N (k + 1) bs' :=
  ⟨hk, hl, fun p hp => by rw [hb p hp, h.mem p hp, inK_succ]; exact ⟨fun h => h.imp id fun h => ⟨hs, h⟩, fun h => h.imp id fun h => h.2⟩⟩
theorem bset_at {bs : List Bool} {i : Nat} (hi : i < bs.length) (p : Nat) : (bs.set i true).getD p false = true ↔ bs.getD p false = true ∨ i = p := by
  rw [List.getD_eq_getElem?_getD, List.getD_eq_getElem?_getD, List.getElem?_set]
  by_cases e : i = p
  · subst e; simp [hi]
  · simp [e]
theorem take_mem {xs : List Int} {i : Nat} (hi : i < xs.length) (x : Int) : x ∈ xs.take (i + 1) ↔ x ∈ xs.take i ∨ xs.getD i 0 = x := by
  rw [take_succ_getD hi, List.mem_append, List.mem_singleton]
  exact ⟨fun h => h.imp id Eq.symm, fun h => h.imp id Eq.symm⟩
theorem int_109 : Try.prog.underlying 109 = some (.int .u64) := by kernel_rfl
theorem two_le {n : Nat} (h : n ≤ 6) : 2 ^ n ≤ 64 := Nat.le_trans (Nat.pow_le_pow_right (by decide) h) (by decide)
theorem shr_nat (m i : Nat) : ((m : Nat) : Int) / 2 ^ (((i : Nat) : Int)).toNat = ((m / 2 ^ i : Nat) : Int) := by
  rw [Int.toNat_natCast]
  norm_cast
theorem lt64 {m i : Nat} (h : m < 64) : m / 2 ^ i < 64 := Nat.lt_of_le_of_lt (Nat.div_le_self _ _) h


set_option maxRecDepth 100000 in
set_option maxHeartbeats 4000000 in
theorem rgreatest_ok (w0 : World) (n : Int) (p : Option Addr) (cp : Nat) (ss : List St) (hr : StsAt w0 p ss) (hS : SmS ss) (hV : VY n ss) (vx : Value) (xs : List Int) (hv : IsI w0 vx xs) (hl : xs.length ≤ 1000000) (hP : Plc n xs) :
    Calls Try.prog 103 #[yv n p ss.length cp, vx] w0 (Post (X := HD) (fun h => gval h (gsL ss xs).length) (fun h => goI (h, gsL ss xs)) (fun h => gbI (h, gsL ss xs)) w0) := by
  obtain ⟨pl, cl, rfl, hx⟩ := hv
  have hn6 := hV.hn
  obtain ⟨N, hN⟩ : ∃ N : Nat, n = N := ⟨n.toNat, by omega⟩
  have hxl : xs.length ≤ 6 := by have := plc_small hP; omega
  have h64 := two_le hxl
  refine calls Try.func103 rfl (n := 73) rfl (by simp) ?_
  refine TC.seq ?_
  refine TC.region ?_
  refine TL.box rfl rfl (by decide) (fun b0 hb0 => ?_)
  refine TL.pure (PV.assign rfl) rfl (by decide) ?_
  refine TL.nil ?_
  refine TQ.thenC ?_
  refine TC.seq ?_
  refine TC.region ?_
  refine TL.pure (PV.fieldAddr rfl Tb.fo_24_0) rfl (by decide) ?_
  refine TL.pure (PV.load rfl Tb.one_3 (by repeat (first | exact List.Mem.head _ | refine List.Mem.tail _ ?_ | refine List.mem_append_right _ ?_)) rfl) rfl (by decide) ?_
  refine TL.makeB (k := N) rfl rfl Tb.sl_116 Tb.zi_4 hN (by omega) (by omega) rfl (by decide) (fun bB hbB => ?_)
  refine TL.pure (PV.assign rfl) rfl (by decide) ?_
  refine TL.nil ?_
  refine TQ.thenC ?_
  refine TC.seq ?_
  refine TC.seq ?_
  refine TC.region ?_
  refine TL.pure (PV.assign rfl) rfl (by decide) ?_
  refine TL.nil ?_
  refine TQ.thenC ?_
  refine TC.block ?_
  refine TC.lit [(1, _), (2, _), (4, _), (5, _), (6, _)] (by repeat (first | exact True.intro | refine And.intro rfl ?_)) ?_
  refine TC.loopK [1, 2, 4, 5] (X := Nat × List Bool) (fun x => GM ss xs N x.1 x.2) (fun x => [(6, .int .i64 x.1)]) (fun x => [(bB, Obj.cells (boolsA x.2) 4 (0, 0)), (b0, Obj.cells #[.int .i64 n, .slice p ss.length cp] 24 (0, 0))]) (fun x => 2 ^ xs.length - x.1) (0, List.replicate N false) (GM.zero _ _ _) (by repeat (first | exact True.intro | refine And.intro rfl ?_)) (by repeat (first | exact List.Sublist.slnil | exact List.nil_sublist _ | exact List.Sublist.refl _ | refine List.Sublist.cons_cons _ ?_ | refine List.Sublist.cons _ ?_ | refine List.Sublist.trans ?_ (List.sublist_append_right _ _))) ?_
  intro x hx9
  have hxle := hx9.le
  refine TC.lit [(1, _), (2, _), (4, _), (5, _), (6, _)] (by repeat (first | exact True.intro | refine And.intro rfl ?_)) ?_
  refine TC.seq ?_
  refine TC.seq ?_
  refine TC.region ?_
  refine TL.pure (PV.move rfl) rfl (by decide) ?_
  refine TL.pure (PV.move rfl) rfl (by decide) ?_
  refine TL.pure (PV.len rfl Tb.sl_25) rfl (by decide) ?_
  refine TL.pure (PV.conv int_3 int_109 rfl (wrap_u xs.length (by omega))) rfl (by decide) ?_
  refine TL.pure (PV.shl rfl rfl (by omega) (by omega) (shl_one xs.length (by omega))) rfl (by decide) ?_
  refine TL.pure (PV.lss rfl rfl) rfl (by decide) ?_
  refine TL.nil ?_
  refine TQ.thenC ?_
  first | refine TC.condD rfl (fun hlt => ?_) (fun hlt => ?_) | refine TC.cond rfl (fun hlt => ?_) (fun hlt => ?_)
  · skip
    refine TC.skip ?_
    refine TQ.thenC ?_
    refine TC.seq ?_
    refine TC.block ?_
    refine TC.seq ?_
    refine TC.region ?_
    refine TL.pure (PV.assign rfl) rfl (by decide) ?_
    refine TL.nil ?_
    refine TQ.thenC ?_
    refine TC.seq ?_
    refine TC.seq ?_
    refine TC.region ?_
    refine TL.pure (PV.assign rfl) rfl (by decide) ?_
    refine TL.nil ?_
    refine TQ.thenC ?_
    refine TC.block ?_
    refine TC.lit [(1, _), (2, _), (4, _), (5, _), (6, _), (7, _), (8, _)] (by repeat (first | exact True.intro | refine And.intro rfl ?_)) ?_
    refine TC.loopK [1, 2, 4, 5, 6] (X := Nat × HD) (fun y => y.1 ≤ xs.length ∧ goI (y.2, subL xs x.1 y.1)) (fun y => [(8, .int .i64 y.1), (7, gval y.2 (subL xs x.1 y.1).length)]) (fun y => gbI (y.2, subL xs x.1 y.1) ++ [(bB, Obj.cells (boolsA x.2) 4 (0, 0)), (b0, Obj.cells #[.int .i64 n, .slice p ss.length cp] 24 (0, 0))]) (fun y => xs.length - y.1) (0, none) ⟨Nat.zero_le _, goI_nil⟩ (by repeat (first | exact True.intro | refine And.intro rfl ?_)) (List.Sublist.refl _) ?_
    intro y hy9
    refine TC.lit [(1, _), (2, _), (4, _), (5, _), (6, _), (7, _), (8, _)] (by repeat (first | exact True.intro | refine And.intro rfl ?_)) ?_
    refine TC.seq ?_
    refine TC.seq ?_
    refine TC.region ?_
    refine TL.pure (PV.move rfl) rfl (by decide) ?_
    refine TL.pure (PV.move rfl) rfl (by decide) ?_
    refine TL.pure (PV.len rfl Tb.sl_25) rfl (by decide) ?_
    refine TL.pure (PV.lss rfl rfl) rfl (by decide) ?_
    refine TL.nil ?_
    refine TQ.thenC ?_
    first | refine TC.condD rfl (fun hlt2 => ?_) (fun hlt2 => ?_) | refine TC.cond rfl (fun hlt2 => ?_) (fun hlt2 => ?_)
    · skip
      refine TC.skip ?_
      refine TQ.thenC ?_
      refine TC.seq ?_
      refine TC.block ?_
      refine TC.seq ?_
      refine TC.region ?_
      refine TL.pure (PV.move rfl) rfl (by decide) ?_
      refine TL.pure (PV.move rfl) rfl (by decide) ?_
      refine TL.pure (PV.conv int_3 int_109 rfl (wrap_u y.1 (by omega))) rfl (by decide) ?_
      refine TL.pure (PV.shr rfl rfl (by omega) (by omega) (shr_nat x.1 y.1)) rfl (by decide) ?_
      refine TL.pure (PV.andI rfl rfl (and_one _ (lt64 (by omega)))) rfl (by decide) ?_
      refine TL.pure (PV.eql rfl rfl) rfl (by decide) ?_
      refine TL.nil ?_
      refine TQ.thenC ?_
      first | refine TC.condD rfl (fun hbit => ?_) (fun hbit => ?_) | refine TC.cond rfl (fun hbit => ?_) (fun hbit => ?_)
      · skip
        have hsb := sub_yes (S := xs) (m := x.1) (j := y.1) (by exact_mod_cast hbit)
        obtain ⟨q1, hq1p, hq1⟩ := hx y.1 (by omega)
        have hsl := sub_len xs x.1 y.1
        refine TC.region ?_
        refine TL.pure (PV.move rfl) rfl (by decide) ?_
        refine TL.pure (PV.move rfl) rfl (by decide) ?_
        refine TL.pure (PV.move rfl) rfl (by decide) ?_
        refine TL.pure (PV.indexA rfl hq1p rfl Tb.elm_25 rfl (by omega)) rfl (by decide) ?_
        refine TL.pure (PV.loadOld rfl Tb.one_3 hq1) rfl (by decide) ?_
        refine TL.buildSlice (cs := #[.int .i64 (xs.getD y.1 0)]) rfl Tb.sl_25 Tb.zi_3 (by decide) (fill_i _) (by decide) rfl (by decide) (fun bE hbE => ?_)
        refine TL.appendI (x0 := (y.2, subL xs x.1 y.1)) rfl rfl (by repeat (first | exact List.Mem.head _ | refine List.Mem.tail _ ?_ | refine List.mem_append_right _ ?_)) hy9.2 (by repeat (first | exact TakeH.here _ _ _ _ | apply TakeH.tail | apply TakeH.app)) (by show (subL xs x.1 y.1).length ≤ 1000000; omega) rfl (by decide) (fun hh hho => ?_)
        let ny : Nat × HD := (y.1 + 1, hh)
        have hny : ny.1 ≤ xs.length ∧ goI (ny.2, subL xs x.1 ny.1) := ⟨by simp only [ny]; omega, by simp only [ny]; rw [hsb]; exact hho⟩
        refine TL.pure (PV.assign rfl) rfl (by decide) ?_
        refine TL.nil ?_
        refine TQ.blkN ?_
        refine TQ.thenC ?_
        refine TC.region ?_
        refine TL.pure (PV.move rfl) rfl (by decide) ?_
        refine TL.pure (PV.add rfl rfl (by omega)) rfl (by decide) ?_
        refine TL.pure (PV.assign rfl) rfl (by decide) ?_
        refine TL.nil ?_
        refine TQ.thenN ?_
        refine TQ.backK ny (by first | exact And.intro rfl (And.intro rfl True.intro) | (refine And.intro rfl (And.intro ?_ True.intro); show some (gval _ _) = some (gval _ _); rw [hsb])) (by repeat (first | exact True.intro | refine And.intro rfl ?_)) (by first | (rw [hsb]; exact List.Sublist.append_left (List.sublist_cons_self _ _) _) | (simp only [ny, hsb]; exact List.Sublist.refl _)) hny (by simp only [ny]; omega)
      · skip
        have hsb := sub_no (S := xs) (m := x.1) (j := y.1) (fun h => hbit (by exact_mod_cast h))
        let ny : Nat × HD := (y.1 + 1, y.2)
        have hny : ny.1 ≤ xs.length ∧ goI (ny.2, subL xs x.1 ny.1) := ⟨by simp only [ny]; omega, by simp only [ny]; rw [hsb]; exact hy9.2⟩
        refine TC.skip ?_
        refine TQ.blkN ?_
        refine TQ.thenC ?_
        refine TC.region ?_
        refine TL.pure (PV.move rfl) rfl (by decide) ?_
        refine TL.pure (PV.add rfl rfl (by omega)) rfl (by decide) ?_
        refine TL.pure (PV.assign rfl) rfl (by decide) ?_
        refine TL.nil ?_
        refine TQ.thenN ?_
        refine TQ.backK ny (by first | exact And.intro rfl (And.intro rfl True.intro) | (refine And.intro rfl (And.intro ?_ True.intro); show some (gval _ _) = some (gval _ _); rw [hsb])) (by repeat (first | exact True.intro | refine And.intro rfl ?_)) (by first | (rw [hsb]; exact List.Sublist.append_left (List.sublist_cons_self _ _) _) | (simp only [ny, hsb]; exact List.Sublist.refl _)) hny (by simp only [ny]; omega)
    · skip
      refine TC.exit ?_
      refine TQ.thenE ?_
      refine TQ.thenE ?_
      refine TQ.blkS ?_
      refine TQ.thenC ?_
      refine TC.seq ?_
      refine TC.seq ?_
      have hye : y.1 = xs.length := by omega
      rw [hye]
      have hpt := hy9.2
      rw [hye] at hpt
      have hptl := sub_len xs x.1 xs.length
      refine TC.region ?_
      refine TL.pure (PV.loadBox rfl Tb.agg_24 (by repeat (first | exact List.Mem.head _ | refine List.Mem.tail _ ?_ | refine List.mem_append_right _ ?_)) rfl) rfl (by decide) ?_
      refine TL.pure (PV.move rfl) rfl (by decide) ?_
      refine TL.call rfl Tb.gofn_100 (fun a w hs => siphonic_ok w _ _ _ _ (hr.new hs.new) hS hV _ (subL xs x.1 xs.length) (IsI.g hs.new (fun yy hyy => by repeat (first | exact List.mem_append_left _ hyy | exact List.mem_append_left _ (List.mem_append_right _ hyy) | exact List.mem_append_left _ (List.mem_append_left _ hyy) | refine List.mem_append_right _ ?_ | refine List.Mem.tail _ ?_)) hpt) (by omega) (fun q hq => hP.inp q (sub_mem (Nat.le_refl _) q hq))) rfl (by decide) (fun _ _ => ?_)
      refine TL.pure ((by first | exact PV.notD rfl | exact PV.not rfl)) rfl (by decide) ?_
      refine TL.nil ?_
      refine TQ.thenC ?_
      first | refine TC.condD rfl (fun hns => ?_) (fun hns => ?_) | refine TC.cond rfl (fun hns => ?_) (fun hns => ?_)
      · skip
        have hnsi : ¬ Sip ss (subL xs x.1 xs.length) := fun h => by rw [sip_iff.2 h] at hns; exact absurd hns (by decide)
        let nx : Nat × List Bool := (x.1 + 1, x.2)
        have hnx : GM ss xs N nx.1 nx.2 := hx9.skip (by omega) hnsi
        refine TC.exit ?_
        refine TQ.thenE ?_
        refine TQ.blkS ?_
        refine TQ.thenC ?_
        refine TC.region ?_
        refine TL.pure (PV.move rfl) rfl (by decide) ?_
        refine TL.pure (PV.add rfl rfl (by omega)) rfl (by decide) ?_
        refine TL.pure (PV.assign rfl) rfl (by decide) ?_
        refine TL.nil ?_
        refine TQ.thenN ?_
        refine TQ.backK nx (by repeat (first | exact True.intro | refine And.intro rfl ?_)) (by repeat (first | exact True.intro | refine And.intro rfl ?_)) (by first | exact List.Sublist.refl _ | exact List.sublist_append_right _ _) hnx (by simp only [nx]; omega)
      · skip
        have hsi : Sip ss (subL xs x.1 xs.length) := sip_iff.1 (by simpa using hns)
        refine TC.skip ?_
        refine TQ.thenC ?_
        refine TC.seq ?_
        refine TC.region ?_
        refine TL.pure (PV.assign rfl) rfl (by decide) ?_
        refine TL.nil ?_
        refine TQ.thenC ?_
        refine TC.block ?_
        refine TC.lit [(1, _), (2, _), (4, _), (5, _), (6, _), (7, _), (9, _)] (by repeat (first | exact True.intro | refine And.intro rfl ?_)) ?_
        refine TC.loopK [1, 2, 4, 5, 6, 7] (X := Nat × List Bool) (fun z => z.1 ≤ (subL xs x.1 xs.length).length ∧ z.2.length = N ∧ ∀ p, p < N → (z.2.getD p false = true ↔ (x.2.getD p false = true ∨ (p : Int) ∈ (subL xs x.1 xs.length).take z.1))) (fun z => [(9, .int .i64 z.1)]) (fun z => gbI (y.2, (subL xs x.1 xs.length)) ++ [(bB, Obj.cells (boolsA z.2) 4 (0, 0)), (b0, Obj.cells #[.int .i64 n, .slice p ss.length cp] 24 (0, 0))]) (fun z => (subL xs x.1 xs.length).length - z.1) (0, x.2) ⟨Nat.zero_le _, hx9.len, fun p hp => by simp⟩ (by repeat (first | exact True.intro | refine And.intro rfl ?_)) (List.Sublist.refl _) ?_
        intro z hz9
        refine TC.lit [(1, _), (2, _), (4, _), (5, _), (6, _), (7, _), (9, _)] (by repeat (first | exact True.intro | refine And.intro rfl ?_)) ?_
        refine TC.seq ?_
        refine TC.seq ?_
        refine TC.region ?_
        refine TL.pure (PV.move rfl) rfl (by decide) ?_
        refine TL.pure (PV.move rfl) rfl (by decide) ?_
        refine TL.pure (PV.lenG rfl hpt Tb.sl_25) rfl (by decide) ?_
        refine TL.pure (PV.lss rfl rfl) rfl (by decide) ?_
        refine TL.nil ?_
        refine TQ.thenC ?_
        first | refine TC.condD rfl (fun hlt3 => ?_) (fun hlt3 => ?_) | refine TC.cond rfl (fun hlt3 => ?_) (fun hlt3 => ?_)
        · skip
          refine TC.skip ?_
          refine TQ.thenC ?_
          refine TC.seq ?_
          refine TC.block ?_
          have hzm := hP.inp _ (sub_mem (Nat.le_refl _) _ (getD_mem (xs := subL xs x.1 xs.length) (k := z.1) (by omega)))
          have hzl := hz9.2.1
          refine TC.region ?_
          refine TL.pure (PV.move rfl) rfl (by decide) ?_
          refine TL.pure (PV.move rfl) rfl (by decide) ?_
          refine TL.pure (PV.move rfl) rfl (by decide) ?_
          refine TL.pure (PV.indexG (j := z.1) rfl rfl hpt Tb.elm_25 rfl (by omega)) rfl (by decide) ?_
          refine TL.pure (PV.loadGI (y := (y.2, (subL xs x.1 xs.length))) (j := z.1) (v := (subL xs x.1 xs.length).getD z.1 0) rfl Tb.one_3 (fun yy hyy => by repeat (first | exact List.mem_append_left _ hyy | exact List.mem_append_left _ (List.mem_append_right _ hyy) | exact List.mem_append_left _ (List.mem_append_left _ hyy) | refine List.mem_append_right _ ?_ | refine List.Mem.tail _ ?_)) hpt (by show z.1 < (subL xs x.1 xs.length).length; omega) rfl) rfl (by decide) ?_
          refine TL.pure (PV.index1 (j := ((subL xs x.1 xs.length).getD z.1 0).toNat) rfl rfl Tb.elm_116 (by omega) (by omega)) rfl (by decide) ?_
          refine TL.storeB (v := true) rfl rfl Tb.cells_4 (by repeat (first | exact Upd.head _ | apply Upd.tail | apply Upd.appR)) (by omega) rfl rfl ?_
          refine TL.nil ?_
          refine TQ.blkN ?_
          refine TQ.thenC ?_
          refine TC.region ?_
          refine TL.pure (PV.move rfl) rfl (by decide) ?_
          refine TL.pure (PV.add rfl rfl (by omega)) rfl (by decide) ?_
          refine TL.pure (PV.assign rfl) rfl (by decide) ?_
          refine TL.nil ?_
          refine TQ.thenN ?_
          refine TQ.backK (z.1 + 1, z.2.set ((subL xs x.1 xs.length).getD z.1 0).toNat true) (by repeat (first | exact True.intro | refine And.intro rfl ?_)) (by repeat (first | exact True.intro | refine And.intro rfl ?_)) (List.Sublist.refl _) ⟨by simp only; omega, by simp only [List.length_set]; exact hz9.2.1, fun p hp => by simp only; rw [bset_at (by omega), hz9.2.2 p hp, take_mem (by omega), or_assoc]; constructor <;> (intro h; refine h.imp id (fun h => h.imp id (fun h => by omega)))⟩ (by simp only; omega)
        · skip
          let nx : Nat × List Bool := (x.1 + 1, z.2)
          have hnx : GM ss xs N nx.1 nx.2 := hx9.put (by omega) hsi hz9.2.1 (fun p hp => by rw [hz9.2.2 p hp, List.take_of_length_le (by omega)])
          refine TC.exit ?_
          refine TQ.thenE ?_
          refine TQ.thenE ?_
          refine TQ.blkS ?_
          refine TQ.blkN ?_
          refine TQ.thenC ?_
          refine TC.region ?_
          refine TL.pure (PV.move rfl) rfl (by decide) ?_
          refine TL.pure (PV.add rfl rfl (by omega)) rfl (by decide) ?_
          refine TL.pure (PV.assign rfl) rfl (by decide) ?_
          refine TL.nil ?_
          refine TQ.thenN ?_
          refine TQ.backK nx (by repeat (first | exact True.intro | refine And.intro rfl ?_)) (by repeat (first | exact True.intro | refine And.intro rfl ?_)) (by first | exact List.Sublist.refl _ | exact List.sublist_append_right _ _) hnx (by simp only [nx]; omega)
  · skip
    refine TC.exit ?_
    refine TQ.thenE ?_
    refine TQ.thenE ?_
    refine TQ.blkS ?_
    refine TQ.thenC ?_
    refine TC.seq ?_
    have hxe : x.1 = 2 ^ xs.length := by omega
    refine TC.region ?_
    refine TL.pure (PV.assign rfl) rfl (by decide) ?_
    refine TL.nil ?_
    refine TQ.thenC ?_
    refine TC.seq ?_
    refine TC.seq ?_
    refine TC.region ?_
    refine TL.pure (PV.assign rfl) rfl (by decide) ?_
    refine TL.nil ?_
    refine TQ.thenC ?_
    refine TC.block ?_
    refine TC.lit [(2, _), (4, _), (5, _), (10, _), (11, _)] (by repeat (first | exact True.intro | refine And.intro rfl ?_)) ?_
    refine TC.loopK [2, 4, 5] (X := Nat × HD) (fun u => u.1 ≤ N ∧ goI (u.2, outL x.2 u.1)) (fun u => [(11, .int .i64 u.1), (10, gval u.2 (outL x.2 u.1).length)]) (fun u => gbI (u.2, outL x.2 u.1) ++ [(bB, Obj.cells (boolsA x.2) 4 (0, 0)), (b0, Obj.cells #[.int .i64 n, .slice p ss.length cp] 24 (0, 0))]) (fun u => N - u.1) (0, none) ⟨Nat.zero_le _, goI_nil⟩ (by repeat (first | exact True.intro | refine And.intro rfl ?_)) (List.Sublist.refl _) ?_
    intro u hu9
    refine TC.lit [(2, _), (4, _), (5, _), (10, _), (11, _)] (by repeat (first | exact True.intro | refine And.intro rfl ?_)) ?_
    refine TC.seq ?_
    refine TC.seq ?_
    refine TC.region ?_
    refine TL.pure (PV.move rfl) rfl (by decide) ?_
    refine TL.pure (PV.fieldAddr rfl Tb.fo_24_0) rfl (by decide) ?_
    refine TL.pure (PV.load rfl Tb.one_3 (by repeat (first | exact List.Mem.head _ | refine List.Mem.tail _ ?_ | refine List.mem_append_right _ ?_)) rfl) rfl (by decide) ?_
    refine TL.pure (PV.lss rfl rfl) rfl (by decide) ?_
    refine TL.nil ?_
    refine TQ.thenC ?_
    first | refine TC.condD rfl (fun hlt4 => ?_) (fun hlt4 => ?_) | refine TC.cond rfl (fun hlt4 => ?_) (fun hlt4 => ?_)
    · skip
      refine TC.skip ?_
      refine TQ.thenC ?_
      refine TC.seq ?_
      refine TC.block ?_
      refine TC.seq ?_
      have hbl := hx9.len
      refine TC.region ?_
      refine TL.pure (PV.move rfl) rfl (by decide) ?_
      refine TL.pure (PV.move rfl) rfl (by decide) ?_
      refine TL.pure (PV.index1 (j := u.1) rfl rfl Tb.elm_116 rfl (by omega)) rfl (by decide) ?_
      refine TL.pure (PV.loadB rfl Tb.one_4 (by repeat (first | exact List.Mem.head _ | refine List.Mem.tail _ ?_ | refine List.mem_append_right _ ?_)) (by omega)) rfl (by decide) ?_
      refine TL.nil ?_
      refine TQ.thenC ?_
      first | refine TC.condD rfl (fun hin => ?_) (fun hin => ?_) | refine TC.cond rfl (fun hin => ?_) (fun hin => ?_)
      · skip
        have hob := out_yes hin
        have hol := out_len x.2 u.1
        refine TC.region ?_
        refine TL.pure (PV.move rfl) rfl (by decide) ?_
        refine TL.pure (PV.move rfl) rfl (by decide) ?_
        refine TL.buildSlice (cs := #[.int .i64 u.1]) rfl Tb.sl_25 Tb.zi_3 (by decide) (fill_i _) (by decide) rfl (by decide) (fun bE hbE => ?_)
        refine TL.appendI (x0 := (u.2, outL x.2 u.1)) rfl rfl (by repeat (first | exact List.Mem.head _ | refine List.Mem.tail _ ?_ | refine List.mem_append_right _ ?_)) hu9.2 (by repeat (first | exact TakeH.here _ _ _ _ | apply TakeH.tail | apply TakeH.app)) (by show (outL x.2 u.1).length ≤ 1000000; omega) rfl (by decide) (fun hh hho => ?_)
        let nu : Nat × HD := (u.1 + 1, hh)
        have hnu : nu.1 ≤ N ∧ goI (nu.2, outL x.2 nu.1) := ⟨by simp only [nu]; omega, by simp only [nu]; rw [hob]; exact hho⟩
        refine TL.pure (PV.assign rfl) rfl (by decide) ?_
        refine TL.nil ?_
        refine TQ.blkN ?_
        refine TQ.thenC ?_
        refine TC.region ?_
        refine TL.pure (PV.move rfl) rfl (by decide) ?_
        refine TL.pure (PV.add rfl rfl (by omega)) rfl (by decide) ?_
        refine TL.pure (PV.assign rfl) rfl (by decide) ?_
        refine TL.nil ?_
        refine TQ.thenN ?_
        refine TQ.backK nu (by first | exact And.intro rfl (And.intro rfl True.intro) | (refine And.intro rfl (And.intro ?_ True.intro); show some (gval _ _) = some (gval _ _); rw [hob])) (by repeat (first | exact True.intro | refine And.intro rfl ?_)) (by first | (rw [hob]; exact List.Sublist.append_left (List.sublist_cons_self _ _) _) | (simp only [nu, hob]; exact List.Sublist.refl _)) hnu (by simp only [nu]; omega)
      · skip
        have hob := out_no (by simpa using hin)
        let nu : Nat × HD := (u.1 + 1, u.2)
        have hnu : nu.1 ≤ N ∧ goI (nu.2, outL x.2 nu.1) := ⟨by simp only [nu]; omega, by simp only [nu]; rw [hob]; exact hu9.2⟩
        refine TC.skip ?_
        refine TQ.blkN ?_
        refine TQ.thenC ?_
        refine TC.region ?_
        refine TL.pure (PV.move rfl) rfl (by decide) ?_
        refine TL.pure (PV.add rfl rfl (by omega)) rfl (by decide) ?_
        refine TL.pure (PV.assign rfl) rfl (by decide) ?_
        refine TL.nil ?_
        refine TQ.thenN ?_
        refine TQ.backK nu (by first | exact And.intro rfl (And.intro rfl True.intro) | (refine And.intro rfl (And.intro ?_ True.intro); show some (gval _ _) = some (gval _ _); rw [hob])) (by repeat (first | exact True.intro | refine And.intro rfl ?_)) (by first | (rw [hob]; exact List.Sublist.append_left (List.sublist_cons_self _ _) _) | (simp only [nu, hob]; exact List.Sublist.refl _)) hnu (by simp only [nu]; omega)
    · skip
      refine TC.exit ?_
      refine TQ.thenE ?_
      refine TQ.thenE ?_
      refine TQ.blkS ?_
      refine TQ.thenC ?_
      refine TC.seq ?_
      have hue : u.1 = N := by omega
      have hoe : outL x.2 u.1 = gsL ss xs := by rw [hue]; exact out_eq hP hN (fun p hp => by rw [hx9.mem p hp, hxe]; exact inK_all)
      refine TC.region ?_
      refine TL.pure (PV.move rfl) rfl (by decide) ?_
      refine TL.pure (PV.assign rfl) rfl (by decide) ?_
      refine TL.nil ?_
      refine TQ.thenC ?_
      refine TC.ret ?_
      refine TQ.retE1 rfl rfl ?_
      exact ⟨u.2, by rw [hoe], by rw [← hoe]; exact hu9.2, by rw [← hoe]; exact List.sublist_append_left _ _⟩

end Go.Proofs.Ytkkipbkkijoneaa
