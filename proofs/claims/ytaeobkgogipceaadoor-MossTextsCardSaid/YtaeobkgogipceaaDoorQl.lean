/- The fewest squares, turning: contracts. -/
import Derived.Test.YtaeobkgogipceaaDoorQk
set_option linter.unusedVariables false
set_option linter.unusedSimpArgs false
namespace Go.Proofs.YtaeobkgogipceaaDoor
open Go.Sx Go.RowKit

theorem full_le12 {m : Mo.Md} (ho : Mo.Ok m) : Mo.full m < 9223372036854775808 := full_63 ho
/-- What a loop puts together of squares that are moved. -/
def imL (τ : Nat → Nat) (l : List Nat) : Nat := l.foldl (fun a q => a ||| 2 ^ τ q) 0
theorem imL_snoc (τ : Nat → Nat) (l : List Nat) (q : Nat) : imL τ (l ++ [q]) = imL τ l ||| 2 ^ τ q := by unfold imL; rw [List.foldl_append]; rfl
theorem imL_f (τ : Nat → Nat) (S : Nat) : ∀ k, imL τ ((List.range k).filter S.testBit) = Mo.img τ S k
  | 0 => rfl
  | k + 1 => by
    rw [List.range_succ, List.filter_append, List.filter_cons]
    unfold Mo.img
    by_cases h : S.testBit k = true
    · rw [if_pos h, if_pos h, List.filter_nil, imL_snoc, imL_f τ S k]
    · rw [if_neg h, if_neg h, List.filter_nil, List.append_nil, imL_f τ S k]
theorem imL_all {m : Mo.Md} (ho : Mo.Ok m) {S : Nat} (hS : S < 2 ^ m.N) (τ : Nat → Nat) : imL τ (Mo.sqL S) = Mo.im m τ S := by
  rw [sq_range hS (by have := ho.N36; omega)]; exact imL_f τ S m.N
theorem imL_lt {τ : Nat → Nat} {N : Nat} : ∀ (l : List Nat), (∀ q ∈ l, τ q < N) → imL τ l < 2 ^ N := by
  intro l
  generalize hn : l.length = n
  induction n generalizing l with
  | zero => intro _; rw [List.length_eq_zero_iff.1 hn]; exact Nat.two_pow_pos N
  | succ n ih =>
    obtain ⟨l', q, rfl⟩ : ∃ l' q, l = l' ++ [q] := ⟨l.dropLast, l.getLast (by intro h; rw [h] at hn; cases hn), (List.dropLast_concat_getLast _).symm⟩
    intro h
    rw [imL_snoc]
    exact Nat.or_lt_two_pow (ih l' (by simpa using hn) fun q hq => h q (List.mem_append_left _ hq)) (Nat.pow_lt_pow_right (by decide) (h q (by simp)))
theorem img_lt {m : Mo.Md} {τ : Nat → Nat} {S : Nat} (h : ∀ q, q < m.N → τ q < m.N) : ∀ k, k ≤ m.N → Mo.img τ S k < 2 ^ m.N
  | 0, _ => Nat.two_pow_pos _
  | k + 1, hk => by
    unfold Mo.img
    split
    · exact Nat.or_lt_two_pow (img_lt h k (by omega)) (Mo.one_lt (h k (by omega)))
    · exact img_lt h k (by omega)
theorem img_yes {τ : Nat → Nat} {S k : Nat} (h : S.testBit k = true) : Mo.img τ S (k + 1) = Mo.img τ S k ||| 2 ^ τ k := if_pos h
theorem img_no {τ : Nat → Nat} {S k : Nat} (h : S.testBit k = false) : Mo.img τ S (k + 1) = Mo.img τ S k := if_neg (by rw [h]; decide)
theorem tu_lt {m : Mo.Md} (ho : Mo.Ok m) (q : Nat) (h : q < m.N) : Mo.tu m q < m.N := (Mo.tab_at ho h).1.1
theorem mi_lt {m : Mo.Md} (ho : Mo.Ok m) (q : Nat) (h : q < m.N) : Mo.mi m q < m.N := (Mo.tab_at ho h).1.2.2.1
theorem tu_int {m : Mo.Md} (ho : Mo.Ok m) {s : Nat} (hs : s < m.N) : ((s % m.C : Nat) : Int) * ((m.R : Nat) : Int) + (((m.R : Nat) : Int) - 1 - ((s / m.C : Nat) : Int)) = ((Mo.tu m s : Nat) : Int) := by
  have h := row_col ho hs
  have hR := ho.R1
  unfold Mo.tu
  rw [Int.natCast_add, Int.natCast_mul]
  omega
theorem tu_int2 {m : Mo.Md} (ho : Mo.Ok m) {s : Nat} (hs : s < m.N) : ((s % m.C : Nat) : Int) * ((m.R : Nat) : Int) + ((m.R : Nat) : Int) - 1 - ((s / m.C : Nat) : Int) = ((Mo.tu m s : Nat) : Int) := by
  have := tu_int ho hs; omega
theorem mi_int {m : Mo.Md} (ho : Mo.Ok m) {s : Nat} (hs : s < m.N) : ((s / m.C : Nat) : Int) * ((m.C : Nat) : Int) + (((m.C : Nat) : Int) - 1 - ((s % m.C : Nat) : Int)) = ((Mo.mi m s : Nat) : Int) := by
  have h := row_col ho hs
  have hC := ho.C1
  unfold Mo.mi
  rw [Int.natCast_add, Int.natCast_mul]
  omega
theorem mi_int2 {m : Mo.Md} (ho : Mo.Ok m) {s : Nat} (hs : s < m.N) : ((s / m.C : Nat) : Int) * ((m.C : Nat) : Int) + ((m.C : Nat) : Int) - 1 - ((s % m.C : Nat) : Int) = ((Mo.mi m s : Nat) : Int) := by
  have := mi_int ho hs; omega
theorem box_at {w0 w : World} {G : Heap} {b : Nat} {x y z : Int} (hn : New w0 w G) (hm : (b, Obj.cells #[.int .i64 x, .int .i64 y, .int .i64 z] 23 (0, 0)) ∈ G) : ∀ j v, [Value.int .i64 x, .int .i64 y, .int .i64 z][j]? = some v → w.cell? ⟨b, 0 + j, none⟩ = some v := fun j v hv => by
  rw [Nat.zero_add]
  exact hn.cell hm (by simpa using hv)
abbrev zM (r c k w : Int) : Value := .agg #[.int .i64 (zI r c k w c), .int .i64 (zI r c k w r), .int .i64 (zI r c k w k)]


set_option maxRecDepth 100000 in
set_option maxHeartbeats 1000000 in
theorem Fewest_v (w0 : World) (ht : TzAt w0) (m : Mo.Md) (ho : Mo.Ok m) (h12 : m.N ≤ 12) :
    Calls Tryd.prog 46 #[mV m] w0 (Post (X := Nat) (fun F => .tuple #[.int .i64 (Mo.pc F : Nat), .int .i64 (F : Nat), .int .i64 0]) (fun F => Mo.Few m (fun _ => True) F) (fun _ => []) w0) := by
  have hf63 := full_63 ho
  have hv0 := vI_ok ho
  have hpf := pc_full_N ho
  refine calls Tryd.func46 rfl (n := 42) rfl (by simp) ?_
  refine TC.seq ?_
  refine TC.region ?_
  refine TL.box rfl rfl (by decide) (fun b0 hb0 => ?_)
  refine TL.pure (PV.assign rfl) rfl (by decide) ?_
  refine TL.pure (PV.assign rfl) rfl (by decide) ?_
  refine TL.pure (PV.assign rfl) rfl (by decide) ?_
  refine TL.nil ?_
  refine TQ.thenC ?_
  refine TC.seq ?_
  refine TC.seq ?_
  refine TC.region ?_
  refine TL.pure (PV.loadBox rfl Tb.agg_23 (by repeat (first | exact List.Mem.head _ | refine List.Mem.tail _ ?_ | refine List.mem_append_right _ ?_)) rfl) rfl (by decide) ?_
  refine TL.call rfl Tb.gofn_19 (fun a w hs => validate_ok w _ _ _) rfl (by decide) (fun _ _ => ?_)
  refine TL.pure (PV.assign rfl) rfl (by decide) ?_
  refine TL.nil ?_
  refine TQ.thenC ?_
  refine TC.seq ?_
  refine TC.region ?_
  refine TL.pure (PV.move rfl) rfl (by decide) ?_
  refine TL.pure (PV.neq rfl rfl) rfl (by decide) ?_
  refine TL.nil ?_
  refine TQ.thenC ?_
  first | refine TC.condD rfl (fun hv => ?_) (fun hv => ?_) | refine TC.cond rfl (fun hv => ?_) (fun hv => ?_)
  · skip
    exact absurd hv0 hv
  · skip
    refine TC.skip ?_
    refine TQ.thenC ?_
    refine TC.seq ?_
    refine TC.seq ?_
    refine TC.region ?_
    refine TL.pure (PV.loadBox rfl Tb.agg_23 (by repeat (first | exact List.Mem.head _ | refine List.Mem.tail _ ?_ | refine List.mem_append_right _ ?_)) rfl) rfl (by decide) ?_
    refine TL.call rfl Tb.gofn_71 (fun a w hs => all_ok w m ho) rfl (by decide) (fun _ _ => ?_)
    refine TL.call rfl Tb.gofn_82 (fun a w hs => count_ok w _ hf63) rfl (by decide) (fun _ _ => ?_)
    refine TL.pure (PV.gtr rfl rfl) rfl (by decide) ?_
    refine TL.nil ?_
    refine TQ.thenC ?_
    first | refine TC.condD rfl (fun hl => ?_) (fun hl => ?_) | refine TC.cond rfl (fun hl => ?_) (fun hl => ?_)
    · skip
      exact absurd hl (by omega)
    · skip
      refine TC.skip ?_
      refine TQ.thenC ?_
      refine TC.seq ?_
      refine TC.region ?_
      refine TL.pure (PV.loadBox rfl Tb.agg_23 (by repeat (first | exact List.Mem.head _ | refine List.Mem.tail _ ?_ | refine List.mem_append_right _ ?_)) rfl) rfl (by decide) ?_
      refine TL.call rfl Tb.gofn_71 (fun a w hs => all_ok w m ho) rfl (by decide) (fun _ _ => ?_)
      refine TL.pure (PV.assign rfl) rfl (by decide) ?_
      refine TL.nil ?_
      refine TQ.thenC ?_
      refine TC.seq ?_
      refine TC.seq ?_
      refine TC.region ?_
      refine TL.pure (PV.loadBox rfl Tb.agg_23 (by repeat (first | exact List.Mem.head _ | refine List.Mem.tail _ ?_ | refine List.mem_append_right _ ?_)) rfl) rfl (by decide) ?_
      refine TL.call rfl Tb.gofn_71 (fun a w hs => all_ok w m ho) rfl (by decide) (fun _ _ => ?_)
      refine TL.pure (PV.move rfl) rfl (by decide) ?_
      refine TL.nil ?_
      refine TQ.thenC ?_
      refine TC.block ?_
      refine TC.loopK [1, 2, 3, 4, 20] (X := Nat × Nat) (fun x => x.1 ≤ Mo.full m ∧ Mo.Few m (fun y => y < x.1 ∨ y = Mo.full m) x.2 ∧ (x.2 < x.1 ∨ x.2 = Mo.full m)) (fun x => [(21, .int .i64 x.1), (6, .int .i64 x.2)]) (fun x => [(b0, Obj.cells #[.int .i64 m.R, .int .i64 m.C, .int .i64 m.K] 23 (0, 0))]) (fun x => Mo.full m - x.1) (0, Mo.full m) ⟨Nat.zero_le _, Mo.Few.up0 ho, .inr rfl⟩ (by repeat (first | exact True.intro | refine And.intro rfl ?_)) (by repeat (first | exact List.Sublist.slnil | exact List.nil_sublist _ | exact List.Sublist.refl _ | refine List.Sublist.cons_cons _ ?_ | refine List.Sublist.cons _ ?_ | refine List.Sublist.trans ?_ (List.sublist_append_right _ _))) ?_
      intro x hx9
      have hxl := hx9.1
      have hfl := Mo.full_lt m
      refine TC.seq ?_
      refine TC.region ?_
      refine TL.pure (PV.lss rfl rfl) rfl (by decide) ?_
      refine TL.nil ?_
      refine TQ.thenC ?_
      refine TC.seq ?_
      first | refine TC.condD rfl (fun hlt => ?_) (fun hlt => ?_) | refine TC.cond rfl (fun hlt => ?_) (fun hlt => ?_)
      · skip
        have hkN : x.1 < 2 ^ m.N := by omega
        refine TC.skip ?_
        refine TQ.thenC ?_
        refine TC.seq ?_
        refine TC.block ?_
        refine TC.seq ?_
        refine TC.region ?_
        refine TL.pure (PV.move rfl) rfl (by decide) ?_
        refine TL.pure (PV.assign rfl) rfl (by decide) ?_
        refine TL.nil ?_
        refine TQ.thenC ?_
        refine TC.seq ?_
        refine TC.any Tb.mixed rfl rfl ?_
        refine TA.op (OpOK.pure (PV.move rfl) rfl (by decide)) (by decide) ?_
        refine TA.op (OpOK.call rfl Tb.gofn_82 (fun a w hs => count_ok w x.1 (by omega)) rfl (by decide)) (by decide) ?_
        refine TA.op (OpOK.pure (PV.move rfl) rfl (by decide)) (by decide) ?_
        refine TA.op (OpOK.call rfl Tb.gofn_82 (fun a w hs => count_ok w x.2 (set63 ho hx9.2.1.lt)) rfl (by decide)) (by decide) ?_
        refine TA.op (OpOK.pure (PV.lss rfl rfl) rfl (by decide)) (by decide) ?_
        refine TA.op (OpOK.pure (PV.move rfl) rfl (by decide)) (by decide) ?_
        first | refine TA.splitD 29 rfl (fun hc => ?_) (fun hc => ?_) | refine TA.split 29 rfl (fun hc => ?_) (fun hc => ?_)
        · skip
          refine TA.op (OpOK.pure (PV.loadBox rfl Tb.agg_23 (by repeat (first | exact List.Mem.head _ | refine List.Mem.tail _ ?_ | refine List.mem_append_right _ ?_)) rfl) rfl (by decide)) (by decide) ?_
          refine TA.op (OpOK.pure (PV.move rfl) rfl (by decide)) (by decide) ?_
          refine TA.op (OpOK.call rfl Tb.gofn_70 (fun a w hs => endOf_ok w (ht.new hs.new) m ho x.1 hkN) rfl (by decide)) (by decide) ?_
          refine TA.op (OpOK.pure (PV.loadBox rfl Tb.agg_23 (by repeat (first | exact List.Mem.head _ | refine List.Mem.tail _ ?_ | refine List.mem_append_right _ ?_)) rfl) rfl (by decide)) (by decide) ?_
          refine TA.op (OpOK.call rfl Tb.gofn_71 (fun a w hs => all_ok w m ho) rfl (by decide)) (by decide) ?_
          refine TA.op (OpOK.pure (PV.eql rfl rfl) rfl (by decide)) (by decide) ?_
          refine TA.op (OpOK.pure (PV.pickT rfl rfl) rfl (by decide)) (by decide) ?_
          show TQ _ _ _ _ _
          refine TQ.thenC ?_
          first | refine TC.condD rfl (fun he => ?_) (fun he => ?_) | refine TC.cond rfl (fun he => ?_) (fun he => ?_)
          · skip
            refine TC.region ?_
            refine TL.pure (PV.move rfl) rfl (by decide) ?_
            refine TL.pure (PV.assign rfl) rfl (by decide) ?_
            refine TL.nil ?_
            refine TQ.blkN ?_
            refine TQ.thenC ?_
            refine TC.region ?_
            refine TL.pure (PV.add rfl rfl (by omega)) rfl (by decide) ?_
            refine TL.pure (PV.move rfl) rfl (by decide) ?_
            refine TL.nil ?_
            refine TQ.thenN ?_
            refine TQ.backK (x.1 + 1, x.1) (by repeat (first | exact True.intro | refine And.intro rfl ?_)) (by repeat (first | exact True.intro | refine And.intro rfl ?_)) (by repeat (first | exact List.Sublist.slnil | exact List.nil_sublist _ | exact List.Sublist.refl _ | refine List.Sublist.cons_cons _ ?_ | refine List.Sublist.cons _ ?_ | refine List.Sublist.trans ?_ (List.sublist_append_right _ _))) ⟨by simp only; omega, hx9.2.1.take hkN (by omega) (by omega), .inl (by simp only; omega)⟩ (by simp only; omega)
          · skip
            refine TC.skip ?_
            refine TQ.blkN ?_
            refine TQ.thenC ?_
            refine TC.region ?_
            refine TL.pure (PV.add rfl rfl (by omega)) rfl (by decide) ?_
            refine TL.pure (PV.move rfl) rfl (by decide) ?_
            refine TL.nil ?_
            refine TQ.thenN ?_
            refine TQ.backK (x.1 + 1, x.2) (by repeat (first | exact True.intro | refine And.intro rfl ?_)) (by repeat (first | exact True.intro | refine And.intro rfl ?_)) (by repeat (first | exact List.Sublist.slnil | exact List.nil_sublist _ | exact List.Sublist.refl _ | refine List.Sublist.cons_cons _ ?_ | refine List.Sublist.cons _ ?_ | refine List.Sublist.trans ?_ (List.sublist_append_right _ _))) ⟨by simp only; omega, hx9.2.1.up (fun q => he (by have := q.2; omega)) hx9.2.2 ho, by have := hx9.2.2; simp only; omega⟩ (by simp only; omega)
        · skip
          refine TA.op (OpOK.skip rfl) (by decide) ?_
          refine TA.op (OpOK.skip rfl) (by decide) ?_
          refine TA.op (OpOK.skip rfl) (by decide) ?_
          refine TA.op (OpOK.skip rfl) (by decide) ?_
          refine TA.op (OpOK.skip rfl) (by decide) ?_
          refine TA.op (OpOK.skip rfl) (by decide) ?_
          refine TA.op (OpOK.pure (PV.pickF rfl rfl) rfl (by decide)) (by decide) ?_
          show TQ _ _ _ _ _
          refine TQ.thenC ?_
          refine TC.condF rfl ?_
          refine TC.skip ?_
          refine TQ.blkN ?_
          refine TQ.thenC ?_
          refine TC.region ?_
          refine TL.pure (PV.add rfl rfl (by omega)) rfl (by decide) ?_
          refine TL.pure (PV.move rfl) rfl (by decide) ?_
          refine TL.nil ?_
          refine TQ.thenN ?_
          refine TQ.backK (x.1 + 1, x.2) (by repeat (first | exact True.intro | refine And.intro rfl ?_)) (by repeat (first | exact True.intro | refine And.intro rfl ?_)) (by repeat (first | exact List.Sublist.slnil | exact List.nil_sublist _ | exact List.Sublist.refl _ | refine List.Sublist.cons_cons _ ?_ | refine List.Sublist.cons _ ?_ | refine List.Sublist.trans ?_ (List.sublist_append_right _ _))) ⟨by simp only; omega, hx9.2.1.up (fun q => hc (by have := q.1; omega)) hx9.2.2 ho, by have := hx9.2.2; simp only; omega⟩ (by simp only; omega)
      · skip
        refine TC.exit ?_
        refine TQ.thenE ?_
        refine TQ.thenE ?_
        refine TQ.blkS ?_
        refine TQ.thenC ?_
        refine TC.seq ?_
        have hfw := hx9.2.1
        rw [show x.1 = Mo.full m by omega] at hfw
        refine TC.region ?_
        refine TL.pure (PV.move rfl) rfl (by decide) ?_
        refine TL.call rfl Tb.gofn_82 (fun a w hs => count_ok w x.2 (set63 ho hx9.2.1.lt)) rfl (by decide) (fun _ _ => ?_)
        refine TL.pure (PV.move rfl) rfl (by decide) ?_
        refine TL.pure (PV.assign rfl) rfl (by decide) ?_
        refine TL.pure (PV.assign rfl) rfl (by decide) ?_
        refine TL.pure (PV.assign rfl) rfl (by decide) ?_
        refine TL.nil ?_
        refine TQ.thenC ?_
        refine TC.ret ?_
        refine TQ.retE3 rfl rfl rfl rfl ?_
        exact ⟨x.2, rfl, hfw.upEnd, List.nil_sublist _⟩

set_option maxRecDepth 100000 in
set_option maxHeartbeats 1000000 in
theorem rFewest_v (w0 : World) (m : Mo.Md) (ho : Mo.Ok m) (h12 : m.N ≤ 12) :
    Calls Tryd.prog 47 #[mV m] w0 (Post (X := Nat) (fun F => .tuple #[.int .i64 (Mo.pc F : Nat), .int .i64 (F : Nat), .int .i64 0]) (fun F => Mo.Few m (fun _ => True) F) (fun _ => []) w0) := by
  have hf63 := full_63 ho
  have hv0 := vI_ok ho
  refine calls Tryd.func47 rfl (n := 45) rfl (by simp) ?_
  refine TC.seq ?_
  refine TC.region ?_
  refine TL.box rfl rfl (by decide) (fun b0 hb0 => ?_)
  refine TL.pure (PV.assign rfl) rfl (by decide) ?_
  refine TL.pure (PV.assign rfl) rfl (by decide) ?_
  refine TL.pure (PV.assign rfl) rfl (by decide) ?_
  refine TL.nil ?_
  refine TQ.thenC ?_
  refine TC.seq ?_
  refine TC.region ?_
  refine TL.pure (PV.loadBox rfl Tb.agg_23 (by repeat (first | exact List.Mem.head _ | refine List.Mem.tail _ ?_ | refine List.mem_append_right _ ?_)) rfl) rfl (by decide) ?_
  refine TL.call rfl Tb.gofn_20 (fun a w hs => rvalidate_ok w _ _ _) rfl (by decide) (fun _ _ => ?_)
  refine TL.pure (PV.assign rfl) rfl (by decide) ?_
  refine TL.nil ?_
  refine TQ.thenC ?_
  refine TC.seq ?_
  refine TC.seq ?_
  refine TC.region ?_
  refine TL.pure (PV.move rfl) rfl (by decide) ?_
  refine TL.pure (PV.neq rfl rfl) rfl (by decide) ?_
  refine TL.nil ?_
  refine TQ.thenC ?_
  first | refine TC.condD rfl (fun hv => ?_) (fun hv => ?_) | refine TC.cond rfl (fun hv => ?_) (fun hv => ?_)
  · skip
    exact absurd hv0 hv
  · skip
    refine TC.skip ?_
    refine TQ.thenC ?_
    refine TC.seq ?_
    refine TC.seq ?_
    refine TC.region ?_
    refine TL.pure (PV.loadBox rfl Tb.agg_23 (by repeat (first | exact List.Mem.head _ | refine List.Mem.tail _ ?_ | refine List.mem_append_right _ ?_)) rfl) rfl (by decide) ?_
    refine TL.call rfl Tb.gofn_61 (fun a w hs => rsquares_ok w m ho) rfl (by decide) (fun _ _ => ?_)
    refine TL.pure (PV.gtr rfl rfl) rfl (by decide) ?_
    refine TL.nil ?_
    refine TQ.thenC ?_
    first | refine TC.condD rfl (fun hl => ?_) (fun hl => ?_) | refine TC.cond rfl (fun hl => ?_) (fun hl => ?_)
    · skip
      exact absurd hl (by omega)
    · skip
      refine TC.skip ?_
      refine TQ.thenC ?_
      refine TC.seq ?_
      refine TC.region ?_
      refine TL.pure (PV.loadBox rfl Tb.agg_23 (by repeat (first | exact List.Mem.head _ | refine List.Mem.tail _ ?_ | refine List.mem_append_right _ ?_)) rfl) rfl (by decide) ?_
      refine TL.call rfl Tb.gofn_72 (fun a w hs => rfull_ok w m ho) rfl (by decide) (fun _ _ => ?_)
      refine TL.pure (PV.assign rfl) rfl (by decide) ?_
      refine TL.nil ?_
      refine TQ.thenC ?_
      refine TC.seq ?_
      refine TC.seq ?_
      refine TC.region ?_
      refine TL.pure (PV.loadBox rfl Tb.agg_23 (by repeat (first | exact List.Mem.head _ | refine List.Mem.tail _ ?_ | refine List.mem_append_right _ ?_)) rfl) rfl (by decide) ?_
      refine TL.call rfl Tb.gofn_72 (fun a w hs => rfull_ok w m ho) rfl (by decide) (fun _ _ => ?_)
      refine TL.pure (PV.assign rfl) rfl (by decide) ?_
      refine TL.nil ?_
      refine TQ.thenC ?_
      refine TC.block ?_
      refine TC.loopK [1, 2, 3, 4] (X := Nat × Nat) (fun x => x.1 ≤ Mo.full m + 1 ∧ Mo.Few m (fun y => x.1 ≤ y) x.2) (fun x => [(7, .int .i64 ((x.1 : Nat) - 1 : Int)), (6, .int .i64 x.2)]) (fun x => [(b0, Obj.cells #[.int .i64 m.R, .int .i64 m.C, .int .i64 m.K] 23 (0, 0))]) (fun x => x.1) (Mo.full m + 1, Mo.full m) ⟨Nat.le_refl _, Mo.Few.dn0 ho⟩ (And.intro (by show some _ = some _; congr 2; omega) (And.intro rfl True.intro)) (by repeat (first | exact List.Sublist.slnil | exact List.nil_sublist _ | exact List.Sublist.refl _ | refine List.Sublist.cons_cons _ ?_ | refine List.Sublist.cons _ ?_ | refine List.Sublist.trans ?_ (List.sublist_append_right _ _))) ?_
      intro x hx9
      have hxl := hx9.1
      have hfl := Mo.full_lt m
      refine TC.seq ?_
      refine TC.seq ?_
      refine TC.region ?_
      refine TL.pure (PV.move rfl) rfl (by decide) ?_
      refine TL.pure (PV.geq rfl rfl) rfl (by decide) ?_
      refine TL.nil ?_
      refine TQ.thenC ?_
      first | refine TC.condD rfl (fun hge => ?_) (fun hge => ?_) | refine TC.cond rfl (fun hge => ?_) (fun hge => ?_)
      · skip
        obtain ⟨j, hj⟩ : ∃ j, x.1 = j + 1 := ⟨x.1 - 1, by omega⟩
        have hij : ((x.1 : Nat) : Int) - 1 = ((j : Nat) : Int) := by omega
        have hkN : j < 2 ^ m.N := by omega
        refine TC.skip ?_
        refine TQ.thenC ?_
        refine TC.seq ?_
        refine TC.block ?_
        refine TC.seq ?_
        refine TC.seq ?_
        refine TC.region ?_
        refine TL.pure (PV.move (by show some _ = some _; rw [hij])) rfl (by decide) ?_
        refine TL.call rfl Tb.gofn_83 (fun a w hs => size_ok w j (by omega)) rfl (by decide) (fun _ _ => ?_)
        refine TL.pure (PV.move rfl) rfl (by decide) ?_
        refine TL.call rfl Tb.gofn_83 (fun a w hs => size_ok w x.2 (set63 ho hx9.2.lt)) rfl (by decide) (fun _ _ => ?_)
        refine TL.pure (PV.gtr rfl rfl) rfl (by decide) ?_
        refine TL.nil ?_
        refine TQ.thenC ?_
        first | refine TC.condD rfl (fun hc => ?_) (fun hc => ?_) | refine TC.cond rfl (fun hc => ?_) (fun hc => ?_)
        · skip
          refine TC.exit ?_
          refine TQ.thenE ?_
          refine TQ.blkS ?_
          refine TQ.thenC ?_
          refine TC.region ?_
          refine TL.pure (PV.move rfl) rfl (by decide) ?_
          refine TL.pure (PV.sub rfl rfl (by omega)) rfl (by decide) ?_
          refine TL.pure (PV.assign rfl) rfl (by decide) ?_
          refine TL.nil ?_
          refine TQ.thenN ?_
          refine TQ.backK (j, x.2) (And.intro (by show some _ = some _; simp only [hij]) (And.intro rfl True.intro)) (by repeat (first | exact True.intro | refine And.intro rfl ?_)) (by repeat (first | exact List.Sublist.slnil | exact List.nil_sublist _ | exact List.Sublist.refl _ | refine List.Sublist.cons_cons _ ?_ | refine List.Sublist.cons _ ?_ | refine List.Sublist.trans ?_ (List.sublist_append_right _ _))) ⟨by simp only; omega, (hj ▸ hx9.2).dn (fun q => by have := q.1; omega)⟩ (by simp only; omega)
        · skip
          refine TC.skip ?_
          refine TQ.thenC ?_
          refine TC.seq ?_
          refine TC.region ?_
          refine TL.pure (PV.loadBox rfl Tb.agg_23 (by repeat (first | exact List.Mem.head _ | refine List.Mem.tail _ ?_ | refine List.mem_append_right _ ?_)) rfl) rfl (by decide) ?_
          refine TL.pure (PV.move (by show some _ = some _; rw [hij])) rfl (by decide) ?_
          refine TL.call rfl Tb.gofn_69 (fun a w hs => rspread_ok w m ho j hkN) rfl (by decide) (fun _ _ => ?_)
          refine TL.pure (PV.move rfl) rfl (by decide) ?_
          refine TL.pure (PV.extract rfl rfl) rfl (by decide) ?_
          refine TL.pure (PV.extract rfl rfl) rfl (by decide) ?_
          refine TL.pure (PV.assign rfl) rfl (by decide) ?_
          refine TL.pure (PV.assign rfl) rfl (by decide) ?_
          refine TL.nil ?_
          refine TQ.thenC ?_
          refine TC.seq ?_
          refine TC.region ?_
          refine TL.pure (PV.move rfl) rfl (by decide) ?_
          refine TL.pure (PV.loadBox rfl Tb.agg_23 (by repeat (first | exact List.Mem.head _ | refine List.Mem.tail _ ?_ | refine List.mem_append_right _ ?_)) rfl) rfl (by decide) ?_
          refine TL.call rfl Tb.gofn_72 (fun a w hs => rfull_ok w m ho) rfl (by decide) (fun _ _ => ?_)
          refine TL.pure (PV.eql rfl rfl) rfl (by decide) ?_
          refine TL.nil ?_
          refine TQ.thenC ?_
          first | refine TC.condD rfl (fun he => ?_) (fun he => ?_) | refine TC.cond rfl (fun he => ?_) (fun he => ?_)
          · skip
            refine TC.region ?_
            refine TL.pure (PV.move (by show some _ = some _; rw [hij])) rfl (by decide) ?_
            refine TL.pure (PV.assign rfl) rfl (by decide) ?_
            refine TL.nil ?_
            refine TQ.blkN ?_
            refine TQ.thenC ?_
            refine TC.region ?_
            refine TL.pure (PV.move rfl) rfl (by decide) ?_
            refine TL.pure (PV.sub rfl rfl (by omega)) rfl (by decide) ?_
            refine TL.pure (PV.assign rfl) rfl (by decide) ?_
            refine TL.nil ?_
            refine TQ.thenN ?_
            refine TQ.backK (j, j) (And.intro (by show some _ = some _; simp only [hij]) (And.intro rfl True.intro)) (by repeat (first | exact True.intro | refine And.intro rfl ?_)) (by repeat (first | exact List.Sublist.slnil | exact List.nil_sublist _ | exact List.Sublist.refl _ | refine List.Sublist.cons_cons _ ?_ | refine List.Sublist.cons _ ?_ | refine List.Sublist.trans ?_ (List.sublist_append_right _ _))) ⟨by simp only; omega, (hj ▸ hx9.2).dtake hkN (by omega) (by omega)⟩ (by simp only; omega)
          · skip
            refine TC.skip ?_
            refine TQ.blkN ?_
            refine TQ.thenC ?_
            refine TC.region ?_
            refine TL.pure (PV.move rfl) rfl (by decide) ?_
            refine TL.pure (PV.sub rfl rfl (by omega)) rfl (by decide) ?_
            refine TL.pure (PV.assign rfl) rfl (by decide) ?_
            refine TL.nil ?_
            refine TQ.thenN ?_
            refine TQ.backK (j, x.2) (And.intro (by show some _ = some _; simp only [hij]) (And.intro rfl True.intro)) (by repeat (first | exact True.intro | refine And.intro rfl ?_)) (by repeat (first | exact List.Sublist.slnil | exact List.nil_sublist _ | exact List.Sublist.refl _ | refine List.Sublist.cons_cons _ ?_ | refine List.Sublist.cons _ ?_ | refine List.Sublist.trans ?_ (List.sublist_append_right _ _))) ⟨by simp only; omega, (hj ▸ hx9.2).dn (fun q => he (by have := q.2; omega))⟩ (by simp only; omega)
      · skip
        refine TC.exit ?_
        refine TQ.thenE ?_
        refine TQ.thenE ?_
        refine TQ.blkS ?_
        refine TQ.thenC ?_
        refine TC.seq ?_
        have hz : x.1 = 0 := by omega
        refine TC.region ?_
        refine TL.pure (PV.move rfl) rfl (by decide) ?_
        refine TL.call rfl Tb.gofn_83 (fun a w hs => size_ok w x.2 (set63 ho hx9.2.lt)) rfl (by decide) (fun _ _ => ?_)
        refine TL.pure (PV.move rfl) rfl (by decide) ?_
        refine TL.pure (PV.assign rfl) rfl (by decide) ?_
        refine TL.pure (PV.assign rfl) rfl (by decide) ?_
        refine TL.pure (PV.assign rfl) rfl (by decide) ?_
        refine TL.nil ?_
        refine TQ.thenC ?_
        refine TC.ret ?_
        refine TQ.retE3 rfl rfl rfl rfl ?_
        exact ⟨x.2, rfl, ⟨hx9.2.lt, hx9.2.fill, fun y hy he _ => hx9.2.best y hy he (by omega)⟩, List.nil_sublist _⟩

end Go.Proofs.YtaeobkgogipceaaDoor
