/- Qc -/
import Derived.Test.YtbnjmkidbfmomaaGreatDoorV06
import Derived.Test.YtbnjmkidbfmomaaGreatDoorV07
import Derived.Test.YtbnjmkidbfmomaaGreatDoorV17
set_option linter.unusedVariables false
set_option linter.unusedSimpArgs false
set_option maxRecDepth 100000
namespace Go.Proofs.YtbnjmkidbfmomaaGreatDoor.M
open Go.Sx Go.RowKit
section
variable {P : Program} {n : Nat} {w0 : World} {E : Env} {G : Heap} {d : Option Nat} {ty : TypeId} {pos : String} {aft : Array Edge} {g : Option (Nat × Bool)}
theorem PV.quoN {a b : Nat} {x y : Operand} {t t' : TypeId} (hx : evo E x = some (.int .i64 a)) (hy : evo E y = some (.int .i64 b)) (hb : 0 < b) (ha : a < 9223372036854775808) : PV P n w0 E G ⟨d, .binOp .quo t x y t', ty, pos, aft, g⟩ (.int .i64 (a / b : Nat)) := by
  have h := PV.quo (P := P) (n := n) (w0 := w0) (G := G) (d := d) (t := t) (t' := t') (ty := ty) (pos := pos) (aft := aft) (g := g) hx hy (by omega) (by
    rw [Int.tdiv_eq_ediv_of_nonneg (by omega)]
    have h1 : (a : Int) / b = ((a / b : Nat) : Int) := by simp
    have h2 := Nat.div_le_self a b
    rw [h1]; generalize a / b = q at h2 ⊢; omega)
  rw [Int.tdiv_eq_ediv_of_nonneg (by omega), show (a : Int) / b = ((a / b : Nat) : Int) by simp] at h
  exact h
theorem PV.remN {a b : Nat} {x y : Operand} {t t' : TypeId} (hx : evo E x = some (.int .i64 a)) (hy : evo E y = some (.int .i64 b)) (hb : 0 < b) (ha : a < 9223372036854775808) : PV P n w0 E G ⟨d, .binOp .rem t x y t', ty, pos, aft, g⟩ (.int .i64 (a % b : Nat)) := by
  have h := PV.rem (P := P) (n := n) (w0 := w0) (G := G) (d := d) (t := t) (t' := t') (ty := ty) (pos := pos) (aft := aft) (g := g) hx hy (by omega) (by
    rw [Int.tmod_eq_emod_of_nonneg (by omega)]
    have h1 : (a : Int) % b = ((a % b : Nat) : Int) := by simp
    have h2 := Nat.mod_le a b
    rw [h1]; generalize a % b = q at h2 ⊢; omega)
  rw [Int.tmod_eq_emod_of_nonneg (by omega), show (a : Int) % b = ((a % b : Nat) : Int) by simp] at h
  exact h
theorem PV.subN {a b : Nat} {v : Int} {x y : Operand} {t t' : TypeId} (hx : evo E x = some (.int .i64 a)) (hy : evo E y = some (.int .i64 v)) (hv : v = (b : Int)) (h : b ≤ a) (ha : a < 9223372036854775808) : PV P n w0 E G ⟨d, .binOp .sub t x y t', ty, pos, aft, g⟩ (.int .i64 (a - b : Nat)) := by
  subst hv
  have h2 := PV.sub (P := P) (n := n) (w0 := w0) (G := G) (d := d) (t := t) (t' := t') (ty := ty) (pos := pos) (aft := aft) (g := g) hx hy (by omega)
  rw [show (a : Int) - b = ((a - b : Nat) : Int) by omega] at h2
  exact h2
end
theorem p63 {k : Nat} (h : k ≤ 62) : 2 ^ k < 9223372036854775808 := Nat.pow_lt_pow_right (a := 2) (n := 63) (by decide) (by omega)
theorem or63 {a b : Nat} (ha : a < 9223372036854775808) (hb : b < 9223372036854775808) : a ||| b < 9223372036854775808 := Nat.or_lt_two_pow (n := 63) ha hb
theorem or_nat {a b : Nat} (ha : a < 9223372036854775808) (hb : b < 9223372036854775808) : bits .or .i64 (a : Int) (b : Int) = ((a ||| b : Nat) : Int) := i64_or_nat ha hb
theorem set63 {m : Mo.Md} (ho : Mo.Ok m) {S : Nat} (h : S < 2 ^ m.N) : S < 9223372036854775808 := by have := N40 ho; omega
theorem nb_lt {m : Mo.Md} (ho : Mo.Ok m) {s : Nat} (hs : s < m.N) : Mo.nb m s < 2 ^ m.N := by rw [Mo.nb_eq ho hs]; exact Mo.msk_lt _ _
theorem row_col {m : Mo.Md} (ho : Mo.Ok m) {s : Nat} (hs : s < m.N) : s / m.C < m.R ∧ s % m.C < m.C ∧ s / m.C * m.C + s % m.C = s := by
  have hC := ho.C1
  refine ⟨(Nat.div_lt_iff_lt_mul (by omega)).2 hs, Nat.mod_lt _ (by omega), Nat.div_add_mod' s m.C⟩
theorem ix_a {a b C : Nat} (h : 0 < a) : ((a : Int) - 1) * C + b = (((a - 1) * C + b : Nat) : Int) := by
  rw [show (a : Int) - 1 = ((a - 1 : Nat) : Int) by omega]; simp
theorem ix_b {a b C : Nat} (h : 0 < b) : (a : Int) * C + ((b : Int) - 1) = ((a * C + (b - 1) : Nat) : Int) := by
  rw [show (b : Int) - 1 = ((b - 1 : Nat) : Int) by omega]; simp
theorem ix_c {a b C : Nat} : (a : Int) * C + ((b : Int) + 1) = ((a * C + (b + 1) : Nat) : Int) := by simp
theorem ix_d {a b C : Nat} : ((a : Int) + 1) * C + b = (((a + 1) * C + b : Nat) : Int) := by simp
theorem mul_66 {a b : Int} (ha : -10 ≤ a ∧ a ≤ 10) {C : Nat} (hC : C ≤ 6) : -60 ≤ a * (C : Int) ∧ a * (C : Int) ≤ 60 := by
  have h1 : C = 0 ∨ C = 1 ∨ C = 2 ∨ C = 3 ∨ C = 4 ∨ C = 5 ∨ C = 6 := by omega
  rcases h1 with rfl | rfl | rfl | rfl | rfl | rfl | rfl <;> simp <;> omega
theorem ix_facts {m : Mo.Md} (ho : Mo.Ok m) {s : Nat} (hs : s < m.N) : (s / m.C - 1) * m.C + s % m.C ≤ 42 ∧ s / m.C * m.C + (s % m.C - 1) ≤ 42 ∧ s / m.C * m.C + (s % m.C + 1) ≤ 42 ∧ (s / m.C + 1) * m.C + s % m.C ≤ 42 := by
  have h := row_col ho hs
  have hN := ho.N36
  have hC := ho.C6
  have h1 : (s / m.C - 1) * m.C ≤ s / m.C * m.C := Nat.mul_le_mul_right _ (Nat.sub_le _ _)
  have h2 : (s / m.C + 1) * m.C = s / m.C * m.C + m.C := Nat.succ_mul _ _
  omega
theorem gI_v {r c k w : Int} (h : vI r c k ≠ 0) : gI r c k w = vI r c k := by
  have := vI_or r c k
  unfold gI; rw [if_neg h]; omega
theorem gI_ge {m : Mo.Md} (ho : Mo.Ok m) (w : Int) : gI m.R m.C m.K w = if 0 ≤ w ∧ w ≤ ((Mo.full m : Nat) : Int) then 0 else 1 := by
  unfold gI
  rw [if_pos (vI_ok ho), Int.toNat_natCast, Int.toNat_natCast, ← pow_cast]
  have h1 := Nat.two_pow_pos (m.R * m.C)
  have e : ((2 ^ (m.R * m.C) : Nat) : Int) - 1 = ((Mo.full m : Nat) : Int) := by unfold Mo.full Mo.Md.N; omega
  rw [e]
def IsI (w : World) (v : Value) (xs : List Int) : Prop := ∃ p c, v = .slice p xs.length c ∧ IntsAt w p xs
def RdI (xs : List Int) (x : Value × Heap) : Prop := ∃ p c, x.1 = .slice p xs.length c ∧ (xs ≠ [] → ∃ q, p = some q) ∧ ∀ (w0 w : World) (G : Heap), New w0 w G → (∀ y ∈ x.2, y ∈ G) → IntsAt w p xs
abbrev ofN (l : List Nat) : List Int := l.map fun i : Nat => (i : Int)
theorem pre_mem {l L : List Nat} {x : Nat} (h : l ++ [x] <+: L) : x ∈ L := h.subset (by simp)
/-! ## What a loop over squares puts together -/
def orL (f : Nat → Bool) (l : List Nat) : Nat := l.foldl (fun a q => if f q = true then a ||| 2 ^ q else a) 0
theorem orL_snoc (f : Nat → Bool) (l : List Nat) (q : Nat) : orL f (l ++ [q]) = if f q = true then orL f l ||| 2 ^ q else orL f l := by
  unfold orL; rw [List.foldl_append]; rfl
theorem orL_t (f : Nat → Bool) (i : Nat) : ∀ l : List Nat, (orL f l).testBit i = (decide (i ∈ l) && f i) := by
  intro l
  generalize hn : l.length = n
  induction n generalizing l with
  | zero => rw [List.length_eq_zero_iff.1 hn]; simp [orL]
  | succ n ih =>
    obtain ⟨l', q, rfl⟩ : ∃ l' q, l = l' ++ [q] := ⟨l.dropLast, l.getLast (by intro h; rw [h] at hn; cases hn), (List.dropLast_concat_getLast _).symm⟩
    have hl : l'.length = n := by simpa using hn
    rw [orL_snoc]
    by_cases hq : f q = true
    · rw [if_pos hq, Nat.testBit_or, ih l' hl, Mo.one_t]
      by_cases e : i = q
      · subst e; simp [hq]
      · simp [e]
    · rw [if_neg hq, ih l' hl]
      by_cases e : i = q
      · subst e
        have : f i = false := by simpa using hq
        simp [this]
      · simp [e]
theorem orL_lt {f : Nat → Bool} {l : List Nat} {n : Nat} (h : ∀ q ∈ l, q < n) : orL f l < 2 ^ n := Nat.lt_pow_two_of_testBit _ fun i hi => by
  rw [orL_t]
  by_cases h1 : i ∈ l
  · have := h i h1; omega
  · rw [decide_eq_false h1]; rfl
theorem dif_full_t {m : Mo.Md} {S i : Nat} : (Mo.dif (Mo.full m) S).testBit i = (decide (i < m.N) && !S.testBit i) := Mo.co_t m S i
theorem rdy_fold {m : Mo.Md} (ho : Mo.Ok m) {S : Nat} : orL (fun q => decide (m.K ≤ Mo.ar m S q)) (Mo.sqL (Mo.dif (Mo.full m) S)) = Mo.rdy m S := Nat.eq_of_testBit_eq fun i => by
  rw [orL_t, Mo.rdy_t]
  unfold Mo.rdB
  have h : decide (i ∈ Mo.sqL (Mo.dif (Mo.full m) S)) = (decide (i < m.N) && !S.testBit i) := by
    rw [← dif_full_t]
    have := Mo.mem_sq (i := i) (Mo.p64 ho (Mo.co_lt m S))
    cases hb : (Mo.dif (Mo.full m) S).testBit i
    · rw [decide_eq_false]; intro h1; rw [this, hb] at h1; cases h1
    · rw [decide_eq_true]; rw [this, hb]
  rw [h, Bool.and_assoc]
theorem sq_lt {m : Mo.Md} (ho : Mo.Ok m) {S q : Nat} (hS : S < 2 ^ m.N) (h : q ∈ Mo.sqL S) : q < m.N := Mo.tb_in hS ((Mo.mem_sq (Mo.p64 ho hS)).1 h)
theorem take_cons {L l : List Nat} {k a : Nat} (h : L = L.take k ++ (a :: l)) (hk : k ≤ L.length) : L.take (k + 1) = L.take k ++ [a] ∧ L = L.take (k + 1) ++ l ∧ k + 1 ≤ L.length := by
  have hlen : L.length = k + (l.length + 1) := by
    have := congrArg List.length h
    rw [List.length_append, List.length_take, List.length_cons] at this
    omega
  have h1 : L.take (k + 1) = L.take k ++ [a] := by
    conv => lhs; rw [h]
    rw [List.take_append, List.length_take, show k + 1 - min k L.length = 1 by omega, List.take_of_length_le (by rw [List.length_take]; omega)]
    simp
  exact ⟨h1, by rw [h1, List.append_assoc]; exact h, by omega⟩
theorem squareAt_ok (w0 : World) (m : Mo.Md) (ho : Mo.Ok m) (a b : Int) (v : Nat) (hv : a * (m.C : Int) + b = v) (ha : -10 ≤ a ∧ a ≤ 10) (hb : -100 ≤ b ∧ b ≤ 100) :
    Calls Tryz.prog 253 #[mV m, .int .i64 a, .int .i64 b] w0 (Post (X := Unit) (fun _ => .int .i64 v) (fun _ => True) (fun _ => []) w0) := by
  have hm6 := mul_66 (b := b) ha ho.C6
  refine calls Tryz.func253 rfl (n := 13) rfl (by simp) ?_
  refine zr (TL.box rfl rfl dc (fun b0 hb0 => ?_))
  refine za rfl (zk (zm rfl (zq (PV.fieldAddr rfl Tb.fo_52_1) rfl (zq (PV.load rfl Tb.one_3 m9z rfl) rfl ?_))))
  refine zq (PV.mul rfl rfl om) rfl (zm rfl (zq (PV.add rfl rfl om) rfl (za rfl (zt (TQ.retE1 rfl rfl ?_)))))
  exact ⟨(), congrArg (Value.int .i64) hv, trivial, nils⟩
set_option maxHeartbeats 1000000 in
theorem neighbors_ok (w0 : World) (m : Mo.Md) (ho : Mo.Ok m) (s : Nat) (hs3 : s < m.N) :
    Calls Tryz.prog 248 #[mV m, .int .i64 s] w0 (Post (X := Unit) (fun _ => .int .i64 (Mo.nb m s : Nat)) (fun _ => True) (fun _ => []) w0) := by
  have hN := ho.N36
  have hrc := row_col ho hs3
  have hix := ix_facts ho hs3
  have hR6 := ho.R6
  have hC6 := ho.C6
  have hC1 := ho.C1
  have hR1 := ho.R1
  have hq0 : (0 : Int) ≤ (s : Int) / (m.C : Int) := Int.ediv_nonneg (by omega) (by omega)
  have hq1 : (0 : Int) ≤ (s : Int) % (m.C : Int) := Int.emod_nonneg _ (by omega)
  refine calls Tryz.func248 rfl (n := 63) rfl (by simp) ?_
  refine zr (TL.box rfl rfl dc (fun b0 hb0 => ?_))
  refine za rfl (zn (TC.seq (TC.any Tb.mixed rfl rfl ?_)))
  refine TA.op (OpOK.pure (PV.move rfl) rfl dc) dc ?_
  refine TA.op (OpOK.pure (PV.fieldAddr rfl Tb.fo_52_1) rfl dc) dc ?_
  refine TA.op (OpOK.pure (PV.load rfl Tb.one_3 m9z rfl) rfl dc) dc ?_
  refine TA.op (OpOK.pure (PV.quoN rfl rfl om om) rfl dc) dc ?_
  refine TA.op (OpOK.pure (PV.move rfl) rfl dc) dc ?_
  refine TA.op (OpOK.pure (PV.fieldAddr rfl Tb.fo_52_1) rfl dc) dc ?_
  refine TA.op (OpOK.pure (PV.load rfl Tb.one_3 m9z rfl) rfl dc) dc ?_
  refine TA.op (OpOK.pure (PV.remN rfl rfl om om) rfl dc) dc ?_
  refine TA.op (OpOK.pure (PV.assign rfl) rfl dc) dc ?_
  refine TA.op (OpOK.pure (PV.assign rfl) rfl dc) dc ?_
  show TQ _ _ _ _ _
  refine TQ.thenC (zr (za rfl (zn (TC.seq (zr (zm rfl (zq (PV.gtr rfl rfl) rfl (zn (TC.cd rfl (fun g1 => ?_) (fun g1 => ?_))))))))))
  refine TC.region (zm rfl (zq (PV.loadBox rfl Tb.agg_52 m9z rfl) rfl ?_))
  refine zm rfl (zq (PV.sub rfl rfl om) rfl (zm rfl (TL.call rfl Tb.gofn_253 (fun a w hs => squareAt_ok w m ho _ _ _ (ix_a om) om om) rfl dc (fun _ _ => ?_))))
  refine TL.call rfl Tb.gofn_237 (fun a w hs => only_ok w _ om) rfl dc (fun _ _ => ?_)
  refine zq (PV.orK rfl rfl (or_nat (by repeat (first | exact or63 (p63 (by omega)) (p63 (by omega)) | refine or63 ?_ ?_ | (refine p63 ?_; omega) | exact (by decide : (0:Nat) < 9223372036854775808))) (by repeat (first | exact or63 (p63 (by omega)) (p63 (by omega)) | refine or63 ?_ ?_ | (refine p63 ?_; omega) | exact (by decide : (0:Nat) < 9223372036854775808))))) rfl ?_
  refine za rfl (zn (TC.seq (zr (zm rfl (zq (PV.gtr rfl rfl) rfl (zn (TC.cd rfl (fun g2 => ?_) (fun g2 => ?_))))))))
  refine TC.region (zm rfl (zq (PV.loadBox rfl Tb.agg_52 m9z rfl) rfl ?_))
  refine zm rfl (zm rfl (zq (PV.sub rfl rfl om) rfl (TL.call rfl Tb.gofn_253 (fun a w hs => squareAt_ok w m ho _ _ _ (ix_b om) om om) rfl dc (fun _ _ => ?_))))
  refine TL.call rfl Tb.gofn_237 (fun a w hs => only_ok w _ om) rfl dc (fun _ _ => ?_)
  refine zq (PV.orK rfl rfl (or_nat (by repeat (first | exact or63 (p63 (by omega)) (p63 (by omega)) | refine or63 ?_ ?_ | (refine p63 ?_; omega) | exact (by decide : (0:Nat) < 9223372036854775808))) (by repeat (first | exact or63 (p63 (by omega)) (p63 (by omega)) | refine or63 ?_ ?_ | (refine p63 ?_; omega) | exact (by decide : (0:Nat) < 9223372036854775808))))) rfl ?_
  refine za rfl (zn (TC.seq (zr (zm rfl (zq (PV.fieldAddr rfl Tb.fo_52_1) rfl (zq (PV.load rfl Tb.one_3 m9z rfl) rfl ?_))))))
  refine zq (PV.sub rfl rfl om) rfl (zq (PV.lss rfl rfl) rfl (zn (TC.cd rfl (fun g3 => ?_) (fun g3 => ?_))))
  refine TC.region (zm rfl (zq (PV.loadBox rfl Tb.agg_52 m9z rfl) rfl ?_))
  refine zm rfl (zm rfl (zq (PV.add rfl rfl om) rfl (TL.call rfl Tb.gofn_253 (fun a w hs => squareAt_ok w m ho _ _ _ ix_c om om) rfl dc (fun _ _ => ?_))))
  refine TL.call rfl Tb.gofn_237 (fun a w hs => only_ok w _ om) rfl dc (fun _ _ => ?_)
  refine zq (PV.orK rfl rfl (or_nat (by repeat (first | exact or63 (p63 (by omega)) (p63 (by omega)) | refine or63 ?_ ?_ | (refine p63 ?_; omega) | exact (by decide : (0:Nat) < 9223372036854775808))) (by repeat (first | exact or63 (p63 (by omega)) (p63 (by omega)) | refine or63 ?_ ?_ | (refine p63 ?_; omega) | exact (by decide : (0:Nat) < 9223372036854775808))))) rfl ?_
  refine za rfl (zn (TC.seq (zr (zm rfl (zq (PV.fieldAddr rfl Tb.fo_52_0) rfl (zq (PV.load rfl Tb.one_3 m9z rfl) rfl ?_))))))
  refine zq (PV.sub rfl rfl om) rfl (zq (PV.lss rfl rfl) rfl (zn (TC.cd rfl (fun g4 => ?_) (fun g4 => ?_))))
  refine TC.region (zm rfl (zq (PV.loadBox rfl Tb.agg_52 m9z rfl) rfl ?_))
  refine zm rfl (zq (PV.add rfl rfl om) rfl (zm rfl (TL.call rfl Tb.gofn_253 (fun a w hs => squareAt_ok w m ho _ _ _ ix_d om om) rfl dc (fun _ _ => ?_))))
  refine TL.call rfl Tb.gofn_237 (fun a w hs => only_ok w _ om) rfl dc (fun _ _ => ?_)
  refine zq (PV.orK rfl rfl (or_nat (by repeat (first | exact or63 (p63 (by omega)) (p63 (by omega)) | refine or63 ?_ ?_ | (refine p63 ?_; omega) | exact (by decide : (0:Nat) < 9223372036854775808))) (by repeat (first | exact or63 (p63 (by omega)) (p63 (by omega)) | refine or63 ?_ ?_ | (refine p63 ?_; omega) | exact (by decide : (0:Nat) < 9223372036854775808))))) rfl ?_
  refine za rfl (zk (zm rfl (za rfl (zt (TQ.retE1 rfl rfl ?_)))))
  exact ⟨(), congrArg (fun z : Nat => Value.int .i64 z) (by unfold Mo.nb; simp (disch := omega) only [if_pos, if_neg]), trivial, nils⟩
  refine TC.skip (TQ.thenC (zr (zm rfl (za rfl (zt (TQ.retE1 rfl rfl ?_))))))
  exact ⟨(), congrArg (fun z : Nat => Value.int .i64 z) (by unfold Mo.nb; simp (disch := omega) only [if_pos, if_neg]), trivial, nils⟩
  refine TC.skip (TQ.thenC (TC.seq (zr (zm rfl (zq (PV.fieldAddr rfl Tb.fo_52_0) rfl (zq (PV.load rfl Tb.one_3 m9z rfl) rfl ?_))))))
  refine zq (PV.sub rfl rfl om) rfl (zq (PV.lss rfl rfl) rfl (zn (TC.cd rfl (fun g4 => ?_) (fun g4 => ?_))))
  refine TC.region (zm rfl (zq (PV.loadBox rfl Tb.agg_52 m9z rfl) rfl ?_))
  refine zm rfl (zq (PV.add rfl rfl om) rfl (zm rfl (TL.call rfl Tb.gofn_253 (fun a w hs => squareAt_ok w m ho _ _ _ ix_d om om) rfl dc (fun _ _ => ?_))))
  refine TL.call rfl Tb.gofn_237 (fun a w hs => only_ok w _ om) rfl dc (fun _ _ => ?_)
  refine zq (PV.orK rfl rfl (or_nat (by repeat (first | exact or63 (p63 (by omega)) (p63 (by omega)) | refine or63 ?_ ?_ | (refine p63 ?_; omega) | exact (by decide : (0:Nat) < 9223372036854775808))) (by repeat (first | exact or63 (p63 (by omega)) (p63 (by omega)) | refine or63 ?_ ?_ | (refine p63 ?_; omega) | exact (by decide : (0:Nat) < 9223372036854775808))))) rfl ?_
  refine za rfl (zk (zm rfl (za rfl (zt (TQ.retE1 rfl rfl ?_)))))
  exact ⟨(), congrArg (fun z : Nat => Value.int .i64 z) (by unfold Mo.nb; simp (disch := omega) only [if_pos, if_neg]), trivial, nils⟩
  refine TC.skip (TQ.thenC (zr (zm rfl (za rfl (zt (TQ.retE1 rfl rfl ?_))))))
  exact ⟨(), congrArg (fun z : Nat => Value.int .i64 z) (by unfold Mo.nb; simp (disch := omega) only [if_pos, if_neg]), trivial, nils⟩
  refine TC.skip (TQ.thenC (TC.seq (zr (zm rfl (zq (PV.fieldAddr rfl Tb.fo_52_1) rfl (zq (PV.load rfl Tb.one_3 m9z rfl) rfl ?_))))))
  refine zq (PV.sub rfl rfl om) rfl (zq (PV.lss rfl rfl) rfl (zn (TC.cd rfl (fun g3 => ?_) (fun g3 => ?_))))
  refine TC.region (zm rfl (zq (PV.loadBox rfl Tb.agg_52 m9z rfl) rfl ?_))
  refine zm rfl (zm rfl (zq (PV.add rfl rfl om) rfl (TL.call rfl Tb.gofn_253 (fun a w hs => squareAt_ok w m ho _ _ _ ix_c om om) rfl dc (fun _ _ => ?_))))
  refine TL.call rfl Tb.gofn_237 (fun a w hs => only_ok w _ om) rfl dc (fun _ _ => ?_)
  refine zq (PV.orK rfl rfl (or_nat (by repeat (first | exact or63 (p63 (by omega)) (p63 (by omega)) | refine or63 ?_ ?_ | (refine p63 ?_; omega) | exact (by decide : (0:Nat) < 9223372036854775808))) (by repeat (first | exact or63 (p63 (by omega)) (p63 (by omega)) | refine or63 ?_ ?_ | (refine p63 ?_; omega) | exact (by decide : (0:Nat) < 9223372036854775808))))) rfl ?_
  refine za rfl (zn (TC.seq (zr (zm rfl (zq (PV.fieldAddr rfl Tb.fo_52_0) rfl (zq (PV.load rfl Tb.one_3 m9z rfl) rfl ?_))))))
  refine zq (PV.sub rfl rfl om) rfl (zq (PV.lss rfl rfl) rfl (zn (TC.cd rfl (fun g4 => ?_) (fun g4 => ?_))))
  refine TC.region (zm rfl (zq (PV.loadBox rfl Tb.agg_52 m9z rfl) rfl ?_))
  refine zm rfl (zq (PV.add rfl rfl om) rfl (zm rfl (TL.call rfl Tb.gofn_253 (fun a w hs => squareAt_ok w m ho _ _ _ ix_d om om) rfl dc (fun _ _ => ?_))))
  refine TL.call rfl Tb.gofn_237 (fun a w hs => only_ok w _ om) rfl dc (fun _ _ => ?_)
  refine zq (PV.orK rfl rfl (or_nat (by repeat (first | exact or63 (p63 (by omega)) (p63 (by omega)) | refine or63 ?_ ?_ | (refine p63 ?_; omega) | exact (by decide : (0:Nat) < 9223372036854775808))) (by repeat (first | exact or63 (p63 (by omega)) (p63 (by omega)) | refine or63 ?_ ?_ | (refine p63 ?_; omega) | exact (by decide : (0:Nat) < 9223372036854775808))))) rfl ?_
  refine za rfl (zk (zm rfl (za rfl (zt (TQ.retE1 rfl rfl ?_)))))
  exact ⟨(), congrArg (fun z : Nat => Value.int .i64 z) (by unfold Mo.nb; simp (disch := omega) only [if_pos, if_neg]), trivial, nils⟩
  refine TC.skip (TQ.thenC (zr (zm rfl (za rfl (zt (TQ.retE1 rfl rfl ?_))))))
  exact ⟨(), congrArg (fun z : Nat => Value.int .i64 z) (by unfold Mo.nb; simp (disch := omega) only [if_pos, if_neg]), trivial, nils⟩
  refine TC.skip (TQ.thenC (TC.seq (zr (zm rfl (zq (PV.fieldAddr rfl Tb.fo_52_0) rfl (zq (PV.load rfl Tb.one_3 m9z rfl) rfl ?_))))))
  refine zq (PV.sub rfl rfl om) rfl (zq (PV.lss rfl rfl) rfl (zn (TC.cd rfl (fun g4 => ?_) (fun g4 => ?_))))
  refine TC.region (zm rfl (zq (PV.loadBox rfl Tb.agg_52 m9z rfl) rfl ?_))
  refine zm rfl (zq (PV.add rfl rfl om) rfl (zm rfl (TL.call rfl Tb.gofn_253 (fun a w hs => squareAt_ok w m ho _ _ _ ix_d om om) rfl dc (fun _ _ => ?_))))
  refine TL.call rfl Tb.gofn_237 (fun a w hs => only_ok w _ om) rfl dc (fun _ _ => ?_)
  refine zq (PV.orK rfl rfl (or_nat (by repeat (first | exact or63 (p63 (by omega)) (p63 (by omega)) | refine or63 ?_ ?_ | (refine p63 ?_; omega) | exact (by decide : (0:Nat) < 9223372036854775808))) (by repeat (first | exact or63 (p63 (by omega)) (p63 (by omega)) | refine or63 ?_ ?_ | (refine p63 ?_; omega) | exact (by decide : (0:Nat) < 9223372036854775808))))) rfl ?_
  refine za rfl (zk (zm rfl (za rfl (zt (TQ.retE1 rfl rfl ?_)))))
  exact ⟨(), congrArg (fun z : Nat => Value.int .i64 z) (by unfold Mo.nb; simp (disch := omega) only [if_pos, if_neg]), trivial, nils⟩
  refine TC.skip (TQ.thenC (zr (zm rfl (za rfl (zt (TQ.retE1 rfl rfl ?_))))))
  exact ⟨(), congrArg (fun z : Nat => Value.int .i64 z) (by unfold Mo.nb; simp (disch := omega) only [if_pos, if_neg]), trivial, nils⟩
  refine TC.skip (TQ.thenC (TC.seq (zr (zm rfl (zq (PV.gtr rfl rfl) rfl (zn (TC.cd rfl (fun g2 => ?_) (fun g2 => ?_))))))))
  refine TC.region (zm rfl (zq (PV.loadBox rfl Tb.agg_52 m9z rfl) rfl ?_))
  refine zm rfl (zm rfl (zq (PV.sub rfl rfl om) rfl (TL.call rfl Tb.gofn_253 (fun a w hs => squareAt_ok w m ho _ _ _ (ix_b om) om om) rfl dc (fun _ _ => ?_))))
  refine TL.call rfl Tb.gofn_237 (fun a w hs => only_ok w _ om) rfl dc (fun _ _ => ?_)
  refine zq (PV.orK rfl rfl (or_nat (by repeat (first | exact or63 (p63 (by omega)) (p63 (by omega)) | refine or63 ?_ ?_ | (refine p63 ?_; omega) | exact (by decide : (0:Nat) < 9223372036854775808))) (by repeat (first | exact or63 (p63 (by omega)) (p63 (by omega)) | refine or63 ?_ ?_ | (refine p63 ?_; omega) | exact (by decide : (0:Nat) < 9223372036854775808))))) rfl ?_
  refine za rfl (zn (TC.seq (zr (zm rfl (zq (PV.fieldAddr rfl Tb.fo_52_1) rfl (zq (PV.load rfl Tb.one_3 m9z rfl) rfl ?_))))))
  refine zq (PV.sub rfl rfl om) rfl (zq (PV.lss rfl rfl) rfl (zn (TC.cd rfl (fun g3 => ?_) (fun g3 => ?_))))
  refine TC.region (zm rfl (zq (PV.loadBox rfl Tb.agg_52 m9z rfl) rfl ?_))
  refine zm rfl (zm rfl (zq (PV.add rfl rfl om) rfl (TL.call rfl Tb.gofn_253 (fun a w hs => squareAt_ok w m ho _ _ _ ix_c om om) rfl dc (fun _ _ => ?_))))
  refine TL.call rfl Tb.gofn_237 (fun a w hs => only_ok w _ om) rfl dc (fun _ _ => ?_)
  refine zq (PV.orK rfl rfl (or_nat (by repeat (first | exact or63 (p63 (by omega)) (p63 (by omega)) | refine or63 ?_ ?_ | (refine p63 ?_; omega) | exact (by decide : (0:Nat) < 9223372036854775808))) (by repeat (first | exact or63 (p63 (by omega)) (p63 (by omega)) | refine or63 ?_ ?_ | (refine p63 ?_; omega) | exact (by decide : (0:Nat) < 9223372036854775808))))) rfl ?_
  refine za rfl (zn (TC.seq (zr (zm rfl (zq (PV.fieldAddr rfl Tb.fo_52_0) rfl (zq (PV.load rfl Tb.one_3 m9z rfl) rfl ?_))))))
  refine zq (PV.sub rfl rfl om) rfl (zq (PV.lss rfl rfl) rfl (zn (TC.cd rfl (fun g4 => ?_) (fun g4 => ?_))))
  refine TC.region (zm rfl (zq (PV.loadBox rfl Tb.agg_52 m9z rfl) rfl ?_))
  refine zm rfl (zq (PV.add rfl rfl om) rfl (zm rfl (TL.call rfl Tb.gofn_253 (fun a w hs => squareAt_ok w m ho _ _ _ ix_d om om) rfl dc (fun _ _ => ?_))))
  refine TL.call rfl Tb.gofn_237 (fun a w hs => only_ok w _ om) rfl dc (fun _ _ => ?_)
  refine zq (PV.orK rfl rfl (or_nat (by repeat (first | exact or63 (p63 (by omega)) (p63 (by omega)) | refine or63 ?_ ?_ | (refine p63 ?_; omega) | exact (by decide : (0:Nat) < 9223372036854775808))) (by repeat (first | exact or63 (p63 (by omega)) (p63 (by omega)) | refine or63 ?_ ?_ | (refine p63 ?_; omega) | exact (by decide : (0:Nat) < 9223372036854775808))))) rfl ?_
  refine za rfl (zk (zm rfl (za rfl (zt (TQ.retE1 rfl rfl ?_)))))
  exact ⟨(), congrArg (fun z : Nat => Value.int .i64 z) (by unfold Mo.nb; simp (disch := omega) only [if_pos, if_neg]), trivial, nils⟩
  refine TC.skip (TQ.thenC (zr (zm rfl (za rfl (zt (TQ.retE1 rfl rfl ?_))))))
  exact ⟨(), congrArg (fun z : Nat => Value.int .i64 z) (by unfold Mo.nb; simp (disch := omega) only [if_pos, if_neg]), trivial, nils⟩
  refine TC.skip (TQ.thenC (TC.seq (zr (zm rfl (zq (PV.fieldAddr rfl Tb.fo_52_0) rfl (zq (PV.load rfl Tb.one_3 m9z rfl) rfl ?_))))))
  refine zq (PV.sub rfl rfl om) rfl (zq (PV.lss rfl rfl) rfl (zn (TC.cd rfl (fun g4 => ?_) (fun g4 => ?_))))
  refine TC.region (zm rfl (zq (PV.loadBox rfl Tb.agg_52 m9z rfl) rfl ?_))
  refine zm rfl (zq (PV.add rfl rfl om) rfl (zm rfl (TL.call rfl Tb.gofn_253 (fun a w hs => squareAt_ok w m ho _ _ _ ix_d om om) rfl dc (fun _ _ => ?_))))
  refine TL.call rfl Tb.gofn_237 (fun a w hs => only_ok w _ om) rfl dc (fun _ _ => ?_)
  refine zq (PV.orK rfl rfl (or_nat (by repeat (first | exact or63 (p63 (by omega)) (p63 (by omega)) | refine or63 ?_ ?_ | (refine p63 ?_; omega) | exact (by decide : (0:Nat) < 9223372036854775808))) (by repeat (first | exact or63 (p63 (by omega)) (p63 (by omega)) | refine or63 ?_ ?_ | (refine p63 ?_; omega) | exact (by decide : (0:Nat) < 9223372036854775808))))) rfl ?_
  refine za rfl (zk (zm rfl (za rfl (zt (TQ.retE1 rfl rfl ?_)))))
  exact ⟨(), congrArg (fun z : Nat => Value.int .i64 z) (by unfold Mo.nb; simp (disch := omega) only [if_pos, if_neg]), trivial, nils⟩
  refine TC.skip (TQ.thenC (zr (zm rfl (za rfl (zt (TQ.retE1 rfl rfl ?_))))))
  exact ⟨(), congrArg (fun z : Nat => Value.int .i64 z) (by unfold Mo.nb; simp (disch := omega) only [if_pos, if_neg]), trivial, nils⟩
  refine TC.skip (TQ.thenC (TC.seq (zr (zm rfl (zq (PV.fieldAddr rfl Tb.fo_52_1) rfl (zq (PV.load rfl Tb.one_3 m9z rfl) rfl ?_))))))
  refine zq (PV.sub rfl rfl om) rfl (zq (PV.lss rfl rfl) rfl (zn (TC.cd rfl (fun g3 => ?_) (fun g3 => ?_))))
  refine TC.region (zm rfl (zq (PV.loadBox rfl Tb.agg_52 m9z rfl) rfl ?_))
  refine zm rfl (zm rfl (zq (PV.add rfl rfl om) rfl (TL.call rfl Tb.gofn_253 (fun a w hs => squareAt_ok w m ho _ _ _ ix_c om om) rfl dc (fun _ _ => ?_))))
  refine TL.call rfl Tb.gofn_237 (fun a w hs => only_ok w _ om) rfl dc (fun _ _ => ?_)
  refine zq (PV.orK rfl rfl (or_nat (by repeat (first | exact or63 (p63 (by omega)) (p63 (by omega)) | refine or63 ?_ ?_ | (refine p63 ?_; omega) | exact (by decide : (0:Nat) < 9223372036854775808))) (by repeat (first | exact or63 (p63 (by omega)) (p63 (by omega)) | refine or63 ?_ ?_ | (refine p63 ?_; omega) | exact (by decide : (0:Nat) < 9223372036854775808))))) rfl ?_
  refine za rfl (zn (TC.seq (zr (zm rfl (zq (PV.fieldAddr rfl Tb.fo_52_0) rfl (zq (PV.load rfl Tb.one_3 m9z rfl) rfl ?_))))))
  refine zq (PV.sub rfl rfl om) rfl (zq (PV.lss rfl rfl) rfl (zn (TC.cd rfl (fun g4 => ?_) (fun g4 => ?_))))
  refine TC.region (zm rfl (zq (PV.loadBox rfl Tb.agg_52 m9z rfl) rfl ?_))
  refine zm rfl (zq (PV.add rfl rfl om) rfl (zm rfl (TL.call rfl Tb.gofn_253 (fun a w hs => squareAt_ok w m ho _ _ _ ix_d om om) rfl dc (fun _ _ => ?_))))
  refine TL.call rfl Tb.gofn_237 (fun a w hs => only_ok w _ om) rfl dc (fun _ _ => ?_)
  refine zq (PV.orK rfl rfl (or_nat (by repeat (first | exact or63 (p63 (by omega)) (p63 (by omega)) | refine or63 ?_ ?_ | (refine p63 ?_; omega) | exact (by decide : (0:Nat) < 9223372036854775808))) (by repeat (first | exact or63 (p63 (by omega)) (p63 (by omega)) | refine or63 ?_ ?_ | (refine p63 ?_; omega) | exact (by decide : (0:Nat) < 9223372036854775808))))) rfl ?_
  refine za rfl (zk (zm rfl (za rfl (zt (TQ.retE1 rfl rfl ?_)))))
  exact ⟨(), congrArg (fun z : Nat => Value.int .i64 z) (by unfold Mo.nb; simp (disch := omega) only [if_pos, if_neg]), trivial, nils⟩
  refine TC.skip (TQ.thenC (zr (zm rfl (za rfl (zt (TQ.retE1 rfl rfl ?_))))))
  exact ⟨(), congrArg (fun z : Nat => Value.int .i64 z) (by unfold Mo.nb; simp (disch := omega) only [if_pos, if_neg]), trivial, nils⟩
  refine TC.skip (TQ.thenC (TC.seq (zr (zm rfl (zq (PV.fieldAddr rfl Tb.fo_52_0) rfl (zq (PV.load rfl Tb.one_3 m9z rfl) rfl ?_))))))
  refine zq (PV.sub rfl rfl om) rfl (zq (PV.lss rfl rfl) rfl (zn (TC.cd rfl (fun g4 => ?_) (fun g4 => ?_))))
  refine TC.region (zm rfl (zq (PV.loadBox rfl Tb.agg_52 m9z rfl) rfl ?_))
  refine zm rfl (zq (PV.add rfl rfl om) rfl (zm rfl (TL.call rfl Tb.gofn_253 (fun a w hs => squareAt_ok w m ho _ _ _ ix_d om om) rfl dc (fun _ _ => ?_))))
  refine TL.call rfl Tb.gofn_237 (fun a w hs => only_ok w _ om) rfl dc (fun _ _ => ?_)
  refine zq (PV.orK rfl rfl (or_nat (by repeat (first | exact or63 (p63 (by omega)) (p63 (by omega)) | refine or63 ?_ ?_ | (refine p63 ?_; omega) | exact (by decide : (0:Nat) < 9223372036854775808))) (by repeat (first | exact or63 (p63 (by omega)) (p63 (by omega)) | refine or63 ?_ ?_ | (refine p63 ?_; omega) | exact (by decide : (0:Nat) < 9223372036854775808))))) rfl ?_
  refine za rfl (zk (zm rfl (za rfl (zt (TQ.retE1 rfl rfl ?_)))))
  exact ⟨(), congrArg (fun z : Nat => Value.int .i64 z) (by unfold Mo.nb; simp (disch := omega) only [if_pos, if_neg]), trivial, nils⟩
  refine TC.skip (TQ.thenC (zr (zm rfl (za rfl (zt (TQ.retE1 rfl rfl ?_))))))
  exact ⟨(), congrArg (fun z : Nat => Value.int .i64 z) (by unfold Mo.nb; simp (disch := omega) only [if_pos, if_neg]), trivial, nils⟩
theorem beside_ok (w0 : World) (m : Mo.Md) (ho : Mo.Ok m) (s : Nat) (hs3 : s < m.N) (S : Nat) (hS : S < 9223372036854775808) :
    Calls Tryz.prog 236 #[mV m, .int .i64 s, .int .i64 S] w0 (Post (X := Unit) (fun _ => .int .i64 (Mo.ar m S s : Nat)) (fun _ => True) (fun _ => []) w0) := by
  have hnb := set63 ho (nb_lt ho hs3)
  refine calls Tryz.func236 rfl (n := 13) rfl (by simp) ?_
  refine zr (TL.box rfl rfl dc (fun b0 hb0 => ?_))
  refine za rfl (zk (zq (PV.loadBox rfl Tb.agg_52 m9z rfl) rfl ?_))
  refine zm rfl (TL.call rfl Tb.gofn_248 (fun a w hs => neighbors_ok w m ho s hs3) rfl dc (fun _ _ => ?_))
  refine zm rfl (zq (PV.andK rfl rfl (i64_and_nat hnb hS)) rfl (TL.call rfl Tb.gofn_247 (fun a w hs => count_ok w _ (and_lt hnb)) rfl dc (fun _ _ => ?_)))
  refine za rfl (zt (TQ.retE1 rfl rfl ?_))
  exact ⟨(), congrArg (fun z : Nat => Value.int .i64 z) (Mo.pc_nb ho hs3 S), trivial, nils⟩
theorem validateSet_ok (w0 : World) (r c k w9 : Int) :
    Calls Tryz.prog 211 #[.agg #[.int .i64 r, .int .i64 c, .int .i64 k], .int .i64 w9] w0 (Post (X := Unit) (fun _ => .int .i64 (gI r c k w9)) (fun _ => True) (fun _ => []) w0) := by
  refine calls Tryz.func211 rfl (n := 19) rfl (by simp) ?_
  refine zr (TL.box rfl rfl dc (fun b0 hb0 => ?_))
  refine za rfl (zn (TC.seq (zr (zq (PV.loadBox rfl Tb.agg_52 m9z rfl) rfl ?_))))
  refine TL.call rfl Tb.gofn_98 (fun a w hs => validate_ok w _ _ _) rfl dc (fun _ _ => ?_)
  refine za rfl (zk (zm rfl (zq (PV.neq rfl rfl) rfl (zn (TC.cd rfl (fun hv => ?_) (fun hv => ?_))))))
  refine zr (zm rfl (za rfl (zt (TQ.thenR (TQ.retE1 rfl rfl ?_)))))
  exact ⟨(), congrArg (Value.int .i64) ((gI_v hv).symm), trivial, nils⟩
  refine TC.skip (TQ.thenC (TC.seq (TC.seq ?_)))
  obtain ⟨m, ho, rfl, rfl, rfl⟩ := vI_is (show vI r c k = 0 by omega)
  have hge := gI_ge ho w9
  refine TC.region (zm rfl (zq (PV.lss rfl rfl) rfl (zm rfl (TL.sp 13 rfl (fun h1 => ?_) (fun h1 => ?_)))))
  refine zx rfl (zx rfl (zx rfl (zx rfl (zq (PV.pickT rfl rfl) rfl (zn (TC.condT rfl (zr (za rfl (zt (TQ.thenR (TQ.retE1 rfl rfl ?_)))))))))))
  exact ⟨(), congrArg (Value.int .i64) (by rw [hge]; simp (disch := omega) only [if_pos, if_neg]), trivial, nils⟩
  refine zm rfl (zq (PV.loadBox rfl Tb.agg_52 m9z rfl) rfl ?_)
  refine TL.call rfl Tb.gofn_234 (fun a w hs => all_ok w m ho) rfl dc (fun _ _ => ?_)
  refine zq (PV.gtr rfl rfl) rfl (zq (PV.pickF rfl rfl) rfl (zn (TC.cd rfl (fun h2 => ?_) (fun h2 => ?_))))
  refine zr (za rfl (zt (TQ.thenR (TQ.retE1 rfl rfl ?_))))
  exact ⟨(), congrArg (Value.int .i64) (by rw [hge]; simp (disch := omega) only [if_pos, if_neg]), trivial, nils⟩
  refine TC.skip (TQ.thenC (zr (za rfl (zt (TQ.retE1 rfl rfl ?_)))))
  exact ⟨(), congrArg (Value.int .i64) (by rw [hge]; simp (disch := omega) only [if_pos, if_neg]), trivial, nils⟩
theorem given_ok (w0 : World) (r c k w9 : Int) :
    Calls Tryz.prog 161 #[.agg #[.int .i64 r, .int .i64 c, .int .i64 k], .int .i64 w9] w0 (Post (X := Unit) (fun _ => .int .i64 (gI r c k w9)) (fun _ => True) (fun _ => []) w0) := by
  refine calls Tryz.func161 rfl (n := 16) rfl (by simp) ?_
  refine zr (TL.box rfl rfl dc (fun b0 hb0 => ?_))
  refine za rfl (zk (zq (PV.loadBox rfl Tb.agg_52 m9z rfl) rfl ?_))
  refine TL.call rfl Tb.gofn_88 (fun a w hs => rvalidate_ok w _ _ _) rfl dc (fun _ _ => ?_)
  refine za rfl (zn (TC.seq (zr (zm rfl (zq (PV.neq rfl rfl) rfl (zn (TC.cd rfl (fun hv => ?_) (fun hv => ?_))))))))
  refine zr (zm rfl (za rfl (zt (TQ.thenR (TQ.retE1 rfl rfl ?_)))))
  exact ⟨(), congrArg (Value.int .i64) ((gI_v hv).symm), trivial, nils⟩
  refine TC.skip (TQ.thenC (TC.seq (TC.seq ?_)))
  obtain ⟨m, ho, rfl, rfl, rfl⟩ := vI_is (show vI r c k = 0 by omega)
  have hge := gI_ge ho w9
  refine TC.region (zm rfl (zq (PV.loadBox rfl Tb.agg_52 m9z rfl) rfl ?_))
  refine TL.call rfl Tb.gofn_190 (fun a w hs => rfull_ok w m ho) rfl dc (fun _ _ => ?_)
  refine TL.call rfl Tb.gofn_128 (fun a w hs => within_ok w _ _ _) rfl dc (fun _ _ => ?_)
  refine zq ((by first | exact PV.notD rfl | exact PV.not rfl)) rfl ?_
  refine zn (TC.cd rfl (fun h1 => ?_) (fun h1 => ?_))
  refine zr (za rfl (zt (TQ.thenR (TQ.retE1 rfl rfl ?_))))
  exact ⟨(), congrArg (Value.int .i64) (by rw [hge]; simp (disch := omega) only [if_pos, if_neg]), trivial, nils⟩
  refine TC.skip (TQ.thenC (zr (za rfl (zt (TQ.retE1 rfl rfl ?_)))))
  exact ⟨(), congrArg (Value.int .i64) (by rw [hge]; simp (disch := omega) only [if_pos, if_neg]), trivial, nils⟩
theorem squares_ok (w0 : World) (x : Nat) :
    Calls Tryz.prog 235 #[.int .i64 x] w0 (Post (X := Nat) (fun b => .func (.func 246) #[] #[.pointer (some ⟨b, 0, none⟩)]) (fun _ => True) (fun b => [(b, Obj.cells #[.int .i64 x] 3 (0, 0))]) w0) := by
  refine calls Tryz.func235 rfl (n := 4) rfl (by simp) ?_
  refine zr (TL.box rfl rfl dc (fun b0 hb0 => ?_))
  refine za rfl (zk (zq (PV.makeFunc rfl) rfl (za rfl (zt (TQ.retE1 rfl rfl ?_)))))
  exact ⟨b0, rfl, trivial, List.Sublist.refl _⟩
set_option maxHeartbeats 1000000 in
theorem squares_it (w0 : World) (ht : TzAt w0) (x : Nat) (hx : x < 9223372036854775808) (b : Nat) :
    Iter Tryz.prog 246 [.pointer (some ⟨b, 0, none⟩)] (fun s : Nat => [.int .i64 s]) w0 [(b, Obj.cells #[.int .i64 (x : Nat)] 3 (0, 0))] (fun l => l = Mo.sqL x) (fun l => l <+: Mo.sqL x) := by
  intro X Y w lY F H Fx Hx s0 hk hY h0 hN
  refine callsIG Tryz.func246 rfl (n := 17) rfl (by simp) hN ?_
  refine TG.seq (TG.region (by repeat (first | with_reducible exact RB.lo | with_reducible exact QN.lo | with_reducible exact bodyM_lo | with_reducible exact bodyP_lo | with_reducible apply lo_then | with_reducible apply lo_blk)) (by kernel_rfl) ?_)
  refine zq (PV.load rfl Tb.one_3 (hk _ _ (List.Mem.head _)) rfl) rfl ?_
  refine za rfl (TL.nil (TQ.thenG (TG.block (TG.loopK [0] (X := Nat × Nat × X) (fun y => y.2.1 < 9223372036854775808 ∧ y.1 ≤ (Mo.sqL x).length ∧ Mo.sqL x = (Mo.sqL x).take y.1 ++ Mo.sqL y.2.1 ∧ F ((Mo.sqL x).take y.1) y.2.2) (fun y => [(3, .int .i64 y.2.1)]) (fun y => H y.2.2) (fun y => (Mo.sqL x).length - y.1) (0, x, s0) ⟨hx, Nat.zero_le _, rfl, h0⟩ l9z (List.Sublist.refl _) ?_))))
  intro y hy
  refine TG.seq (TG.seq (TG.region (by repeat (first | with_reducible exact RB.lo | with_reducible exact QN.lo | with_reducible exact bodyM_lo | with_reducible exact bodyP_lo | with_reducible apply lo_then | with_reducible apply lo_blk)) (by kernel_rfl) ?_))
  refine zm rfl (zq (PV.neq rfl rfl) rfl (TL.nil (TQ.thenG ?_)))
  first | refine TG.condD rfl (fun hne => ?_) (fun hne => ?_) | refine TG.cond rfl (fun hne => ?_) (fun hne => ?_)
  have hn0 : y.2.1 ≠ 0 := by omega
  have h64 : y.2.1 < 18446744073709551616 := by omega
  have hsc := Mo.sq_cons hn0 h64
  have htk := take_cons (hsc ▸ hy.2.2.1 : Mo.sqL x = (Mo.sqL x).take y.1 ++ (Lib.ctz 64 y.2.1 :: Mo.sqL (y.2.1 &&& (y.2.1 - 1)))) hy.2.1
  refine TG.skip (TQ.thenG (TG.seq (TG.block (TG.seq (TG.regionL ?_)))))
  refine TGL.pre 4 (by repeat (first | with_reducible exact RB.lo | with_reducible exact QN.lo | with_reducible exact bodyM_lo | with_reducible exact bodyP_lo | with_reducible apply lo_then | with_reducible apply lo_blk)) (by kernel_rfl) ?_
  simp only [List.take_succ_cons, List.take_zero, List.drop_succ_cons, List.drop_zero]
  refine zm rfl (zm rfl (zq (PV.conv Tb.int_3 Tb.int_55 rfl (conv_u h64)) rfl (TL.call rfl Tb.gofn_225 (fun a w hs => tz_ok w (ht.new hs.new) _ h64 hn0) rfl dc (fun _ _ => ?_))))
  refine TL.nil (TQ.thenL ?_)
  refine TGL.yield (F ((Mo.sqL x).take (y.1 + 1))) H (fun z => Fx ((Mo.sqL x).take (y.1 + 1)) z) Hx rfl rfl (fun w' hw' => ?_) rfl (by decide) (fun s1 hs1 => ?_) (fun z hz => ?_)
  have h7 := hY ((Mo.sqL x).take y.1) (Lib.ctz 64 y.2.1) y.2.2 w' [] (by rw [← htk.1]; exact List.take_prefix _ _) hy.2.2.2 (by rw [List.append_nil]; exact hw')
  rw [← htk.1] at h7
  simpa using h7
  refine TGL.opsAll (by repeat (first | with_reducible exact RB.lo | with_reducible exact QN.lo | with_reducible exact bodyM_lo | with_reducible exact bodyP_lo | with_reducible apply lo_then | with_reducible apply lo_blk)) (by kernel_rfl) ?_
  refine zq (PV.not rfl) rfl (TL.nil (TQ.thenG (TG.condF rfl ?_)))
  refine TG.skip (TQ.gblkN (TQ.thenG (TG.region (by repeat (first | with_reducible exact RB.lo | with_reducible exact QN.lo | with_reducible exact bodyM_lo | with_reducible exact bodyP_lo | with_reducible apply lo_then | with_reducible apply lo_blk)) (by kernel_rfl) ?_)))
  refine zm rfl (zm rfl (zq (PV.subN (b := 1) rfl rfl rfl om om) rfl (zq (PV.andK rfl rfl (i64_and_nat om om)) rfl (za rfl (TL.nil (TQ.backG (y.1 + 1, (y.2.1 &&& (y.2.1 - 1)), s1) l9z l9z (List.Sublist.refl _) ⟨and_lt hy.1, htk.2.2, htk.2.1, hs1⟩ (by have := htk.2.2; simp only; omega)))))))
  refine TGL.opsAll (by repeat (first | with_reducible exact RB.lo | with_reducible exact QN.lo | with_reducible exact bodyM_lo | with_reducible exact bodyP_lo | with_reducible apply lo_then | with_reducible apply lo_blk)) (by kernel_rfl) ?_
  refine zq (PV.not rfl) rfl (TL.nil (TQ.thenG (TG.condT rfl ?_)))
  refine TG.ret (TQ.gblkR (TQ.gthenR (TQ.gthenR (TQ.gblkR (TQ.retI rfl (fun w9 v9 hw9 => ⟨⟨_, rfl⟩, .inr ⟨_, z, List.take_prefix _ _, hz, hw9⟩⟩))))))
  refine TG.exit ?_
  refine TQ.gthenE ?_
  refine TQ.gthenE ?_
  refine TQ.gblkS ?_
  have hz9 : y.2.1 = 0 := by omega
  have hz8 := hy.2.2.1
  rw [hz9, Mo.sq_zero, List.append_nil] at hz8
  refine TQ.retIN rfl (fun w9 v9 hw9 => ⟨⟨_, rfl⟩, .inl ⟨(Mo.sqL x).take y.1, y.2.2, hz8.symm, hy.2.2.2, hw9⟩⟩)
end Go.Proofs.YtbnjmkidbfmomaaGreatDoor.M
