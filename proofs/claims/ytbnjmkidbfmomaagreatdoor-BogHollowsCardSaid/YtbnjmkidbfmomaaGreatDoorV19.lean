/- Qd Qe Pw Pv -/
import Derived.Test.YtbnjmkidbfmomaaGreatDoorV06
import Derived.Test.YtbnjmkidbfmomaaGreatDoorV08
import Derived.Test.YtbnjmkidbfmomaaGreatDoorV11
import Derived.Test.YtbnjmkidbfmomaaGreatDoorV16
import Derived.Test.YtbnjmkidbfmomaaGreatDoorV18
set_option linter.unusedVariables false
set_option linter.unusedSimpArgs false
set_option maxRecDepth 100000
namespace Go.Proofs.YtbnjmkidbfmomaaGreatDoor.M
open Go.Sx Go.RowKit
section
variable {P : Program} {n : Nat} {w0 : World} {E : Env} {G : Heap} {d : Option Nat} {ty : TypeId} {pos : String} {aft : Array Edge} {g : Option (Nat × Bool)}
theorem PV.loadW {x : Operand} {p : Addr} {t : Nat} {v : Value} (hx : evo E x = some (.pointer (some p))) (ht : oneB P t = true)
    (hv : ∀ w, New w0 w G → w.cell? p = some v) : PV P n w0 E G ⟨d, .load t x, ty, pos, aft, g⟩ v :=
  fun a w hs => by
    have hc := hv w hs.new
    unfold oneB at ht
    simp only [execOp, hs.ev hx]
    cases hu : P.underlying t with
    | none => simp [hu] at ht
    | some u => cases u <;> first | (simp [hu] at ht; done) | simp [Instr.loadAt, Instr.sureAddr, loadVar, isAgg, run_underlying hu, hc]
end
theorem fill_i (v : Int) : Instr.fill (fun i => some (i * 1, 1)) ((Array.range (1 * 1)).map ((Value.int .i64 0).cells[· % (Value.int .i64 0).cells.size]!)) [(0, .int .i64 v)] = some #[.int .i64 v] := by kernel_rfl
theorem goI_nil : goI (none, []) := ⟨rfl, rfl⟩
theorem RdI.g {h : HD} {xs : List Int} (ho : goI (h, xs)) : RdI xs (gval h xs.length, gbI (h, xs)) := by
  refine ⟨gp h, gc h, gval_eq ho, fun hne => ?_, fun w0 w G hn hm => IntsAt.g (x := (h, xs)) hn hm ho⟩
  obtain _ | ⟨b, cap, sp⟩ := h
  · have h2 : xs.length = 0 := ho.2
    exact absurd (List.length_eq_zero_iff.1 h2) hne
  · exact ⟨_, rfl⟩
theorem RdI.at {xs : List Int} {p : Option Addr} {G9 : Heap} (hs : xs ≠ [] → ∃ q, p = some q) (hi : ∀ (w0 w : World) (G : Heap), New w0 w G → (∀ y ∈ G9, y ∈ G) → IntsAt w p xs) {j : Nat} (hj : j < xs.length) :
    ∃ q, p = some q ∧ ∀ (w0 w : World) (G : Heap), New w0 w G → (∀ y ∈ G9, y ∈ G) → w.cell? (q.add (j * 1)) = some (.int .i64 (xs.getD j 0)) := by
  obtain ⟨q, hq⟩ := hs (fun e => by rw [e] at hj; cases hj)
  refine ⟨q, hq, fun w0 w G hn hm => ?_⟩
  obtain ⟨q', hq', hc⟩ := hi w0 w G hn hm j hj
  rw [hq] at hq'
  obtain rfl := Option.some.inj hq'
  exact hc
def nbF (m : Mo.Md) (s j : Nat) : List Nat := (List.range j).filter (Mo.adj m.C s)
theorem nbF_zero (m : Mo.Md) (s : Nat) : nbF m s 0 = [] := rfl
theorem nbF_len (m : Mo.Md) (s j : Nat) : (nbF m s j).length ≤ j := Nat.le_trans (List.length_filter_le _ _) (by rw [List.length_range]; exact Nat.le_refl _)
theorem nbF_yes {m : Mo.Md} {s x : Nat} (h : (((x / m.C : Nat) : Int) - ((s / m.C : Nat) : Int)) * (((x / m.C : Nat) : Int) - ((s / m.C : Nat) : Int)) + (((x % m.C : Nat) : Int) - ((s % m.C : Nat) : Int)) * (((x % m.C : Nat) : Int) - ((s % m.C : Nat) : Int)) = 1) : ofN (nbF m s (x + 1)) = ofN (nbF m s x) ++ [(x : Int)] := by
  have h1 : Mo.adj m.C s x = true := decide_eq_true h
  unfold nbF ofN
  rw [List.range_succ, List.filter_append, List.map_append, List.filter_cons, if_pos h1]; rfl
theorem nbF_no {m : Mo.Md} {s x : Nat} (h : ¬ (((x / m.C : Nat) : Int) - ((s / m.C : Nat) : Int)) * (((x / m.C : Nat) : Int) - ((s / m.C : Nat) : Int)) + (((x % m.C : Nat) : Int) - ((s % m.C : Nat) : Int)) * (((x % m.C : Nat) : Int) - ((s % m.C : Nat) : Int)) = 1) : ofN (nbF m s (x + 1)) = ofN (nbF m s x) := by
  have h1 : Mo.adj m.C s x = false := decide_eq_false h
  unfold nbF ofN
  rw [List.range_succ, List.filter_append, List.map_append, List.filter_cons, if_neg (by rw [h1]; decide)]; simp
theorem diff_bd {a b : Nat} (ha : a ≤ 36) (hb : b ≤ 36) : (-9223372036854775808 ≤ (a : Int) - b ∧ (a : Int) - b ≤ 9223372036854775807) ∧ (-9223372036854775808 ≤ ((a : Int) - b) * ((a : Int) - b) ∧ ((a : Int) - b) * ((a : Int) - b) ≤ 9223372036854775807) ∧ (0 ≤ ((a : Int) - b) * ((a : Int) - b) ∧ ((a : Int) - b) * ((a : Int) - b) ≤ 1296) := by
  have h : 0 ≤ ((a : Int) - b) * ((a : Int) - b) ∧ ((a : Int) - b) * ((a : Int) - b) ≤ 1296 := by
    rcases Int.le_total 0 ((a : Int) - b) with h1 | h1
    · exact ⟨Int.mul_nonneg h1 h1, Int.le_trans (Int.mul_le_mul (by omega : (a : Int) - b ≤ 36) (by omega : (a : Int) - b ≤ 36) h1 (by decide)) (by decide)⟩
    · rw [← Int.neg_mul_neg]
      exact ⟨Int.mul_nonneg (by omega) (by omega), Int.le_trans (Int.mul_le_mul (by omega : -((a : Int) - b) ≤ 36) (by omega : -((a : Int) - b) ≤ 36) (by omega) (by decide)) (by decide)⟩
  exact ⟨by omega, by omega, h⟩
theorem div_le36 {m : Mo.Md} (ho : Mo.Ok m) {x : Nat} (h : x < m.N) : x / m.C ≤ 36 := Nat.le_trans (Nat.div_le_self _ _) (by have := ho.N36; omega)
theorem mod_le36 {m : Mo.Md} (ho : Mo.Ok m) (x : Nat) : x % m.C ≤ 36 := by
  have := Nat.mod_lt x (show 0 < m.C by have := ho.C1; omega)
  have := ho.C6; omega
theorem ofN_at {l : List Nat} {k : Nat} (h : k < l.length) : (ofN l).getD k 0 = ((l.getD k 0 : Nat) : Int) := by simp [List.getD, h]
theorem nbF_lt {m : Mo.Md} {s k : Nat} (h : k < (nbF m s m.N).length) : (nbF m s m.N).getD k 0 < m.N := by
  have h1 : (nbF m s m.N).getD k 0 ∈ nbF m s m.N := by simp [List.getD, h]
  exact List.mem_range.1 (List.mem_filter.1 h1).1
theorem take_sD {l : List Nat} {k : Nat} (h : k < l.length) : l.take (k + 1) = l.take k ++ [l.getD k 0] := by
  rw [List.take_add_one]; simp [List.getD, h]
theorem takeF_yes {l : List Nat} {k : Nat} {f : Nat → Bool} (h : k < l.length) (hb : f (l.getD k 0) = true) : ((l.take (k + 1)).filter f).length = ((l.take k).filter f).length + 1 := by
  rw [take_sD h, List.filter_append, List.length_append, List.filter_cons, if_pos hb]; rfl
theorem takeF_no {l : List Nat} {k : Nat} {f : Nat → Bool} (h : k < l.length) (hb : f (l.getD k 0) = false) : ((l.take (k + 1)).filter f).length = ((l.take k).filter f).length := by
  rw [take_sD h, List.filter_append, List.length_append, List.filter_cons, if_neg (by rw [hb]; decide)]; rfl
theorem nbF_ar (m : Mo.Md) (S s : Nat) : ((nbF m s m.N).filter S.testBit).length = Mo.ar m S s := by
  unfold nbF Mo.ar
  rw [List.filter_filter, Mo.cnt_filter]
  exact Mo.cnt_congr fun i _ => Bool.and_comm _ _
def stR (m : Mo.Md) (S k : Nat) : Nat := S ||| Mo.msk k fun s => decide (m.K ≤ Mo.ar m S s)
theorem stR_zero (m : Mo.Md) (S : Nat) : stR m S 0 = S := Nat.or_zero S
theorem stR_yes {m : Mo.Md} {S k : Nat} (h : (m.K : Int) ≤ ((Mo.ar m S k : Nat) : Int)) : stR m S (k + 1) = stR m S k ||| 2 ^ k := by
  unfold stR
  rw [Mo.msk, if_pos (decide_eq_true (by omega)), ← Nat.or_assoc]
theorem stR_no {m : Mo.Md} {S k : Nat} (h : ¬ (m.K : Int) ≤ ((Mo.ar m S k : Nat) : Int)) : stR m S (k + 1) = stR m S k := by
  unfold stR
  rw [Mo.msk, if_neg (by rw [decide_eq_true_eq]; omega)]
theorem stR_lt {m : Mo.Md} {S k : Nat} (hS : S < 2 ^ m.N) (hk : k ≤ m.N) : stR m S k < 2 ^ m.N := Nat.or_lt_two_pow hS (Nat.lt_of_lt_of_le (Mo.msk_lt _ _) (Nat.pow_le_pow_right (by decide) hk))
theorem stR_all {m : Mo.Md} {S : Nat} : stR m S m.N = Mo.stp m S := Nat.eq_of_testBit_eq fun i => by
  unfold stR Mo.stp
  rw [Nat.testBit_or, Nat.testBit_or, Mo.msk_t, Mo.rdy_t]
  unfold Mo.rdB
  cases S.testBit i <;> simp
structure Dys (m : Mo.Md) (S k : Nat) : Prop where
  le : k ≤ m.N
  go : ∀ j, j < k → Mo.rdy m (Mo.it m S j) ≠ 0
theorem rdy63 {m : Mo.Md} (ho : Mo.Ok m) (S : Nat) : Mo.rdy m S < 9223372036854775808 := set63 ho (Mo.rdy_lt m S)
theorem or_step {m : Mo.Md} (ho : Mo.Ok m) {S : Nat} (hS : S < 2 ^ m.N) : bits .or .i64 (S : Int) ((Mo.rdy m S : Nat) : Int) = ((Mo.stp m S : Nat) : Int) := i64_or_nat (set63 ho hS) (rdy63 ho S)
set_option maxHeartbeats 1000000 in
theorem ready_ok (w0 : World) (ht : TzAt w0) (m : Mo.Md) (ho : Mo.Ok m) (S : Nat) (hS : S < 2 ^ m.N) :
    Calls Tryz.prog 212 #[mV m, .int .i64 S] w0 (Post (X := Unit) (fun _ => .int .i64 (Mo.rdy m S : Nat)) (fun _ => True) (fun _ => []) w0) := by
  have hS63 := set63 ho hS
  have hf63 := full_63 ho
  have hd := Mo.co_lt m S
  have hd63 := set63 ho hd
  have hN := ho.N36
  refine callsRF Tryz.func212 rfl (n := 25) rfl (by simp) ?_
  refine zr (TL.box rfl rfl dc (fun b0 hb0 => ?_))
  refine TL.box rfl rfl dc (fun b1 hb1 => ?_)
  refine za rfl (zk (TL.alloc Tb.zero_3 rfl dc (fun b2 hb2 => ?_)))
  refine TL.store rfl rfl Tb.cells_3 rfl u9z d9z rfl rfl ?_
  refine zn (TC.seq (TC.seq (TC.mix [true, false, true, false, false] [(b2, Obj.cells #[.int .i64 0] 3 (0, 0)), (b1, Obj.cells #[.int .i64 (S : Nat)] 3 (0, 0)), (b0, Obj.cells #[.int .i64 m.R, .int .i64 m.C, .int .i64 m.K] 52 (0, 0))] 3 Tb.mixed rfl kr kr kr kr s9z ?_)))
  refine TB.op (SOK.pure (PV.loadBox rfl Tb.agg_52 m9z rfl) rfl) dc ?_
  refine TB.no ?_
  refine TB.op (SOK.pure (PV.load rfl Tb.one_3 m9z rfl) rfl) dc ?_
  refine TB.no ?_
  refine TB.no ?_
  refine TB.fin ?_
  refine TX.step [1] kr dc ⟨⟨_, rfl, ?_⟩, trivial⟩
  refine TL.call rfl Tb.gofn_234 (fun a w hs => all_ok w m ho) rfl dc (fun _ _ => ?_)
  refine TL.nil ?_
  refine TX.next (.inl s9z) ?_
  refine TX.step [3] kr dc ⟨⟨_, rfl, ?_⟩, trivial⟩
  refine zq (PV.andNotK rfl rfl (i64_andNot_nat hf63 hS63)) rfl (TL.nil ?_)
  refine TX.next (.inl s9z) ?_
  refine TX.step [4] kr dc ⟨⟨_, rfl, ?_⟩, trivial⟩
  refine TL.call rfl Tb.gofn_235 (fun a w hs => squares_ok w (Mo.dif (Mo.full m) S)) rfl dc (fun bx hbx => ?_)
  refine TL.nil ?_
  refine TX.next (.inl s9z) ?_
  refine TX.done kr ?_
  refine TQ.thenC (TC.block (TC.rangeFunc (encs := fun s : Nat => [.int .i64 s]) (kept := [(bx, Obj.cells #[.int .i64 (Mo.dif (Mo.full m) S : Nat)] 3 (0, 0))]) (α := Nat) (X := Nat) (Y := Unit) (Z := Nat) (ps := [12]) (fun pre s => s = orL (fun q => decide (m.K ≤ Mo.ar m S q)) pre) (fun s => [(bx, Obj.cells #[.int .i64 (Mo.dif (Mo.full m) S : Nat)] 3 (0, 0)), (b2, Obj.cells #[.int .i64 (s : Nat)] 3 (0, 0)), (b1, Obj.cells #[.int .i64 (S : Nat)] 3 (0, 0)), (b0, Obj.cells #[.int .i64 m.R, .int .i64 m.C, .int .i64 m.K] 52 (0, 0))]) (fun pre y => False) (fun y => []) 0 (fun x s z => z = s) (fun x z => [(6, .int .i64 x), (2, .pointer (some ⟨b0, 0, none⟩)), (3, .pointer (some ⟨b1, 0, none⟩)), (5, .pointer (some ⟨b2, 0, none⟩))]) (fun x z => [(bx, Obj.cells #[.int .i64 (Mo.dif (Mo.full m) S : Nat)] 3 (0, 0)), (b2, Obj.cells #[.int .i64 (z : Nat)] 3 (0, 0)), (b1, Obj.cells #[.int .i64 (S : Nat)] 3 (0, 0)), (b0, Obj.cells #[.int .i64 m.R, .int .i64 m.C, .int .i64 m.K] 52 (0, 0))]) rfl Tb.gofn_246 (squares_it w0 ht _ hd63 bx) (fun _ => rfl) dc rfl s9z (fun s q hq => by simp only [List.mem_cons, List.not_mem_nil, or_false] at hq; subst hq; exact List.Mem.head _) ?_ ?_ ?_ ?_))
  intro lR TR pre x s hp_ hF_
  refine TG.region (by repeat (first | with_reducible exact RB.lo | with_reducible exact QN.lo | with_reducible exact bodyM_lo | with_reducible exact bodyP_lo | with_reducible apply lo_then | with_reducible apply lo_blk)) (by kernel_rfl) ?_
  refine za rfl (TL.nil (TQ.gmid s rfl l9z (List.Sublist.refl _)))
  intro lR TR pre x s z hp_ hF_ hz_
  obtain rfl : s = z := hz_.symm
  have hmem := pre_mem hp_
  have hxN := sq_lt ho hd hmem
  have hall : ∀ q ∈ pre ++ [x], q < m.N := fun q hq => sq_lt ho hd (hp_.subset hq)
  have hs63 : s < 9223372036854775808 := by rw [hF_]; exact set63 ho (orL_lt fun q hq => hall q (List.mem_append_left _ hq))
  have hsn := orL_snoc (fun q => decide (m.K ≤ Mo.ar m S q)) pre x
  refine TG.block (TG.seq (TG.mix (by repeat (first | with_reducible exact RB.lo | with_reducible exact QN.lo | with_reducible exact bodyM_lo | with_reducible exact bodyP_lo | with_reducible apply lo_then | with_reducible apply lo_blk)) (by kernel_rfl) [true, true, true, false, true, true, false] [(bx, Obj.cells #[.int .i64 (Mo.dif (Mo.full m) S : Nat)] 3 (0, 0)), (b2, Obj.cells #[.int .i64 (s : Nat)] 3 (0, 0)), (b1, Obj.cells #[.int .i64 (S : Nat)] 3 (0, 0)), (b0, Obj.cells #[.int .i64 m.R, .int .i64 m.C, .int .i64 m.K] 52 (0, 0))] 2 Tb.mixed rfl (by kernel_rfl) (by kernel_rfl) (by kernel_rfl) (by kernel_rfl) s9z ?_))
  refine TB.op (SOK.pure (PV.loadBox rfl Tb.agg_52 m9z rfl) rfl) dc ?_
  refine TB.op (SOK.pure (PV.move rfl) rfl) dc ?_
  refine TB.op (SOK.pure (PV.load rfl Tb.one_3 m9z rfl) rfl) dc ?_
  refine TB.no ?_
  refine TB.op (SOK.pure (PV.fieldAddr rfl Tb.fo_52_2) rfl) dc ?_
  refine TB.op (SOK.pure (PV.load rfl Tb.one_3 m9z rfl) rfl) dc ?_
  refine TB.no ?_
  refine TB.fin ?_
  refine TX.step [3] kr dc ⟨⟨_, rfl, ?_⟩, trivial⟩
  refine TL.call rfl Tb.gofn_236 (fun a w hs => beside_ok w m ho _ hxN S hS63) rfl dc (fun _ _ => ?_)
  refine TL.nil ?_
  refine TX.next (.inl s9z) ?_
  refine TX.step [6] kr dc ⟨⟨_, rfl, ?_⟩, trivial⟩
  refine zq (PV.geq rfl rfl) rfl (TL.nil ?_)
  refine TX.next (.inl s9z) ?_
  refine TX.done kr ?_
  refine TQ.thenG ?_
  first | refine TG.condD rfl (fun hge => ?_) (fun hge => ?_) | refine TG.cond rfl (fun hge => ?_) (fun hge => ?_)
  refine TG.mix (by repeat (first | with_reducible exact RB.lo | with_reducible exact QN.lo | with_reducible exact bodyM_lo | with_reducible exact bodyP_lo | with_reducible apply lo_then | with_reducible apply lo_blk)) (by kernel_rfl) [false, true, false, false, false] [(bx, Obj.cells #[.int .i64 (Mo.dif (Mo.full m) S : Nat)] 3 (0, 0)), (b1, Obj.cells #[.int .i64 (S : Nat)] 3 (0, 0)), (b0, Obj.cells #[.int .i64 m.R, .int .i64 m.C, .int .i64 m.K] 52 (0, 0))] 4 Tb.mixed rfl (by kernel_rfl) (by kernel_rfl) (by kernel_rfl) (by kernel_rfl) s9z ?_
  refine TB.no ?_
  refine TB.op (SOK.pure (PV.move rfl) rfl) dc ?_
  refine TB.no ?_
  refine TB.no ?_
  refine TB.no ?_
  refine TB.fin ?_
  refine TX.step [0, 2] kr dc ⟨⟨_, rfl, ?_⟩, ⟨_, rfl, ?_⟩, trivial⟩
  refine zq (PV.load rfl Tb.one_3 m9z rfl) rfl ?_
  refine TL.nil ?_
  refine TX.next (.inl s9z) ?_
  refine TX.step [2] kr dc ⟨⟨_, rfl, ?_⟩, trivial⟩
  refine TL.call rfl Tb.gofn_237 (fun a w hs => only_ok w _ om) rfl dc (fun _ _ => ?_)
  refine TL.nil ?_
  refine TX.next (.inr kr) ?_
  refine TX.step [3] kr dc ⟨⟨_, rfl, ?_⟩, trivial⟩
  refine zq (PV.orK rfl rfl (i64_or_nat hs63 (p63 om))) rfl (TL.nil ?_)
  refine TX.next (.inl s9z) ?_
  refine TX.step [4] kr dc ⟨⟨_, rfl, ?_⟩, trivial⟩
  refine TL.store rfl rfl Tb.cells_3 rfl u9z d9z rfl rfl ?_
  refine TL.nil ?_
  refine TX.next (.inr kr) ?_
  refine TX.done kr ?_
  refine TQ.gblkN ?_
  · first
      | (refine TQ.goOn (s ||| 2 ^ x) ?_ (by repeat (first | exact .slnil | exact List.nil_sublist _ | exact .refl _ | refine .cons_cons _ ?_ | refine .cons _ ?_ | refine .trans ?_ (List.sublist_append_right _ _)))
         rw [hsn, if_pos (decide_eq_true (by omega)), ← hF_]; done)
      | (refine TQ.goOn s ?_ (by repeat (first | exact .slnil | exact List.nil_sublist _ | exact .refl _ | refine .cons_cons _ ?_ | refine .cons _ ?_ | refine .trans ?_ (List.sublist_append_right _ _)))
         rw [hsn, if_neg (by rw [decide_eq_true_eq]; omega), ← hF_]; done)
  refine TL.call rfl Tb.gofn_237 (fun a w hs => only_ok w _ om) rfl dc (fun _ _ => ?_)
  refine TL.nil ?_
  refine TX.next (.inr kr) ?_
  refine TX.step [0] kr dc ⟨⟨_, rfl, ?_⟩, trivial⟩
  refine zq (PV.load rfl Tb.one_3 m9z rfl) rfl ?_
  refine TL.nil ?_
  refine TX.next (.inl s9z) ?_
  refine TX.step [3] kr dc ⟨⟨_, rfl, ?_⟩, trivial⟩
  refine zq (PV.orK rfl rfl (i64_or_nat hs63 (p63 om))) rfl (TL.nil ?_)
  refine TX.next (.inl s9z) ?_
  refine TX.step [4] kr dc ⟨⟨_, rfl, ?_⟩, trivial⟩
  refine TL.store rfl rfl Tb.cells_3 rfl u9z d9z rfl rfl ?_
  refine TL.nil ?_
  refine TX.next (.inr kr) ?_
  refine TX.done kr ?_
  refine TQ.gblkN ?_
  · first
      | (refine TQ.goOn (s ||| 2 ^ x) ?_ (by repeat (first | exact .slnil | exact List.nil_sublist _ | exact .refl _ | refine .cons_cons _ ?_ | refine .cons _ ?_ | refine .trans ?_ (List.sublist_append_right _ _)))
         rw [hsn, if_pos (decide_eq_true (by omega)), ← hF_]; done)
      | (refine TQ.goOn s ?_ (by repeat (first | exact .slnil | exact List.nil_sublist _ | exact .refl _ | refine .cons_cons _ ?_ | refine .cons _ ?_ | refine .trans ?_ (List.sublist_append_right _ _)))
         rw [hsn, if_neg (by rw [decide_eq_true_eq]; omega), ← hF_]; done)
  refine TG.skip (TQ.gblkN ?_)
  · first
      | (refine TQ.goOn (s ||| 2 ^ x) ?_ (by repeat (first | exact .slnil | exact List.nil_sublist _ | exact .refl _ | refine .cons_cons _ ?_ | refine .cons _ ?_ | refine .trans ?_ (List.sublist_append_right _ _)))
         rw [hsn, if_pos (decide_eq_true (by omega)), ← hF_]; done)
      | (refine TQ.goOn s ?_ (by repeat (first | exact .slnil | exact List.nil_sublist _ | exact .refl _ | refine .cons_cons _ ?_ | refine .cons _ ?_ | refine .trans ?_ (List.sublist_append_right _ _)))
         rw [hsn, if_neg (by rw [decide_eq_true_eq]; omega), ← hF_]; done)
  intro dB lB oB xs_ s hD_ hF_
  have hs9 : s = Mo.rdy m S := by rw [hF_, hD_]; exact rdy_fold ho
  refine TQ.gblkN (TQ.thenD (TG.seq (TG.region (by repeat (first | with_reducible exact RB.lo | with_reducible exact QN.lo | with_reducible exact bodyM_lo | with_reducible exact bodyP_lo | with_reducible apply lo_then | with_reducible apply lo_blk)) (by kernel_rfl) ?_)))
  refine zq (PV.load rfl Tb.one_3 m9z rfl) rfl ?_
  refine za rfl (TL.nil (TQ.thenG (TG.ret (TQ.retM t9z ?_))))
  refine TQ.retE1 rfl rfl ?_
  exact ⟨(), by rw [hs9], trivial, nils⟩
  intro dB lB oB xs_ y hP_ hF_
  exact hF_.elim
set_option maxHeartbeats 1000000 in
theorem rneighbors_ok (w0 : World) (m : Mo.Md) (ho : Mo.Ok m) (s : Nat) (hs3 : s < m.N) :
    Calls Tryz.prog 220 #[mV m, .int .i64 s] w0 (Post (X := Value × Heap) (fun x => x.1) (fun x => RdI (ofN (nbF m s m.N)) x) (fun x => x.2) w0) := by
  have hN := ho.N36
  have hC1 := ho.C1
  have hE := nbF_zero m s
  refine calls Tryz.func220 rfl (n := 46) rfl (by simp) ?_
  refine zr (TL.box rfl rfl dc (fun b0 hb0 => ?_))
  refine za rfl (zk (za rfl (zn (TC.seq (zr (za rfl (zn (TC.block (TC.loopK [1, 2, 4] (X := Nat × HD) (fun x => x.1 ≤ m.N ∧ goI (x.2, ofN (nbF m s x.1))) (fun x => [(6, .int .i64 x.1), (5, gval x.2 (ofN (nbF m s x.1)).length)]) (fun x => gbI (x.2, ofN (nbF m s x.1)) ++ [(b0, Obj.cells #[.int .i64 m.R, .int .i64 m.C, .int .i64 m.K] 52 (0, 0))]) (fun x => m.N - x.1) (0, none) ⟨Nat.zero_le _, by rw [hE]; exact goI_nil⟩ (by refine And.intro rfl (And.intro ?_ True.intro); rw [hE]; rfl) (by rw [hE]; exact List.Sublist.refl _) ?_)))))))))
  intro x hx9
  have hxl := hx9.1
  have hnl := nbF_len m s x.1
  refine TC.seq (zr (zm rfl (zq (PV.loadBox rfl Tb.agg_52 m9z rfl) rfl ?_)))
  refine TL.call rfl Tb.gofn_191 (fun a w hs => rsquares_ok w m ho) rfl dc (fun _ _ => ?_)
  refine zq (PV.lss rfl rfl) rfl (zn (TC.cd rfl (fun hlt => ?_) (fun hlt => ?_)))
  refine TC.skip (TQ.thenC (TC.seq (TC.block (TC.seq ?_))))
  have hb1 := diff_bd (a := x.1 / m.C) (b := s / m.C) (div_le36 ho (by omega : x.1 < m.N)) (div_le36 ho hs3)
  have hb2 := diff_bd (a := x.1 % m.C) (b := s % m.C) (mod_le36 ho x.1) (mod_le36 ho s)
  refine TC.any Tb.mixed rfl rfl ?_
  refine TA.op (OpOK.pure (PV.move rfl) rfl dc) dc ?_
  refine TA.op (OpOK.pure (PV.fieldAddr rfl Tb.fo_52_1) rfl dc) dc ?_
  refine TA.op (OpOK.pure (PV.load rfl Tb.one_3 m9z rfl) rfl dc) dc ?_
  refine TA.op (OpOK.pure (PV.quoN rfl rfl om om) rfl dc) dc ?_
  refine TA.op (OpOK.pure (PV.move rfl) rfl dc) dc ?_
  refine TA.op (OpOK.pure (PV.fieldAddr rfl Tb.fo_52_1) rfl dc) dc ?_
  refine TA.op (OpOK.pure (PV.load rfl Tb.one_3 m9z rfl) rfl dc) dc ?_
  refine TA.op (OpOK.pure (PV.quoN rfl rfl om om) rfl dc) dc ?_
  refine TA.op (OpOK.pure (PV.sub rfl rfl hb1.1) rfl dc) dc ?_
  refine TA.op (OpOK.pure (PV.move rfl) rfl dc) dc ?_
  refine TA.op (OpOK.pure (PV.fieldAddr rfl Tb.fo_52_1) rfl dc) dc ?_
  refine TA.op (OpOK.pure (PV.load rfl Tb.one_3 m9z rfl) rfl dc) dc ?_
  refine TA.op (OpOK.pure (PV.remN rfl rfl om om) rfl dc) dc ?_
  refine TA.op (OpOK.pure (PV.move rfl) rfl dc) dc ?_
  refine TA.op (OpOK.pure (PV.fieldAddr rfl Tb.fo_52_1) rfl dc) dc ?_
  refine TA.op (OpOK.pure (PV.load rfl Tb.one_3 m9z rfl) rfl dc) dc ?_
  refine TA.op (OpOK.pure (PV.remN rfl rfl om om) rfl dc) dc ?_
  refine TA.op (OpOK.pure (PV.sub rfl rfl hb2.1) rfl dc) dc ?_
  refine TA.op (OpOK.pure (PV.assign rfl) rfl dc) dc ?_
  refine TA.op (OpOK.pure (PV.assign rfl) rfl dc) dc ?_
  show TQ _ _ _ _ _
  refine TQ.thenC (zr (zm rfl (zm rfl (zq (PV.mul rfl rfl hb1.2.1) rfl (zm rfl (zm rfl (zq (PV.mul rfl rfl hb2.2.1) rfl (zq (PV.add rfl rfl (by have := hb1.2.2; have := hb2.2.2; omega)) rfl ?_))))))))
  refine zq (PV.eql rfl rfl) rfl (zn (TC.cd rfl (fun hadj => ?_) (fun hadj => ?_)))
  have hsb := nbF_yes (x := x.1) hadj
  refine TC.region (zm rfl (zm rfl (TL.buildSlice (cs := #[.int .i64 x.1]) rfl Tb.sl_25 Tb.zi_3 dc (fill_i _) dc rfl dc (fun bE hbE => ?_))))
  refine TL.appendI (x0 := (x.2, ofN (nbF m s x.1))) rfl rfl m9z hx9.2 h9z (by show (ofN (nbF m s x.1)).length ≤ 1000000; rw [List.length_map]; omega) rfl dc (fun hh hho => ?_)
  refine za rfl (TL.nil (TQ.blkN (TQ.thenC (TC.region (zm rfl (zq (PV.add rfl rfl (by omega)) rfl (za rfl (TL.nil (TQ.thenN (TQ.backK (x.1 + 1, (by first | exact hh | exact x.2)) (And.intro rfl (And.intro (by show some _ = some (gval _ (ofN (nbF m s (x.1 + 1))).length); rw [hsb]) True.intro)) l9z (by show List.Sublist (gbI (_, ofN (nbF m s (x.1 + 1))) ++ _) _; rw [hsb]; first | exact List.Sublist.refl _ | exact List.Sublist.append_left (List.sublist_cons_self _ _) _) ⟨by simp only; omega, by show goI (_, ofN (nbF m s (x.1 + 1))); rw [hsb]; first | exact hho | exact hx9.2⟩ (by simp only; omega)))))))))))
  have hsb := nbF_no (x := x.1) hadj
  refine TC.skip (TQ.blkN (TQ.thenC (TC.region (zm rfl (zq (PV.add rfl rfl (by omega)) rfl (za rfl (TL.nil (TQ.thenN (TQ.backK (x.1 + 1, (by first | exact hh | exact x.2)) (And.intro rfl (And.intro (by show some _ = some (gval _ (ofN (nbF m s (x.1 + 1))).length); rw [hsb]) True.intro)) l9z (by show List.Sublist (gbI (_, ofN (nbF m s (x.1 + 1))) ++ _) _; rw [hsb]; first | exact List.Sublist.refl _ | exact List.Sublist.append_left (List.sublist_cons_self _ _) _) ⟨by simp only; omega, by show goI (_, ofN (nbF m s (x.1 + 1))); rw [hsb]; first | exact hho | exact hx9.2⟩ (by simp only; omega))))))))))
  refine TC.exit (TQ.thenE (TQ.thenE (TQ.blkS (TQ.thenC (TC.seq ?_)))))
  have hxe : x.1 = m.N := by omega
  refine TC.region (zm rfl (za rfl (zt (TQ.retE1 rfl rfl ?_))))
  exact ⟨(gval x.2 (ofN (nbF m s x.1)).length, gbI (x.2, ofN (nbF m s x.1))), rfl, by rw [← hxe]; exact RdI.g hx9.2, List.sublist_append_left _ _⟩
set_option maxHeartbeats 1000000 in
theorem around_ok (w0 : World) (m : Mo.Md) (ho : Mo.Ok m) (S : Nat) (hS : S < 9223372036854775808) (s : Nat) (hs3 : s < m.N) :
    Calls Tryz.prog 192 #[mV m, .int .i64 S, .int .i64 s] w0 (Post (X := Unit) (fun _ => .int .i64 (Mo.ar m S s : Nat)) (fun _ => True) (fun _ => []) w0) := by
  have hN := ho.N36
  have hnl := nbF_len m s m.N
  refine calls Tryz.func192 rfl (n := 28) rfl (by simp) ?_
  refine zr (TL.box rfl rfl dc (fun b0 hb0 => ?_))
  refine za rfl (zk (zq (PV.loadBox rfl Tb.agg_52 m9z rfl) rfl ?_))
  refine zm rfl (TL.call rfl Tb.gofn_220 (fun a w hs => rneighbors_ok w m ho s hs3) rfl dc (fun y9 hy9 => ?_))
  obtain ⟨v9, G9⟩ := y9
  obtain ⟨pa, ca, rfl, hsome, hia⟩ := hy9
  refine za rfl (zk (za rfl (zn (TC.seq (zr (za rfl (zn (TC.block (TC.loopK [1, 6, 7] (X := Nat) (fun k => k ≤ (nbF m s m.N).length) (fun k => [(8, .int .i64 (((nbF m s m.N).take k).filter S.testBit).length), (9, .int .i64 k)]) (fun k => G9) (fun k => (nbF m s m.N).length - k) 0 (Nat.zero_le _) l9z (List.sublist_append_left _ _) ?_)))))))))
  intro k hk
  refine TC.seq (TC.seq ?_)
  have hlen : (ofN (nbF m s m.N)).length = (nbF m s m.N).length := List.length_map _
  refine TC.region (zm rfl (zm rfl (zq (PV.len rfl Tb.sl_25) rfl (zq (PV.lss rfl rfl) rfl (zn (TC.cd rfl (fun hlt => ?_) (fun hlt => ?_)))))))
  refine TC.skip (TQ.thenC (TC.seq (TC.block (TC.seq ?_))))
  have hlt9 : k < (nbF m s m.N).length := by omega
  have hfl9 := List.length_filter_le S.testBit ((nbF m s m.N).take k)
  rw [List.length_take] at hfl9
  obtain ⟨q, hq, hcell⟩ := RdI.at hsome hia (j := k) (by omega)
  have hval := ofN_at hlt9
  have hvN := nbF_lt hlt9
  refine TC.region (zm rfl (zm rfl (zm rfl (zq (PV.indexA (j := k) rfl hq rfl Tb.elm_25 om om) rfl (zq (PV.loadW rfl Tb.one_3 (fun w hw => (hcell _ _ _ hw (fun y hy => hy)).trans (by rw [hval]))) rfl ?_)))))
  refine TL.call rfl Tb.gofn_117 (fun a w hs => rHas_ok w S _ hS om) rfl dc (fun _ _ => ?_)
  refine zn (TC.cd rfl (fun hb => ?_) (fun hb => ?_))
  have htk := takeF_yes hlt9 hb
  refine TC.region (zm rfl (zq (PV.add rfl rfl om) rfl (za rfl (TL.nil (TQ.blkN (TQ.thenC (TC.region (zm rfl (zq (PV.add rfl rfl om) rfl (za rfl (TL.nil (TQ.thenN (TQ.backK (k + 1) (by refine And.intro ?_ (And.intro rfl True.intro); show some _ = some _; rw [htk]; try rfl) l9z (List.Sublist.refl _) om om)))))))))))))
  have htk := takeF_no hlt9 hb
  refine TC.skip (TQ.blkN (TQ.thenC (TC.region (zm rfl (zq (PV.add rfl rfl om) rfl (za rfl (TL.nil (TQ.thenN (TQ.backK (k + 1) (by refine And.intro ?_ (And.intro rfl True.intro); show some _ = some _; rw [htk]; try rfl) l9z (List.Sublist.refl _) om om)))))))))
  refine TC.exit (TQ.thenE (TQ.thenE (TQ.blkS (TQ.thenC (TC.seq ?_)))))
  have hke : k = (nbF m s m.N).length := by omega
  refine TC.region (zm rfl (za rfl (zt (TQ.retE1 rfl rfl ?_))))
  exact ⟨(), by rw [hke, List.take_length, nbF_ar], trivial, nils⟩
set_option maxHeartbeats 1000000 in
theorem rstep_ok (w0 : World) (m : Mo.Md) (ho : Mo.Ok m) (S : Nat) (hS : S < 2 ^ m.N) :
    Calls Tryz.prog 162 #[mV m, .int .i64 S] w0 (Post (X := Unit) (fun _ => .int .i64 (Mo.stp m S : Nat)) (fun _ => True) (fun _ => []) w0) := by
  have hN := ho.N36
  have hS63 := set63 ho hS
  refine calls Tryz.func162 rfl (n := 27) rfl (by simp) ?_
  refine zr (TL.box rfl rfl dc (fun b0 hb0 => ?_))
  refine za rfl (zk (zm rfl (za rfl (zn (TC.seq (zr (za rfl (zn (TC.block (TC.loopG [1, 2, 4] (X := Nat) (fun k => k ≤ m.N) (fun k => [(5, .int .i64 (stR m S k : Nat)), (6, .int .i64 k)]) (fun k => m.N - k) 0 (Nat.zero_le _) (by refine And.intro ?_ (And.intro rfl True.intro); show some _ = some _; rw [stR_zero]) ?_))))))))))
  intro k hk
  refine TC.seq (zr (zm rfl (zq (PV.loadBox rfl Tb.agg_52 m9z rfl) rfl ?_)))
  refine TL.call rfl Tb.gofn_191 (fun a w hs => rsquares_ok w m ho) rfl dc (fun _ _ => ?_)
  refine zq (PV.lss rfl rfl) rfl (zn (TC.cd rfl (fun hlt => ?_) (fun hlt => ?_)))
  refine TC.skip (TQ.thenC (TC.seq (TC.block (TC.seq (TC.mix [true, true, true, false, true, true, false] _ 2 Tb.mixed rfl kr kr kr kr (List.Sublist.refl _) ?_)))))
  refine TB.op (SOK.pure (PV.loadBox rfl Tb.agg_52 m9z rfl) rfl) dc ?_
  refine TB.op (SOK.pure (PV.move rfl) rfl) dc ?_
  refine TB.op (SOK.pure (PV.move rfl) rfl) dc ?_
  refine TB.no ?_
  refine TB.op (SOK.pure (PV.fieldAddr rfl Tb.fo_52_2) rfl) dc ?_
  refine TB.op (SOK.pure (PV.load rfl Tb.one_3 m9z rfl) rfl) dc ?_
  refine TB.no ?_
  refine TB.fin ?_
  refine TX.step [3] kr dc ⟨⟨_, rfl, ?_⟩, trivial⟩
  refine TL.call rfl Tb.gofn_192 (fun a w hs => around_ok w m ho S hS63 k om) rfl dc (fun _ _ => ?_)
  refine TL.nil ?_
  refine TX.next (.inl s9z) ?_
  refine TX.step [6] kr dc ⟨⟨_, rfl, ?_⟩, trivial⟩
  refine zq (PV.geq rfl rfl) rfl (TL.nil ?_)
  refine TX.next (.inl s9z) ?_
  refine TX.done kr ?_
  refine TQ.thenC (TC.cd rfl (fun hge => ?_) (fun hge => ?_))
  have hst := stR_yes (k := k) hge
  have hsl := set63 ho (stR_lt (m := m) hS hk)
  refine TC.region (zm rfl (zm rfl (zq (PV.conv Tb.int_3 Tb.int_55 rfl (conv_u om)) rfl (zq (PV.shlK rfl rfl om om (shl_nat om)) rfl (zq (PV.orK rfl rfl (i64_or_nat hsl (p63 om))) rfl (za rfl (TL.nil (TQ.blkN (TQ.thenC (TC.region (zm rfl (zq (PV.add rfl rfl om) rfl (za rfl (TL.nil (TQ.thenN (TQ.backK (k + 1) (by refine And.intro ?_ (And.intro rfl True.intro); show some _ = some _; rw [hst]) l9z s9z om om))))))))))))))))
  have hst := stR_no (k := k) hge
  refine TC.skip (TQ.blkN (TQ.thenC (TC.region (zm rfl (zq (PV.add rfl rfl om) rfl (za rfl (TL.nil (TQ.thenN (TQ.backK (k + 1) (by refine And.intro ?_ (And.intro rfl True.intro); show some _ = some _; rw [hst]) l9z s9z om om)))))))))
  refine TC.exit (TQ.thenE (TQ.thenE (TQ.blkS (TQ.thenC (TC.seq ?_)))))
  have hke : k = m.N := by omega
  refine TC.region (zm rfl (za rfl (zt (TQ.retE1 rfl rfl ?_))))
  exact ⟨(), by rw [hke, stR_all], trivial, nils⟩
end Go.Proofs.YtbnjmkidbfmomaaGreatDoor.M
namespace Go.Proofs.YtbnjmkidbfmomaaGreatDoor.M
open Go.Sx Go.RowKit
abbrev Mo.mD (r c k : Int) : Mo.Md := ⟨r.toNat, c.toNat, k.toNat⟩
def zI (r c k w : Int) (x : Int) : Int := if gI r c k w = 0 then x else 0
def zB (r c k w : Int) (x : Bool) : Bool := if gI r c k w = 0 then x else false
theorem zI_no {r c k w x : Int} (h : gI r c k w ≠ 0) : zI r c k w x = 0 := if_neg h
theorem zB_no {r c k w : Int} {x : Bool} (h : gI r c k w ≠ 0) : zB r c k w x = false := if_neg h
theorem zI_ok {m : Mo.Md} (ho : Mo.Ok m) {S : Nat} (hS : S < 2 ^ m.N) : ∀ x, zI m.R m.C m.K S x = x := fun _ => if_pos (gI_ok ho hS)
theorem zB_ok {m : Mo.Md} (ho : Mo.Ok m) {S : Nat} (hS : S < 2 ^ m.N) : ∀ x, zB m.R m.C m.K S x = x := fun _ => if_pos (gI_ok ho hS)
theorem Step_ok (w0 : World) (ht : TzAt w0) (r c k w9 : Int) :
    Calls Tryz.prog 183 #[.agg #[.int .i64 r, .int .i64 c, .int .i64 k], .int .i64 w9] w0 (Post (X := Unit) (fun _ => .tuple #[.int .i64 (zI r c k w9 (Mo.stp (Mo.mD r c k) w9.toNat : Nat)), .int .i64 (gI r c k w9)]) (fun _ => True) (fun _ => []) w0) := by
  refine calls Tryz.func183 rfl (n := 18) rfl (by simp) ?_
  refine zr (TL.box rfl rfl dc (fun b0 hb0 => ?_))
  refine za rfl (za rfl (zn (TC.seq (zr (zq (PV.loadBox rfl Tb.agg_52 m9z rfl) rfl ?_)))))
  refine zm rfl (TL.call rfl Tb.gofn_211 (fun a w hs => validateSet_ok w _ _ _ _) rfl dc (fun _ _ => ?_))
  refine za rfl (zk (zm rfl (zq (PV.neq rfl rfl) rfl (zn (TC.cd rfl (fun hv => ?_) (fun hv => ?_))))))
  refine zr (zm rfl (za rfl (za rfl (zt (TQ.thenR (TQ.retE2 rfl rfl rfl ?_))))))
  exact ⟨(), by simp only [zI_no hv, zB_no hv], trivial, nils⟩
  obtain ⟨m, S, ho, hS, rfl, rfl, rfl, rfl⟩ := gI_is (show gI r c k w9 = 0 by omega)
  have hN := ho.N36
  have hS63 := set63 ho hS
  have hzv := zI_ok ho hS
  have hbv := zB_ok ho hS
  have hgv := gI_ok ho hS
  refine TC.skip (TQ.thenC (zr (zm rfl (zq (PV.loadBox rfl Tb.agg_52 m9z rfl) rfl ?_))))
  refine zm rfl (TL.call rfl Tb.gofn_212 (fun a w hs => ready_ok w (ht.new hs.new) m ho S hS) rfl dc (fun _ _ => ?_))
  refine zq (PV.orK rfl rfl (or_step ho hS)) rfl (za rfl (za rfl (zt (TQ.retE2 rfl rfl rfl ?_))))
  exact ⟨(), by simp only [hzv, hbv, hgv]; rfl, trivial, nils⟩
theorem rStep_ok (w0 : World) (r c k w9 : Int) :
    Calls Tryz.prog 115 #[.agg #[.int .i64 r, .int .i64 c, .int .i64 k], .int .i64 w9] w0 (Post (X := Unit) (fun _ => .tuple #[.int .i64 (zI r c k w9 (Mo.stp (Mo.mD r c k) w9.toNat : Nat)), .int .i64 (gI r c k w9)]) (fun _ => True) (fun _ => []) w0) := by
  refine calls Tryz.func115 rfl (n := 16) rfl (by simp) ?_
  refine zr (TL.box rfl rfl dc (fun b0 hb0 => ?_))
  refine za rfl (za rfl (zk (zq (PV.loadBox rfl Tb.agg_52 m9z rfl) rfl ?_)))
  refine zm rfl (TL.call rfl Tb.gofn_161 (fun a w hs => given_ok w _ _ _ _) rfl dc (fun _ _ => ?_))
  refine za rfl (zn (TC.seq (zr (zm rfl (zq (PV.neq rfl rfl) rfl (zn (TC.cd rfl (fun hv => ?_) (fun hv => ?_))))))))
  refine zr (zm rfl (za rfl (za rfl (zt (TQ.thenR (TQ.retE2 rfl rfl rfl ?_))))))
  exact ⟨(), by simp only [zI_no hv, zB_no hv], trivial, nils⟩
  obtain ⟨m, S, ho, hS, rfl, rfl, rfl, rfl⟩ := gI_is (show gI r c k w9 = 0 by omega)
  have hN := ho.N36
  have hS63 := set63 ho hS
  have hzv := zI_ok ho hS
  have hbv := zB_ok ho hS
  have hgv := gI_ok ho hS
  refine TC.skip (TQ.thenC (zr (zq (PV.loadBox rfl Tb.agg_52 m9z rfl) rfl ?_)))
  refine zm rfl (TL.call rfl Tb.gofn_162 (fun a w hs => rstep_ok w m ho S hS) rfl dc (fun _ _ => ?_))
  refine za rfl (za rfl (zt (TQ.retE2 rfl rfl rfl ?_)))
  exact ⟨(), by simp only [hzv, hbv, hgv]; rfl, trivial, nils⟩
end Go.Proofs.YtbnjmkidbfmomaaGreatDoor.M
namespace Go.Proofs.YtbnjmkidbfmomaaGreatDoor
open Go.Sx Go.RowKit Go.Bt Go.Lib Go.Sand
structure St where
  W : List (List Int)
  K : List (List Int)
  g : List Int
  need : Int
abbrev St.md (s : St) : Mo.Md := ⟨C.dep s.W, s.W.length, s.need.toNat⟩
structure SV (s : St) : Prop where
  vw : C.validI s.W = 0
  vh : H.validI s.K s.g = 0
  len : s.g.length = s.W.length
  mo : Mo.Ok s.md
  nd : s.need = (s.need.toNat : Int)
structure Co where
  day : Int
  wet : Nat
  money : Int
  cut : Int
  load : Int
  grd : Int
  shut : Bool
  hol : List Int
  tur : List Int
  ords : List (List UInt8)
def sL (xs : List Int) : Int := sm xs.length fun j => xs.getD j 0
theorem sm_set {xs : List Int} {c : Nat} {v : Int} (hc : c < xs.length) : ∀ n, sm n (fun j => (xs.set c v).getD j 0) = sm n (fun j => xs.getD j 0) + if c < n then v - xs.getD c 0 else 0
  | 0 => by simp [Sand.sm]
  | n + 1 => by
    have ih := sm_set (v := v) hc n
    show sm n _ + (xs.set c v).getD n 0 = sm n _ + xs.getD n 0 + _
    rw [ih, set_at hc]
    by_cases e : c = n
    · subst e; rw [if_pos rfl, if_neg (Nat.lt_irrefl _), if_pos (by omega)]; omega
    · rw [if_neg e]
      by_cases h : c < n
      · rw [if_pos h, if_pos (by omega)]; omega
      · rw [if_neg h, if_neg (by omega)]; omega
theorem sL_set {xs : List Int} {c : Nat} {v : Int} (hc : c < xs.length) : sL (xs.set c v) = sL xs + (v - xs.getD c 0) := by
  unfold sL
  rw [List.length_set, sm_set hc, if_pos hc]
theorem sL_zero (n : Nat) : sL (List.replicate n 0) = 0 := by
  unfold sL
  rw [sm_congr (h := fun _ => 0) fun i hi => by simp [List.getD, List.getElem?_replicate]; split <;> rfl, sm_zero]
theorem sL_bd {xs : List Int} {b : Int} (hb : 0 ≤ b) (h : ∀ k, 0 ≤ xs.getD k 0 ∧ xs.getD k 0 ≤ b) : ∀ n : Nat, 0 ≤ sm n (fun j => xs.getD j 0) ∧ sm n (fun j => xs.getD j 0) ≤ b * n
  | 0 => by simp [Sand.sm]
  | n + 1 => by
    have ih := sL_bd hb h n
    have := h n
    have e : sm (n + 1) (fun j => xs.getD j 0) = sm n (fun j => xs.getD j 0) + xs.getD n 0 := rfl
    have e2 : b * ((n + 1 : Nat) : Int) = b * n + b := by rw [Int.natCast_succ, Int.mul_add, Int.mul_one]
    omega
def bare (s : St) (hol : List Int) : Nat := Mo.msk s.md.N fun i => decide (((i / s.W.length : Nat) : Int) < hol.getD (i % s.W.length) 0)
noncomputable def drT (K : List (List Int)) (g xs : List Int) (i : Int) : List Int := Classical.epsilon fun c => ∃ n, H.DroP K g xs i c n
theorem drT_eq {K : List (List Int)} {g xs : List Int} {i : Int} {c : List Int} {n : Int} (h : H.DroP K g xs i c n) : drT K g xs i = c := by
  obtain ⟨k, hk⟩ := Classical.epsilon_spec (p := fun c => ∃ n, H.DroP K g xs i c n) ⟨c, n, h⟩
  exact (H.DroP.unique hk h).1
abbrev St.sq (s : St) (r c : Int) : Nat := (r * s.W.length + c).toNat
def actI (s : St) (c : Co) (o : Od) : Int :=
  if o.k = 0 then 0
  else if o.k = 1 then
    if (s.W.length : Int) ≤ o.ns.getD 0 0 then 4 else if c.shut = true then 8
    else if C.opB s.W (C.pad6 c.hol) (o.ns.getD 0 0).toNat = false ∨ (0 < c.hol.getD (o.ns.getD 0 0).toNat 0 ∧ c.wet.testBit (s.sq (c.hol.getD (o.ns.getD 0 0).toNat 0 - 1) (o.ns.getD 0 0)) = true) then 6 else 0
  else if o.k = 2 then
    if (s.W.length : Int) ≤ o.ns.getD 0 0 then 4 else if o.ns.getD 1 0 = 0 then 1 else if c.tur.getD (o.ns.getD 0 0).toNat 0 < o.ns.getD 1 0 then 11 else 0
  else if o.k = 3 then
    if (C.dep s.W : Int) ≤ o.ns.getD 0 0 ∨ (s.W.length : Int) ≤ o.ns.getD 1 0 then 4 else if c.hol.getD (o.ns.getD 1 0).toNat 0 ≤ o.ns.getD 0 0 then 8
    else if c.wet.testBit (s.sq (o.ns.getD 0 0) (o.ns.getD 1 0)) = true then 5 else 0
  else if c.shut = true then 5 else 0
noncomputable def actC (s : St) (c : Co) (o : Od) : Co :=
  if o.k = 0 then { c with wet := Mo.stp s.md c.wet &&& bare s c.hol, day := c.day + 1 }
  else if o.k = 1 then
    { c with
      tur := drT s.K s.g c.tur (o.ns.getD 0 0)
      grd := c.grd + (sL c.tur + 1 - sL (drT s.K s.g c.tur (o.ns.getD 0 0)))
      hol := c.hol.set (o.ns.getD 0 0).toNat (c.hol.getD (o.ns.getD 0 0).toNat 0 + 1)
      money := c.money + (s.W.getD (o.ns.getD 0 0).toNat []).getD (c.hol.getD (o.ns.getD 0 0).toNat 0).toNat 0
      cut := c.cut + 1 }
  else if o.k = 2 then
    { c with
      tur := c.tur.set (o.ns.getD 0 0).toNat (c.tur.getD (o.ns.getD 0 0).toNat 0 - o.ns.getD 1 0)
      load := c.load + o.ns.getD 1 0
      money := c.money + o.ns.getD 1 0 }
  else if o.k = 3 then { c with wet := c.wet ||| 2 ^ s.sq (o.ns.getD 0 0) (o.ns.getD 1 0) }
  else { c with shut := true }
noncomputable def chgC (s : St) (c : Co) (o : Od) : Co := if actI s c o = 0 then actC s c o else c
def doI (s : St) (c : Co) (t : List UInt8) : Int :=
  match prsO t with
  | none => 2
  | some o => if 100 ≤ c.ords.length then 3 else actI s c o
noncomputable def doC (s : St) (c : Co) (t : List UInt8) : Co :=
  match prsO t with
  | none => c
  | some o => if 100 ≤ c.ords.length then c else if actI s c o = 0 then { actC s c o with ords := c.ords ++ [t] } else c
def co0 (s : St) : Co := ⟨0, 0, 0, 0, 0, 0, false, List.replicate s.W.length 0, List.replicate s.W.length 0, []⟩
theorem doC_no {s : St} {c : Co} {t : List UInt8} (h : doI s c t ≠ 0) : doC s c t = c := by
  unfold doI at h
  unfold doC
  cases hp : prsO t with
  | none => rfl
  | some o =>
    rw [hp] at h
    simp only at h ⊢
    split
    · rfl
    · rename_i h9
      rw [if_neg h9] at h
      rw [if_neg h]
theorem doC_yes {s : St} {c : Co} {t : List UInt8} (h : doI s c t = 0) : ∃ o, prsO t = some o ∧ c.ords.length < 100 ∧ actI s c o = 0 ∧ doC s c t = { actC s c o with ords := c.ords ++ [t] } := by
  unfold doI at h
  unfold doC
  cases hp : prsO t with
  | none => rw [hp] at h; cases h
  | some o =>
    rw [hp] at h
    simp only at h ⊢
    split at h
    · cases h
    · rename_i h9
      exact ⟨o, rfl, by omega, h, by rw [if_neg h9, if_pos h]⟩
theorem actC_ords (s : St) (c : Co) (o : Od) : (actC s c o).ords = c.ords := by
  unfold actC
  repeat' split
  all_goals rfl
structure Inv (s : St) (c : Co) : Prop where
  ho : C.HO s.W c.hol
  tl : c.tur.length = s.g.length
  tn : ∀ k, 0 ≤ c.tur.getD k 0
  tc : ∀ k, k < s.g.length → c.tur.getD k 0 < H.limI s.K s.g k
  wb : ∀ i, c.wet.testBit i = true → (bare s c.hol).testBit i = true
  ct : c.cut = sL c.hol
  bal : c.cut = c.load + c.grd + sL c.tur
  mon : c.money = C.worH s.W c.hol + c.load
  l0 : 0 ≤ c.load
  dy : 0 ≤ c.day ∧ c.day ≤ c.ords.length
  gr : -151 * (c.ords.length : Int) ≤ c.grd ∧ c.grd ≤ 151 * (c.ords.length : Int)
  ol : c.ords.length ≤ 100
  rt : c.ords.all rightS = true
theorem bare_t (s : St) (hol : List Int) (i : Nat) : (bare s hol).testBit i = (decide (i < s.md.N) && decide (((i / s.W.length : Nat) : Int) < hol.getD (i % s.W.length) 0)) := Mo.msk_t _ _ _
theorem bare_lt (s : St) (hol : List Int) : bare s hol < 2 ^ s.md.N := Mo.msk_lt _ _
theorem Inv.wl {s : St} {c : Co} (h : Inv s c) : c.wet < 2 ^ s.md.N := Mo.lt_of_sub (bare_lt s c.hol) h.wb
end Go.Proofs.YtbnjmkidbfmomaaGreatDoor
namespace Go.Proofs.YtbnjmkidbfmomaaGreatDoor
open Go.Sx Go.RowKit Go.Bt Go.Lib Go.Sand
theorem dro_ex {K : List (List Int)} {g xs : List Int} {i : Int} (h : ¬ H.vhI K g xs i ≠ 0) : ∃ c n, H.DroP K g xs i c n := by
  obtain ⟨h1, h2, h3⟩ := H.vh_of h
  have hB := (H.giv_hb h1).1
  have hn := H.giv_ne h1
  have ht : ∀ j, j < g.length → 0 ≤ (fun k => (H.drL xs i.toNat).getD k 0) j := fun j _ => (H.drL_bd hn.2 j).1
  obtain ⟨c, m, hs⟩ := stb_ex hB.G (fun j hj => (hB.mu j j hj hj).2 rfl) ht
  refine ⟨mk g.length c, sm g.length (H.gd (mk g.length m)), fun h0 => absurd h0 h, fun _ => ⟨mk g.length m, ⟨mk_len _ _, mk_len _ _, ?_⟩, rfl⟩⟩
  exact hs.congr (fun j _ => rfl) (fun j hj => mk_at c hj) (fun j hj => mk_at m hj)
theorem SV.hb {s : St} (h : SV s) : H.HB s.K s.g := H.hb_of (by rw [h.vh]; decide)
theorem SV.vb {s : St} (h : SV s) : C.VB s.W := C.vb_of (by rw [h.vw]; decide)
theorem Inv.tb {s : St} {c : Co} (hv : SV s) (h : Inv s c) (k : Nat) : 0 ≤ c.tur.getD k 0 ∧ c.tur.getD k 0 ≤ 11 := by
  refine ⟨h.tn k, ?_⟩
  by_cases hk : k < s.g.length
  · have := h.tc k hk
    have := (hv.hb.lim hk).2
    omega
  · have e : c.tur.getD k 0 = 0 := by rw [List.getD_eq_getElem?_getD, List.getElem?_eq_none (by have := h.tl; omega)]; rfl
    omega
theorem Inv.giv {s : St} {c : Co} (hv : SV s) (h : Inv s c) : ¬ H.givI s.K s.g [c.tur] ≠ 0 := by
  rw [H.giv_0 (by rw [hv.vh]; decide) fun k hk => ?_]
  · decide
  · have : k = 0 := by simp at hk; omega
    subst this
    have h9 : [c.tur].getD 0 [] = c.tur := rfl
    rw [h9]
    unfold H.numB
    rw [h.tl, decide_eq_true rfl, Bool.true_and]
    refine List.all_eq_true.2 fun x hx => ?_
    obtain ⟨j, hj, rfl⟩ := List.getElem_of_mem hx
    have := h.tb hv j
    have e : c.tur.getD j 0 = c.tur[j] := by simp [List.getD, hj]
    rw [e] at this
    exact decide_eq_true (by omega)
theorem Inv.vh {s : St} {c : Co} (hv : SV s) (h : Inv s c) {i : Nat} (hi : i < s.W.length) : ¬ H.vhI s.K s.g c.tur (i : Int) ≠ 0 := by
  rw [H.vh_0 (h.giv hv) (by have := hv.len; omega)]; decide
structure DrF (s : St) (c : Co) (i : Nat) (xs : List Int) : Prop where
  len : xs.length = s.g.length
  n0 : ∀ k, 0 ≤ xs.getD k 0
  calm : ∀ k, k < s.g.length → xs.getD k 0 < H.limI s.K s.g k
theorem dr_facts {s : St} {c : Co} (hv : SV s) (h : Inv s c) {i : Nat} (hi : i < s.W.length) : DrF s c i (drT s.K s.g c.tur i) := by
  obtain ⟨d, n, hd⟩ := dro_ex (h.vh hv hi)
  rw [drT_eq hd]
  obtain ⟨m, ⟨h1, h2, h3⟩, _⟩ := hd.ok (h.vh hv hi)
  refine ⟨h1, fun k => ?_, fun k hk => h3.calm k hk⟩
  by_cases hk : k < s.g.length
  · exact h3.c0 k hk
  · have e : d.getD k 0 = 0 := by rw [List.getD_eq_getElem?_getD, List.getElem?_eq_none (by omega)]; rfl
    omega
theorem DrF.bd {s : St} {c : Co} {i : Nat} {xs : List Int} (hv : SV s) (h : DrF s c i xs) (k : Nat) : 0 ≤ xs.getD k 0 ∧ xs.getD k 0 ≤ 11 := by
  refine ⟨h.n0 k, ?_⟩
  by_cases hk : k < s.g.length
  · have := h.calm k hk
    have := (hv.hb.lim hk).2
    omega
  · have e : xs.getD k 0 = 0 := by rw [List.getD_eq_getElem?_getD, List.getElem?_eq_none (by have := h.len; omega)]; rfl
    omega
theorem sL_5 {xs : List Int} {n : Nat} (hl : xs.length = n) (hn : n ≤ 5) (h : ∀ k, 0 ≤ xs.getD k 0 ∧ xs.getD k 0 ≤ 11) : 0 ≤ sL xs ∧ sL xs ≤ 55 := by
  have h1 := sL_bd (by decide) h xs.length
  unfold sL
  rw [hl] at h1 ⊢
  omega
theorem sq_at {s : St} {r c : Nat} (hc : c < s.W.length) : s.sq r c = r * s.W.length + c ∧ s.sq r c / s.W.length = r ∧ s.sq r c % s.W.length = c := by
  have e : s.sq r c = r * s.W.length + c := by
    show ((r : Int) * (s.W.length : Int) + (c : Int)).toNat = _
    rw [show (r : Int) * (s.W.length : Int) + (c : Int) = ((r * s.W.length + c : Nat) : Int) by push_cast; rfl, Int.toNat_natCast]
  refine ⟨e, ?_, ?_⟩
  · rw [e, Nat.mul_comm, Nat.mul_add_div (by omega), Nat.div_eq_of_lt hc, Nat.add_zero]
  · rw [e, Nat.mul_comm, Nat.mul_add_mod, Nat.mod_eq_of_lt hc]
theorem sq_lt {s : St} {r c : Nat} (hc : c < s.W.length) (hr : r < C.dep s.W) : s.sq r c < s.md.N := by
  rw [(sq_at hc).1]
  show _ < C.dep s.W * s.W.length
  have : (r + 1) * s.W.length ≤ C.dep s.W * s.W.length := Nat.mul_le_mul_right _ hr
  rw [Nat.add_mul] at this; omega
theorem bare_sq {s : St} {hol : List Int} {r c : Nat} (hc : c < s.W.length) (hr : r < C.dep s.W) (h : (r : Int) < hol.getD c 0) : (bare s hol).testBit (s.sq r c) = true := by
  rw [bare_t, (sq_at hc).2.1, (sq_at hc).2.2, decide_eq_true (sq_lt hc hr), decide_eq_true h]; rfl
theorem set_ge {xs : List Int} {i : Nat} {v : Int} (h : xs.getD i 0 ≤ v) (k : Nat) : xs.getD k 0 ≤ (xs.set i v).getD k 0 := by
  by_cases hi : i < xs.length
  · rw [set_at hi]
    split
    · rename_i e; subst e; exact h
    · exact Int.le_refl _
  · rw [List.set_eq_of_length_le (by omega)]; exact Int.le_refl _
theorem Inv.step {s : St} {c : Co} {t : List UInt8} (hv : SV s) (h : Inv s c) (he : doI s c t = 0) : Inv s (doC s c t) := by
  obtain ⟨o, hp, hl, ha, e⟩ := doC_yes he
  rw [e]
  have hns := prs_ns hp
  have hrt := prs_right hp
  have hvb := hv.vb
  have hn5 := hv.hb.n
  have hlen := hv.len
  have hor : (c.ords ++ [t]).length = c.ords.length + 1 := by simp
  have hrl : (c.ords ++ [t]).all rightS = true := by simp [h.rt, hrt]
  have hgr := h.gr
  have hdy := h.dy
  have hNB := h.ho.toNB
  by_cases k0 : o.k = 0
  · unfold actC
    rw [if_pos k0]
    exact ⟨h.ho, h.tl, h.tn, h.tc, fun i hi => by
        simp only [Nat.testBit_and, Bool.and_eq_true] at hi
        exact hi.2, h.ct, h.bal, h.mon, h.l0, by simp only [hor]; omega, by simp only [hor]; omega, by simp only [hor]; omega, hrl⟩
  by_cases k1 : o.k = 1
  · unfold actI at ha
    unfold actC
    rw [if_neg k0, if_pos k1] at ha ⊢
    obtain ⟨u, hu⟩ := Int.eq_ofNat_of_zero_le (hns.2 0).1
    rw [hu] at ha ⊢
    simp only [Int.toNat_natCast] at ha ⊢
    split at ha
    · cases ha
    split at ha
    · cases ha
    split at ha
    · cases ha
    rename_i h1 h2 h3
    have huW : u < s.W.length := by omega
    have hop : C.opB s.W (C.pad6 c.hol) u = true := by
      cases h9 : C.opB s.W (C.pad6 c.hol) u with
      | true => rfl
      | false => exact absurd (Or.inl h9) h3
    have hD := dr_facts hv h huW
    have hbd := hD.bd hv
    have s1 := sL_5 h.tl hn5.2 (h.tb hv)
    have s2 := sL_5 hD.len hn5.2 hbd
    have hho : C.HO s.W (c.hol.set u (c.hol.getD u 0 + 1)) := C.HO.up h.ho huW hop
    have huh : u < c.hol.length := by rw [hNB.len]; exact huW
    have hsum := sL_set (v := c.hol.getD u 0 + 1) huh
    have hw : C.worH s.W (c.hol.set u (c.hol.getD u 0 + 1)) = C.worH s.W c.hol + (s.W.getD u []).getD (c.hol.getD u 0).toNat 0 := by
      unfold C.worH
      rw [List.length_set, C.worK_set huh (hNB.at_ u).1, if_pos huh]
    refine ⟨hho, hD.len, hD.n0, hD.calm, fun i hi => ?_, ?_, ?_, ?_, h.l0, ?_, ?_, by simp only [hor]; omega, hrl⟩
    · have := h.wb i hi
      rw [bare_t, Bool.and_eq_true] at this ⊢
      refine ⟨this.1, decide_eq_true ?_⟩
      have h8 := of_decide_eq_true this.2
      have h9 := set_ge (xs := c.hol) (i := u) (v := c.hol.getD u 0 + 1) (by omega) (i % s.W.length)
      simp only
      omega
    · simp only; have := h.ct; omega
    · simp only; have := h.bal; omega
    · simp only; rw [hw]; have := h.mon; omega
    · simp only [hor]; omega
    · simp only [hor]; omega
  by_cases k2 : o.k = 2
  · unfold actI at ha
    unfold actC
    rw [if_neg k0, if_neg k1, if_pos k2] at ha ⊢
    obtain ⟨u, hu⟩ := Int.eq_ofNat_of_zero_le (hns.2 0).1
    rw [hu] at ha ⊢
    simp only [Int.toNat_natCast] at ha ⊢
    split at ha
    · cases ha
    split at ha
    · cases ha
    split at ha
    · cases ha
    rename_i h1 h2 h3
    have hN := hns.2 1
    have huW : u < s.W.length := by omega
    have hut : u < c.tur.length := by have := h.tl; omega
    have hsum := sL_set (v := c.tur.getD u 0 - o.ns.getD 1 0) hut
    refine ⟨h.ho, by simp only [List.length_set]; exact h.tl, fun k => ?_, fun k hk => ?_, h.wb, h.ct, ?_, ?_, ?_, ?_, ?_, by simp only [hor]; omega, hrl⟩
    · simp only
      rw [set_at hut]
      have := h.tn k
      split <;> omega
    · simp only
      rw [set_at hut]
      have := h.tc k hk
      split
      · rename_i e9; subst e9; omega
      · omega
    · simp only; have := h.bal; omega
    · simp only; have := h.mon; omega
    · simp only; have := h.l0; omega
    · simp only [hor]; omega
    · simp only [hor]; omega
  by_cases k3 : o.k = 3
  · unfold actI at ha
    unfold actC
    rw [if_neg k0, if_neg k1, if_neg k2, if_pos k3] at ha ⊢
    obtain ⟨r, hr⟩ := Int.eq_ofNat_of_zero_le (hns.2 0).1
    obtain ⟨u, hu⟩ := Int.eq_ofNat_of_zero_le (hns.2 1).1
    rw [hu, hr] at ha ⊢
    simp only [Int.toNat_natCast] at ha ⊢
    split at ha
    · cases ha
    split at ha
    · cases ha
    split at ha
    · cases ha
    rename_i h1 h2 h3
    refine ⟨h.ho, h.tl, h.tn, h.tc, fun i hi => ?_, h.ct, h.bal, h.mon, h.l0, by simp only [hor]; omega, by simp only [hor]; omega, by simp only [hor]; omega, hrl⟩
    simp only [Nat.testBit_or, Nat.testBit_two_pow, Bool.or_eq_true, decide_eq_true_eq] at hi
    rcases hi with hi | hi
    · exact h.wb i hi
    · rw [← hi]
      show (bare s c.hol).testBit _ = true
      exact bare_sq (by omega) (by omega) (by omega)
  · unfold actI at ha
    unfold actC
    rw [if_neg k0, if_neg k1, if_neg k2, if_neg k3] at ha ⊢
    exact ⟨h.ho, h.tl, h.tn, h.tc, h.wb, h.ct, h.bal, h.mon, h.l0, by simp only [hor]; omega, by simp only [hor]; omega, by simp only [hor]; omega, hrl⟩
theorem Inv.any {s : St} {c : Co} (t : List UInt8) (hv : SV s) (h : Inv s c) : Inv s (doC s c t) := by
  by_cases he : doI s c t = 0
  · exact h.step hv he
  · rw [doC_no he]; exact h
theorem worK_zero (ls : List (List Int)) (m : Nat) : ∀ n : Nat, C.worK ls (List.replicate m 0) n = 0
  | 0 => rfl
  | n + 1 => by
    show C.worK ls (List.replicate m 0) n + C.sumN (ls.getD n []) ((List.replicate m (0 : Int)).getD n 0).toNat = 0
    rw [worK_zero ls m n, C.rep_at]; rfl
theorem Inv.zero {s : St} (hv : SV s) : Inv s (co0 s) := by
  refine ⟨C.ho_zero hv.vb, by show (List.replicate s.W.length (0 : Int)).length = _; rw [List.length_replicate, hv.len], fun k => ?_, fun k hk => ?_, fun i hi => ?_, ?_, ?_, ?_, Int.le_refl _, ⟨Int.le_refl _, by simp [co0]⟩, by simp [co0], by simp [co0], rfl⟩
  · show 0 ≤ (List.replicate s.W.length (0 : Int)).getD k 0
    rw [C.rep_at]; decide
  · show (List.replicate s.W.length (0 : Int)).getD k 0 < _
    rw [C.rep_at]
    have := (hv.hb.lim hk).1
    omega
  · exfalso
    have : (0 : Nat).testBit i = true := hi
    simp at this
  · show (0 : Int) = sL (List.replicate s.W.length 0)
    rw [sL_zero]
  · show (0 : Int) = 0 + 0 + sL (List.replicate s.W.length 0)
    rw [sL_zero]; rfl
  · show (0 : Int) = C.worH s.W (List.replicate s.W.length 0) + 0
    unfold C.worH
    rw [worK_zero]; rfl
end Go.Proofs.YtbnjmkidbfmomaaGreatDoor
