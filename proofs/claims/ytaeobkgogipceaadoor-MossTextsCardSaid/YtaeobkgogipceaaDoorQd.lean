/- What becomes wet in a step, and to the end: contracts. -/
import Derived.Test.YtaeobkgogipceaaDoorQc
set_option linter.unusedVariables false
set_option linter.unusedSimpArgs false
namespace Go.Proofs.YtaeobkgogipceaaDoor
open Go.Sx Go.RowKit

theorem spread_eq {m : Mo.Md} (ho : Mo.Ok m) {S k : Nat} (hS : S < 2 ^ m.N) (hz : Mo.rdy m (Mo.it m S k) = 0) (hk : ∀ j, j < k → Mo.rdy m (Mo.it m S j) ≠ 0) : k = Mo.dy m S ∧ Mo.it m S k = Mo.en m S := by
  have h := Mo.dy_eq ho hS hz hk
  exact ⟨h, by unfold Mo.en; rw [← h]⟩
section
variable {P : Program} {n : Nat} {w0 : World} {E : Env} {G : Heap} {d : Option Nat} {ty : TypeId} {pos : String} {aft : Array Edge} {g : Option (Nat × Bool)}
theorem PV.loadW {x : Operand} {p : Addr} {t : Nat} {v : Value} (hx : evo E x = some (.pointer (some p))) (ht : oneB P t = true)
    (hv : ∀ w, New w0 w G → w.cell? p = some v) : PV P n w0 E G ⟨d, .load t x, ty, pos, aft, g⟩ v :=
  fun a w hs => by
    have hc := hv w hs.new
    unfold oneB at ht
    simp only [execOp, hs.ev hx]
    cases hu : P.underlying t with
    | none => simp [hu] at ht
    | some u => cases u <;> first | (simp [hu] at ht; done) | simp [Instr.loadAt, Instr.sureAddr, loadVar, isAgg, run_underlying hu, hc]
end
theorem fill_i (v : Int) : Instr.fill (fun i => some (i * 1, 1)) ((Array.range (1 * 1)).map ((Value.int .i64 0).cells[· % (Value.int .i64 0).cells.size]!)) [(0, .int .i64 v)] = some #[.int .i64 v] := by kernel_rfl
theorem goI_nil : goI (none, []) := ⟨rfl, rfl⟩
theorem RdI.g {h : HD} {xs : List Int} (ho : goI (h, xs)) : RdI xs (gval h xs.length, gbI (h, xs)) := by
  refine ⟨gp h, gc h, gval_eq ho, fun hne => ?_, fun w0 w G hn hm => IntsAt.g (x := (h, xs)) hn hm ho⟩
  obtain _ | ⟨b, cap, sp⟩ := h
  · have h2 : xs.length = 0 := ho.2
    exact absurd (List.length_eq_zero_iff.1 h2) hne
  · exact ⟨_, rfl⟩
theorem RdI.at {xs : List Int} {p : Option Addr} {G9 : Heap} (hs : xs ≠ [] → ∃ q, p = some q) (hi : ∀ (w0 w : World) (G : Heap), New w0 w G → (∀ y ∈ G9, y ∈ G) → IntsAt w p xs) {j : Nat} (hj : j < xs.length) :
    ∃ q, p = some q ∧ ∀ (w0 w : World) (G : Heap), New w0 w G → (∀ y ∈ G9, y ∈ G) → w.cell? (q.add (j * 1)) = some (.int .i64 (xs.getD j 0)) := by
  obtain ⟨q, hq⟩ := hs (fun e => by rw [e] at hj; cases hj)
  refine ⟨q, hq, fun w0 w G hn hm => ?_⟩
  obtain ⟨q', hq', hc⟩ := hi w0 w G hn hm j hj
  rw [hq] at hq'
  obtain rfl := Option.some.inj hq'
  exact hc
/-- The neighbors below a number. -/
def nbF (m : Mo.Md) (s j : Nat) : List Nat := (List.range j).filter (Mo.adj m.C s)
theorem nbF_zero (m : Mo.Md) (s : Nat) : nbF m s 0 = [] := rfl
theorem nbF_len (m : Mo.Md) (s j : Nat) : (nbF m s j).length ≤ j := Nat.le_trans (List.length_filter_le _ _) (by rw [List.length_range]; exact Nat.le_refl _)
theorem nbF_yes {m : Mo.Md} {s x : Nat} (h : (((x / m.C : Nat) : Int) - ((s / m.C : Nat) : Int)) * (((x / m.C : Nat) : Int) - ((s / m.C : Nat) : Int)) + (((x % m.C : Nat) : Int) - ((s % m.C : Nat) : Int)) * (((x % m.C : Nat) : Int) - ((s % m.C : Nat) : Int)) = 1) : ofN (nbF m s (x + 1)) = ofN (nbF m s x) ++ [(x : Int)] := by
  have h1 : Mo.adj m.C s x = true := decide_eq_true h
  unfold nbF ofN
  rw [List.range_succ, List.filter_append, List.map_append, List.filter_cons, if_pos h1]; rfl
theorem nbF_no {m : Mo.Md} {s x : Nat} (h : ¬ (((x / m.C : Nat) : Int) - ((s / m.C : Nat) : Int)) * (((x / m.C : Nat) : Int) - ((s / m.C : Nat) : Int)) + (((x % m.C : Nat) : Int) - ((s % m.C : Nat) : Int)) * (((x % m.C : Nat) : Int) - ((s % m.C : Nat) : Int)) = 1) : ofN (nbF m s (x + 1)) = ofN (nbF m s x) := by
  have h1 : Mo.adj m.C s x = false := decide_eq_false h
  unfold nbF ofN
  rw [List.range_succ, List.filter_append, List.map_append, List.filter_cons, if_neg (by rw [h1]; decide)]; simp
theorem diff_bd {a b : Nat} (ha : a ≤ 36) (hb : b ≤ 36) : (-9223372036854775808 ≤ (a : Int) - b ∧ (a : Int) - b ≤ 9223372036854775807) ∧ (-9223372036854775808 ≤ ((a : Int) - b) * ((a : Int) - b) ∧ ((a : Int) - b) * ((a : Int) - b) ≤ 9223372036854775807) ∧ (0 ≤ ((a : Int) - b) * ((a : Int) - b) ∧ ((a : Int) - b) * ((a : Int) - b) ≤ 1296) := by
  have h : 0 ≤ ((a : Int) - b) * ((a : Int) - b) ∧ ((a : Int) - b) * ((a : Int) - b) ≤ 1296 := by
    rcases Int.le_total 0 ((a : Int) - b) with h1 | h1
    · exact ⟨Int.mul_nonneg h1 h1, Int.le_trans (Int.mul_le_mul (by omega : (a : Int) - b ≤ 36) (by omega : (a : Int) - b ≤ 36) h1 (by decide)) (by decide)⟩
    · rw [← Int.neg_mul_neg]
      exact ⟨Int.mul_nonneg (by omega) (by omega), Int.le_trans (Int.mul_le_mul (by omega : -((a : Int) - b) ≤ 36) (by omega : -((a : Int) - b) ≤ 36) (by omega) (by decide)) (by decide)⟩
  exact ⟨by omega, by omega, h⟩
theorem div_le36 {m : Mo.Md} (ho : Mo.Ok m) {x : Nat} (h : x < m.N) : x / m.C ≤ 36 := Nat.le_trans (Nat.div_le_self _ _) (by have := ho.N36; omega)
theorem mod_le36 {m : Mo.Md} (ho : Mo.Ok m) (x : Nat) : x % m.C ≤ 36 := by
  have := Nat.mod_lt x (show 0 < m.C by have := ho.C1; omega)
  have := ho.C6; omega
theorem ofN_at {l : List Nat} {k : Nat} (h : k < l.length) : (ofN l).getD k 0 = ((l.getD k 0 : Nat) : Int) := by simp [List.getD, h]
theorem nbF_lt {m : Mo.Md} {s k : Nat} (h : k < (nbF m s m.N).length) : (nbF m s m.N).getD k 0 < m.N := by
  have h1 : (nbF m s m.N).getD k 0 ∈ nbF m s m.N := by simp [List.getD, h]
  exact List.mem_range.1 (List.mem_filter.1 h1).1
theorem take_sD {l : List Nat} {k : Nat} (h : k < l.length) : l.take (k + 1) = l.take k ++ [l.getD k 0] := by
  rw [List.take_add_one]; simp [List.getD, h]
theorem takeF_yes {l : List Nat} {k : Nat} {f : Nat → Bool} (h : k < l.length) (hb : f (l.getD k 0) = true) : ((l.take (k + 1)).filter f).length = ((l.take k).filter f).length + 1 := by
  rw [take_sD h, List.filter_append, List.length_append, List.filter_cons, if_pos hb]; rfl
theorem takeF_no {l : List Nat} {k : Nat} {f : Nat → Bool} (h : k < l.length) (hb : f (l.getD k 0) = false) : ((l.take (k + 1)).filter f).length = ((l.take k).filter f).length := by
  rw [take_sD h, List.filter_append, List.length_append, List.filter_cons, if_neg (by rw [hb]; decide)]; rfl
theorem nbF_ar (m : Mo.Md) (S s : Nat) : ((nbF m s m.N).filter S.testBit).length = Mo.ar m S s := by
  unfold nbF Mo.ar
  rw [List.filter_filter, Mo.cnt_filter]
  exact Mo.cnt_congr fun i _ => Bool.and_comm _ _
/-- The reference's step, square by square. -/
def stR (m : Mo.Md) (S k : Nat) : Nat := S ||| Mo.msk k fun s => decide (m.K ≤ Mo.ar m S s)
theorem stR_zero (m : Mo.Md) (S : Nat) : stR m S 0 = S := Nat.or_zero S
theorem stR_yes {m : Mo.Md} {S k : Nat} (h : (m.K : Int) ≤ ((Mo.ar m S k : Nat) : Int)) : stR m S (k + 1) = stR m S k ||| 2 ^ k := by
  unfold stR
  rw [Mo.msk, if_pos (decide_eq_true (by omega)), ← Nat.or_assoc]
theorem stR_no {m : Mo.Md} {S k : Nat} (h : ¬ (m.K : Int) ≤ ((Mo.ar m S k : Nat) : Int)) : stR m S (k + 1) = stR m S k := by
  unfold stR
  rw [Mo.msk, if_neg (by rw [decide_eq_true_eq]; omega)]
theorem stR_lt {m : Mo.Md} {S k : Nat} (hS : S < 2 ^ m.N) (hk : k ≤ m.N) : stR m S k < 2 ^ m.N := Nat.or_lt_two_pow hS (Nat.lt_of_lt_of_le (Mo.msk_lt _ _) (Nat.pow_le_pow_right (by decide) hk))
theorem stR_all {m : Mo.Md} {S : Nat} : stR m S m.N = Mo.stp m S := Nat.eq_of_testBit_eq fun i => by
  unfold stR Mo.stp
  rw [Nat.testBit_or, Nat.testBit_or, Mo.msk_t, Mo.rdy_t]
  unfold Mo.rdB
  cases S.testBit i <;> simp
/-- The first k days. -/
structure Dys (m : Mo.Md) (S k : Nat) : Prop where
  le : k ≤ m.N
  go : ∀ j, j < k → Mo.rdy m (Mo.it m S j) ≠ 0
theorem Dys.zero (m : Mo.Md) (S : Nat) : Dys m S 0 := ⟨Nat.zero_le _, fun j hj => absurd hj (Nat.not_lt_zero _)⟩
theorem Dys.next {m : Mo.Md} (ho : Mo.Ok m) {S k : Nat} (hS : S < 2 ^ m.N) (h : Dys m S k) (hr : Mo.rdy m (Mo.it m S k) ≠ 0) : Dys m S (k + 1) := by
  have hk : ∀ j, j < k + 1 → Mo.rdy m (Mo.it m S j) ≠ 0 := fun j hj => by
    by_cases e : j = k
    · rw [e]; exact hr
    · exact h.go j (by omega)
  exact ⟨Mo.it_bound ho hS hk, hk⟩
theorem rdy63 {m : Mo.Md} (ho : Mo.Ok m) (S : Nat) : Mo.rdy m S < 9223372036854775808 := set63 ho (Mo.rdy_lt m S)
theorem or_step {m : Mo.Md} (ho : Mo.Ok m) {S : Nat} (hS : S < 2 ^ m.N) : bits .or .i64 (S : Int) ((Mo.rdy m S : Nat) : Int) = ((Mo.stp m S : Nat) : Int) := i64_or_nat (set63 ho hS) (rdy63 ho S)


set_option maxRecDepth 100000 in
set_option maxHeartbeats 1000000 in
theorem ready_ok (w0 : World) (ht : TzAt w0) (m : Mo.Md) (ho : Mo.Ok m) (S : Nat) (hS : S < 2 ^ m.N) :
    Calls Tryd.prog 65 #[mV m, .int .i64 S] w0 (Post (X := Unit) (fun _ => .int .i64 (Mo.rdy m S : Nat)) (fun _ => True) (fun _ => []) w0) := by
  have hS63 := set63 ho hS
  have hf63 := full_63 ho
  have hd := Mo.co_lt m S
  have hd63 := set63 ho hd
  have hN := ho.N36
  refine callsRF Tryd.func65 rfl (n := 25) rfl (by simp) ?_
  refine TC.seq ?_
  refine TC.region ?_
  refine TL.box rfl rfl (by decide) (fun b0 hb0 => ?_)
  refine TL.box rfl rfl (by decide) (fun b1 hb1 => ?_)
  refine TL.pure (PV.assign rfl) rfl (by decide) ?_
  refine TL.nil ?_
  refine TQ.thenC ?_
  refine TC.seq ?_
  refine TC.region ?_
  refine TL.alloc Tb.zero_3 rfl (by decide) (fun b2 hb2 => ?_)
  refine TL.store rfl rfl Tb.cells_3 rfl (by repeat (first | exact Upd.head _ | apply Upd.tail | apply Upd.appR)) (by first | decide | (simp; done) | (simp; omega) | omega) rfl rfl ?_
  refine TL.nil ?_
  refine TQ.thenC ?_
  refine TC.seq ?_
  refine TC.seq ?_
  refine TC.mix [true, false, true, false, false] [(b2, Obj.cells #[.int .i64 0] 3 (0, 0)), (b1, Obj.cells #[.int .i64 (S : Nat)] 3 (0, 0)), (b0, Obj.cells #[.int .i64 m.R, .int .i64 m.C, .int .i64 m.K] 23 (0, 0))] 3 Tb.mixed rfl (by kernel_rfl) (by kernel_rfl) (by kernel_rfl) (by kernel_rfl) (by repeat (first | exact List.Sublist.slnil | exact List.nil_sublist _ | exact List.Sublist.refl _ | refine List.Sublist.cons_cons _ ?_ | refine List.Sublist.cons _ ?_ | refine List.Sublist.trans ?_ (List.sublist_append_right _ _))) ?_
  refine TB.op (SOK.pure (PV.loadBox rfl Tb.agg_23 (by repeat (first | exact List.Mem.head _ | refine List.Mem.tail _ ?_ | refine List.mem_append_right _ ?_)) rfl) rfl) (by decide) ?_
  refine TB.no ?_
  refine TB.op (SOK.pure (PV.load rfl Tb.one_3 (by repeat (first | exact List.Mem.head _ | refine List.Mem.tail _ ?_ | refine List.mem_append_right _ ?_)) rfl) rfl) (by decide) ?_
  refine TB.no ?_
  refine TB.no ?_
  refine TB.fin ?_
  refine TX.step [1] (by kernel_rfl) (by decide) ⟨⟨_, rfl, ?_⟩, trivial⟩
  refine TL.call rfl Tb.gofn_71 (fun a w hs => all_ok w m ho) rfl (by decide) (fun _ _ => ?_)
  refine TL.nil ?_
  refine TX.next (.inl (by repeat (first | exact List.Sublist.slnil | exact List.nil_sublist _ | exact List.Sublist.refl _ | refine List.Sublist.cons_cons _ ?_ | refine List.Sublist.cons _ ?_ | refine List.Sublist.trans ?_ (List.sublist_append_right _ _)))) ?_
  refine TX.step [3] (by kernel_rfl) (by decide) ⟨⟨_, rfl, ?_⟩, trivial⟩
  refine TL.pure (PV.andNotK rfl rfl (i64_andNot_nat hf63 hS63)) rfl (by decide) ?_
  refine TL.nil ?_
  refine TX.next (.inl (by repeat (first | exact List.Sublist.slnil | exact List.nil_sublist _ | exact List.Sublist.refl _ | refine List.Sublist.cons_cons _ ?_ | refine List.Sublist.cons _ ?_ | refine List.Sublist.trans ?_ (List.sublist_append_right _ _)))) ?_
  refine TX.step [4] (by kernel_rfl) (by decide) ⟨⟨_, rfl, ?_⟩, trivial⟩
  refine TL.call rfl Tb.gofn_58 (fun a w hs => squares_ok w (Mo.dif (Mo.full m) S)) rfl (by decide) (fun bx hbx => ?_)
  refine TL.nil ?_
  refine TX.next (.inl (by repeat (first | exact List.Sublist.slnil | exact List.nil_sublist _ | exact List.Sublist.refl _ | refine List.Sublist.cons_cons _ ?_ | refine List.Sublist.cons _ ?_ | refine List.Sublist.trans ?_ (List.sublist_append_right _ _)))) ?_
  refine TX.done (by kernel_rfl) ?_
  refine TQ.thenC ?_
  refine TC.block ?_
  refine TC.rangeFunc (encs := fun s : Nat => [.int .i64 s]) (kept := [(bx, Obj.cells #[.int .i64 (Mo.dif (Mo.full m) S : Nat)] 3 (0, 0))]) (α := Nat) (X := Nat) (Y := Unit) (Z := Nat) (ps := [12]) (fun pre s => s = orL (fun q => decide (m.K ≤ Mo.ar m S q)) pre) (fun s => [(bx, Obj.cells #[.int .i64 (Mo.dif (Mo.full m) S : Nat)] 3 (0, 0)), (b2, Obj.cells #[.int .i64 (s : Nat)] 3 (0, 0)), (b1, Obj.cells #[.int .i64 (S : Nat)] 3 (0, 0)), (b0, Obj.cells #[.int .i64 m.R, .int .i64 m.C, .int .i64 m.K] 23 (0, 0))]) (fun pre y => False) (fun y => []) 0 (fun x s z => z = s) (fun x z => [(6, .int .i64 x), (2, .pointer (some ⟨b0, 0, none⟩)), (3, .pointer (some ⟨b1, 0, none⟩)), (5, .pointer (some ⟨b2, 0, none⟩))]) (fun x z => [(bx, Obj.cells #[.int .i64 (Mo.dif (Mo.full m) S : Nat)] 3 (0, 0)), (b2, Obj.cells #[.int .i64 (z : Nat)] 3 (0, 0)), (b1, Obj.cells #[.int .i64 (S : Nat)] 3 (0, 0)), (b0, Obj.cells #[.int .i64 m.R, .int .i64 m.C, .int .i64 m.K] 23 (0, 0))]) rfl Tb.gofn_95 (squares_it w0 ht _ hd63 bx) (fun _ => rfl) (by decide) rfl (by repeat (first | exact List.Sublist.slnil | exact List.nil_sublist _ | exact List.Sublist.refl _ | refine List.Sublist.cons_cons _ ?_ | refine List.Sublist.cons _ ?_ | refine List.Sublist.trans ?_ (List.sublist_append_right _ _))) (fun s q hq => by simp only [List.mem_cons, List.not_mem_nil, or_false] at hq; subst hq; exact List.Mem.head _) ?_ ?_ ?_ ?_
  · skip
    intro lR TR pre x s hp_ hF_
    refine TG.region (by repeat (first | with_reducible exact RB.lo | with_reducible exact QN.lo | with_reducible exact bodyM_lo | with_reducible exact bodyP_lo | with_reducible apply lo_then | with_reducible apply lo_blk)) (by kernel_rfl) ?_
    refine TL.pure (PV.assign rfl) rfl (by decide) ?_
    refine TL.nil ?_
    refine TQ.gmid s rfl (by repeat (first | exact True.intro | refine And.intro rfl ?_)) (List.Sublist.refl _)
  · skip
    intro lR TR pre x s z hp_ hF_ hz_
    obtain rfl : s = z := hz_.symm
    have hmem := pre_mem hp_
    have hxN := sq_lt ho hd hmem
    have hall : ∀ q ∈ pre ++ [x], q < m.N := fun q hq => sq_lt ho hd (hp_.subset hq)
    have hs63 : s < 9223372036854775808 := by rw [hF_]; exact set63 ho (orL_lt fun q hq => hall q (List.mem_append_left _ hq))
    have hsn := orL_snoc (fun q => decide (m.K ≤ Mo.ar m S q)) pre x
    refine TG.block ?_
    refine TG.seq ?_
    refine TG.mix (by repeat (first | with_reducible exact RB.lo | with_reducible exact QN.lo | with_reducible exact bodyM_lo | with_reducible exact bodyP_lo | with_reducible apply lo_then | with_reducible apply lo_blk)) (by kernel_rfl) [true, true, true, false, true, true, false] [(bx, Obj.cells #[.int .i64 (Mo.dif (Mo.full m) S : Nat)] 3 (0, 0)), (b2, Obj.cells #[.int .i64 (s : Nat)] 3 (0, 0)), (b1, Obj.cells #[.int .i64 (S : Nat)] 3 (0, 0)), (b0, Obj.cells #[.int .i64 m.R, .int .i64 m.C, .int .i64 m.K] 23 (0, 0))] 2 Tb.mixed rfl (by kernel_rfl) (by kernel_rfl) (by kernel_rfl) (by kernel_rfl) (by repeat (first | exact List.Sublist.slnil | exact List.nil_sublist _ | exact List.Sublist.refl _ | refine List.Sublist.cons_cons _ ?_ | refine List.Sublist.cons _ ?_ | refine List.Sublist.trans ?_ (List.sublist_append_right _ _))) ?_
    refine TB.op (SOK.pure (PV.loadBox rfl Tb.agg_23 (by repeat (first | exact List.Mem.head _ | refine List.Mem.tail _ ?_ | refine List.mem_append_right _ ?_)) rfl) rfl) (by decide) ?_
    refine TB.op (SOK.pure (PV.move rfl) rfl) (by decide) ?_
    refine TB.op (SOK.pure (PV.load rfl Tb.one_3 (by repeat (first | exact List.Mem.head _ | refine List.Mem.tail _ ?_ | refine List.mem_append_right _ ?_)) rfl) rfl) (by decide) ?_
    refine TB.no ?_
    refine TB.op (SOK.pure (PV.fieldAddr rfl Tb.fo_23_2) rfl) (by decide) ?_
    refine TB.op (SOK.pure (PV.load rfl Tb.one_3 (by repeat (first | exact List.Mem.head _ | refine List.Mem.tail _ ?_ | refine List.mem_append_right _ ?_)) rfl) rfl) (by decide) ?_
    refine TB.no ?_
    refine TB.fin ?_
    refine TX.step [3] (by kernel_rfl) (by decide) ⟨⟨_, rfl, ?_⟩, trivial⟩
    refine TL.call rfl Tb.gofn_74 (fun a w hs => beside_ok w m ho _ hxN S hS63) rfl (by decide) (fun _ _ => ?_)
    refine TL.nil ?_
    refine TX.next (.inl (by repeat (first | exact List.Sublist.slnil | exact List.nil_sublist _ | exact List.Sublist.refl _ | refine List.Sublist.cons_cons _ ?_ | refine List.Sublist.cons _ ?_ | refine List.Sublist.trans ?_ (List.sublist_append_right _ _)))) ?_
    refine TX.step [6] (by kernel_rfl) (by decide) ⟨⟨_, rfl, ?_⟩, trivial⟩
    refine TL.pure (PV.geq rfl rfl) rfl (by decide) ?_
    refine TL.nil ?_
    refine TX.next (.inl (by repeat (first | exact List.Sublist.slnil | exact List.nil_sublist _ | exact List.Sublist.refl _ | refine List.Sublist.cons_cons _ ?_ | refine List.Sublist.cons _ ?_ | refine List.Sublist.trans ?_ (List.sublist_append_right _ _)))) ?_
    refine TX.done (by kernel_rfl) ?_
    refine TQ.thenG ?_
    first | refine TG.condD rfl (fun hge => ?_) (fun hge => ?_) | refine TG.cond rfl (fun hge => ?_) (fun hge => ?_)
    · skip
      refine TG.mix (by repeat (first | with_reducible exact RB.lo | with_reducible exact QN.lo | with_reducible exact bodyM_lo | with_reducible exact bodyP_lo | with_reducible apply lo_then | with_reducible apply lo_blk)) (by kernel_rfl) [false, true, false, false, false] [(bx, Obj.cells #[.int .i64 (Mo.dif (Mo.full m) S : Nat)] 3 (0, 0)), (b1, Obj.cells #[.int .i64 (S : Nat)] 3 (0, 0)), (b0, Obj.cells #[.int .i64 m.R, .int .i64 m.C, .int .i64 m.K] 23 (0, 0))] 4 Tb.mixed rfl (by kernel_rfl) (by kernel_rfl) (by kernel_rfl) (by kernel_rfl) (by repeat (first | exact List.Sublist.slnil | exact List.nil_sublist _ | exact List.Sublist.refl _ | refine List.Sublist.cons_cons _ ?_ | refine List.Sublist.cons _ ?_ | refine List.Sublist.trans ?_ (List.sublist_append_right _ _))) ?_
      refine TB.no ?_
      refine TB.op (SOK.pure (PV.move rfl) rfl) (by decide) ?_
      refine TB.no ?_
      refine TB.no ?_
      refine TB.no ?_
      refine TB.fin ?_
      refine TX.step [0, 2] (by kernel_rfl) (by decide) ⟨⟨_, rfl, ?_⟩, ⟨_, rfl, ?_⟩, trivial⟩
      · skip
        refine TL.pure (PV.load rfl Tb.one_3 (by repeat (first | exact List.Mem.head _ | refine List.Mem.tail _ ?_ | refine List.mem_append_right _ ?_)) rfl) rfl (by decide) ?_
        refine TL.nil ?_
        refine TX.next (.inl (by repeat (first | exact List.Sublist.slnil | exact List.nil_sublist _ | exact List.Sublist.refl _ | refine List.Sublist.cons_cons _ ?_ | refine List.Sublist.cons _ ?_ | refine List.Sublist.trans ?_ (List.sublist_append_right _ _)))) ?_
        refine TX.step [2] (by kernel_rfl) (by decide) ⟨⟨_, rfl, ?_⟩, trivial⟩
        refine TL.call rfl Tb.gofn_79 (fun a w hs => only_ok w _ (by omega)) rfl (by decide) (fun _ _ => ?_)
        refine TL.nil ?_
        refine TX.next (.inr (by kernel_rfl)) ?_
        refine TX.step [3] (by kernel_rfl) (by decide) ⟨⟨_, rfl, ?_⟩, trivial⟩
        refine TL.pure (PV.orK rfl rfl (i64_or_nat hs63 (p63 (by omega)))) rfl (by decide) ?_
        refine TL.nil ?_
        refine TX.next (.inl (by repeat (first | exact List.Sublist.slnil | exact List.nil_sublist _ | exact List.Sublist.refl _ | refine List.Sublist.cons_cons _ ?_ | refine List.Sublist.cons _ ?_ | refine List.Sublist.trans ?_ (List.sublist_append_right _ _)))) ?_
        refine TX.step [4] (by kernel_rfl) (by decide) ⟨⟨_, rfl, ?_⟩, trivial⟩
        refine TL.store rfl rfl Tb.cells_3 rfl (by repeat (first | exact Upd.head _ | apply Upd.tail | apply Upd.appR)) (by first | decide | (simp; done) | (simp; omega) | omega) rfl rfl ?_
        refine TL.nil ?_
        refine TX.next (.inr (by kernel_rfl)) ?_
        refine TX.done (by kernel_rfl) ?_
        refine TQ.gblkN ?_
        first
          | (refine TQ.goOn (s ||| 2 ^ x) ?_ (by repeat (first | exact List.Sublist.slnil | exact List.nil_sublist _ | exact List.Sublist.refl _ | refine List.Sublist.cons_cons _ ?_ | refine List.Sublist.cons _ ?_ | refine List.Sublist.trans ?_ (List.sublist_append_right _ _)))
             rw [hsn, if_pos (decide_eq_true (by omega)), ← hF_]; done)
          | (refine TQ.goOn s ?_ (by repeat (first | exact List.Sublist.slnil | exact List.nil_sublist _ | exact List.Sublist.refl _ | refine List.Sublist.cons_cons _ ?_ | refine List.Sublist.cons _ ?_ | refine List.Sublist.trans ?_ (List.sublist_append_right _ _)))
             rw [hsn, if_neg (by rw [decide_eq_true_eq]; omega), ← hF_]; done)
      · skip
        refine TL.call rfl Tb.gofn_79 (fun a w hs => only_ok w _ (by omega)) rfl (by decide) (fun _ _ => ?_)
        refine TL.nil ?_
        refine TX.next (.inr (by kernel_rfl)) ?_
        refine TX.step [0] (by kernel_rfl) (by decide) ⟨⟨_, rfl, ?_⟩, trivial⟩
        refine TL.pure (PV.load rfl Tb.one_3 (by repeat (first | exact List.Mem.head _ | refine List.Mem.tail _ ?_ | refine List.mem_append_right _ ?_)) rfl) rfl (by decide) ?_
        refine TL.nil ?_
        refine TX.next (.inl (by repeat (first | exact List.Sublist.slnil | exact List.nil_sublist _ | exact List.Sublist.refl _ | refine List.Sublist.cons_cons _ ?_ | refine List.Sublist.cons _ ?_ | refine List.Sublist.trans ?_ (List.sublist_append_right _ _)))) ?_
        refine TX.step [3] (by kernel_rfl) (by decide) ⟨⟨_, rfl, ?_⟩, trivial⟩
        refine TL.pure (PV.orK rfl rfl (i64_or_nat hs63 (p63 (by omega)))) rfl (by decide) ?_
        refine TL.nil ?_
        refine TX.next (.inl (by repeat (first | exact List.Sublist.slnil | exact List.nil_sublist _ | exact List.Sublist.refl _ | refine List.Sublist.cons_cons _ ?_ | refine List.Sublist.cons _ ?_ | refine List.Sublist.trans ?_ (List.sublist_append_right _ _)))) ?_
        refine TX.step [4] (by kernel_rfl) (by decide) ⟨⟨_, rfl, ?_⟩, trivial⟩
        refine TL.store rfl rfl Tb.cells_3 rfl (by repeat (first | exact Upd.head _ | apply Upd.tail | apply Upd.appR)) (by first | decide | (simp; done) | (simp; omega) | omega) rfl rfl ?_
        refine TL.nil ?_
        refine TX.next (.inr (by kernel_rfl)) ?_
        refine TX.done (by kernel_rfl) ?_
        refine TQ.gblkN ?_
        first
          | (refine TQ.goOn (s ||| 2 ^ x) ?_ (by repeat (first | exact List.Sublist.slnil | exact List.nil_sublist _ | exact List.Sublist.refl _ | refine List.Sublist.cons_cons _ ?_ | refine List.Sublist.cons _ ?_ | refine List.Sublist.trans ?_ (List.sublist_append_right _ _)))
             rw [hsn, if_pos (decide_eq_true (by omega)), ← hF_]; done)
          | (refine TQ.goOn s ?_ (by repeat (first | exact List.Sublist.slnil | exact List.nil_sublist _ | exact List.Sublist.refl _ | refine List.Sublist.cons_cons _ ?_ | refine List.Sublist.cons _ ?_ | refine List.Sublist.trans ?_ (List.sublist_append_right _ _)))
             rw [hsn, if_neg (by rw [decide_eq_true_eq]; omega), ← hF_]; done)
    · skip
      refine TG.skip ?_
      refine TQ.gblkN ?_
      first
        | (refine TQ.goOn (s ||| 2 ^ x) ?_ (by repeat (first | exact List.Sublist.slnil | exact List.nil_sublist _ | exact List.Sublist.refl _ | refine List.Sublist.cons_cons _ ?_ | refine List.Sublist.cons _ ?_ | refine List.Sublist.trans ?_ (List.sublist_append_right _ _)))
           rw [hsn, if_pos (decide_eq_true (by omega)), ← hF_]; done)
        | (refine TQ.goOn s ?_ (by repeat (first | exact List.Sublist.slnil | exact List.nil_sublist _ | exact List.Sublist.refl _ | refine List.Sublist.cons_cons _ ?_ | refine List.Sublist.cons _ ?_ | refine List.Sublist.trans ?_ (List.sublist_append_right _ _)))
           rw [hsn, if_neg (by rw [decide_eq_true_eq]; omega), ← hF_]; done)
  · skip
    intro dB lB oB xs_ s hD_ hF_
    have hs9 : s = Mo.rdy m S := by rw [hF_, hD_]; exact rdy_fold ho
    refine TQ.gblkN ?_
    refine TQ.thenD ?_
    refine TG.seq ?_
    refine TG.region (by repeat (first | with_reducible exact RB.lo | with_reducible exact QN.lo | with_reducible exact bodyM_lo | with_reducible exact bodyP_lo | with_reducible apply lo_then | with_reducible apply lo_blk)) (by kernel_rfl) ?_
    refine TL.pure (PV.load rfl Tb.one_3 (by repeat (first | exact List.Mem.head _ | refine List.Mem.tail _ ?_ | refine List.mem_append_right _ ?_)) rfl) rfl (by decide) ?_
    refine TL.pure (PV.assign rfl) rfl (by decide) ?_
    refine TL.nil ?_
    refine TQ.thenG ?_
    refine TG.ret ?_
    refine TQ.retM (by repeat (first | exact Take.head _ | apply Take.tail | apply Take.appR)) ?_
    refine TQ.retE1 rfl rfl ?_
    exact ⟨(), by rw [hs9], trivial, List.nil_sublist _⟩
  · skip
    intro dB lB oB xs_ y hP_ hF_
    exact hF_.elim

set_option maxRecDepth 100000 in
theorem spread_ok (w0 : World) (ht : TzAt w0) (m : Mo.Md) (ho : Mo.Ok m) (S : Nat) (hS : S < 2 ^ m.N) :
    Calls Tryd.prog 68 #[mV m, .int .i64 S] w0 (Post (X := Unit) (fun _ => .tuple #[.int .i64 (Mo.en m S : Nat), .int .i64 (Mo.dy m S : Nat)]) (fun _ => True) (fun _ => []) w0) := by
  have hN := ho.N36
  refine calls Tryd.func68 rfl (n := 23) rfl (by simp) ?_
  refine TC.seq ?_
  refine TC.region ?_
  refine TL.box rfl rfl (by decide) (fun b0 hb0 => ?_)
  refine TL.pure (PV.assign rfl) rfl (by decide) ?_
  refine TL.pure (PV.assign rfl) rfl (by decide) ?_
  refine TL.nil ?_
  refine TQ.thenC ?_
  refine TC.seq ?_
  refine TC.region ?_
  refine TL.pure (PV.assign rfl) rfl (by decide) ?_
  refine TL.nil ?_
  refine TQ.thenC ?_
  refine TC.seq ?_
  refine TC.seq ?_
  refine TC.region ?_
  refine TL.pure (PV.loadBox rfl Tb.agg_23 (by repeat (first | exact List.Mem.head _ | refine List.Mem.tail _ ?_ | refine List.mem_append_right _ ?_)) rfl) rfl (by decide) ?_
  refine TL.pure (PV.move rfl) rfl (by decide) ?_
  refine TL.call rfl Tb.gofn_65 (fun a w hs => ready_ok w (ht.new hs.new) m ho S hS) rfl (by decide) (fun _ _ => ?_)
  refine TL.pure (PV.assign rfl) rfl (by decide) ?_
  refine TL.nil ?_
  refine TQ.thenC ?_
  refine TC.block ?_
  refine TC.loopG [2, 4, 5] (X := Nat) (fun k => Dys m S k) (fun k => [(1, .int .i64 (Mo.it m S k : Nat)), (6, .int .i64 k), (7, .int .i64 (Mo.rdy m (Mo.it m S k) : Nat))]) (fun k => m.N - k) 0 (Dys.zero m S) (by repeat (first | exact True.intro | refine And.intro rfl ?_)) ?_
  intro k hk
  have hkl := hk.le
  refine TC.seq ?_
  refine TC.seq ?_
  refine TC.region ?_
  refine TL.pure (PV.move rfl) rfl (by decide) ?_
  refine TL.pure (PV.neq rfl rfl) rfl (by decide) ?_
  refine TL.nil ?_
  refine TQ.thenC ?_
  first | refine TC.condD rfl (fun hne => ?_) (fun hne => ?_) | refine TC.cond rfl (fun hne => ?_) (fun hne => ?_)
  · skip
    have hk9 := hk.next ho hS (by omega)
    refine TC.skip ?_
    refine TQ.thenC ?_
    refine TC.seq ?_
    refine TC.block ?_
    refine TC.seq ?_
    refine TC.region ?_
    refine TL.pure (PV.move rfl) rfl (by decide) ?_
    refine TL.pure (PV.move rfl) rfl (by decide) ?_
    refine TL.pure (PV.orK rfl rfl (or_step ho (Mo.it_lt hS k))) rfl (by decide) ?_
    refine TL.pure (PV.assign rfl) rfl (by decide) ?_
    refine TL.nil ?_
    refine TQ.thenC ?_
    refine TC.region ?_
    refine TL.pure (PV.move rfl) rfl (by decide) ?_
    refine TL.pure (PV.add rfl rfl (by omega)) rfl (by decide) ?_
    refine TL.pure (PV.assign rfl) rfl (by decide) ?_
    refine TL.nil ?_
    refine TQ.blkN ?_
    refine TQ.thenC ?_
    refine TC.region ?_
    refine TL.pure (PV.loadBox rfl Tb.agg_23 (by repeat (first | exact List.Mem.head _ | refine List.Mem.tail _ ?_ | refine List.mem_append_right _ ?_)) rfl) rfl (by decide) ?_
    refine TL.pure (PV.move rfl) rfl (by decide) ?_
    refine TL.call rfl Tb.gofn_65 (fun a w hs => ready_ok w (ht.new hs.new) m ho _ (Mo.stp_lt (Mo.it_lt hS k))) rfl (by decide) (fun _ _ => ?_)
    refine TL.pure (PV.assign rfl) rfl (by decide) ?_
    refine TL.nil ?_
    refine TQ.thenN ?_
    refine TQ.backK (k + 1) (by repeat (first | exact True.intro | refine And.intro rfl ?_)) (by repeat (first | exact True.intro | refine And.intro rfl ?_)) (by repeat (first | exact List.Sublist.slnil | exact List.nil_sublist _ | exact List.Sublist.refl _ | refine List.Sublist.cons_cons _ ?_ | refine List.Sublist.cons _ ?_ | refine List.Sublist.trans ?_ (List.sublist_append_right _ _))) hk9 (by have := hk9.le; omega)
  · skip
    refine TC.exit ?_
    refine TQ.thenE ?_
    refine TQ.thenE ?_
    refine TQ.blkS ?_
    refine TQ.thenC ?_
    refine TC.seq ?_
    have hsp := spread_eq ho hS (show Mo.rdy m (Mo.it m S k) = 0 by omega) hk.go
    refine TC.region ?_
    refine TL.pure (PV.move rfl) rfl (by decide) ?_
    refine TL.pure (PV.move rfl) rfl (by decide) ?_
    refine TL.pure (PV.assign rfl) rfl (by decide) ?_
    refine TL.pure (PV.assign rfl) rfl (by decide) ?_
    refine TL.nil ?_
    refine TQ.thenC ?_
    refine TC.ret ?_
    refine TQ.retE2 rfl rfl rfl ?_
    exact ⟨(), by rw [hsp.2, ← hsp.1], trivial, List.nil_sublist _⟩

set_option maxRecDepth 100000 in
theorem endOf_ok (w0 : World) (ht : TzAt w0) (m : Mo.Md) (ho : Mo.Ok m) (S : Nat) (hS : S < 2 ^ m.N) :
    Calls Tryd.prog 70 #[mV m, .int .i64 S] w0 (Post (X := Unit) (fun _ => .int .i64 (Mo.en m S : Nat)) (fun _ => True) (fun _ => []) w0) := by
  refine calls Tryd.func70 rfl (n := 12) rfl (by simp) ?_
  refine TC.seq ?_
  refine TC.region ?_
  refine TL.box rfl rfl (by decide) (fun b0 hb0 => ?_)
  refine TL.pure (PV.assign rfl) rfl (by decide) ?_
  refine TL.nil ?_
  refine TQ.thenC ?_
  refine TC.seq ?_
  refine TC.region ?_
  refine TL.pure (PV.loadBox rfl Tb.agg_23 (by repeat (first | exact List.Mem.head _ | refine List.Mem.tail _ ?_ | refine List.mem_append_right _ ?_)) rfl) rfl (by decide) ?_
  refine TL.pure (PV.move rfl) rfl (by decide) ?_
  refine TL.call rfl Tb.gofn_68 (fun a w hs => spread_ok w (ht.new hs.new) m ho S hS) rfl (by decide) (fun _ _ => ?_)
  refine TL.pure (PV.move rfl) rfl (by decide) ?_
  refine TL.pure (PV.extract rfl rfl) rfl (by decide) ?_
  refine TL.pure (PV.extract rfl rfl) rfl (by decide) ?_
  refine TL.pure (PV.assign rfl) rfl (by decide) ?_
  refine TL.nil ?_
  refine TQ.thenC ?_
  refine TC.seq ?_
  refine TC.region ?_
  refine TL.pure (PV.move rfl) rfl (by decide) ?_
  refine TL.pure (PV.assign rfl) rfl (by decide) ?_
  refine TL.nil ?_
  refine TQ.thenC ?_
  refine TC.ret ?_
  refine TQ.retE1 rfl rfl ?_
  exact ⟨(), rfl, trivial, List.nil_sublist _⟩

set_option maxRecDepth 100000 in
set_option maxHeartbeats 1000000 in
theorem rneighbors_ok (w0 : World) (m : Mo.Md) (ho : Mo.Ok m) (s : Nat) (hs3 : s < m.N) :
    Calls Tryd.prog 62 #[mV m, .int .i64 s] w0 (Post (X := Value × Heap) (fun x => x.1) (fun x => RdI (ofN (nbF m s m.N)) x) (fun x => x.2) w0) := by
  have hN := ho.N36
  have hC1 := ho.C1
  have hE := nbF_zero m s
  refine calls Tryd.func62 rfl (n := 46) rfl (by simp) ?_
  refine TC.seq ?_
  refine TC.region ?_
  refine TL.box rfl rfl (by decide) (fun b0 hb0 => ?_)
  refine TL.pure (PV.assign rfl) rfl (by decide) ?_
  refine TL.nil ?_
  refine TQ.thenC ?_
  refine TC.seq ?_
  refine TC.region ?_
  refine TL.pure (PV.assign rfl) rfl (by decide) ?_
  refine TL.nil ?_
  refine TQ.thenC ?_
  refine TC.seq ?_
  refine TC.seq ?_
  refine TC.region ?_
  refine TL.pure (PV.assign rfl) rfl (by decide) ?_
  refine TL.nil ?_
  refine TQ.thenC ?_
  refine TC.block ?_
  refine TC.loopK [1, 2, 4] (X := Nat × HD) (fun x => x.1 ≤ m.N ∧ goI (x.2, ofN (nbF m s x.1))) (fun x => [(6, .int .i64 x.1), (5, gval x.2 (ofN (nbF m s x.1)).length)]) (fun x => gbI (x.2, ofN (nbF m s x.1)) ++ [(b0, Obj.cells #[.int .i64 m.R, .int .i64 m.C, .int .i64 m.K] 23 (0, 0))]) (fun x => m.N - x.1) (0, none) ⟨Nat.zero_le _, by rw [hE]; exact goI_nil⟩ (by refine And.intro rfl (And.intro ?_ True.intro); rw [hE]; rfl) (by rw [hE]; exact List.Sublist.refl _) ?_
  intro x hx9
  have hxl := hx9.1
  have hnl := nbF_len m s x.1
  refine TC.seq ?_
  refine TC.seq ?_
  refine TC.region ?_
  refine TL.pure (PV.move rfl) rfl (by decide) ?_
  refine TL.pure (PV.loadBox rfl Tb.agg_23 (by repeat (first | exact List.Mem.head _ | refine List.Mem.tail _ ?_ | refine List.mem_append_right _ ?_)) rfl) rfl (by decide) ?_
  refine TL.call rfl Tb.gofn_61 (fun a w hs => rsquares_ok w m ho) rfl (by decide) (fun _ _ => ?_)
  refine TL.pure (PV.lss rfl rfl) rfl (by decide) ?_
  refine TL.nil ?_
  refine TQ.thenC ?_
  first | refine TC.condD rfl (fun hlt => ?_) (fun hlt => ?_) | refine TC.cond rfl (fun hlt => ?_) (fun hlt => ?_)
  · skip
    refine TC.skip ?_
    refine TQ.thenC ?_
    refine TC.seq ?_
    refine TC.block ?_
    refine TC.seq ?_
    have hb1 := diff_bd (a := x.1 / m.C) (b := s / m.C) (div_le36 ho (by omega : x.1 < m.N)) (div_le36 ho hs3)
    have hb2 := diff_bd (a := x.1 % m.C) (b := s % m.C) (mod_le36 ho x.1) (mod_le36 ho s)
    refine TC.any Tb.mixed rfl rfl ?_
    refine TA.op (OpOK.pure (PV.move rfl) rfl (by decide)) (by decide) ?_
    refine TA.op (OpOK.pure (PV.fieldAddr rfl Tb.fo_23_1) rfl (by decide)) (by decide) ?_
    refine TA.op (OpOK.pure (PV.load rfl Tb.one_3 (by repeat (first | exact List.Mem.head _ | refine List.Mem.tail _ ?_ | refine List.mem_append_right _ ?_)) rfl) rfl (by decide)) (by decide) ?_
    refine TA.op (OpOK.pure (PV.quoN rfl rfl (by omega) (by omega)) rfl (by decide)) (by decide) ?_
    refine TA.op (OpOK.pure (PV.move rfl) rfl (by decide)) (by decide) ?_
    refine TA.op (OpOK.pure (PV.fieldAddr rfl Tb.fo_23_1) rfl (by decide)) (by decide) ?_
    refine TA.op (OpOK.pure (PV.load rfl Tb.one_3 (by repeat (first | exact List.Mem.head _ | refine List.Mem.tail _ ?_ | refine List.mem_append_right _ ?_)) rfl) rfl (by decide)) (by decide) ?_
    refine TA.op (OpOK.pure (PV.quoN rfl rfl (by omega) (by omega)) rfl (by decide)) (by decide) ?_
    refine TA.op (OpOK.pure (PV.sub rfl rfl hb1.1) rfl (by decide)) (by decide) ?_
    refine TA.op (OpOK.pure (PV.move rfl) rfl (by decide)) (by decide) ?_
    refine TA.op (OpOK.pure (PV.fieldAddr rfl Tb.fo_23_1) rfl (by decide)) (by decide) ?_
    refine TA.op (OpOK.pure (PV.load rfl Tb.one_3 (by repeat (first | exact List.Mem.head _ | refine List.Mem.tail _ ?_ | refine List.mem_append_right _ ?_)) rfl) rfl (by decide)) (by decide) ?_
    refine TA.op (OpOK.pure (PV.remN rfl rfl (by omega) (by omega)) rfl (by decide)) (by decide) ?_
    refine TA.op (OpOK.pure (PV.move rfl) rfl (by decide)) (by decide) ?_
    refine TA.op (OpOK.pure (PV.fieldAddr rfl Tb.fo_23_1) rfl (by decide)) (by decide) ?_
    refine TA.op (OpOK.pure (PV.load rfl Tb.one_3 (by repeat (first | exact List.Mem.head _ | refine List.Mem.tail _ ?_ | refine List.mem_append_right _ ?_)) rfl) rfl (by decide)) (by decide) ?_
    refine TA.op (OpOK.pure (PV.remN rfl rfl (by omega) (by omega)) rfl (by decide)) (by decide) ?_
    refine TA.op (OpOK.pure (PV.sub rfl rfl hb2.1) rfl (by decide)) (by decide) ?_
    refine TA.op (OpOK.pure (PV.assign rfl) rfl (by decide)) (by decide) ?_
    refine TA.op (OpOK.pure (PV.assign rfl) rfl (by decide)) (by decide) ?_
    show TQ _ _ _ _ _
    refine TQ.thenC ?_
    refine TC.seq ?_
    refine TC.region ?_
    refine TL.pure (PV.move rfl) rfl (by decide) ?_
    refine TL.pure (PV.move rfl) rfl (by decide) ?_
    refine TL.pure (PV.mul rfl rfl hb1.2.1) rfl (by decide) ?_
    refine TL.pure (PV.move rfl) rfl (by decide) ?_
    refine TL.pure (PV.move rfl) rfl (by decide) ?_
    refine TL.pure (PV.mul rfl rfl hb2.2.1) rfl (by decide) ?_
    refine TL.pure (PV.add rfl rfl (by have := hb1.2.2; have := hb2.2.2; omega)) rfl (by decide) ?_
    refine TL.pure (PV.eql rfl rfl) rfl (by decide) ?_
    refine TL.nil ?_
    refine TQ.thenC ?_
    first | refine TC.condD rfl (fun hadj => ?_) (fun hadj => ?_) | refine TC.cond rfl (fun hadj => ?_) (fun hadj => ?_)
    · skip
      have hsb := nbF_yes (x := x.1) hadj
      refine TC.region ?_
      refine TL.pure (PV.move rfl) rfl (by decide) ?_
      refine TL.pure (PV.move rfl) rfl (by decide) ?_
      refine TL.buildSlice (cs := #[.int .i64 x.1]) rfl Tb.sl_24 Tb.zi_3 (by decide) (fill_i _) (by decide) rfl (by decide) (fun bE hbE => ?_)
      refine TL.appendI (x0 := (x.2, ofN (nbF m s x.1))) rfl rfl (by repeat (first | exact List.Mem.head _ | refine List.Mem.tail _ ?_ | refine List.mem_append_right _ ?_)) hx9.2 (by repeat (first | exact TakeH.here _ _ _ _ | apply TakeH.tail | apply TakeH.app)) (by show (ofN (nbF m s x.1)).length ≤ 1000000; rw [List.length_map]; omega) rfl (by decide) (fun hh hho => ?_)
      refine TL.pure (PV.assign rfl) rfl (by decide) ?_
      refine TL.nil ?_
      refine TQ.blkN ?_
      refine TQ.thenC ?_
      refine TC.region ?_
      refine TL.pure (PV.move rfl) rfl (by decide) ?_
      refine TL.pure (PV.add rfl rfl (by omega)) rfl (by decide) ?_
      refine TL.pure (PV.assign rfl) rfl (by decide) ?_
      refine TL.nil ?_
      refine TQ.thenN ?_
      refine TQ.backK (x.1 + 1, (by first | exact hh | exact x.2)) (And.intro rfl (And.intro (by show some _ = some (gval _ (ofN (nbF m s (x.1 + 1))).length); rw [hsb]) True.intro)) (by repeat (first | exact True.intro | refine And.intro rfl ?_)) (by show List.Sublist (gbI (_, ofN (nbF m s (x.1 + 1))) ++ _) _; rw [hsb]; first | exact List.Sublist.refl _ | exact List.Sublist.append_left (List.sublist_cons_self _ _) _) ⟨by simp only; omega, by show goI (_, ofN (nbF m s (x.1 + 1))); rw [hsb]; first | exact hho | exact hx9.2⟩ (by simp only; omega)
    · skip
      have hsb := nbF_no (x := x.1) hadj
      refine TC.skip ?_
      refine TQ.blkN ?_
      refine TQ.thenC ?_
      refine TC.region ?_
      refine TL.pure (PV.move rfl) rfl (by decide) ?_
      refine TL.pure (PV.add rfl rfl (by omega)) rfl (by decide) ?_
      refine TL.pure (PV.assign rfl) rfl (by decide) ?_
      refine TL.nil ?_
      refine TQ.thenN ?_
      refine TQ.backK (x.1 + 1, (by first | exact hh | exact x.2)) (And.intro rfl (And.intro (by show some _ = some (gval _ (ofN (nbF m s (x.1 + 1))).length); rw [hsb]) True.intro)) (by repeat (first | exact True.intro | refine And.intro rfl ?_)) (by show List.Sublist (gbI (_, ofN (nbF m s (x.1 + 1))) ++ _) _; rw [hsb]; first | exact List.Sublist.refl _ | exact List.Sublist.append_left (List.sublist_cons_self _ _) _) ⟨by simp only; omega, by show goI (_, ofN (nbF m s (x.1 + 1))); rw [hsb]; first | exact hho | exact hx9.2⟩ (by simp only; omega)
  · skip
    refine TC.exit ?_
    refine TQ.thenE ?_
    refine TQ.thenE ?_
    refine TQ.blkS ?_
    refine TQ.thenC ?_
    refine TC.seq ?_
    have hxe : x.1 = m.N := by omega
    refine TC.region ?_
    refine TL.pure (PV.move rfl) rfl (by decide) ?_
    refine TL.pure (PV.assign rfl) rfl (by decide) ?_
    refine TL.nil ?_
    refine TQ.thenC ?_
    refine TC.ret ?_
    refine TQ.retE1 rfl rfl ?_
    exact ⟨(gval x.2 (ofN (nbF m s x.1)).length, gbI (x.2, ofN (nbF m s x.1))), rfl, by rw [← hxe]; exact RdI.g hx9.2, List.sublist_append_left _ _⟩

set_option maxRecDepth 100000 in
set_option maxHeartbeats 1000000 in
theorem around_ok (w0 : World) (m : Mo.Md) (ho : Mo.Ok m) (S : Nat) (hS : S < 9223372036854775808) (s : Nat) (hs3 : s < m.N) :
    Calls Tryd.prog 75 #[mV m, .int .i64 S, .int .i64 s] w0 (Post (X := Unit) (fun _ => .int .i64 (Mo.ar m S s : Nat)) (fun _ => True) (fun _ => []) w0) := by
  have hN := ho.N36
  have hnl := nbF_len m s m.N
  refine calls Tryd.func75 rfl (n := 28) rfl (by simp) ?_
  refine TC.seq ?_
  refine TC.region ?_
  refine TL.box rfl rfl (by decide) (fun b0 hb0 => ?_)
  refine TL.pure (PV.assign rfl) rfl (by decide) ?_
  refine TL.nil ?_
  refine TQ.thenC ?_
  refine TC.seq ?_
  refine TC.region ?_
  refine TL.pure (PV.loadBox rfl Tb.agg_23 (by repeat (first | exact List.Mem.head _ | refine List.Mem.tail _ ?_ | refine List.mem_append_right _ ?_)) rfl) rfl (by decide) ?_
  refine TL.pure (PV.move rfl) rfl (by decide) ?_
  refine TL.call rfl Tb.gofn_62 (fun a w hs => rneighbors_ok w m ho s hs3) rfl (by decide) (fun y9 hy9 => ?_)
  obtain ⟨v9, G9⟩ := y9
  obtain ⟨pa, ca, rfl, hsome, hia⟩ := hy9
  refine TL.pure (PV.assign rfl) rfl (by decide) ?_
  refine TL.nil ?_
  refine TQ.thenC ?_
  refine TC.seq ?_
  refine TC.region ?_
  refine TL.pure (PV.assign rfl) rfl (by decide) ?_
  refine TL.nil ?_
  refine TQ.thenC ?_
  refine TC.seq ?_
  refine TC.seq ?_
  refine TC.region ?_
  refine TL.pure (PV.assign rfl) rfl (by decide) ?_
  refine TL.nil ?_
  refine TQ.thenC ?_
  refine TC.block ?_
  refine TC.loopK [1, 6, 7] (X := Nat) (fun k => k ≤ (nbF m s m.N).length) (fun k => [(8, .int .i64 (((nbF m s m.N).take k).filter S.testBit).length), (9, .int .i64 k)]) (fun k => G9) (fun k => (nbF m s m.N).length - k) 0 (Nat.zero_le _) (by repeat (first | exact True.intro | refine And.intro rfl ?_)) (List.sublist_append_left _ _) ?_
  intro k hk
  refine TC.seq ?_
  refine TC.seq ?_
  have hlen : (ofN (nbF m s m.N)).length = (nbF m s m.N).length := List.length_map _
  refine TC.region ?_
  refine TL.pure (PV.move rfl) rfl (by decide) ?_
  refine TL.pure (PV.move rfl) rfl (by decide) ?_
  refine TL.pure (PV.len rfl Tb.sl_24) rfl (by decide) ?_
  refine TL.pure (PV.lss rfl rfl) rfl (by decide) ?_
  refine TL.nil ?_
  refine TQ.thenC ?_
  first | refine TC.condD rfl (fun hlt => ?_) (fun hlt => ?_) | refine TC.cond rfl (fun hlt => ?_) (fun hlt => ?_)
  · skip
    refine TC.skip ?_
    refine TQ.thenC ?_
    refine TC.seq ?_
    refine TC.block ?_
    refine TC.seq ?_
    have hlt9 : k < (nbF m s m.N).length := by omega
    have hfl9 := List.length_filter_le S.testBit ((nbF m s m.N).take k)
    rw [List.length_take] at hfl9
    obtain ⟨q, hq, hcell⟩ := RdI.at hsome hia (j := k) (by omega)
    have hval := ofN_at hlt9
    have hvN := nbF_lt hlt9
    refine TC.region ?_
    refine TL.pure (PV.move rfl) rfl (by decide) ?_
    refine TL.pure (PV.move rfl) rfl (by decide) ?_
    refine TL.pure (PV.move rfl) rfl (by decide) ?_
    refine TL.pure (PV.indexA (j := k) rfl hq rfl Tb.elm_24 (by omega) (by omega)) rfl (by decide) ?_
    refine TL.pure (PV.loadW rfl Tb.one_3 (fun w hw => (hcell _ _ _ hw (fun y hy => hy)).trans (by rw [hval]))) rfl (by decide) ?_
    refine TL.call rfl Tb.gofn_31 (fun a w hs => rHas_ok w S _ hS (by omega)) rfl (by decide) (fun _ _ => ?_)
    refine TL.nil ?_
    refine TQ.thenC ?_
    first | refine TC.condD rfl (fun hb => ?_) (fun hb => ?_) | refine TC.cond rfl (fun hb => ?_) (fun hb => ?_)
    · skip
      have htk := takeF_yes hlt9 hb
      refine TC.region ?_
      refine TL.pure (PV.move rfl) rfl (by decide) ?_
      refine TL.pure (PV.add rfl rfl (by omega)) rfl (by decide) ?_
      refine TL.pure (PV.assign rfl) rfl (by decide) ?_
      refine TL.nil ?_
      refine TQ.blkN ?_
      refine TQ.thenC ?_
      refine TC.region ?_
      refine TL.pure (PV.move rfl) rfl (by decide) ?_
      refine TL.pure (PV.add rfl rfl (by omega)) rfl (by decide) ?_
      refine TL.pure (PV.assign rfl) rfl (by decide) ?_
      refine TL.nil ?_
      refine TQ.thenN ?_
      refine TQ.backK (k + 1) (by refine And.intro ?_ (And.intro rfl True.intro); show some _ = some _; rw [htk]; try rfl) (by repeat (first | exact True.intro | refine And.intro rfl ?_)) (List.Sublist.refl _) (by omega) (by omega)
    · skip
      have htk := takeF_no hlt9 hb
      refine TC.skip ?_
      refine TQ.blkN ?_
      refine TQ.thenC ?_
      refine TC.region ?_
      refine TL.pure (PV.move rfl) rfl (by decide) ?_
      refine TL.pure (PV.add rfl rfl (by omega)) rfl (by decide) ?_
      refine TL.pure (PV.assign rfl) rfl (by decide) ?_
      refine TL.nil ?_
      refine TQ.thenN ?_
      refine TQ.backK (k + 1) (by refine And.intro ?_ (And.intro rfl True.intro); show some _ = some _; rw [htk]; try rfl) (by repeat (first | exact True.intro | refine And.intro rfl ?_)) (List.Sublist.refl _) (by omega) (by omega)
  · skip
    refine TC.exit ?_
    refine TQ.thenE ?_
    refine TQ.thenE ?_
    refine TQ.blkS ?_
    refine TQ.thenC ?_
    refine TC.seq ?_
    have hke : k = (nbF m s m.N).length := by omega
    refine TC.region ?_
    refine TL.pure (PV.move rfl) rfl (by decide) ?_
    refine TL.pure (PV.assign rfl) rfl (by decide) ?_
    refine TL.nil ?_
    refine TQ.thenC ?_
    refine TC.ret ?_
    refine TQ.retE1 rfl rfl ?_
    exact ⟨(), by rw [hke, List.take_length, nbF_ar], trivial, List.nil_sublist _⟩

set_option maxRecDepth 100000 in
set_option maxHeartbeats 1000000 in
theorem rstep_ok (w0 : World) (m : Mo.Md) (ho : Mo.Ok m) (S : Nat) (hS : S < 2 ^ m.N) :
    Calls Tryd.prog 67 #[mV m, .int .i64 S] w0 (Post (X := Unit) (fun _ => .int .i64 (Mo.stp m S : Nat)) (fun _ => True) (fun _ => []) w0) := by
  have hN := ho.N36
  have hS63 := set63 ho hS
  refine calls Tryd.func67 rfl (n := 27) rfl (by simp) ?_
  refine TC.seq ?_
  refine TC.region ?_
  refine TL.box rfl rfl (by decide) (fun b0 hb0 => ?_)
  refine TL.pure (PV.assign rfl) rfl (by decide) ?_
  refine TL.nil ?_
  refine TQ.thenC ?_
  refine TC.seq ?_
  refine TC.region ?_
  refine TL.pure (PV.move rfl) rfl (by decide) ?_
  refine TL.pure (PV.assign rfl) rfl (by decide) ?_
  refine TL.nil ?_
  refine TQ.thenC ?_
  refine TC.seq ?_
  refine TC.seq ?_
  refine TC.region ?_
  refine TL.pure (PV.assign rfl) rfl (by decide) ?_
  refine TL.nil ?_
  refine TQ.thenC ?_
  refine TC.block ?_
  refine TC.loopG [1, 2, 4] (X := Nat) (fun k => k ≤ m.N) (fun k => [(5, .int .i64 (stR m S k : Nat)), (6, .int .i64 k)]) (fun k => m.N - k) 0 (Nat.zero_le _) (by refine And.intro ?_ (And.intro rfl True.intro); show some _ = some _; rw [stR_zero]) ?_
  intro k hk
  refine TC.seq ?_
  refine TC.seq ?_
  refine TC.region ?_
  refine TL.pure (PV.move rfl) rfl (by decide) ?_
  refine TL.pure (PV.loadBox rfl Tb.agg_23 (by repeat (first | exact List.Mem.head _ | refine List.Mem.tail _ ?_ | refine List.mem_append_right _ ?_)) rfl) rfl (by decide) ?_
  refine TL.call rfl Tb.gofn_61 (fun a w hs => rsquares_ok w m ho) rfl (by decide) (fun _ _ => ?_)
  refine TL.pure (PV.lss rfl rfl) rfl (by decide) ?_
  refine TL.nil ?_
  refine TQ.thenC ?_
  first | refine TC.condD rfl (fun hlt => ?_) (fun hlt => ?_) | refine TC.cond rfl (fun hlt => ?_) (fun hlt => ?_)
  · skip
    refine TC.skip ?_
    refine TQ.thenC ?_
    refine TC.seq ?_
    refine TC.block ?_
    refine TC.seq ?_
    refine TC.mix [true, true, true, false, true, true, false] _ 2 Tb.mixed rfl (by kernel_rfl) (by kernel_rfl) (by kernel_rfl) (by kernel_rfl) (List.Sublist.refl _) ?_
    refine TB.op (SOK.pure (PV.loadBox rfl Tb.agg_23 (by repeat (first | exact List.Mem.head _ | refine List.Mem.tail _ ?_ | refine List.mem_append_right _ ?_)) rfl) rfl) (by decide) ?_
    refine TB.op (SOK.pure (PV.move rfl) rfl) (by decide) ?_
    refine TB.op (SOK.pure (PV.move rfl) rfl) (by decide) ?_
    refine TB.no ?_
    refine TB.op (SOK.pure (PV.fieldAddr rfl Tb.fo_23_2) rfl) (by decide) ?_
    refine TB.op (SOK.pure (PV.load rfl Tb.one_3 (by repeat (first | exact List.Mem.head _ | refine List.Mem.tail _ ?_ | refine List.mem_append_right _ ?_)) rfl) rfl) (by decide) ?_
    refine TB.no ?_
    refine TB.fin ?_
    refine TX.step [3] (by kernel_rfl) (by decide) ⟨⟨_, rfl, ?_⟩, trivial⟩
    refine TL.call rfl Tb.gofn_75 (fun a w hs => around_ok w m ho S hS63 k (by omega)) rfl (by decide) (fun _ _ => ?_)
    refine TL.nil ?_
    refine TX.next (.inl (by repeat (first | exact List.Sublist.slnil | exact List.nil_sublist _ | exact List.Sublist.refl _ | refine List.Sublist.cons_cons _ ?_ | refine List.Sublist.cons _ ?_ | refine List.Sublist.trans ?_ (List.sublist_append_right _ _)))) ?_
    refine TX.step [6] (by kernel_rfl) (by decide) ⟨⟨_, rfl, ?_⟩, trivial⟩
    refine TL.pure (PV.geq rfl rfl) rfl (by decide) ?_
    refine TL.nil ?_
    refine TX.next (.inl (by repeat (first | exact List.Sublist.slnil | exact List.nil_sublist _ | exact List.Sublist.refl _ | refine List.Sublist.cons_cons _ ?_ | refine List.Sublist.cons _ ?_ | refine List.Sublist.trans ?_ (List.sublist_append_right _ _)))) ?_
    refine TX.done (by kernel_rfl) ?_
    refine TQ.thenC ?_
    first | refine TC.condD rfl (fun hge => ?_) (fun hge => ?_) | refine TC.cond rfl (fun hge => ?_) (fun hge => ?_)
    · skip
      have hst := stR_yes (k := k) hge
      have hsl := set63 ho (stR_lt (m := m) hS hk)
      refine TC.region ?_
      refine TL.pure (PV.move rfl) rfl (by decide) ?_
      refine TL.pure (PV.move rfl) rfl (by decide) ?_
      refine TL.pure (PV.conv Tb.int_3 Tb.int_43 rfl (conv_u (by omega))) rfl (by decide) ?_
      refine TL.pure (PV.shlK rfl rfl (by omega) (by omega) (shl_nat (by omega))) rfl (by decide) ?_
      refine TL.pure (PV.orK rfl rfl (i64_or_nat hsl (p63 (by omega)))) rfl (by decide) ?_
      refine TL.pure (PV.assign rfl) rfl (by decide) ?_
      refine TL.nil ?_
      refine TQ.blkN ?_
      refine TQ.thenC ?_
      refine TC.region ?_
      refine TL.pure (PV.move rfl) rfl (by decide) ?_
      refine TL.pure (PV.add rfl rfl (by omega)) rfl (by decide) ?_
      refine TL.pure (PV.assign rfl) rfl (by decide) ?_
      refine TL.nil ?_
      refine TQ.thenN ?_
      refine TQ.backK (k + 1) (by refine And.intro ?_ (And.intro rfl True.intro); show some _ = some _; rw [hst]) (by repeat (first | exact True.intro | refine And.intro rfl ?_)) (by repeat (first | exact List.Sublist.slnil | exact List.nil_sublist _ | exact List.Sublist.refl _ | refine List.Sublist.cons_cons _ ?_ | refine List.Sublist.cons _ ?_ | refine List.Sublist.trans ?_ (List.sublist_append_right _ _))) (by omega) (by omega)
    · skip
      have hst := stR_no (k := k) hge
      refine TC.skip ?_
      refine TQ.blkN ?_
      refine TQ.thenC ?_
      refine TC.region ?_
      refine TL.pure (PV.move rfl) rfl (by decide) ?_
      refine TL.pure (PV.add rfl rfl (by omega)) rfl (by decide) ?_
      refine TL.pure (PV.assign rfl) rfl (by decide) ?_
      refine TL.nil ?_
      refine TQ.thenN ?_
      refine TQ.backK (k + 1) (by refine And.intro ?_ (And.intro rfl True.intro); show some _ = some _; rw [hst]) (by repeat (first | exact True.intro | refine And.intro rfl ?_)) (by repeat (first | exact List.Sublist.slnil | exact List.nil_sublist _ | exact List.Sublist.refl _ | refine List.Sublist.cons_cons _ ?_ | refine List.Sublist.cons _ ?_ | refine List.Sublist.trans ?_ (List.sublist_append_right _ _))) (by omega) (by omega)
  · skip
    refine TC.exit ?_
    refine TQ.thenE ?_
    refine TQ.thenE ?_
    refine TQ.blkS ?_
    refine TQ.thenC ?_
    refine TC.seq ?_
    have hke : k = m.N := by omega
    refine TC.region ?_
    refine TL.pure (PV.move rfl) rfl (by decide) ?_
    refine TL.pure (PV.assign rfl) rfl (by decide) ?_
    refine TL.nil ?_
    refine TQ.thenC ?_
    refine TC.ret ?_
    refine TQ.retE1 rfl rfl ?_
    exact ⟨(), by rw [hke, stR_all], trivial, List.nil_sublist _⟩

set_option maxRecDepth 100000 in
theorem rspread_ok (w0 : World) (m : Mo.Md) (ho : Mo.Ok m) (S : Nat) (hS : S < 2 ^ m.N) :
    Calls Tryd.prog 69 #[mV m, .int .i64 S] w0 (Post (X := Unit) (fun _ => .tuple #[.int .i64 (Mo.en m S : Nat), .int .i64 (Mo.dy m S : Nat)]) (fun _ => True) (fun _ => []) w0) := by
  have hN := ho.N36
  refine calls Tryd.func69 rfl (n := 19) rfl (by simp) ?_
  refine TC.seq ?_
  refine TC.region ?_
  refine TL.box rfl rfl (by decide) (fun b0 hb0 => ?_)
  refine TL.pure (PV.assign rfl) rfl (by decide) ?_
  refine TL.pure (PV.assign rfl) rfl (by decide) ?_
  refine TL.nil ?_
  refine TQ.thenC ?_
  refine TC.seq ?_
  refine TC.region ?_
  refine TL.pure (PV.assign rfl) rfl (by decide) ?_
  refine TL.nil ?_
  refine TQ.thenC ?_
  refine TC.seq ?_
  refine TC.block ?_
  refine TC.loopG [2, 4, 5] (X := Nat) (fun k => Dys m S k) (fun k => [(1, .int .i64 (Mo.it m S k : Nat)), (6, .int .i64 k)]) (fun k => m.N - k) 0 (Dys.zero m S) (by repeat (first | exact True.intro | refine And.intro rfl ?_)) ?_
  intro k hk
  have hkl := hk.le
  refine TC.seq ?_
  refine TC.seq ?_
  refine TC.region ?_
  refine TL.pure (PV.loadBox rfl Tb.agg_23 (by repeat (first | exact List.Mem.head _ | refine List.Mem.tail _ ?_ | refine List.mem_append_right _ ?_)) rfl) rfl (by decide) ?_
  refine TL.pure (PV.move rfl) rfl (by decide) ?_
  refine TL.call rfl Tb.gofn_67 (fun a w hs => rstep_ok w m ho _ (Mo.it_lt hS k)) rfl (by decide) (fun _ _ => ?_)
  refine TL.pure (PV.move rfl) rfl (by decide) ?_
  refine TL.pure (PV.neq rfl rfl) rfl (by decide) ?_
  refine TL.nil ?_
  refine TQ.thenC ?_
  first | refine TC.condD rfl (fun hne => ?_) (fun hne => ?_) | refine TC.cond rfl (fun hne => ?_) (fun hne => ?_)
  · skip
    have hk9 := hk.next ho hS (fun e => by have := Mo.stp_ne.2 e; omega)
    refine TC.skip ?_
    refine TQ.thenC ?_
    refine TC.block ?_
    refine TC.seq ?_
    refine TC.region ?_
    refine TL.pure (PV.loadBox rfl Tb.agg_23 (by repeat (first | exact List.Mem.head _ | refine List.Mem.tail _ ?_ | refine List.mem_append_right _ ?_)) rfl) rfl (by decide) ?_
    refine TL.pure (PV.move rfl) rfl (by decide) ?_
    refine TL.call rfl Tb.gofn_67 (fun a w hs => rstep_ok w m ho _ (Mo.it_lt hS k)) rfl (by decide) (fun _ _ => ?_)
    refine TL.pure (PV.assign rfl) rfl (by decide) ?_
    refine TL.nil ?_
    refine TQ.thenC ?_
    refine TC.region ?_
    refine TL.pure (PV.move rfl) rfl (by decide) ?_
    refine TL.pure (PV.add rfl rfl (by omega)) rfl (by decide) ?_
    refine TL.pure (PV.assign rfl) rfl (by decide) ?_
    refine TL.nil ?_
    refine TQ.blkN ?_
    refine TQ.thenN ?_
    refine TQ.backK (k + 1) (by repeat (first | exact True.intro | refine And.intro rfl ?_)) (by repeat (first | exact True.intro | refine And.intro rfl ?_)) (by repeat (first | exact List.Sublist.slnil | exact List.nil_sublist _ | exact List.Sublist.refl _ | refine List.Sublist.cons_cons _ ?_ | refine List.Sublist.cons _ ?_ | refine List.Sublist.trans ?_ (List.sublist_append_right _ _))) hk9 (by have := hk9.le; omega)
  · skip
    refine TC.exit ?_
    refine TQ.thenE ?_
    refine TQ.thenE ?_
    refine TQ.blkS ?_
    refine TQ.thenC ?_
    refine TC.seq ?_
    have hsp := spread_eq ho hS (Mo.stp_ne.1 (show Mo.stp m (Mo.it m S k) = Mo.it m S k by omega)) hk.go
    refine TC.region ?_
    refine TL.pure (PV.move rfl) rfl (by decide) ?_
    refine TL.pure (PV.move rfl) rfl (by decide) ?_
    refine TL.pure (PV.assign rfl) rfl (by decide) ?_
    refine TL.pure (PV.assign rfl) rfl (by decide) ?_
    refine TL.nil ?_
    refine TQ.thenC ?_
    refine TC.ret ?_
    refine TQ.retE2 rfl rfl rfl ?_
    exact ⟨(), by rw [hsp.2, ← hsp.1], trivial, List.nil_sublist _⟩

end Go.Proofs.YtaeobkgogipceaaDoor
