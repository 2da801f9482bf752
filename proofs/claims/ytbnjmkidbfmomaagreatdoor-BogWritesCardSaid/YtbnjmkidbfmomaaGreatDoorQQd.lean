/- What becomes wet in a step, and to the end: contracts. -/
import Derived.Test.YtbnjmkidbfmomaaGreatDoorQQc
set_option linter.unusedVariables false
set_option linter.unusedSimpArgs false
namespace Go.Proofs.YtbnjmkidbfmomaaGreatDoor.M
open Go.Sx Go.RowKit

section
variable {P : Program} {n : Nat} {w0 : World} {E : Env} {G : Heap} {d : Option Nat} {ty : TypeId} {pos : String} {aft : Array Edge} {g : Option (Nat × Bool)}
theorem PV.loadW {x : Operand} {p : Addr} {t : Nat} {v : Value} (hx : evo E x = some (.pointer (some p))) (ht : oneB P t = true)
    (hv : ∀ w, New w0 w G → w.cell? p = some v) : PV P n w0 E G ⟨d, .load t x, ty, pos, aft, g⟩ v :=
  fun a w hs => by
    have hc := hv w hs.new
    unfold oneB at ht
    simp only [execOp, hs.ev hx]
    cases hu : P.underlying t with
    | none => simp [hu] at ht
    | some u => cases u <;> first | (simp [hu] at ht; done) | simp [Instr.loadAt, Instr.sureAddr, loadVar, isAgg, run_underlying hu, hc]
end
theorem fill_i (v : Int) : Instr.fill (fun i => some (i * 1, 1)) ((Array.range (1 * 1)).map ((Value.int .i64 0).cells[· % (Value.int .i64 0).cells.size]!)) [(0, .int .i64 v)] = some #[.int .i64 v] := by kernel_rfl
theorem goI_nil : goI (none, []) := ⟨rfl, rfl⟩
theorem RdI.g {h : HD} {xs : List Int} (ho : goI (h, xs)) : RdI xs (gval h xs.length, gbI (h, xs)) := by
  refine ⟨gp h, gc h, gval_eq ho, fun hne => ?_, fun w0 w G hn hm => IntsAt.g (x := (h, xs)) hn hm ho⟩
  obtain _ | ⟨b, cap, sp⟩ := h
  · have h2 : xs.length = 0 := ho.2
    exact absurd (List.length_eq_zero_iff.1 h2) hne
  · exact ⟨_, rfl⟩
theorem RdI.at {xs : List Int} {p : Option Addr} {G9 : Heap} (hs : xs ≠ [] → ∃ q, p = some q) (hi : ∀ (w0 w : World) (G : Heap), New w0 w G → (∀ y ∈ G9, y ∈ G) → IntsAt w p xs) {j : Nat} (hj : j < xs.length) :
    ∃ q, p = some q ∧ ∀ (w0 w : World) (G : Heap), New w0 w G → (∀ y ∈ G9, y ∈ G) → w.cell? (q.add (j * 1)) = some (.int .i64 (xs.getD j 0)) := by
  obtain ⟨q, hq⟩ := hs (fun e => by rw [e] at hj; cases hj)
  refine ⟨q, hq, fun w0 w G hn hm => ?_⟩
  obtain ⟨q', hq', hc⟩ := hi w0 w G hn hm j hj
  rw [hq] at hq'
  obtain rfl := Option.some.inj hq'
  exact hc
/-- The neighbors below a number. -/
def nbF (m : Mo.Md) (s j : Nat) : List Nat := (List.range j).filter (Mo.adj m.C s)
/-- The reference's step, square by square. -/
def stR (m : Mo.Md) (S k : Nat) : Nat := S ||| Mo.msk k fun s => decide (m.K ≤ Mo.ar m S s)
/-- The first k days. -/
structure Dys (m : Mo.Md) (S k : Nat) : Prop where
  le : k ≤ m.N
  go : ∀ j, j < k → Mo.rdy m (Mo.it m S j) ≠ 0
theorem Dys.zero (m : Mo.Md) (S : Nat) : Dys m S 0 := ⟨Nat.zero_le _, fun j hj => absurd hj (Nat.not_lt_zero _)⟩
theorem Dys.next {m : Mo.Md} (ho : Mo.Ok m) {S k : Nat} (hS : S < 2 ^ m.N) (h : Dys m S k) (hr : Mo.rdy m (Mo.it m S k) ≠ 0) : Dys m S (k + 1) := by
  have hk : ∀ j, j < k + 1 → Mo.rdy m (Mo.it m S j) ≠ 0 := fun j hj => by
    by_cases e : j = k
    · rw [e]; exact hr
    · exact h.go j (by omega)
  exact ⟨Mo.it_bound ho hS hk, hk⟩
theorem rdy63 {m : Mo.Md} (ho : Mo.Ok m) (S : Nat) : Mo.rdy m S < 9223372036854775808 := set63 ho (Mo.rdy_lt m S)
theorem or_step {m : Mo.Md} (ho : Mo.Ok m) {S : Nat} (hS : S < 2 ^ m.N) : bits .or .i64 (S : Int) ((Mo.rdy m S : Nat) : Int) = ((Mo.stp m S : Nat) : Int) := i64_or_nat (set63 ho hS) (rdy63 ho S)

set_option maxRecDepth 100000 in
set_option maxHeartbeats 1000000 in
theorem ready_ok (w0 : World) (ht : TzAt w0) (m : Mo.Md) (ho : Mo.Ok m) (S : Nat) (hS : S < 2 ^ m.N) :
    Calls Tryz.prog 212 #[mV m, .int .i64 S] w0 (Post (X := Unit) (fun _ => .int .i64 (Mo.rdy m S : Nat)) (fun _ => True) (fun _ => []) w0) := by
  have hS63 := set63 ho hS
  have hf63 := full_63 ho
  have hd := Mo.co_lt m S
  have hd63 := set63 ho hd
  have hN := ho.N36
  refine callsRF Tryz.func212 rfl (n := 25) rfl (by simp) ?_
  refine TC.seq ?_
  refine TC.region ?_
  refine TL.box rfl rfl (by decide) (fun b0 hb0 => ?_)
  refine TL.box rfl rfl (by decide) (fun b1 hb1 => ?_)
  refine TL.pure (PV.assign rfl) rfl (by decide) ?_
  refine TL.nil ?_
  refine TQ.thenC ?_
  refine TC.seq ?_
  refine TC.region ?_
  refine TL.alloc Tb.zero_3 rfl (by decide) (fun b2 hb2 => ?_)
  refine TL.store rfl rfl Tb.cells_3 rfl (by repeat (first | exact Upd.head _ | apply Upd.tail | apply Upd.appR)) (by first | decide | (simp; done) | (simp; omega) | omega) rfl rfl ?_
  refine TL.nil ?_
  refine TQ.thenC ?_
  refine TC.seq ?_
  refine TC.seq ?_
  refine TC.mix [true, false, true, false, false] [(b2, Obj.cells #[.int .i64 0] 3 (0, 0)), (b1, Obj.cells #[.int .i64 (S : Nat)] 3 (0, 0)), (b0, Obj.cells #[.int .i64 m.R, .int .i64 m.C, .int .i64 m.K] 52 (0, 0))] 3 Tb.mixed rfl (by kernel_rfl) (by kernel_rfl) (by kernel_rfl) (by kernel_rfl) (by repeat (first | exact .slnil | exact List.nil_sublist _ | exact .refl _ | refine .cons_cons _ ?_ | refine .cons _ ?_ | refine .trans ?_ (List.sublist_append_right _ _))) ?_
  refine TB.op (SOK.pure (PV.loadBox rfl Tb.agg_52 (by repeat (first | exact List.Mem.head _ | refine List.Mem.tail _ ?_ | refine List.mem_append_right _ ?_)) rfl) rfl) (by decide) ?_
  refine TB.no ?_
  refine TB.op (SOK.pure (PV.load rfl Tb.one_3 (by repeat (first | exact List.Mem.head _ | refine List.Mem.tail _ ?_ | refine List.mem_append_right _ ?_)) rfl) rfl) (by decide) ?_
  refine TB.no ?_
  refine TB.no ?_
  refine TB.fin ?_
  refine TX.step [1] (by kernel_rfl) (by decide) ⟨⟨_, rfl, ?_⟩, trivial⟩
  refine TL.call rfl Tb.gofn_234 (fun a w hs => all_ok w m ho) rfl (by decide) (fun _ _ => ?_)
  refine TL.nil ?_
  refine TX.next (.inl (by repeat (first | exact .slnil | exact List.nil_sublist _ | exact .refl _ | refine .cons_cons _ ?_ | refine .cons _ ?_ | refine .trans ?_ (List.sublist_append_right _ _)))) ?_
  refine TX.step [3] (by kernel_rfl) (by decide) ⟨⟨_, rfl, ?_⟩, trivial⟩
  refine TL.pure (PV.andNotK rfl rfl (i64_andNot_nat hf63 hS63)) rfl (by decide) ?_
  refine TL.nil ?_
  refine TX.next (.inl (by repeat (first | exact .slnil | exact List.nil_sublist _ | exact .refl _ | refine .cons_cons _ ?_ | refine .cons _ ?_ | refine .trans ?_ (List.sublist_append_right _ _)))) ?_
  refine TX.step [4] (by kernel_rfl) (by decide) ⟨⟨_, rfl, ?_⟩, trivial⟩
  refine TL.call rfl Tb.gofn_235 (fun a w hs => squares_ok w (Mo.dif (Mo.full m) S)) rfl (by decide) (fun bx hbx => ?_)
  refine TL.nil ?_
  refine TX.next (.inl (by repeat (first | exact .slnil | exact List.nil_sublist _ | exact .refl _ | refine .cons_cons _ ?_ | refine .cons _ ?_ | refine .trans ?_ (List.sublist_append_right _ _)))) ?_
  refine TX.done (by kernel_rfl) ?_
  refine TQ.thenC ?_
  refine TC.block ?_
  refine TC.rangeFunc (encs := fun s : Nat => [.int .i64 s]) (kept := [(bx, Obj.cells #[.int .i64 (Mo.dif (Mo.full m) S : Nat)] 3 (0, 0))]) (α := Nat) (X := Nat) (Y := Unit) (Z := Nat) (ps := [12]) (fun pre s => s = orL (fun q => decide (m.K ≤ Mo.ar m S q)) pre) (fun s => [(bx, Obj.cells #[.int .i64 (Mo.dif (Mo.full m) S : Nat)] 3 (0, 0)), (b2, Obj.cells #[.int .i64 (s : Nat)] 3 (0, 0)), (b1, Obj.cells #[.int .i64 (S : Nat)] 3 (0, 0)), (b0, Obj.cells #[.int .i64 m.R, .int .i64 m.C, .int .i64 m.K] 52 (0, 0))]) (fun pre y => False) (fun y => []) 0 (fun x s z => z = s) (fun x z => [(6, .int .i64 x), (2, .pointer (some ⟨b0, 0, none⟩)), (3, .pointer (some ⟨b1, 0, none⟩)), (5, .pointer (some ⟨b2, 0, none⟩))]) (fun x z => [(bx, Obj.cells #[.int .i64 (Mo.dif (Mo.full m) S : Nat)] 3 (0, 0)), (b2, Obj.cells #[.int .i64 (z : Nat)] 3 (0, 0)), (b1, Obj.cells #[.int .i64 (S : Nat)] 3 (0, 0)), (b0, Obj.cells #[.int .i64 m.R, .int .i64 m.C, .int .i64 m.K] 52 (0, 0))]) rfl Tb.gofn_246 (squares_it w0 ht _ hd63 bx) (fun _ => rfl) (by decide) rfl (by repeat (first | exact .slnil | exact List.nil_sublist _ | exact .refl _ | refine .cons_cons _ ?_ | refine .cons _ ?_ | refine .trans ?_ (List.sublist_append_right _ _))) (fun s q hq => by simp only [List.mem_cons, List.not_mem_nil, or_false] at hq; subst hq; exact List.Mem.head _) ?_ ?_ ?_ ?_
  · intro lR TR pre x s hp_ hF_
    refine TG.region (by repeat (first | with_reducible exact RB.lo | with_reducible exact QN.lo | with_reducible exact bodyM_lo | with_reducible exact bodyP_lo | with_reducible apply lo_then | with_reducible apply lo_blk)) (by kernel_rfl) ?_
    refine TL.pure (PV.assign rfl) rfl (by decide) ?_
    refine TL.nil ?_
    refine TQ.gmid s rfl (by repeat (first | exact True.intro | refine And.intro rfl ?_)) (List.Sublist.refl _)
  · intro lR TR pre x s z hp_ hF_ hz_
    obtain rfl : s = z := hz_.symm
    have hmem := pre_mem hp_
    have hxN := sq_lt ho hd hmem
    have hall : ∀ q ∈ pre ++ [x], q < m.N := fun q hq => sq_lt ho hd (hp_.subset hq)
    have hs63 : s < 9223372036854775808 := by rw [hF_]; exact set63 ho (orL_lt fun q hq => hall q (List.mem_append_left _ hq))
    have hsn := orL_snoc (fun q => decide (m.K ≤ Mo.ar m S q)) pre x
    refine TG.block ?_
    refine TG.seq ?_
    refine TG.mix (by repeat (first | with_reducible exact RB.lo | with_reducible exact QN.lo | with_reducible exact bodyM_lo | with_reducible exact bodyP_lo | with_reducible apply lo_then | with_reducible apply lo_blk)) (by kernel_rfl) [true, true, true, false, true, true, false] [(bx, Obj.cells #[.int .i64 (Mo.dif (Mo.full m) S : Nat)] 3 (0, 0)), (b2, Obj.cells #[.int .i64 (s : Nat)] 3 (0, 0)), (b1, Obj.cells #[.int .i64 (S : Nat)] 3 (0, 0)), (b0, Obj.cells #[.int .i64 m.R, .int .i64 m.C, .int .i64 m.K] 52 (0, 0))] 2 Tb.mixed rfl (by kernel_rfl) (by kernel_rfl) (by kernel_rfl) (by kernel_rfl) (by repeat (first | exact .slnil | exact List.nil_sublist _ | exact .refl _ | refine .cons_cons _ ?_ | refine .cons _ ?_ | refine .trans ?_ (List.sublist_append_right _ _))) ?_
    refine TB.op (SOK.pure (PV.loadBox rfl Tb.agg_52 (by repeat (first | exact List.Mem.head _ | refine List.Mem.tail _ ?_ | refine List.mem_append_right _ ?_)) rfl) rfl) (by decide) ?_
    refine TB.op (SOK.pure (PV.move rfl) rfl) (by decide) ?_
    refine TB.op (SOK.pure (PV.load rfl Tb.one_3 (by repeat (first | exact List.Mem.head _ | refine List.Mem.tail _ ?_ | refine List.mem_append_right _ ?_)) rfl) rfl) (by decide) ?_
    refine TB.no ?_
    refine TB.op (SOK.pure (PV.fieldAddr rfl Tb.fo_52_2) rfl) (by decide) ?_
    refine TB.op (SOK.pure (PV.load rfl Tb.one_3 (by repeat (first | exact List.Mem.head _ | refine List.Mem.tail _ ?_ | refine List.mem_append_right _ ?_)) rfl) rfl) (by decide) ?_
    refine TB.no ?_
    refine TB.fin ?_
    refine TX.step [3] (by kernel_rfl) (by decide) ⟨⟨_, rfl, ?_⟩, trivial⟩
    refine TL.call rfl Tb.gofn_236 (fun a w hs => beside_ok w m ho _ hxN S hS63) rfl (by decide) (fun _ _ => ?_)
    refine TL.nil ?_
    refine TX.next (.inl (by repeat (first | exact .slnil | exact List.nil_sublist _ | exact .refl _ | refine .cons_cons _ ?_ | refine .cons _ ?_ | refine .trans ?_ (List.sublist_append_right _ _)))) ?_
    refine TX.step [6] (by kernel_rfl) (by decide) ⟨⟨_, rfl, ?_⟩, trivial⟩
    refine TL.pure (PV.geq rfl rfl) rfl (by decide) ?_
    refine TL.nil ?_
    refine TX.next (.inl (by repeat (first | exact .slnil | exact List.nil_sublist _ | exact .refl _ | refine .cons_cons _ ?_ | refine .cons _ ?_ | refine .trans ?_ (List.sublist_append_right _ _)))) ?_
    refine TX.done (by kernel_rfl) ?_
    refine TQ.thenG ?_
    first | refine TG.condD rfl (fun hge => ?_) (fun hge => ?_) | refine TG.cond rfl (fun hge => ?_) (fun hge => ?_)
    · refine TG.mix (by repeat (first | with_reducible exact RB.lo | with_reducible exact QN.lo | with_reducible exact bodyM_lo | with_reducible exact bodyP_lo | with_reducible apply lo_then | with_reducible apply lo_blk)) (by kernel_rfl) [false, true, false, false, false] [(bx, Obj.cells #[.int .i64 (Mo.dif (Mo.full m) S : Nat)] 3 (0, 0)), (b1, Obj.cells #[.int .i64 (S : Nat)] 3 (0, 0)), (b0, Obj.cells #[.int .i64 m.R, .int .i64 m.C, .int .i64 m.K] 52 (0, 0))] 4 Tb.mixed rfl (by kernel_rfl) (by kernel_rfl) (by kernel_rfl) (by kernel_rfl) (by repeat (first | exact .slnil | exact List.nil_sublist _ | exact .refl _ | refine .cons_cons _ ?_ | refine .cons _ ?_ | refine .trans ?_ (List.sublist_append_right _ _))) ?_
      refine TB.no ?_
      refine TB.op (SOK.pure (PV.move rfl) rfl) (by decide) ?_
      refine TB.no ?_
      refine TB.no ?_
      refine TB.no ?_
      refine TB.fin ?_
      refine TX.step [0, 2] (by kernel_rfl) (by decide) ⟨⟨_, rfl, ?_⟩, ⟨_, rfl, ?_⟩, trivial⟩
      · refine TL.pure (PV.load rfl Tb.one_3 (by repeat (first | exact List.Mem.head _ | refine List.Mem.tail _ ?_ | refine List.mem_append_right _ ?_)) rfl) rfl (by decide) ?_
        refine TL.nil ?_
        refine TX.next (.inl (by repeat (first | exact .slnil | exact List.nil_sublist _ | exact .refl _ | refine .cons_cons _ ?_ | refine .cons _ ?_ | refine .trans ?_ (List.sublist_append_right _ _)))) ?_
        refine TX.step [2] (by kernel_rfl) (by decide) ⟨⟨_, rfl, ?_⟩, trivial⟩
        refine TL.call rfl Tb.gofn_237 (fun a w hs => only_ok w _ (by omega)) rfl (by decide) (fun _ _ => ?_)
        refine TL.nil ?_
        refine TX.next (.inr (by kernel_rfl)) ?_
        refine TX.step [3] (by kernel_rfl) (by decide) ⟨⟨_, rfl, ?_⟩, trivial⟩
        refine TL.pure (PV.orK rfl rfl (i64_or_nat hs63 (p63 (by omega)))) rfl (by decide) ?_
        refine TL.nil ?_
        refine TX.next (.inl (by repeat (first | exact .slnil | exact List.nil_sublist _ | exact .refl _ | refine .cons_cons _ ?_ | refine .cons _ ?_ | refine .trans ?_ (List.sublist_append_right _ _)))) ?_
        refine TX.step [4] (by kernel_rfl) (by decide) ⟨⟨_, rfl, ?_⟩, trivial⟩
        refine TL.store rfl rfl Tb.cells_3 rfl (by repeat (first | exact Upd.head _ | apply Upd.tail | apply Upd.appR)) (by first | decide | (simp; done) | (simp; omega) | omega) rfl rfl ?_
        refine TL.nil ?_
        refine TX.next (.inr (by kernel_rfl)) ?_
        refine TX.done (by kernel_rfl) ?_
        refine TQ.gblkN ?_
        first
          | (refine TQ.goOn (s ||| 2 ^ x) ?_ (by repeat (first | exact .slnil | exact List.nil_sublist _ | exact .refl _ | refine .cons_cons _ ?_ | refine .cons _ ?_ | refine .trans ?_ (List.sublist_append_right _ _)))
             rw [hsn, if_pos (decide_eq_true (by omega)), ← hF_]; done)
          | (refine TQ.goOn s ?_ (by repeat (first | exact .slnil | exact List.nil_sublist _ | exact .refl _ | refine .cons_cons _ ?_ | refine .cons _ ?_ | refine .trans ?_ (List.sublist_append_right _ _)))
             rw [hsn, if_neg (by rw [decide_eq_true_eq]; omega), ← hF_]; done)
      · refine TL.call rfl Tb.gofn_237 (fun a w hs => only_ok w _ (by omega)) rfl (by decide) (fun _ _ => ?_)
        refine TL.nil ?_
        refine TX.next (.inr (by kernel_rfl)) ?_
        refine TX.step [0] (by kernel_rfl) (by decide) ⟨⟨_, rfl, ?_⟩, trivial⟩
        refine TL.pure (PV.load rfl Tb.one_3 (by repeat (first | exact List.Mem.head _ | refine List.Mem.tail _ ?_ | refine List.mem_append_right _ ?_)) rfl) rfl (by decide) ?_
        refine TL.nil ?_
        refine TX.next (.inl (by repeat (first | exact .slnil | exact List.nil_sublist _ | exact .refl _ | refine .cons_cons _ ?_ | refine .cons _ ?_ | refine .trans ?_ (List.sublist_append_right _ _)))) ?_
        refine TX.step [3] (by kernel_rfl) (by decide) ⟨⟨_, rfl, ?_⟩, trivial⟩
        refine TL.pure (PV.orK rfl rfl (i64_or_nat hs63 (p63 (by omega)))) rfl (by decide) ?_
        refine TL.nil ?_
        refine TX.next (.inl (by repeat (first | exact .slnil | exact List.nil_sublist _ | exact .refl _ | refine .cons_cons _ ?_ | refine .cons _ ?_ | refine .trans ?_ (List.sublist_append_right _ _)))) ?_
        refine TX.step [4] (by kernel_rfl) (by decide) ⟨⟨_, rfl, ?_⟩, trivial⟩
        refine TL.store rfl rfl Tb.cells_3 rfl (by repeat (first | exact Upd.head _ | apply Upd.tail | apply Upd.appR)) (by first | decide | (simp; done) | (simp; omega) | omega) rfl rfl ?_
        refine TL.nil ?_
        refine TX.next (.inr (by kernel_rfl)) ?_
        refine TX.done (by kernel_rfl) ?_
        refine TQ.gblkN ?_
        first
          | (refine TQ.goOn (s ||| 2 ^ x) ?_ (by repeat (first | exact .slnil | exact List.nil_sublist _ | exact .refl _ | refine .cons_cons _ ?_ | refine .cons _ ?_ | refine .trans ?_ (List.sublist_append_right _ _)))
             rw [hsn, if_pos (decide_eq_true (by omega)), ← hF_]; done)
          | (refine TQ.goOn s ?_ (by repeat (first | exact .slnil | exact List.nil_sublist _ | exact .refl _ | refine .cons_cons _ ?_ | refine .cons _ ?_ | refine .trans ?_ (List.sublist_append_right _ _)))
             rw [hsn, if_neg (by rw [decide_eq_true_eq]; omega), ← hF_]; done)
    · refine TG.skip ?_
      refine TQ.gblkN ?_
      first
        | (refine TQ.goOn (s ||| 2 ^ x) ?_ (by repeat (first | exact .slnil | exact List.nil_sublist _ | exact .refl _ | refine .cons_cons _ ?_ | refine .cons _ ?_ | refine .trans ?_ (List.sublist_append_right _ _)))
           rw [hsn, if_pos (decide_eq_true (by omega)), ← hF_]; done)
        | (refine TQ.goOn s ?_ (by repeat (first | exact .slnil | exact List.nil_sublist _ | exact .refl _ | refine .cons_cons _ ?_ | refine .cons _ ?_ | refine .trans ?_ (List.sublist_append_right _ _)))
           rw [hsn, if_neg (by rw [decide_eq_true_eq]; omega), ← hF_]; done)
  · intro dB lB oB xs_ s hD_ hF_
    have hs9 : s = Mo.rdy m S := by rw [hF_, hD_]; exact rdy_fold ho
    refine TQ.gblkN ?_
    refine TQ.thenD ?_
    refine TG.seq ?_
    refine TG.region (by repeat (first | with_reducible exact RB.lo | with_reducible exact QN.lo | with_reducible exact bodyM_lo | with_reducible exact bodyP_lo | with_reducible apply lo_then | with_reducible apply lo_blk)) (by kernel_rfl) ?_
    refine TL.pure (PV.load rfl Tb.one_3 (by repeat (first | exact List.Mem.head _ | refine List.Mem.tail _ ?_ | refine List.mem_append_right _ ?_)) rfl) rfl (by decide) ?_
    refine TL.pure (PV.assign rfl) rfl (by decide) ?_
    refine TL.nil ?_
    refine TQ.thenG ?_
    refine TG.ret ?_
    refine TQ.retM (by repeat (first | exact Take.head _ | apply Take.tail | apply Take.appR)) ?_
    refine TQ.retE1 rfl rfl ?_
    exact ⟨(), by rw [hs9], trivial, List.nil_sublist _⟩
  · intro dB lB oB xs_ y hP_ hF_
    exact hF_.elim

end Go.Proofs.YtbnjmkidbfmomaaGreatDoor.M
