/- The text of a meadow: contracts. -/
import Derived.Test.YtaeobkgogipceaaDoorQe
import Derived.Test.YtaeobkgogipceaaDoorTa
import Derived.Test.YtaeobkgogipceaaDoorLy
import Derived.Test.YtaeobkgogipceaaDoorPt
set_option linter.unusedVariables false
set_option linter.unusedSimpArgs false
namespace Go.Proofs.YtaeobkgogipceaaDoor
open Go.Sx Go.RowKit

theorem Tb.str_9 : Tryd.prog.underlying 9 = some .string := by kernel_rfl
section
variable {P : Program} {n : Nat} {w0 : World} {E : Env} {G : Heap} {d : Option Nat} {ty : TypeId} {pos : String} {aft : Array Edge} {g : Option (Nat × Bool)}
theorem PV.neqK {k : IntKind} {x y : Operand} {i j : Int} {t t' : TypeId} (hx : evo E x = some (.int k i)) (hy : evo E y = some (.int k j)) : PV P n w0 E G ⟨d, .binOp .neq t x y t', ty, pos, aft, g⟩ (.bool (decide (i ≠ j))) :=
  fun a w hs => by simp only [execOp, hs.ev hx, hs.ev hy]; cases k <;> (simp [go_sem, bne]; rw [Bool.eq_iff_iff]; simp)
end
theorem itoa_ok (w : World) (k : Nat) (hk : k < 10) : Calls Tryd.prog 89 #[.int .i64 k] w (Post (X := Unit) (fun _ => str [Mo.dg k]) (fun _ => True) (fun _ => []) w) :=
  (Any.strconv_Itoa_small Tryd.itoaS k (by omega) w).mono fun _ _ ⟨he, hw⟩ => ⟨(), by rw [he, Mo.dec_dg hk]; rfl, trivial, by rw [hw]; exact New.refl w⟩
theorem fill_b (v : Int) : Instr.fill (fun i => some (i * 1, 1)) ((Array.range (1 * 1)).map ((Value.int .u8 0).cells[· % (Value.int .u8 0).cells.size]!)) [(0, .int .u8 v)] = some #[.int .u8 v] := by kernel_rfl
/-- The text with its first k marks and line feeds. -/
def tx (m : Mo.Md) (S k : Nat) : List UInt8 := Mo.hdr m ++ Mo.bd m S k
theorem tx_len (m : Mo.Md) (S k : Nat) : (tx m S k).length = 13 + k := by unfold tx; rw [List.length_append, Mo.hdr_len, Mo.bd_len]
theorem tx_succ (m : Mo.Md) (S k : Nat) : tx m S (k + 1) = tx m S k ++ [Mo.bf m S k] := by unfold tx; rw [Mo.bd_succ, List.append_assoc]
theorem tx_len' {m : Mo.Md} (ho : Mo.Ok m) (S : Nat) {k : Nat} (h : k ≤ 100) : (tx m S k).length + 1 ≤ 140737488355328 := by rw [tx_len]; omega
theorem row_bd {m : Mo.Md} (ho : Mo.Ok m) {r c : Nat} (hr : r < m.R) (hc : c ≤ m.C) : r * (m.C + 1) + c ≤ 100 := by
  have h1 : r * (m.C + 1) ≤ 5 * 7 := Nat.mul_le_mul (by have := ho.R6; omega) (by have := ho.C6; omega)
  have := ho.C6; omega
theorem sq_in {m : Mo.Md} {r c : Nat} (hr : r < m.R) (hc : c < m.C) : r * m.C + c < m.N := by
  have : (r + 1) * m.C ≤ m.R * m.C := Nat.mul_le_mul_right _ hr
  rw [Nat.succ_mul] at this
  show _ < m.R * m.C
  omega
theorem bf_h {m : Mo.Md} {S r c : Nat} (hc : c < m.C) (h : S.testBit (r * m.C + c) = true) : Mo.bf m S (r * (m.C + 1) + c) = 35 := by rw [Mo.bf_sq hc]; unfold Mo.mk; rw [if_pos h]
theorem bf_d {m : Mo.Md} {S r c : Nat} (hc : c < m.C) (h : S.testBit (r * m.C + c) = false) : Mo.bf m S (r * (m.C + 1) + c) = 46 := by rw [Mo.bf_sq hc]; unfold Mo.mk; rw [if_neg (by rw [h]; decide)]
theorem tx_row (m : Mo.Md) (S r : Nat) : tx m S ((r + 1) * (m.C + 1)) = tx m S (r * (m.C + 1) + m.C) ++ [10] := by
  have : (r + 1) * (m.C + 1) = r * (m.C + 1) + m.C + 1 := by rw [Nat.succ_mul]; omega
  rw [this, tx_succ, Mo.bf_nl]
/-- The reference's way: square by square. -/
def tr (m : Mo.Md) (S s : Nat) : List UInt8 := tx m S (s + s / m.C)
theorem tr_zero (m : Mo.Md) (S : Nat) : tr m S 0 = Mo.hdr m := by unfold tr; rw [Nat.zero_div]; exact List.append_nil _
theorem tr_len {m : Mo.Md} (ho : Mo.Ok m) {S s : Nat} (hs : s ≤ m.N) : (tr m S s).length ≤ 1000 := by
  unfold tr; rw [tx_len]
  have := ho.N36; have := Nat.div_le_self s m.C; omega
theorem tr_one {m : Mo.Md} (ho : Mo.Ok m) {S s : Nat} (hs : s < m.N) (h : s % m.C ≠ m.C - 1) : tr m S (s + 1) = tr m S s ++ [Mo.mk S s] := by
  have h36 := ho.N36
  have h1 := (Mo.st_fin m.C (by have := ho.C6; omega) s (by omega) (by have := ho.C1; omega)).2 h
  unfold tr
  rw [h1, tx_succ, (Mo.bf_at ho hs).1]
theorem tr_two {m : Mo.Md} (ho : Mo.Ok m) {S s : Nat} (hs : s < m.N) (h : s % m.C = m.C - 1) : tr m S (s + 1) = tr m S s ++ [Mo.mk S s] ++ [10] := by
  have h36 := ho.N36
  have h1 := (Mo.st_fin m.C (by have := ho.C6; omega) s (by omega) (by have := ho.C1; omega)).1 h
  unfold tr
  rw [h1.1, tx_succ, tx_succ, (Mo.bf_at ho hs).1, Mo.bf_10.2 h1.2]
theorem tr_end {m : Mo.Md} (ho : Mo.Ok m) (S : Nat) : tr m S m.N = Mo.fmt m S := by
  have h0 : 0 < m.C := ho.C1
  unfold tr
  have h1 : m.N / m.C = m.R := Nat.mul_div_cancel _ h0
  rw [h1]
  have h2 : m.N + m.R = m.R * (m.C + 1) := by rw [Nat.mul_succ]; rfl
  rw [h2]; rfl
/-- A text, if there is one. -/
def zT (r c k w : Int) : List UInt8 := if gI r c k w = 0 then Mo.fmt (Mo.mD r c k) w.toNat else []
theorem zT_no {r c k w : Int} (h : gI r c k w ≠ 0) : zT r c k w = [] := if_neg h
theorem zT_ok {m : Mo.Md} (ho : Mo.Ok m) {S : Nat} (hS : S < 2 ^ m.N) : zT m.R m.C m.K S = Mo.fmt m S := by
  unfold zT; rw [if_pos (gI_ok ho hS)]; rfl
theorem mk_h {S s : Nat} (h : S.testBit s = true) : Mo.mk S s = 35 := by unfold Mo.mk; rw [if_pos h]
theorem mk_d {S s : Nat} (h : S.testBit s = false) : Mo.mk S s = 46 := by unfold Mo.mk; rw [if_neg (by rw [h]; decide)]


set_option maxRecDepth 100000 in
set_option maxHeartbeats 1000000 in
theorem format_ok (w0 : World) (m : Mo.Md) (ho : Mo.Ok m) (S : Nat) (hS63 : S < 9223372036854775808) :
    Calls Tryd.prog 88 #[mV m, .int .i64 S] w0 (Post (X := Unit) (fun _ => str (Mo.fmt m S)) (fun _ => True) (fun _ => []) w0) := by
  have hN := ho.N36
  have hR6 := ho.R6
  have hC6 := ho.C6
  have hK3 := ho.K3
  refine calls Tryd.func88 rfl (n := 52) rfl (by simp) ?_
  refine TC.seq ?_
  refine TC.region ?_
  refine TL.box rfl rfl (by decide) (fun b0 hb0 => ?_)
  refine TL.pure (PV.assign rfl) rfl (by decide) ?_
  refine TL.nil ?_
  refine TQ.thenC ?_
  refine TC.seq ?_
  refine TC.mixV [true, true, false, true, true, true, true, false, true, true, true, true, false, true, true, false, true] [(b0, Obj.cells #[.int .i64 m.R, .int .i64 m.C, .int .i64 m.K] 23 (0, 0))] 17 Tb.mixed rfl (by kernel_rfl) (by kernel_rfl) (by kernel_rfl) (by kernel_rfl) (by repeat (first | exact List.Sublist.slnil | exact List.nil_sublist _ | exact List.Sublist.refl _ | refine List.Sublist.cons_cons _ ?_ | refine List.Sublist.cons _ ?_ | refine List.Sublist.trans ?_ (List.sublist_append_right _ _))) ?_
  refine TV.virt 0 rfl rfl (by decide) rfl (by kernel_rfl) (SOK.pure (PV.fieldAddr rfl Tb.fo_23_0) rfl) ?_
  refine TV.virt 1 rfl rfl (by decide) rfl (by kernel_rfl) (SOK.pure (PV.load rfl Tb.one_3 (by repeat (first | exact List.Mem.head _ | refine List.Mem.tail _ ?_ | refine List.mem_append_right _ ?_)) rfl) rfl) ?_
  refine TV.virt 5 rfl rfl (by decide) rfl (by kernel_rfl) (SOK.pure (PV.fieldAddr rfl Tb.fo_23_1) rfl) ?_
  refine TV.virt 6 rfl rfl (by decide) rfl (by kernel_rfl) (SOK.pure (PV.load rfl Tb.one_3 (by repeat (first | exact List.Mem.head _ | refine List.Mem.tail _ ?_ | refine List.mem_append_right _ ?_)) rfl) rfl) ?_
  refine TV.virt 10 rfl rfl (by decide) rfl (by kernel_rfl) (SOK.pure (PV.fieldAddr rfl Tb.fo_23_2) rfl) ?_
  refine TV.virt 11 rfl rfl (by decide) rfl (by kernel_rfl) (SOK.pure (PV.load rfl Tb.one_3 (by repeat (first | exact List.Mem.head _ | refine List.Mem.tail _ ?_ | refine List.mem_append_right _ ?_)) rfl) rfl) ?_
  refine TV.step [2] (by kernel_rfl) (by decide) rfl ⟨⟨_, rfl, ?_⟩, trivial⟩
  refine TL.call rfl Tb.gofn_89 (fun a w hs => itoa_ok w m.R (by omega)) rfl (by decide) (fun _ _ => ?_)
  refine TL.nil ?_
  refine TV.next (.inl (by repeat (first | exact List.Sublist.slnil | exact List.nil_sublist _ | exact List.Sublist.refl _ | refine List.Sublist.cons_cons _ ?_ | refine List.Sublist.cons _ ?_ | refine List.Sublist.trans ?_ (List.sublist_append_right _ _)))) ?_
  refine TV.virt 3 rfl rfl (by decide) rfl (by kernel_rfl) (SOK.pure (PV.addS rfl rfl (by first | omega | (simp; done) | (simp; omega))) rfl) ?_
  refine TV.virt 4 rfl rfl (by decide) rfl (by kernel_rfl) (SOK.pure (PV.addS rfl rfl (by first | omega | (simp; done) | (simp; omega))) rfl) ?_
  refine TV.step [7] (by kernel_rfl) (by decide) rfl ⟨⟨_, rfl, ?_⟩, trivial⟩
  refine TL.call rfl Tb.gofn_89 (fun a w hs => itoa_ok w m.C (by omega)) rfl (by decide) (fun _ _ => ?_)
  refine TL.nil ?_
  refine TV.next (.inl (by repeat (first | exact List.Sublist.slnil | exact List.nil_sublist _ | exact List.Sublist.refl _ | refine List.Sublist.cons_cons _ ?_ | refine List.Sublist.cons _ ?_ | refine List.Sublist.trans ?_ (List.sublist_append_right _ _)))) ?_
  refine TV.virt 8 rfl rfl (by decide) rfl (by kernel_rfl) (SOK.pure (PV.addS rfl rfl (by first | omega | (simp; done) | (simp; omega))) rfl) ?_
  refine TV.virt 9 rfl rfl (by decide) rfl (by kernel_rfl) (SOK.pure (PV.addS rfl rfl (by first | omega | (simp; done) | (simp; omega))) rfl) ?_
  refine TV.step [12] (by kernel_rfl) (by decide) rfl ⟨⟨_, rfl, ?_⟩, trivial⟩
  refine TL.call rfl Tb.gofn_89 (fun a w hs => itoa_ok w m.K (by omega)) rfl (by decide) (fun _ _ => ?_)
  refine TL.nil ?_
  refine TV.next (.inl (by repeat (first | exact List.Sublist.slnil | exact List.nil_sublist _ | exact List.Sublist.refl _ | refine List.Sublist.cons_cons _ ?_ | refine List.Sublist.cons _ ?_ | refine List.Sublist.trans ?_ (List.sublist_append_right _ _)))) ?_
  refine TV.virt 13 rfl rfl (by decide) rfl (by kernel_rfl) (SOK.pure (PV.addS rfl rfl (by first | omega | (simp; done) | (simp; omega))) rfl) ?_
  refine TV.virt 14 rfl rfl (by decide) rfl (by kernel_rfl) (SOK.pure (PV.addS rfl rfl (by first | omega | (simp; done) | (simp; omega))) rfl) ?_
  refine TV.step [15] (by kernel_rfl) (by decide) rfl ⟨⟨_, rfl, ?_⟩, trivial⟩
  refine TL.toBytes rfl Tb.str_9 Tb.sl_87 Tb.int_5 rfl (by decide) (fun hb0 hk0 => ?_)
  refine TL.nil ?_
  refine TV.next (.inl (by repeat (first | exact List.Sublist.slnil | exact List.nil_sublist _ | exact List.Sublist.refl _ | refine List.Sublist.cons_cons _ ?_ | refine List.Sublist.cons _ ?_ | refine List.Sublist.trans ?_ (List.sublist_append_right _ _)))) ?_
  refine TV.virt 16 rfl rfl (by decide) rfl (by kernel_rfl) (SOK.pure (PV.assign rfl) rfl) ?_
  refine TV.done (by kernel_rfl) ?_
  refine TQ.thenC ?_
  refine TC.seq ?_
  refine TC.seq ?_
  refine TC.region ?_
  refine TL.pure (PV.fieldAddr rfl Tb.fo_23_0) rfl (by decide) ?_
  refine TL.pure (PV.load rfl Tb.one_3 (by repeat (first | exact List.Mem.head _ | refine List.Mem.tail _ ?_ | refine List.mem_append_right _ ?_)) rfl) rfl (by decide) ?_
  refine TL.pure (PV.move rfl) rfl (by decide) ?_
  refine TL.nil ?_
  refine TQ.thenC ?_
  refine TC.block ?_
  refine TC.loopK [1, 2, 4, 26] (X := HB × Nat) (fun x => x.2 ≤ m.R ∧ bok x.1 (tx m S (x.2 * (m.C + 1)))) (fun x => [(5, (bvl x.1 (tx m S (x.2 * (m.C + 1))).length)), (27, .int .i64 x.2)]) (fun x => [(x.1.b, bob x.1 5 (tx m S (x.2 * (m.C + 1)))), (b0, Obj.cells #[.int .i64 m.R, .int .i64 m.C, .int .i64 m.K] 23 (0, 0))]) (fun x => m.R - x.2) (hb0, 0) ⟨Nat.zero_le _, by rw [Nat.zero_mul]; exact hk0⟩ (by refine And.intro ?_ (And.intro rfl True.intro); show some _ = some _; rw [Nat.zero_mul]; rfl) (by show List.Sublist [(_, bob _ 5 (tx m S (0 * _))), _] _; rw [Nat.zero_mul]; exact List.Sublist.refl _) ?_
  intro x hx
  refine TC.seq ?_
  refine TC.region ?_
  refine TL.pure (PV.lss rfl rfl) rfl (by decide) ?_
  refine TL.nil ?_
  refine TQ.thenC ?_
  refine TC.seq ?_
  first | refine TC.condD rfl (fun hr => ?_) (fun hr => ?_) | refine TC.cond rfl (fun hr => ?_) (fun hr => ?_)
  · skip
    refine TC.skip ?_
    refine TQ.thenC ?_
    refine TC.seq ?_
    refine TC.block ?_
    refine TC.seq ?_
    refine TC.region ?_
    refine TL.pure (PV.move rfl) rfl (by decide) ?_
    refine TL.pure (PV.assign rfl) rfl (by decide) ?_
    refine TL.nil ?_
    refine TQ.thenC ?_
    refine TC.seq ?_
    refine TC.seq ?_
    refine TC.region ?_
    refine TL.pure (PV.fieldAddr rfl Tb.fo_23_1) rfl (by decide) ?_
    refine TL.pure (PV.load rfl Tb.one_3 (by repeat (first | exact List.Mem.head _ | refine List.Mem.tail _ ?_ | refine List.mem_append_right _ ?_)) rfl) rfl (by decide) ?_
    refine TL.pure (PV.move rfl) rfl (by decide) ?_
    refine TL.nil ?_
    refine TQ.thenC ?_
    refine TC.block ?_
    refine TC.loopK [1, 2, 4, 6, 26, 27, 31] (X := HB × Nat) (fun y => y.2 ≤ m.C ∧ bok y.1 (tx m S (x.2 * (m.C + 1) + y.2))) (fun y => [(5, bvl y.1 (tx m S (x.2 * (m.C + 1) + y.2)).length), (32, .int .i64 y.2)]) (fun y => [(y.1.b, bob y.1 5 (tx m S (x.2 * (m.C + 1) + y.2))), (b0, Obj.cells #[.int .i64 m.R, .int .i64 m.C, .int .i64 m.K] 23 (0, 0))]) (fun y => m.C - y.2) (x.1, 0) ⟨Nat.zero_le _, hx.2⟩ (by repeat (first | exact True.intro | refine And.intro rfl ?_)) (List.Sublist.refl _) ?_
    intro y hy
    refine TC.seq ?_
    refine TC.region ?_
    refine TL.pure (PV.lss rfl rfl) rfl (by decide) ?_
    refine TL.nil ?_
    refine TQ.thenC ?_
    refine TC.seq ?_
    first | refine TC.condD rfl (fun hc => ?_) (fun hc => ?_) | refine TC.cond rfl (fun hc => ?_) (fun hc => ?_)
    · skip
      refine TC.skip ?_
      refine TQ.thenC ?_
      refine TC.seq ?_
      refine TC.block ?_
      refine TC.seq ?_
      refine TC.region ?_
      refine TL.pure (PV.move rfl) rfl (by decide) ?_
      refine TL.pure (PV.assign rfl) rfl (by decide) ?_
      refine TL.nil ?_
      refine TQ.thenC ?_
      refine TC.seq ?_
      refine TC.region ?_
      refine TL.pure (PV.assign rfl) rfl (by decide) ?_
      refine TL.nil ?_
      refine TQ.thenC ?_
      refine TC.seq ?_
      refine TC.seq ?_
      refine TC.region ?_
      refine TL.pure (PV.move rfl) rfl (by decide) ?_
      refine TL.pure (PV.loadBox rfl Tb.agg_23 (by repeat (first | exact List.Mem.head _ | refine List.Mem.tail _ ?_ | refine List.mem_append_right _ ?_)) rfl) rfl (by decide) ?_
      refine TL.pure (PV.move rfl) rfl (by decide) ?_
      refine TL.pure (PV.move rfl) rfl (by decide) ?_
      refine TL.call rfl Tb.gofn_85 (fun a w hs => squareAt_ok w m ho _ _ _ (by push_cast; rfl) (by omega) (by omega)) rfl (by decide) (fun _ _ => ?_)
      refine TL.call rfl Tb.gofn_73 (fun a w hs => has_ok w S _ hS63 (by have := sq_in (m := m) (show x.2 < m.R by omega) (show y.2 < m.C by omega); omega)) rfl (by decide) (fun _ _ => ?_)
      refine TL.nil ?_
      refine TQ.thenC ?_
      first | refine TC.condD rfl (fun hb => ?_) (fun hb => ?_) | refine TC.cond rfl (fun hb => ?_) (fun hb => ?_)
      · skip
        have hbf := bf_h (m := m) (show y.2 < m.C by omega) hb
        refine TC.region ?_
        refine TL.pure (PV.assign rfl) rfl (by decide) ?_
        refine TL.nil ?_
        refine TQ.thenC ?_
        refine TC.region ?_
        refine TL.pure (PV.move rfl) rfl (by decide) ?_
        refine TL.pure (PV.move rfl) rfl (by decide) ?_
        first
          | refine TL.buildSlice (cs := #[.int .u8 35]) rfl Tb.sl_87 Tb.zi_5 (by decide) (fill_b _) (by decide) rfl (by decide) (fun bE hbE => ?_)
          | refine TL.buildSlice (cs := #[.int .u8 46]) rfl Tb.sl_87 Tb.zi_5 (by decide) (fill_b _) (by decide) rfl (by decide) (fun bE hbE => ?_)
          | refine TL.buildSlice (cs := #[.int .u8 10]) rfl Tb.sl_87 Tb.zi_5 (by decide) (fill_b _) (by decide) rfl (by decide) (fun bE hbE => ?_)
        refine TL.appendB' (hb := y.1) (L := tx m S (x.2 * (m.C + 1) + y.2)) (Mo.bf m S (x.2 * (m.C + 1) + y.2)) (tx m S (x.2 * (m.C + 1) + (y.2 + 1))) (tx_succ m S _) rfl rfl rfl Tb.sl_87 Tb.sl_87 Tb.zi_5 hy.2 (by repeat (first | exact Take.head _ | apply Take.tail | apply Take.appR)) (by repeat (first | exact List.Mem.head _ | refine List.Mem.tail _ ?_ | refine List.mem_append_right _ ?_)) (by rw [hbf]; rfl) (tx_len' ho S (row_bd ho (show x.2 < m.R by omega) hy.1)) rfl (by decide) (fun hb9 hk9 => ?_)
        refine TL.pure (PV.assign rfl) rfl (by decide) ?_
        refine TL.nil ?_
        refine TQ.blkN ?_
        refine TQ.thenC ?_
        refine TC.region ?_
        refine TL.pure (PV.add rfl rfl (by omega)) rfl (by decide) ?_
        refine TL.pure (PV.move rfl) rfl (by decide) ?_
        refine TL.nil ?_
        refine TQ.thenN ?_
        refine TQ.backK (hb9, y.2 + 1) (by repeat (first | exact True.intro | refine And.intro rfl ?_)) (by repeat (first | exact True.intro | refine And.intro rfl ?_)) (by repeat (first | exact List.Sublist.slnil | exact List.nil_sublist _ | exact List.Sublist.refl _ | refine List.Sublist.cons_cons _ ?_ | refine List.Sublist.cons _ ?_ | refine List.Sublist.trans ?_ (List.sublist_append_right _ _))) ⟨by simp only; omega, hk9⟩ (by simp only; omega)
      · skip
        have hbf := bf_d (m := m) (show y.2 < m.C by omega) (by simpa using hb)
        refine TC.skip ?_
        refine TQ.thenC ?_
        refine TC.region ?_
        refine TL.pure (PV.move rfl) rfl (by decide) ?_
        refine TL.pure (PV.move rfl) rfl (by decide) ?_
        first
          | refine TL.buildSlice (cs := #[.int .u8 35]) rfl Tb.sl_87 Tb.zi_5 (by decide) (fill_b _) (by decide) rfl (by decide) (fun bE hbE => ?_)
          | refine TL.buildSlice (cs := #[.int .u8 46]) rfl Tb.sl_87 Tb.zi_5 (by decide) (fill_b _) (by decide) rfl (by decide) (fun bE hbE => ?_)
          | refine TL.buildSlice (cs := #[.int .u8 10]) rfl Tb.sl_87 Tb.zi_5 (by decide) (fill_b _) (by decide) rfl (by decide) (fun bE hbE => ?_)
        refine TL.appendB' (hb := y.1) (L := tx m S (x.2 * (m.C + 1) + y.2)) (Mo.bf m S (x.2 * (m.C + 1) + y.2)) (tx m S (x.2 * (m.C + 1) + (y.2 + 1))) (tx_succ m S _) rfl rfl rfl Tb.sl_87 Tb.sl_87 Tb.zi_5 hy.2 (by repeat (first | exact Take.head _ | apply Take.tail | apply Take.appR)) (by repeat (first | exact List.Mem.head _ | refine List.Mem.tail _ ?_ | refine List.mem_append_right _ ?_)) (by rw [hbf]; rfl) (tx_len' ho S (row_bd ho (show x.2 < m.R by omega) hy.1)) rfl (by decide) (fun hb9 hk9 => ?_)
        refine TL.pure (PV.assign rfl) rfl (by decide) ?_
        refine TL.nil ?_
        refine TQ.blkN ?_
        refine TQ.thenC ?_
        refine TC.region ?_
        refine TL.pure (PV.add rfl rfl (by omega)) rfl (by decide) ?_
        refine TL.pure (PV.move rfl) rfl (by decide) ?_
        refine TL.nil ?_
        refine TQ.thenN ?_
        refine TQ.backK (hb9, y.2 + 1) (by repeat (first | exact True.intro | refine And.intro rfl ?_)) (by repeat (first | exact True.intro | refine And.intro rfl ?_)) (by repeat (first | exact List.Sublist.slnil | exact List.nil_sublist _ | exact List.Sublist.refl _ | refine List.Sublist.cons_cons _ ?_ | refine List.Sublist.cons _ ?_ | refine List.Sublist.trans ?_ (List.sublist_append_right _ _))) ⟨by simp only; omega, hk9⟩ (by simp only; omega)
    · skip
      refine TC.exit ?_
      refine TQ.thenE ?_
      refine TQ.thenE ?_
      refine TQ.blkS ?_
      refine TQ.thenC ?_
      have hyC : y.2 = m.C := by omega
      refine TC.region ?_
      refine TL.pure (PV.move rfl) rfl (by decide) ?_
      first
        | refine TL.buildSlice (cs := #[.int .u8 35]) rfl Tb.sl_87 Tb.zi_5 (by decide) (fill_b _) (by decide) rfl (by decide) (fun bE hbE => ?_)
        | refine TL.buildSlice (cs := #[.int .u8 46]) rfl Tb.sl_87 Tb.zi_5 (by decide) (fill_b _) (by decide) rfl (by decide) (fun bE hbE => ?_)
        | refine TL.buildSlice (cs := #[.int .u8 10]) rfl Tb.sl_87 Tb.zi_5 (by decide) (fill_b _) (by decide) rfl (by decide) (fun bE hbE => ?_)
      refine TL.appendB' (hb := y.1) (L := tx m S (x.2 * (m.C + 1) + y.2)) 10 (tx m S ((x.2 + 1) * (m.C + 1))) (by rw [hyC]; exact tx_row m S x.2) rfl rfl rfl Tb.sl_87 Tb.sl_87 Tb.zi_5 hy.2 (by repeat (first | exact Take.head _ | apply Take.tail | apply Take.appR)) (by repeat (first | exact List.Mem.head _ | refine List.Mem.tail _ ?_ | refine List.mem_append_right _ ?_)) rfl (tx_len' ho S (row_bd ho (show x.2 < m.R by omega) hy.1)) rfl (by decide) (fun hb9 hk9 => ?_)
      refine TL.pure (PV.assign rfl) rfl (by decide) ?_
      refine TL.nil ?_
      refine TQ.blkN ?_
      refine TQ.thenC ?_
      refine TC.region ?_
      refine TL.pure (PV.add rfl rfl (by omega)) rfl (by decide) ?_
      refine TL.pure (PV.move rfl) rfl (by decide) ?_
      refine TL.nil ?_
      refine TQ.thenN ?_
      refine TQ.backK (hb9, x.2 + 1) (And.intro rfl (And.intro rfl True.intro)) (by repeat (first | exact True.intro | refine And.intro rfl ?_)) (by repeat (first | exact List.Sublist.slnil | exact List.nil_sublist _ | exact List.Sublist.refl _ | refine List.Sublist.cons_cons _ ?_ | refine List.Sublist.cons _ ?_ | refine List.Sublist.trans ?_ (List.sublist_append_right _ _))) ⟨by simp only; omega, hk9⟩ (by simp only; omega)
  · skip
    refine TC.exit ?_
    refine TQ.thenE ?_
    refine TQ.thenE ?_
    refine TQ.blkS ?_
    refine TQ.thenC ?_
    refine TC.seq ?_
    have hxR : x.2 = m.R := by omega
    refine TC.region ?_
    refine TL.pure (PV.move rfl) rfl (by decide) ?_
    refine TL.pure (PV.ofBytes (hb := x.1) (L := tx m S (x.2 * (m.C + 1))) rfl rfl Tb.sl_87 Tb.int_5 Tb.str_9 (by repeat (first | exact List.Mem.head _ | refine List.Mem.tail _ ?_ | refine List.mem_append_right _ ?_))) rfl (by decide) ?_
    refine TL.pure (PV.assign rfl) rfl (by decide) ?_
    refine TL.nil ?_
    refine TQ.thenC ?_
    refine TC.ret ?_
    refine TQ.retE1 rfl rfl ?_
    exact ⟨(), by rw [hxR]; rfl, trivial, List.nil_sublist _⟩

set_option maxRecDepth 100000 in
theorem Format_ok (w0 : World) (r c k w9 : Int) :
    Calls Tryd.prog 52 #[.agg #[.int .i64 r, .int .i64 c, .int .i64 k], .int .i64 w9] w0 (Post (X := Unit) (fun _ => .tuple #[str (zT r c k w9), .int .i64 (gI r c k w9)]) (fun _ => True) (fun _ => []) w0) := by
  refine calls Tryd.func52 rfl (n := 16) rfl (by simp) ?_
  refine TC.seq ?_
  refine TC.region ?_
  refine TL.box rfl rfl (by decide) (fun b0 hb0 => ?_)
  refine TL.pure (PV.assign rfl) rfl (by decide) ?_
  refine TL.pure (PV.assign rfl) rfl (by decide) ?_
  refine TL.nil ?_
  refine TQ.thenC ?_
  refine TC.seq ?_
  refine TC.seq ?_
  refine TC.region ?_
  refine TL.pure (PV.loadBox rfl Tb.agg_23 (by repeat (first | exact List.Mem.head _ | refine List.Mem.tail _ ?_ | refine List.mem_append_right _ ?_)) rfl) rfl (by decide) ?_
  refine TL.pure (PV.move rfl) rfl (by decide) ?_
  refine TL.call rfl Tb.gofn_64 (fun a w hs => validateSet_ok w _ _ _ _) rfl (by decide) (fun _ _ => ?_)
  refine TL.pure (PV.assign rfl) rfl (by decide) ?_
  refine TL.nil ?_
  refine TQ.thenC ?_
  refine TC.seq ?_
  refine TC.region ?_
  refine TL.pure (PV.move rfl) rfl (by decide) ?_
  refine TL.pure (PV.neq rfl rfl) rfl (by decide) ?_
  refine TL.nil ?_
  refine TQ.thenC ?_
  first | refine TC.condD rfl (fun hv => ?_) (fun hv => ?_) | refine TC.cond rfl (fun hv => ?_) (fun hv => ?_)
  · skip
    refine TC.seq ?_
    refine TC.region ?_
    refine TL.pure (PV.move rfl) rfl (by decide) ?_
    refine TL.pure (PV.assign rfl) rfl (by decide) ?_
    refine TL.pure (PV.assign rfl) rfl (by decide) ?_
    refine TL.nil ?_
    refine TQ.thenC ?_
    refine TC.ret ?_
    refine TQ.thenR ?_
    refine TQ.retE2 rfl rfl rfl ?_
    exact ⟨(), by simp only [zT_no hv]; rfl, trivial, List.nil_sublist _⟩
  · skip
    obtain ⟨m, S, ho, hS, rfl, rfl, rfl, rfl⟩ := gI_is (show gI r c k w9 = 0 by omega)
    have hN := ho.N36
    have hS63 := set63 ho hS
    have hzv := zI_ok ho hS
    have hbv := zB_ok ho hS
    have hgv := gI_ok ho hS
    refine TC.skip ?_
    refine TQ.thenC ?_
    refine TC.seq ?_
    refine TC.region ?_
    refine TL.pure (PV.loadBox rfl Tb.agg_23 (by repeat (first | exact List.Mem.head _ | refine List.Mem.tail _ ?_ | refine List.mem_append_right _ ?_)) rfl) rfl (by decide) ?_
    refine TL.pure (PV.move rfl) rfl (by decide) ?_
    refine TL.call rfl Tb.gofn_88 (fun a w hs => format_ok w m ho S hS63) rfl (by decide) (fun _ _ => ?_)
    refine TL.pure (PV.assign rfl) rfl (by decide) ?_
    refine TL.pure (PV.assign rfl) rfl (by decide) ?_
    refine TL.nil ?_
    refine TQ.thenC ?_
    refine TC.ret ?_
    refine TQ.retE2 rfl rfl rfl ?_
    exact ⟨(), by rw [zT_ok ho hS, hgv], trivial, List.nil_sublist _⟩

set_option maxRecDepth 100000 in
set_option maxHeartbeats 1000000 in
theorem rFormat_ok (w0 : World) (r c k w9 : Int) :
    Calls Tryd.prog 53 #[.agg #[.int .i64 r, .int .i64 c, .int .i64 k], .int .i64 w9] w0 (Post (X := Unit) (fun _ => .tuple #[str (zT r c k w9), .int .i64 (gI r c k w9)]) (fun _ => True) (fun _ => []) w0) := by
  refine calls Tryd.func53 rfl (n := 54) rfl (by simp) ?_
  refine TC.seq ?_
  refine TC.region ?_
  refine TL.box rfl rfl (by decide) (fun b0 hb0 => ?_)
  refine TL.pure (PV.assign rfl) rfl (by decide) ?_
  refine TL.pure (PV.assign rfl) rfl (by decide) ?_
  refine TL.nil ?_
  refine TQ.thenC ?_
  refine TC.seq ?_
  refine TC.region ?_
  refine TL.pure (PV.loadBox rfl Tb.agg_23 (by repeat (first | exact List.Mem.head _ | refine List.Mem.tail _ ?_ | refine List.mem_append_right _ ?_)) rfl) rfl (by decide) ?_
  refine TL.pure (PV.move rfl) rfl (by decide) ?_
  refine TL.call rfl Tb.gofn_66 (fun a w hs => given_ok w _ _ _ _) rfl (by decide) (fun _ _ => ?_)
  refine TL.pure (PV.assign rfl) rfl (by decide) ?_
  refine TL.nil ?_
  refine TQ.thenC ?_
  refine TC.seq ?_
  refine TC.seq ?_
  refine TC.region ?_
  refine TL.pure (PV.move rfl) rfl (by decide) ?_
  refine TL.pure (PV.neq rfl rfl) rfl (by decide) ?_
  refine TL.nil ?_
  refine TQ.thenC ?_
  first | refine TC.condD rfl (fun hv => ?_) (fun hv => ?_) | refine TC.cond rfl (fun hv => ?_) (fun hv => ?_)
  · skip
    refine TC.seq ?_
    refine TC.region ?_
    refine TL.pure (PV.move rfl) rfl (by decide) ?_
    refine TL.pure (PV.assign rfl) rfl (by decide) ?_
    refine TL.pure (PV.assign rfl) rfl (by decide) ?_
    refine TL.nil ?_
    refine TQ.thenC ?_
    refine TC.ret ?_
    refine TQ.thenR ?_
    refine TQ.retE2 rfl rfl rfl ?_
    exact ⟨(), by simp only [zT_no hv]; rfl, trivial, List.nil_sublist _⟩
  · skip
    obtain ⟨m, S, ho, hS, rfl, rfl, rfl, rfl⟩ := gI_is (show gI r c k w9 = 0 by omega)
    have hN := ho.N36
    have hS63 := set63 ho hS
    have hzv := zI_ok ho hS
    have hbv := zB_ok ho hS
    have hgv := gI_ok ho hS
    refine TC.skip ?_
    refine TQ.thenC ?_
    refine TC.seq ?_
    refine TC.mixV [true, true, false, true, true, true, true, false, true, true, true, true, false, true, true, true] [(b0, Obj.cells #[.int .i64 m.R, .int .i64 m.C, .int .i64 m.K] 23 (0, 0))] 16 Tb.mixed rfl (by kernel_rfl) (by kernel_rfl) (by kernel_rfl) (by kernel_rfl) (by repeat (first | exact List.Sublist.slnil | exact List.nil_sublist _ | exact List.Sublist.refl _ | refine List.Sublist.cons_cons _ ?_ | refine List.Sublist.cons _ ?_ | refine List.Sublist.trans ?_ (List.sublist_append_right _ _))) ?_
    refine TV.virt 0 rfl rfl (by decide) rfl (by kernel_rfl) (SOK.pure (PV.fieldAddr rfl Tb.fo_23_0) rfl) ?_
    refine TV.virt 1 rfl rfl (by decide) rfl (by kernel_rfl) (SOK.pure (PV.load rfl Tb.one_3 (by repeat (first | exact List.Mem.head _ | refine List.Mem.tail _ ?_ | refine List.mem_append_right _ ?_)) rfl) rfl) ?_
    refine TV.virt 5 rfl rfl (by decide) rfl (by kernel_rfl) (SOK.pure (PV.fieldAddr rfl Tb.fo_23_1) rfl) ?_
    refine TV.virt 6 rfl rfl (by decide) rfl (by kernel_rfl) (SOK.pure (PV.load rfl Tb.one_3 (by repeat (first | exact List.Mem.head _ | refine List.Mem.tail _ ?_ | refine List.mem_append_right _ ?_)) rfl) rfl) ?_
    refine TV.virt 10 rfl rfl (by decide) rfl (by kernel_rfl) (SOK.pure (PV.fieldAddr rfl Tb.fo_23_2) rfl) ?_
    refine TV.virt 11 rfl rfl (by decide) rfl (by kernel_rfl) (SOK.pure (PV.load rfl Tb.one_3 (by repeat (first | exact List.Mem.head _ | refine List.Mem.tail _ ?_ | refine List.mem_append_right _ ?_)) rfl) rfl) ?_
    refine TV.step [2] (by kernel_rfl) (by decide) rfl ⟨⟨_, rfl, ?_⟩, trivial⟩
    refine TL.call rfl Tb.gofn_89 (fun a w hs => itoa_ok w m.R (by have := ho.R6; omega)) rfl (by decide) (fun _ _ => ?_)
    refine TL.nil ?_
    refine TV.next (.inl (by repeat (first | exact List.Sublist.slnil | exact List.nil_sublist _ | exact List.Sublist.refl _ | refine List.Sublist.cons_cons _ ?_ | refine List.Sublist.cons _ ?_ | refine List.Sublist.trans ?_ (List.sublist_append_right _ _)))) ?_
    refine TV.virt 3 rfl rfl (by decide) rfl (by kernel_rfl) (SOK.pure (PV.addS rfl rfl (by first | omega | (simp; done) | (simp; omega))) rfl) ?_
    refine TV.virt 4 rfl rfl (by decide) rfl (by kernel_rfl) (SOK.pure (PV.addS rfl rfl (by first | omega | (simp; done) | (simp; omega))) rfl) ?_
    refine TV.step [7] (by kernel_rfl) (by decide) rfl ⟨⟨_, rfl, ?_⟩, trivial⟩
    refine TL.call rfl Tb.gofn_89 (fun a w hs => itoa_ok w m.C (by have := ho.C6; omega)) rfl (by decide) (fun _ _ => ?_)
    refine TL.nil ?_
    refine TV.next (.inl (by repeat (first | exact List.Sublist.slnil | exact List.nil_sublist _ | exact List.Sublist.refl _ | refine List.Sublist.cons_cons _ ?_ | refine List.Sublist.cons _ ?_ | refine List.Sublist.trans ?_ (List.sublist_append_right _ _)))) ?_
    refine TV.virt 8 rfl rfl (by decide) rfl (by kernel_rfl) (SOK.pure (PV.addS rfl rfl (by first | omega | (simp; done) | (simp; omega))) rfl) ?_
    refine TV.virt 9 rfl rfl (by decide) rfl (by kernel_rfl) (SOK.pure (PV.addS rfl rfl (by first | omega | (simp; done) | (simp; omega))) rfl) ?_
    refine TV.step [12] (by kernel_rfl) (by decide) rfl ⟨⟨_, rfl, ?_⟩, trivial⟩
    refine TL.call rfl Tb.gofn_89 (fun a w hs => itoa_ok w m.K (by have := ho.K3; omega)) rfl (by decide) (fun _ _ => ?_)
    refine TL.nil ?_
    refine TV.next (.inl (by repeat (first | exact List.Sublist.slnil | exact List.nil_sublist _ | exact List.Sublist.refl _ | refine List.Sublist.cons_cons _ ?_ | refine List.Sublist.cons _ ?_ | refine List.Sublist.trans ?_ (List.sublist_append_right _ _)))) ?_
    refine TV.virt 13 rfl rfl (by decide) rfl (by kernel_rfl) (SOK.pure (PV.addS rfl rfl (by first | omega | (simp; done) | (simp; omega))) rfl) ?_
    refine TV.virt 14 rfl rfl (by decide) rfl (by kernel_rfl) (SOK.pure (PV.addS rfl rfl (by first | omega | (simp; done) | (simp; omega))) rfl) ?_
    refine TV.virt 15 rfl rfl (by decide) rfl (by kernel_rfl) (SOK.pure (PV.assign rfl) rfl) ?_
    refine TV.done (by kernel_rfl) ?_
    refine TQ.thenC ?_
    refine TC.seq ?_
    refine TC.seq ?_
    refine TC.region ?_
    refine TL.pure (PV.assign rfl) rfl (by decide) ?_
    refine TL.nil ?_
    refine TQ.thenC ?_
    refine TC.block ?_
    refine TC.loopG [1, 2, 4, 5] (X := Nat) (fun s => s ≤ m.N) (fun s => [(7, str (tr m S s)), (8, .int .i64 s)]) (fun s => m.N - s) 0 (Nat.zero_le _) (by refine And.intro ?_ (And.intro rfl True.intro); show some _ = some _; rw [tr_zero]; rfl) ?_
    intro s hs9
    have hC1 := ho.C1
    have hC6 := ho.C6
    refine TC.seq ?_
    refine TC.seq ?_
    refine TC.region ?_
    refine TL.pure (PV.move rfl) rfl (by decide) ?_
    refine TL.pure (PV.loadBox rfl Tb.agg_23 (by repeat (first | exact List.Mem.head _ | refine List.Mem.tail _ ?_ | refine List.mem_append_right _ ?_)) rfl) rfl (by decide) ?_
    refine TL.call rfl Tb.gofn_61 (fun a w hs => rsquares_ok w m ho) rfl (by decide) (fun _ _ => ?_)
    refine TL.pure (PV.lss rfl rfl) rfl (by decide) ?_
    refine TL.nil ?_
    refine TQ.thenC ?_
    first | refine TC.condD rfl (fun hlt => ?_) (fun hlt => ?_) | refine TC.cond rfl (fun hlt => ?_) (fun hlt => ?_)
    · skip
      refine TC.skip ?_
      refine TQ.thenC ?_
      refine TC.seq ?_
      refine TC.block ?_
      refine TC.seq ?_
      refine TC.seq ?_
      refine TC.region ?_
      refine TL.pure (PV.move rfl) rfl (by decide) ?_
      refine TL.pure (PV.move rfl) rfl (by decide) ?_
      refine TL.call rfl Tb.gofn_31 (fun a w hs => rHas_ok w S _ hS63 (by omega)) rfl (by decide) (fun _ _ => ?_)
      refine TL.nil ?_
      refine TQ.thenC ?_
      first | refine TC.condD rfl (fun hb => ?_) (fun hb => ?_) | refine TC.cond rfl (fun hb => ?_) (fun hb => ?_)
      · skip
        have hmk := mk_h hb
        refine TC.region ?_
        refine TL.pure (PV.move rfl) rfl (by decide) ?_
        refine TL.pure (PV.addS rfl rfl (by have := tr_len ho (S := S) hs9; show (tr m S s).length + 1 ≤ _; omega)) rfl (by decide) ?_
        refine TL.pure (PV.assign rfl) rfl (by decide) ?_
        refine TL.nil ?_
        refine TQ.thenC ?_
        refine TC.seq ?_
        refine TC.mixV [true, true, true, true, true, true, true, true] [(b0, Obj.cells #[.int .i64 m.R, .int .i64 m.C, .int .i64 m.K] 23 (0, 0))] 8 Tb.mixed rfl (by kernel_rfl) (by kernel_rfl) (by kernel_rfl) (by kernel_rfl) (by repeat (first | exact List.Sublist.slnil | exact List.nil_sublist _ | exact List.Sublist.refl _ | refine List.Sublist.cons_cons _ ?_ | refine List.Sublist.cons _ ?_ | refine List.Sublist.trans ?_ (List.sublist_append_right _ _))) ?_
        refine TV.virt 0 rfl rfl (by decide) rfl (by kernel_rfl) (SOK.pure (PV.move rfl) rfl) ?_
        refine TV.virt 1 rfl rfl (by decide) rfl (by kernel_rfl) (SOK.pure (PV.fieldAddr rfl Tb.fo_23_1) rfl) ?_
        refine TV.virt 2 rfl rfl (by decide) rfl (by kernel_rfl) (SOK.pure (PV.load rfl Tb.one_3 (by repeat (first | exact List.Mem.head _ | refine List.Mem.tail _ ?_ | refine List.mem_append_right _ ?_)) rfl) rfl) ?_
        refine TV.virt 3 rfl rfl (by decide) rfl (by kernel_rfl) (SOK.pure (PV.remN rfl rfl (by omega) (by omega)) rfl) ?_
        refine TV.virt 4 rfl rfl (by decide) rfl (by kernel_rfl) (SOK.pure (PV.fieldAddr rfl Tb.fo_23_1) rfl) ?_
        refine TV.virt 5 rfl rfl (by decide) rfl (by kernel_rfl) (SOK.pure (PV.load rfl Tb.one_3 (by repeat (first | exact List.Mem.head _ | refine List.Mem.tail _ ?_ | refine List.mem_append_right _ ?_)) rfl) rfl) ?_
        refine TV.virt 6 rfl rfl (by decide) rfl (by kernel_rfl) (SOK.pure (PV.sub rfl rfl (by omega)) rfl) ?_
        refine TV.virt 7 rfl rfl (by decide) rfl (by kernel_rfl) (SOK.pure (PV.eql rfl rfl) rfl) ?_
        refine TV.done (by kernel_rfl) ?_
        refine TQ.thenC ?_
        first | refine TC.condD rfl (fun hm => ?_) (fun hm => ?_) | refine TC.cond rfl (fun hm => ?_) (fun hm => ?_)
        · skip
          have htr := tr_two ho (S := S) (show s < m.N by omega) (by omega)
          rw [hmk] at htr
          refine TC.region ?_
          refine TL.pure (PV.move rfl) rfl (by decide) ?_
          refine TL.pure (PV.addS rfl rfl (by have := tr_len ho (S := S) hs9; rw [List.length_append]; show (tr m S s).length + 1 + 1 ≤ _; omega)) rfl (by decide) ?_
          refine TL.pure (PV.assign rfl) rfl (by decide) ?_
          refine TL.nil ?_
          refine TQ.blkN ?_
          refine TQ.thenC ?_
          refine TC.region ?_
          refine TL.pure (PV.move rfl) rfl (by decide) ?_
          refine TL.pure (PV.add rfl rfl (by omega)) rfl (by decide) ?_
          refine TL.pure (PV.assign rfl) rfl (by decide) ?_
          refine TL.nil ?_
          refine TQ.thenN ?_
          refine TQ.backK (s + 1) (by refine And.intro ?_ (And.intro rfl True.intro); show some _ = some _; rw [htr]) (by repeat (first | exact True.intro | refine And.intro rfl ?_)) (by repeat (first | exact List.Sublist.slnil | exact List.nil_sublist _ | exact List.Sublist.refl _ | refine List.Sublist.cons_cons _ ?_ | refine List.Sublist.cons _ ?_ | refine List.Sublist.trans ?_ (List.sublist_append_right _ _))) (by omega) (by omega)
        · skip
          have htr := tr_one ho (S := S) (show s < m.N by omega) (by omega)
          rw [hmk] at htr
          refine TC.skip ?_
          refine TQ.blkN ?_
          refine TQ.thenC ?_
          refine TC.region ?_
          refine TL.pure (PV.move rfl) rfl (by decide) ?_
          refine TL.pure (PV.add rfl rfl (by omega)) rfl (by decide) ?_
          refine TL.pure (PV.assign rfl) rfl (by decide) ?_
          refine TL.nil ?_
          refine TQ.thenN ?_
          refine TQ.backK (s + 1) (by refine And.intro ?_ (And.intro rfl True.intro); show some _ = some _; rw [htr]) (by repeat (first | exact True.intro | refine And.intro rfl ?_)) (by repeat (first | exact List.Sublist.slnil | exact List.nil_sublist _ | exact List.Sublist.refl _ | refine List.Sublist.cons_cons _ ?_ | refine List.Sublist.cons _ ?_ | refine List.Sublist.trans ?_ (List.sublist_append_right _ _))) (by omega) (by omega)
      · skip
        have hmk := mk_d (show S.testBit s = false by simpa using hb)
        refine TC.region ?_
        refine TL.pure (PV.move rfl) rfl (by decide) ?_
        refine TL.pure (PV.addS rfl rfl (by have := tr_len ho (S := S) hs9; show (tr m S s).length + 1 ≤ _; omega)) rfl (by decide) ?_
        refine TL.pure (PV.assign rfl) rfl (by decide) ?_
        refine TL.nil ?_
        refine TQ.thenC ?_
        refine TC.seq ?_
        refine TC.mixV [true, true, true, true, true, true, true, true] [(b0, Obj.cells #[.int .i64 m.R, .int .i64 m.C, .int .i64 m.K] 23 (0, 0))] 8 Tb.mixed rfl (by kernel_rfl) (by kernel_rfl) (by kernel_rfl) (by kernel_rfl) (by repeat (first | exact List.Sublist.slnil | exact List.nil_sublist _ | exact List.Sublist.refl _ | refine List.Sublist.cons_cons _ ?_ | refine List.Sublist.cons _ ?_ | refine List.Sublist.trans ?_ (List.sublist_append_right _ _))) ?_
        refine TV.virt 0 rfl rfl (by decide) rfl (by kernel_rfl) (SOK.pure (PV.move rfl) rfl) ?_
        refine TV.virt 1 rfl rfl (by decide) rfl (by kernel_rfl) (SOK.pure (PV.fieldAddr rfl Tb.fo_23_1) rfl) ?_
        refine TV.virt 2 rfl rfl (by decide) rfl (by kernel_rfl) (SOK.pure (PV.load rfl Tb.one_3 (by repeat (first | exact List.Mem.head _ | refine List.Mem.tail _ ?_ | refine List.mem_append_right _ ?_)) rfl) rfl) ?_
        refine TV.virt 3 rfl rfl (by decide) rfl (by kernel_rfl) (SOK.pure (PV.remN rfl rfl (by omega) (by omega)) rfl) ?_
        refine TV.virt 4 rfl rfl (by decide) rfl (by kernel_rfl) (SOK.pure (PV.fieldAddr rfl Tb.fo_23_1) rfl) ?_
        refine TV.virt 5 rfl rfl (by decide) rfl (by kernel_rfl) (SOK.pure (PV.load rfl Tb.one_3 (by repeat (first | exact List.Mem.head _ | refine List.Mem.tail _ ?_ | refine List.mem_append_right _ ?_)) rfl) rfl) ?_
        refine TV.virt 6 rfl rfl (by decide) rfl (by kernel_rfl) (SOK.pure (PV.sub rfl rfl (by omega)) rfl) ?_
        refine TV.virt 7 rfl rfl (by decide) rfl (by kernel_rfl) (SOK.pure (PV.eql rfl rfl) rfl) ?_
        refine TV.done (by kernel_rfl) ?_
        refine TQ.thenC ?_
        first | refine TC.condD rfl (fun hm => ?_) (fun hm => ?_) | refine TC.cond rfl (fun hm => ?_) (fun hm => ?_)
        · skip
          have htr := tr_two ho (S := S) (show s < m.N by omega) (by omega)
          rw [hmk] at htr
          refine TC.region ?_
          refine TL.pure (PV.move rfl) rfl (by decide) ?_
          refine TL.pure (PV.addS rfl rfl (by have := tr_len ho (S := S) hs9; rw [List.length_append]; show (tr m S s).length + 1 + 1 ≤ _; omega)) rfl (by decide) ?_
          refine TL.pure (PV.assign rfl) rfl (by decide) ?_
          refine TL.nil ?_
          refine TQ.blkN ?_
          refine TQ.thenC ?_
          refine TC.region ?_
          refine TL.pure (PV.move rfl) rfl (by decide) ?_
          refine TL.pure (PV.add rfl rfl (by omega)) rfl (by decide) ?_
          refine TL.pure (PV.assign rfl) rfl (by decide) ?_
          refine TL.nil ?_
          refine TQ.thenN ?_
          refine TQ.backK (s + 1) (by refine And.intro ?_ (And.intro rfl True.intro); show some _ = some _; rw [htr]) (by repeat (first | exact True.intro | refine And.intro rfl ?_)) (by repeat (first | exact List.Sublist.slnil | exact List.nil_sublist _ | exact List.Sublist.refl _ | refine List.Sublist.cons_cons _ ?_ | refine List.Sublist.cons _ ?_ | refine List.Sublist.trans ?_ (List.sublist_append_right _ _))) (by omega) (by omega)
        · skip
          have htr := tr_one ho (S := S) (show s < m.N by omega) (by omega)
          rw [hmk] at htr
          refine TC.skip ?_
          refine TQ.blkN ?_
          refine TQ.thenC ?_
          refine TC.region ?_
          refine TL.pure (PV.move rfl) rfl (by decide) ?_
          refine TL.pure (PV.add rfl rfl (by omega)) rfl (by decide) ?_
          refine TL.pure (PV.assign rfl) rfl (by decide) ?_
          refine TL.nil ?_
          refine TQ.thenN ?_
          refine TQ.backK (s + 1) (by refine And.intro ?_ (And.intro rfl True.intro); show some _ = some _; rw [htr]) (by repeat (first | exact True.intro | refine And.intro rfl ?_)) (by repeat (first | exact List.Sublist.slnil | exact List.nil_sublist _ | exact List.Sublist.refl _ | refine List.Sublist.cons_cons _ ?_ | refine List.Sublist.cons _ ?_ | refine List.Sublist.trans ?_ (List.sublist_append_right _ _))) (by omega) (by omega)
    · skip
      refine TC.exit ?_
      refine TQ.thenE ?_
      refine TQ.thenE ?_
      refine TQ.blkS ?_
      refine TQ.thenC ?_
      refine TC.seq ?_
      have hsN : s = m.N := by omega
      refine TC.region ?_
      refine TL.pure (PV.move rfl) rfl (by decide) ?_
      refine TL.pure (PV.assign rfl) rfl (by decide) ?_
      refine TL.pure (PV.assign rfl) rfl (by decide) ?_
      refine TL.nil ?_
      refine TQ.thenC ?_
      refine TC.ret ?_
      refine TQ.retE2 rfl rfl rfl ?_
      exact ⟨(), by rw [zT_ok ho hS, hgv, ← tr_end ho S, hsN], trivial, List.nil_sublist _⟩

end Go.Proofs.YtaeobkgogipceaaDoor
