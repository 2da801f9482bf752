/- Sums of texts, and lists that are the same: contracts. -/
import Derived.Test.YtbnjmkidbfmomaaGreatDoorQTa
import Derived.Test.YtbnjmkidbfmomaaGreatDoorQSv
set_option linter.unusedVariables false
set_option linter.unusedSimpArgs false
namespace Go.Proofs.YtbnjmkidbfmomaaGreatDoor
open Go.Sx Go.RowKit

section
variable {P : Program} {n : Nat} {w0 : World} {E : Env} {G : Heap} {d : Option Nat} {ty : TypeId} {pos : String} {aft : Array Edge} {g : Option (Nat × Bool)}
theorem PV.conv {x : Operand} {k k2 : IntKind} {s t : Nat} {i v : Int} (hs : P.underlying s = some (.int k)) (ht : P.underlying t = some (.int k2)) (hx : evo E x = some (.int k i)) (hv : k2.wrap i = v) : PV P n w0 E G ⟨d, .convert s t x, ty, pos, aft, g⟩ (.int k2 v) :=
  fun a w hS => by
    subst hv
    simp only [execOp, hS.ev hx]
    simp [convert, run_underlying hs, run_underlying ht, Conv.intToInt]
end
theorem Tb.str_9 : Tryz.prog.underlying 9 = some .string := by kernel_rfl
theorem conv_8 (c : UInt8) : IntKind.i64.wrap ((c.toNat : Nat) : Int) = (c.toNat : Int) := by
  have := UInt8.toNat_lt c
  rw [IntKind.wrap_i64]; omega
def smV (b : Int) (L : List UInt8) : Int := L.foldl (fun s c => (s * 257 + c.toNat + 1) % 1000003) (b % 1000003)
theorem smV_next {b : Int} {L : List UInt8} {k : Nat} (hk : k < L.length) : smV b (L.take (k + 1)) = (smV b (L.take k) * 257 + ((L.getD k 0).toNat : Int) + 1) % 1000003 := by
  unfold smV
  rw [List.take_succ_eq_append_getElem hk, List.foldl_append]
  simp [List.getD, hk]
theorem smV_bd (b : Int) : ∀ (L : List UInt8) , 0 ≤ smV b L ∧ smV b L < 1000003 := fun L => by
  rcases List.eq_nil_or_concat L with h | ⟨M, c, h⟩
  · subst h; unfold smV; simp only [List.foldl_nil]; omega
  · subst h; unfold smV; rw [List.concat_eq_append, List.foldl_append]; simp only [List.foldl_cons, List.foldl_nil]; omega
theorem tmod_emod {x : Int} (h : 0 ≤ x) (y : Int) : x.tmod y = x % y := Int.tmod_eq_emod_of_nonneg h
def StrsAt (w : World) (p : Option Addr) (L : List (List UInt8)) : Prop := ∀ j, j < L.length → ∃ q, p = some q ∧ w.cell? (q.add (j * 1)) = some (str (L.getD j []))
theorem StrsAt.new {w0 w : World} {G : Heap} {p : Option Addr} {L : List (List UInt8)} (h : StrsAt w0 p L) (hn : New w0 w G) : StrsAt w p L := fun j hj => by
  obtain ⟨q, h1, h2⟩ := h j hj
  exact ⟨q, h1, hn.old h2⟩
theorem strs_ext {L M : List (List UInt8)} (hl : L.length = M.length) (h : ∀ j, j < L.length → L.getD j [] = M.getD j []) : L = M := by
  apply List.ext_getElem hl
  intro j h1 h2
  have := h j h1
  simpa [List.getD, h1, h2] using this
set_option maxRecDepth 100000 in
theorem Sum_ok (w0 : World) (b : Int) (hb : -9223372036854775808 ≤ b ∧ b ≤ 9223372036854775807) (L : List UInt8) (hl : L.length ≤ 1000000) :
    Calls Tryz.prog 46 #[.int .i64 b, str L] w0 (Post (X := Unit) (fun _ => .int .i64 (smV b L)) (fun _ => True) (fun _ => []) w0) := by
  have htm : b.tmod 1000003 = if 0 ≤ b then b % 1000003 else -((-b) % 1000003) := by
    split
    · exact tmod_emod (by assumption) _
    · rw [show b = -(-b) from (Int.neg_neg b).symm, Int.neg_tmod, tmod_emod (by omega), Int.neg_neg]
  refine calls Tryz.func46 rfl (n := 29) rfl (by simp) ?_
  refine TC.seq ?_
  refine TC.region ?_
  refine TL.pure (PV.assign rfl) rfl (by decide) ?_
  refine TL.nil ?_
  refine TQ.thenC ?_
  refine TC.seq ?_
  refine TC.region ?_
  refine TL.pure (PV.move rfl) rfl (by decide) ?_
  refine TL.pure (PV.rem rfl rfl (by omega) (by omega)) rfl (by decide) ?_
  refine TL.pure (PV.assign rfl) rfl (by decide) ?_
  refine TL.nil ?_
  refine TQ.thenC ?_
  refine TC.seq ?_
  refine TC.seq ?_
  refine TC.region ?_
  refine TL.pure (PV.move rfl) rfl (by decide) ?_
  refine TL.pure (PV.lss rfl rfl) rfl (by decide) ?_
  refine TL.nil ?_
  refine TQ.thenC ?_
  first | refine TC.condD rfl (fun hneg => ?_) (fun hneg => ?_) | refine TC.cond rfl (fun hneg => ?_) (fun hneg => ?_)
  · refine TC.region ?_
    refine TL.pure (PV.move rfl) rfl (by decide) ?_
    refine TL.pure (PV.add rfl rfl (by omega)) rfl (by decide) ?_
    refine TL.pure (PV.assign rfl) rfl (by decide) ?_
    refine TL.nil ?_
    refine TQ.thenC ?_
    refine TC.seq ?_
    refine TC.seq ?_
    refine TC.region ?_
    refine TL.pure (PV.move rfl) rfl (by decide) ?_
    refine TL.pure (PV.lenS rfl Tb.str_9) rfl (by decide) ?_
    refine TL.pure (PV.move rfl) rfl (by decide) ?_
    refine TL.nil ?_
    refine TQ.thenC ?_
    refine TC.block ?_
    refine TC.loopK [1, 4, 14] (X := Nat) (fun k => k ≤ L.length) (fun k => [(15, .int .i64 (k : Nat)), (5, .int .i64 (smV b (L.take k)))]) (fun k => []) (fun k => L.length - k) 0 (Nat.zero_le _) (by refine And.intro rfl (And.intro ?_ True.intro); show some (Value.int .i64 _) = some (Value.int .i64 _); congr 2; show _ = b % 1000003; rw [htm] at *; split at * <;> omega) (by repeat (first | exact .slnil | exact List.nil_sublist _ | exact .refl _ | refine .cons_cons _ ?_ | refine .cons _ ?_ | refine .trans ?_ (List.sublist_append_right _ _))) ?_
    intro k hk
    refine TC.seq ?_
    refine TC.region ?_
    refine TL.pure (PV.lss rfl rfl) rfl (by decide) ?_
    refine TL.nil ?_
    refine TQ.thenC ?_
    refine TC.seq ?_
    first | refine TC.condD rfl (fun hlt => ?_) (fun hlt => ?_) | refine TC.cond rfl (fun hlt => ?_) (fun hlt => ?_)
    · refine TC.skip ?_
      refine TQ.thenC ?_
      refine TC.seq ?_
      refine TC.block ?_
      refine TC.seq ?_
      refine TC.region ?_
      refine TL.pure (PV.move rfl) rfl (by decide) ?_
      refine TL.pure (PV.assign rfl) rfl (by decide) ?_
      refine TL.nil ?_
      refine TQ.thenC ?_
      have hk9 : k < L.length := by omega
      have hbd := smV_bd b (L.take k)
      have h8 := UInt8.toNat_lt (L.getD k 0)
      refine TC.region ?_
      refine TL.pure (PV.move rfl) rfl (by decide) ?_
      refine TL.pure (PV.mul rfl rfl (by omega)) rfl (by decide) ?_
      refine TL.pure (PV.move rfl) rfl (by decide) ?_
      refine TL.pure (PV.move rfl) rfl (by decide) ?_
      refine TL.pure (PV.indexS (j := k) rfl rfl Tb.str_9 rfl hk9) rfl (by decide) ?_
      refine TL.pure (PV.conv Tb.int_5 Tb.int_3 rfl (conv_8 _)) rfl (by decide) ?_
      refine TL.pure (PV.add rfl rfl (by omega)) rfl (by decide) ?_
      refine TL.pure (PV.add rfl rfl (by omega)) rfl (by decide) ?_
      refine TL.pure (PV.rem rfl rfl (by omega) (by rw [tmod_emod (by omega)]; omega)) rfl (by decide) ?_
      refine TL.pure (PV.assign rfl) rfl (by decide) ?_
      refine TL.nil ?_
      refine TQ.blkN ?_
      refine TQ.thenC ?_
      have hnx := smV_next (b := b) hk9
      refine TC.region ?_
      refine TL.pure (PV.add rfl rfl (by omega)) rfl (by decide) ?_
      refine TL.pure (PV.move rfl) rfl (by decide) ?_
      refine TL.nil ?_
      refine TQ.thenN ?_
      refine TQ.backK (k + 1) (by refine And.intro rfl (And.intro ?_ True.intro); show some (Value.int .i64 _) = some (Value.int .i64 _); rw [hnx, tmod_emod (by omega)]) (by repeat (first | exact True.intro | refine And.intro rfl ?_)) (by repeat (first | exact .slnil | exact List.nil_sublist _ | exact .refl _ | refine .cons_cons _ ?_ | refine .cons _ ?_ | refine .trans ?_ (List.sublist_append_right _ _))) (by omega) (by omega)
    · refine TC.exit ?_
      refine TQ.thenE ?_
      refine TQ.thenE ?_
      refine TQ.blkS ?_
      refine TQ.thenC ?_
      refine TC.seq ?_
      have hke : k = L.length := by omega
      refine TC.region ?_
      refine TL.pure (PV.move rfl) rfl (by decide) ?_
      refine TL.pure (PV.assign rfl) rfl (by decide) ?_
      refine TL.nil ?_
      refine TQ.thenC ?_
      refine TC.ret ?_
      refine TQ.retE1 rfl rfl ?_
      exact ⟨(), by rw [hke, List.take_length], trivial, List.nil_sublist _⟩
  · refine TC.skip ?_
    refine TQ.thenC ?_
    refine TC.seq ?_
    refine TC.seq ?_
    refine TC.region ?_
    refine TL.pure (PV.move rfl) rfl (by decide) ?_
    refine TL.pure (PV.lenS rfl Tb.str_9) rfl (by decide) ?_
    refine TL.pure (PV.move rfl) rfl (by decide) ?_
    refine TL.nil ?_
    refine TQ.thenC ?_
    refine TC.block ?_
    refine TC.loopK [1, 4, 14] (X := Nat) (fun k => k ≤ L.length) (fun k => [(15, .int .i64 (k : Nat)), (5, .int .i64 (smV b (L.take k)))]) (fun k => []) (fun k => L.length - k) 0 (Nat.zero_le _) (by refine And.intro rfl (And.intro ?_ True.intro); show some (Value.int .i64 _) = some (Value.int .i64 _); congr 2; show _ = b % 1000003; rw [htm] at *; split at * <;> omega) (by repeat (first | exact .slnil | exact List.nil_sublist _ | exact .refl _ | refine .cons_cons _ ?_ | refine .cons _ ?_ | refine .trans ?_ (List.sublist_append_right _ _))) ?_
    intro k hk
    refine TC.seq ?_
    refine TC.region ?_
    refine TL.pure (PV.lss rfl rfl) rfl (by decide) ?_
    refine TL.nil ?_
    refine TQ.thenC ?_
    refine TC.seq ?_
    first | refine TC.condD rfl (fun hlt => ?_) (fun hlt => ?_) | refine TC.cond rfl (fun hlt => ?_) (fun hlt => ?_)
    · refine TC.skip ?_
      refine TQ.thenC ?_
      refine TC.seq ?_
      refine TC.block ?_
      refine TC.seq ?_
      refine TC.region ?_
      refine TL.pure (PV.move rfl) rfl (by decide) ?_
      refine TL.pure (PV.assign rfl) rfl (by decide) ?_
      refine TL.nil ?_
      refine TQ.thenC ?_
      have hk9 : k < L.length := by omega
      have hbd := smV_bd b (L.take k)
      have h8 := UInt8.toNat_lt (L.getD k 0)
      refine TC.region ?_
      refine TL.pure (PV.move rfl) rfl (by decide) ?_
      refine TL.pure (PV.mul rfl rfl (by omega)) rfl (by decide) ?_
      refine TL.pure (PV.move rfl) rfl (by decide) ?_
      refine TL.pure (PV.move rfl) rfl (by decide) ?_
      refine TL.pure (PV.indexS (j := k) rfl rfl Tb.str_9 rfl hk9) rfl (by decide) ?_
      refine TL.pure (PV.conv Tb.int_5 Tb.int_3 rfl (conv_8 _)) rfl (by decide) ?_
      refine TL.pure (PV.add rfl rfl (by omega)) rfl (by decide) ?_
      refine TL.pure (PV.add rfl rfl (by omega)) rfl (by decide) ?_
      refine TL.pure (PV.rem rfl rfl (by omega) (by rw [tmod_emod (by omega)]; omega)) rfl (by decide) ?_
      refine TL.pure (PV.assign rfl) rfl (by decide) ?_
      refine TL.nil ?_
      refine TQ.blkN ?_
      refine TQ.thenC ?_
      have hnx := smV_next (b := b) hk9
      refine TC.region ?_
      refine TL.pure (PV.add rfl rfl (by omega)) rfl (by decide) ?_
      refine TL.pure (PV.move rfl) rfl (by decide) ?_
      refine TL.nil ?_
      refine TQ.thenN ?_
      refine TQ.backK (k + 1) (by refine And.intro rfl (And.intro ?_ True.intro); show some (Value.int .i64 _) = some (Value.int .i64 _); rw [hnx, tmod_emod (by omega)]) (by repeat (first | exact True.intro | refine And.intro rfl ?_)) (by repeat (first | exact .slnil | exact List.nil_sublist _ | exact .refl _ | refine .cons_cons _ ?_ | refine .cons _ ?_ | refine .trans ?_ (List.sublist_append_right _ _))) (by omega) (by omega)
    · refine TC.exit ?_
      refine TQ.thenE ?_
      refine TQ.thenE ?_
      refine TQ.blkS ?_
      refine TQ.thenC ?_
      refine TC.seq ?_
      have hke : k = L.length := by omega
      refine TC.region ?_
      refine TL.pure (PV.move rfl) rfl (by decide) ?_
      refine TL.pure (PV.assign rfl) rfl (by decide) ?_
      refine TL.nil ?_
      refine TQ.thenC ?_
      refine TC.ret ?_
      refine TQ.retE1 rfl rfl ?_
      exact ⟨(), by rw [hke, List.take_length], trivial, List.nil_sublist _⟩

set_option maxRecDepth 100000 in
theorem sameT_ok (w0 : World) (p1 : Option Addr) (c1 : Nat) (xs : List (List UInt8)) (hx : StrsAt w0 p1 xs) (p2 : Option Addr) (c2 : Nat) (ys : List (List UInt8)) (hy : StrsAt w0 p2 ys) (hl : xs.length ≤ 1000000) (hl2 : ys.length ≤ 1000000) :
    Calls Tryz.prog 45 #[.slice p1 xs.length c1, .slice p2 ys.length c2] w0 (Post (X := Unit) (fun _ => .bool (decide (xs = ys))) (fun _ => True) (fun _ => []) w0) := by
  refine calls Tryz.func45 rfl (n := 26) rfl (by simp) ?_
  refine TC.seq ?_
  refine TC.region ?_
  refine TL.pure (PV.assign rfl) rfl (by decide) ?_
  refine TL.nil ?_
  refine TQ.thenC ?_
  refine TC.seq ?_
  refine TC.seq ?_
  refine TC.region ?_
  refine TL.pure (PV.move rfl) rfl (by decide) ?_
  refine TL.pure (PV.len rfl Tb.sl_43) rfl (by decide) ?_
  refine TL.pure (PV.move rfl) rfl (by decide) ?_
  refine TL.pure (PV.len rfl Tb.sl_43) rfl (by decide) ?_
  refine TL.pure (PV.neq rfl rfl) rfl (by decide) ?_
  refine TL.nil ?_
  refine TQ.thenC ?_
  first | refine TC.condD rfl (fun hne => ?_) (fun hne => ?_) | refine TC.cond rfl (fun hne => ?_) (fun hne => ?_)
  · refine TC.seq ?_
    refine TC.region ?_
    refine TL.pure (PV.assign rfl) rfl (by decide) ?_
    refine TL.nil ?_
    refine TQ.thenC ?_
    refine TC.ret ?_
    refine TQ.thenR ?_
    refine TQ.retE1 rfl rfl ?_
    exact ⟨(), by rw [decide_eq_false (fun e => by subst e; omega)], trivial, List.nil_sublist _⟩
  · refine TC.skip ?_
    refine TQ.thenC ?_
    refine TC.seq ?_
    refine TC.seq ?_
    refine TC.region ?_
    refine TL.pure (PV.assign rfl) rfl (by decide) ?_
    refine TL.nil ?_
    refine TQ.thenC ?_
    refine TC.block ?_
    -- live and written in the loop, not told: [4]
    refine TC.loopK [0, 1] (X := Nat) (fun k => k ≤ xs.length ∧ ∀ j, j < k → xs.getD j [] = ys.getD j []) (fun k => [(5, .int .i64 (k : Nat))]) (fun k => []) (fun k => xs.length - k) 0 ⟨Nat.zero_le _, fun j hj => absurd hj (Nat.not_lt_zero _)⟩ (by repeat (first | exact True.intro | refine And.intro rfl ?_)) (by repeat (first | exact .slnil | exact List.nil_sublist _ | exact .refl _ | refine .cons_cons _ ?_ | refine .cons _ ?_ | refine .trans ?_ (List.sublist_append_right _ _))) ?_
    intro k hk
    have hk1 := hk.1
    refine TC.seq ?_
    refine TC.seq ?_
    refine TC.region ?_
    refine TL.pure (PV.move rfl) rfl (by decide) ?_
    refine TL.pure (PV.move rfl) rfl (by decide) ?_
    refine TL.pure (PV.len rfl Tb.sl_43) rfl (by decide) ?_
    refine TL.pure (PV.lss rfl rfl) rfl (by decide) ?_
    refine TL.nil ?_
    refine TQ.thenC ?_
    first | refine TC.condD rfl (fun hlt => ?_) (fun hlt => ?_) | refine TC.cond rfl (fun hlt => ?_) (fun hlt => ?_)
    · refine TC.skip ?_
      refine TQ.thenC ?_
      refine TC.seq ?_
      refine TC.block ?_
      refine TC.seq ?_
      obtain ⟨q1, q1p, q1v⟩ := hx k (by omega)
      obtain ⟨q2, q2p, q2v⟩ := hy k (by omega)
      refine TC.mixV [true, true, true, true, true, true, true, true, true] _ 9 Tb.mixed rfl (by kernel_rfl) (by kernel_rfl) (by kernel_rfl) (by kernel_rfl) (List.Sublist.refl _) ?_
      refine TV.virt 0 rfl rfl (by decide) rfl (by kernel_rfl) (SOK.pure (PV.move rfl) rfl) ?_
      refine TV.virt 1 rfl rfl (by decide) rfl (by kernel_rfl) (SOK.pure (PV.move rfl) rfl) ?_
      refine TV.virt 2 rfl rfl (by decide) rfl (by kernel_rfl) (SOK.pure (PV.indexA rfl q1p rfl Tb.elm_43 rfl (by omega)) rfl) ?_
      refine TV.virt 3 rfl rfl (by decide) rfl (by kernel_rfl) (SOK.pure (PV.loadOld rfl Tb.one_9 q1v) rfl) ?_
      refine TV.virt 4 rfl rfl (by decide) rfl (by kernel_rfl) (SOK.pure (PV.move rfl) rfl) ?_
      refine TV.virt 5 rfl rfl (by decide) rfl (by kernel_rfl) (SOK.pure (PV.move rfl) rfl) ?_
      refine TV.virt 6 rfl rfl (by decide) rfl (by kernel_rfl) (SOK.pure (PV.indexA rfl q2p rfl Tb.elm_43 rfl (by omega)) rfl) ?_
      refine TV.virt 7 rfl rfl (by decide) rfl (by kernel_rfl) (SOK.pure (PV.loadOld rfl Tb.one_9 q2v) rfl) ?_
      refine TV.virt 8 rfl rfl (by decide) rfl (by kernel_rfl) (SOK.pure (PV.neqS rfl rfl) rfl) ?_
      refine TV.done (by kernel_rfl) ?_
      refine TQ.thenC ?_
      first | refine TC.condD rfl (fun hno => ?_) (fun hno => ?_) | refine TC.cond rfl (fun hno => ?_) (fun hno => ?_)
      · refine TC.seq ?_
        refine TC.region ?_
        refine TL.pure (PV.assign rfl) rfl (by decide) ?_
        refine TL.nil ?_
        refine TQ.thenC ?_
        refine TC.ret ?_
        refine TQ.blkR ?_
        refine TQ.thenR ?_
        refine TQ.thenR ?_
        refine TQ.blkR ?_
        refine TQ.thenR ?_
        refine TQ.retE1 rfl rfl ?_
        exact ⟨(), by rw [decide_eq_false (fun e => by subst e; exact hno rfl)], trivial, List.nil_sublist _⟩
      · refine TC.skip ?_
        refine TQ.blkN ?_
        refine TQ.thenC ?_
        refine TC.region ?_
        refine TL.pure (PV.move rfl) rfl (by decide) ?_
        refine TL.pure (PV.add rfl rfl (by omega)) rfl (by decide) ?_
        refine TL.pure (PV.assign rfl) rfl (by decide) ?_
        refine TL.nil ?_
        refine TQ.thenN ?_
        refine TQ.backK (k + 1) (by repeat (first | exact True.intro | refine And.intro rfl ?_)) (by repeat (first | exact True.intro | refine And.intro rfl ?_)) (by repeat (first | exact .slnil | exact List.nil_sublist _ | exact .refl _ | refine .cons_cons _ ?_ | refine .cons _ ?_ | refine .trans ?_ (List.sublist_append_right _ _))) ⟨by omega, fun j hj => if e : j < k then hk.2 j e else (show k = j by omega) ▸ Decidable.not_not.1 hno⟩ (by omega)
    · refine TC.exit ?_
      refine TQ.thenE ?_
      refine TQ.thenE ?_
      refine TQ.blkS ?_
      refine TQ.thenC ?_
      refine TC.seq ?_
      refine TC.region ?_
      refine TL.pure (PV.assign rfl) rfl (by decide) ?_
      refine TL.nil ?_
      refine TQ.thenC ?_
      refine TC.ret ?_
      refine TQ.retE1 rfl rfl ?_
      exact ⟨(), by rw [decide_eq_true (strs_ext (by omega) (fun j hj => hk.2 j (by omega)))], trivial, List.nil_sublist _⟩

end Go.Proofs.YtbnjmkidbfmomaaGreatDoor
