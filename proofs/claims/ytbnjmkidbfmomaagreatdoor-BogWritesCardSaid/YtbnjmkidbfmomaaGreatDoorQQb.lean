/- Bits, and what is valid: contracts. -/
import Derived.Test.YtbnjmkidbfmomaaGreatDoorQMA
import Derived.Test.YtbnjmkidbfmomaaGreatDoorQSv
import Derived.Test.YtbnjmkidbfmomaaGreatDoorQSw
import Derived.Laws.Bits128
set_option linter.unusedVariables false
set_option linter.unusedSimpArgs false
namespace Go.Proofs.YtbnjmkidbfmomaaGreatDoor.M
open Go.Sx Go.RowKit

def arrOf (P : Program) (t : Nat) : Option (Nat × Nat × Nat) :=
  match P.underlying t with
  | some (.array n e) => (P.info? e).map fun i => (n, e, i.size)
  | _ => none
section
variable {P : Program} {n : Nat} {w0 : World} {E : Env} {G : Heap} {d : Option Nat} {ty : TypeId} {pos : String} {aft : Array Edge} {g : Option (Nat × Bool)}
/-- &a[i]. -/
theorem PV.indexArr {k : IntKind} {x y : Operand} {b m e j : Nat} {i : Int} {t : Nat} (hx : evo E x = some (.pointer (some ⟨b, 0, none⟩))) (hy : evo E y = some (.int k i))
    (ht : arrOf P t = some (m, e, 1)) (hi : i = (j : Int)) (hj : j < m) : PV P n w0 E G ⟨d, .indexAddr t x y, ty, pos, aft, g⟩ (.pointer (some ⟨b, j, none⟩)) :=
  fun a w hs => by
    unfold arrOf at ht
    cases hu : P.underlying t with
    | none => simp [hu] at ht
    | some u =>
      cases u <;> simp only [hu] at ht <;> try (simp at ht; done)
      rename_i m' e'
      cases hi2 : P.info? e' with
      | none => simp [hi2] at ht
      | some inf =>
        simp [hi2] at ht
        obtain ⟨rfl, rfl, h3⟩ := ht
        subst hi
        simp only [execOp, hs.ev hx, hs.ev hy]
        simp [Instr.indexAt, run_underlying hu, asIntOf, Instr.sureAddr, sizeOf, typeInfo, hi2, h3, hj, add_off]
theorem PV.eqlK {k : IntKind} {x y : Operand} {i j : Int} {t t' : TypeId} (hx : evo E x = some (.int k i)) (hy : evo E y = some (.int k j)) : PV P n w0 E G ⟨d, .binOp .eql t x y t', ty, pos, aft, g⟩ (.bool (decide (i = j))) :=
  fun a w hs => by simp only [execOp, hs.ev hx, hs.ev hy]; cases k <;> (simp [go_sem]; rw [Bool.eq_iff_iff]; simp)
theorem PV.mulU {x y : Operand} {i j v : Int} {t t' : TypeId} (hx : evo E x = some (.int .u64 i)) (hy : evo E y = some (.int .u64 j)) (hv : IntKind.u64.wrap (i * j) = v) : PV P n w0 E G ⟨d, .binOp .mul t x y t', ty, pos, aft, g⟩ (.int .u64 v) :=
  fun a w hS => by
    subst hv
    simp only [execOp, hS.ev hx, hS.ev hy]
    simp [go_sem, Op.intArith]
theorem PV.negU {x : Operand} {i v : Int} {t : TypeId} (hx : evo E x = some (.int .u64 i)) (hv : IntKind.u64.wrap (-i) = v) : PV P n w0 E G ⟨d, .unOp .neg t x, ty, pos, aft, g⟩ (.int .u64 v) :=
  fun a w hS => by
    subst hv
    simp only [execOp, hS.ev hx]
    simp [go_sem, Op.intArith]
end
theorem arr_102 : arrOf Tryz.prog 286 = some (64, 5, 1) := by kernel_rfl
/-- The library's table. -/
def TzAt (w : World) : Prop := ∀ j, j < 64 → w.cell? ⟨6, j, none⟩ = some (.int .u8 (Lib.deBruijn64tab.getD j 0 : Nat))
theorem TzAt.new {w0 w : World} {G : Heap} (h : TzAt w0) (hn : New w0 w G) : TzAt w := fun j hj => hn.old (h j hj)
theorem conv_u {x : Nat} (h : x < 18446744073709551616) : IntKind.u64.wrap (x : Int) = (x : Int) := by rw [IntKind.wrap_u64]; omega
theorem conv_i {x : Nat} (h : x < 9223372036854775808) : IntKind.i64.wrap (x : Int) = (x : Int) := wrap_nat h
theorem tz_key {x : Nat} (hx : x < 18446744073709551616) (h0 : x ≠ 0) : IntKind.u64.wrap (-(x : Int)) = ((18446744073709551616 - x : Nat) : Int) := by rw [IntKind.wrap_u64]; omega
theorem tz_ix (p : Nat) : IntKind.u64.wrap ((p : Int) * 285870213051353865) / 2 ^ ((58 : Int)).toNat = ((p * 285870213051353865 % 18446744073709551616 / 288230376151711744 : Nat) : Int) := by
  rw [IntKind.wrap_u64]
  show _ / 288230376151711744 = _
  omega
theorem u64_and {a b : Nat} (ha : a < 18446744073709551616) (hb : b < 18446744073709551616) : bits .and .u64 (a : Int) (b : Int) = ((a &&& b : Nat) : Int) := u64_and_nat a b ha hb
theorem and_lt {a b n : Nat} (h : a < n) : a &&& b < n := Nat.lt_of_le_of_lt Nat.and_le_left h
theorem p40 {k : Nat} (h : k < 64) : 2 ^ k < 18446744073709551616 := Nat.pow_lt_pow_right (a := 2) (n := 64) (by decide) h
def vB (r c k : Int) : Prop := (1 ≤ r ∧ r ≤ 6) ∧ (1 ≤ c ∧ c ≤ 6) ∧ (1 ≤ k ∧ k ≤ 3)
instance (r c k : Int) : Decidable (vB r c k) := by unfold vB; infer_instance
def vI (r c k : Int) : Int := if vB r c k then 0 else 1
abbrev mV (m : Mo.Md) : Value := .agg #[.int .i64 m.R, .int .i64 m.C, .int .i64 m.K]
theorem vI_ok {m : Mo.Md} (ho : Mo.Ok m) : vI m.R m.C m.K = 0 := if_pos ⟨⟨by have := ho.R1; omega, by have := ho.R6; omega⟩, ⟨by have := ho.C1; omega, by have := ho.C6; omega⟩, by have := ho.K1; omega, by have := ho.K3; omega⟩
theorem vI_is {r c k : Int} (h : vI r c k = 0) : ∃ m : Mo.Md, Mo.Ok m ∧ r = m.R ∧ c = m.C ∧ k = m.K := by
  unfold vI at h
  by_cases h1 : vB r c k
  · obtain ⟨⟨a, b⟩, ⟨c1, d⟩, e, f⟩ := h1
    exact ⟨⟨r.toNat, c.toNat, k.toNat⟩, ⟨by show 1 ≤ r.toNat; omega, by show r.toNat ≤ 6; omega, by show 1 ≤ c.toNat; omega, by show c.toNat ≤ 6; omega, by show 1 ≤ k.toNat; omega, by show k.toNat ≤ 3; omega⟩, by show r = (r.toNat : Int); omega, by show c = (c.toNat : Int); omega, by show k = (k.toNat : Int); omega⟩
  · rw [if_neg h1] at h; cases h
theorem vI_yes {r c k : Int} (h : vB r c k) : vI r c k = 0 := if_pos h
theorem vI_no {r c k : Int} (h : ¬ vB r c k) : vI r c k = 1 := if_neg h
theorem bT {p : Prop} [Decidable p] (h : p) : true = decide p := (decide_eq_true h).symm
theorem bF {p : Prop} [Decidable p] (h : ¬ p) : false = decide p := (decide_eq_false h).symm
theorem vI_or (r c k : Int) : vI r c k = 0 ∨ vI r c k = 1 := by unfold vI; split <;> simp
/-- The error of a meadow and a set. -/
def gI (r c k w : Int) : Int := if vI r c k = 0 then (if 0 ≤ w ∧ w ≤ 2 ^ (r.toNat * c.toNat) - 1 then 0 else 1) else 1
theorem pow_cast (n : Nat) : ((2 ^ n : Nat) : Int) = 2 ^ n := by simp
theorem gI_ok {m : Mo.Md} (ho : Mo.Ok m) {S : Nat} (hS : S < 2 ^ m.N) : gI m.R m.C m.K S = 0 := by
  unfold gI
  rw [if_pos (vI_ok ho), if_pos]
  rw [Int.toNat_natCast, Int.toNat_natCast, ← pow_cast]
  have : S < 2 ^ (m.R * m.C) := hS
  omega
theorem gI_is {r c k w : Int} (h : gI r c k w = 0) : ∃ (m : Mo.Md) (S : Nat), Mo.Ok m ∧ S < 2 ^ m.N ∧ r = m.R ∧ c = m.C ∧ k = m.K ∧ w = S := by
  unfold gI at h
  by_cases h1 : vI r c k = 0
  · rw [if_pos h1] at h
    obtain ⟨m, ho, rfl, rfl, rfl⟩ := vI_is h1
    by_cases h2 : 0 ≤ w ∧ w ≤ 2 ^ ((m.R : Int).toNat * (m.C : Int).toNat) - 1
    · rw [Int.toNat_natCast, Int.toNat_natCast, ← pow_cast] at h2
      refine ⟨m, w.toNat, ho, ?_, rfl, rfl, rfl, by omega⟩
      show _ < 2 ^ (m.R * m.C)
      omega
    · rw [if_neg h2] at h; cases h
  · rw [if_neg h1] at h; cases h
theorem N40 {m : Mo.Md} (ho : Mo.Ok m) : 2 ^ m.N ≤ 2 ^ 36 := Nat.pow_le_pow_right (by decide) ho.N36
theorem Has_eq {S s : Nat} (hS : S < 9223372036854775808) : decide (bits .and .i64 (((S / 2 ^ s : Nat)) : Int) 1 = 1) = S.testBit s := by
  have h1 : S / 2 ^ s ≤ S := Nat.div_le_self _ _
  have h2 := i64_and_nat (a := S / 2 ^ s) (b := 1) (by omega) (by decide)
  have h3 : S / 2 ^ s &&& 1 = S / 2 ^ s % 2 := Nat.and_two_pow_sub_one_eq_mod _ 1
  rw [show ((1 : Nat) : Int) = 1 from rfl, h3] at h2
  rw [h2, Nat.testBit_eq_decide_div_mod_eq]
  exact decide_eq_decide.2 (by omega)
theorem nat_shr (k x : Nat) : (x : Int) / 2 ^ ((k : Nat) : Int).toNat = ((x / 2 ^ k : Nat) : Int) := by
  rw [Int.toNat_natCast]; simp
theorem full_63 {m : Mo.Md} (ho : Mo.Ok m) : Mo.full m < 9223372036854775808 := by
  have := N40 ho; have := Mo.full_lt m; omega
theorem and_le' (a b : Nat) : a &&& b ≤ b := Nat.and_le_right
theorem ones_steps {x : Nat} (hx : x < 18446744073709551616) :
    IntKind.u64.wrap (((x / 2 ^ 1 &&& 6148914691236517205 : Nat) : Int) + ((x &&& 6148914691236517205 : Nat) : Int)) = ((Mo.S1 8 x : Nat) : Int) ∧ Mo.S1 8 x < 18446744073709551616 ∧
    IntKind.u64.wrap (((Mo.S1 8 x / 2 ^ 2 &&& 3689348814741910323 : Nat) : Int) + ((Mo.S1 8 x &&& 3689348814741910323 : Nat) : Int)) = ((Mo.S2 8 (Mo.S1 8 x) : Nat) : Int) ∧
    IntKind.u64.wrap (((Mo.S2 8 (Mo.S1 8 x) / 2 ^ 4 : Nat) : Int) + ((Mo.S2 8 (Mo.S1 8 x) : Nat) : Int)) = ((Mo.S2 8 (Mo.S1 8 x) / 2 ^ 4 + Mo.S2 8 (Mo.S1 8 x) : Nat) : Int) ∧
    bits .and .u64 ((Mo.S2 8 (Mo.S1 8 x) / 2 ^ 4 + Mo.S2 8 (Mo.S1 8 x) : Nat) : Int) 1085102592571150095 = ((Mo.bt 8 x : Nat) : Int) ∧
    IntKind.u64.wrap (((Mo.bt 8 x : Nat) : Int) + ((Mo.bt 8 x / 2 ^ 8 : Nat) : Int)) = ((Mo.bt 8 x + Mo.bt 8 x / 2 ^ 8 : Nat) : Int) ∧
    IntKind.u64.wrap (((Mo.bt 8 x + Mo.bt 8 x / 2 ^ 8 : Nat) : Int) + (((Mo.bt 8 x + Mo.bt 8 x / 2 ^ 8) / 2 ^ 16 : Nat) : Int)) = ((Mo.bt 8 x + Mo.bt 8 x / 2 ^ 8 + (Mo.bt 8 x + Mo.bt 8 x / 2 ^ 8) / 2 ^ 16 : Nat) : Int) ∧
    IntKind.u64.wrap (((Mo.bt 8 x + Mo.bt 8 x / 2 ^ 8 + (Mo.bt 8 x + Mo.bt 8 x / 2 ^ 8) / 2 ^ 16 : Nat) : Int) + (((Mo.bt 8 x + Mo.bt 8 x / 2 ^ 8 + (Mo.bt 8 x + Mo.bt 8 x / 2 ^ 8) / 2 ^ 16) / 2 ^ 32 : Nat) : Int)) = ((Mo.fold3 (Mo.bt 8 x) : Nat) : Int) ∧
    Mo.fold3 (Mo.bt 8 x) < 9223372036854775808 ∧ ((Mo.fold3 (Mo.bt 8 x) : Nat) : Int) % 128 = ((Mo.pc x : Nat) : Int) := by
  have h8 := Mo.m18
  have hb := Mo.S_bt 8 x
  have hf := Mo.fold_sum x
  have a1 := and_le' (x / 2 ^ 1) 6148914691236517205
  have a2 := and_le' x 6148914691236517205
  have e1 : Mo.S1 8 x = (x / 2 ^ 1 &&& 6148914691236517205) + (x &&& 6148914691236517205) := by unfold Mo.S1; rw [h8.1]
  have a3 := and_le' (Mo.S1 8 x / 2 ^ 2) 3689348814741910323
  have a4 := and_le' (Mo.S1 8 x) 3689348814741910323
  have e2 : Mo.S2 8 (Mo.S1 8 x) = (Mo.S1 8 x / 2 ^ 2 &&& 3689348814741910323) + (Mo.S1 8 x &&& 3689348814741910323) := by unfold Mo.S2; rw [h8.2.1]
  have e3 : (Mo.S2 8 (Mo.S1 8 x) / 2 ^ 4 + Mo.S2 8 (Mo.S1 8 x)) &&& 1085102592571150095 = Mo.bt 8 x := by rw [← hb]; unfold Mo.S3; rw [h8.2.2]
  generalize hz2 : Mo.S2 8 (Mo.S1 8 x) = z2 at *
  generalize hz1 : Mo.S1 8 x = z1 at *
  have hl2 : z2 < 7400000000000000000 := by omega
  have hfo : Mo.fold3 (Mo.bt 8 x) = Mo.bt 8 x + Mo.bt 8 x / 256 + (Mo.bt 8 x + Mo.bt 8 x / 256) / 65536 + (Mo.bt 8 x + Mo.bt 8 x / 256 + (Mo.bt 8 x + Mo.bt 8 x / 256) / 65536) / 4294967296 := rfl
  refine ⟨?_, by omega, ?_, ?_, ?_, ?_, ?_, ?_, by omega, by omega⟩
  · rw [IntKind.wrap_u64]; omega
  · rw [IntKind.wrap_u64]; omega
  · rw [IntKind.wrap_u64]; omega
  · have := u64_and (a := z2 / 2 ^ 4 + z2) (b := 1085102592571150095) (by omega) (by decide)
    rw [e3] at this
    exact this
  · rw [IntKind.wrap_u64]; omega
  · rw [IntKind.wrap_u64]; omega
  · rw [IntKind.wrap_u64, hfo]; omega

set_option maxRecDepth 100000 in
theorem tz64_ok (w0 : World) (ht : TzAt w0) (x : Nat) (hx : x < 18446744073709551616) (h0 : x ≠ 0) :
    Calls Tryz.prog 242 #[.int .u64 x] w0 (Post (X := Unit) (fun _ => .int .i64 (Lib.ctz 64 x : Nat)) (fun _ => True) (fun _ => []) w0) := by
  have hlow := Lib.lowest_bit 64 x h0 hx
  have hat := Lib.deBruijn64_at _ hlow.2
  have hcell := ht _ hat.1
  rw [hat.2] at hcell
  have hp := p40 hlow.2
  refine calls Tryz.func242 rfl (n := 14) rfl (by simp) ?_
  refine TC.seq ?_
  refine TC.region ?_
  refine TL.pure (PV.assign rfl) rfl (by decide) ?_
  refine TL.nil ?_
  refine TQ.thenC ?_
  refine TC.seq ?_
  refine TC.seq ?_
  refine TC.region ?_
  refine TL.pure (PV.move rfl) rfl (by decide) ?_
  refine TL.pure (PV.eqlK rfl rfl) rfl (by decide) ?_
  refine TL.nil ?_
  refine TQ.thenC ?_
  first | refine TC.condD rfl (fun h0_ => ?_) (fun h0_ => ?_) | refine TC.cond rfl (fun h0_ => ?_) (fun h0_ => ?_)
  · exact absurd h0_ (by omega)
  · refine TC.skip ?_
    refine TQ.thenC ?_
    refine TC.seq ?_
    refine TC.region ?_
    refine TL.pure (PV.move rfl) rfl (by decide) ?_
    refine TL.pure (PV.move rfl) rfl (by decide) ?_
    refine TL.pure (PV.negU rfl (tz_key hx h0)) rfl (by decide) ?_
    refine TL.pure (PV.andK rfl rfl ((u64_and hx (by omega)).trans (by rw [hlow.1]))) rfl (by decide) ?_
    refine TL.pure (PV.mulU rfl rfl rfl) rfl (by decide) ?_
    refine TL.pure (PV.shrK rfl rfl (by decide) (by decide) rfl) rfl (by decide) ?_
    refine TL.pure (PV.indexArr rfl rfl arr_102 (tz_ix _) hat.1) rfl (by decide) ?_
    refine TL.pure (PV.loadOld rfl Tb.one_5 hcell) rfl (by decide) ?_
    refine TL.pure (PV.conv Tb.int_5 Tb.int_3 rfl (conv_i (by omega))) rfl (by decide) ?_
    refine TL.pure (PV.assign rfl) rfl (by decide) ?_
    refine TL.nil ?_
    refine TQ.thenC ?_
    refine TC.ret ?_
    refine TQ.retE1 rfl rfl ?_
    exact ⟨(), rfl, trivial, List.nil_sublist _⟩

set_option maxRecDepth 100000 in
theorem tz_ok (w0 : World) (ht : TzAt w0) (x : Nat) (hx : x < 18446744073709551616) (h0 : x ≠ 0) :
    Calls Tryz.prog 225 #[.int .u64 x] w0 (Post (X := Unit) (fun _ => .int .i64 (Lib.ctz 64 x : Nat)) (fun _ => True) (fun _ => []) w0) := by
  refine calls Tryz.func225 rfl (n := 8) rfl (by simp) ?_
  refine TC.seq ?_
  refine TC.region ?_
  refine TL.pure (PV.assign rfl) rfl (by decide) ?_
  refine TL.nil ?_
  refine TQ.thenC ?_
  refine TC.seq ?_
  refine TC.condF rfl ?_
  refine TC.skip ?_
  refine TQ.thenC ?_
  refine TC.seq ?_
  refine TC.region ?_
  refine TL.pure (PV.move rfl) rfl (by decide) ?_
  refine TL.call rfl Tb.gofn_242 (fun a w hs => tz64_ok w (ht.new hs.new) x hx h0) rfl (by decide) (fun _ _ => ?_)
  refine TL.pure (PV.assign rfl) rfl (by decide) ?_
  refine TL.nil ?_
  refine TQ.thenC ?_
  refine TC.ret ?_
  refine TQ.retE1 rfl rfl ?_
  exact ⟨(), rfl, trivial, List.nil_sublist _⟩

set_option maxRecDepth 100000 in
theorem ones64_ok (w0 : World) (x : Nat) (hx : x < 18446744073709551616) :
    Calls Tryz.prog 255 #[.int .u64 x] w0 (Post (X := Unit) (fun _ => .int .i64 (Mo.pc x : Nat)) (fun _ => True) (fun _ => []) w0) := by
  have hf := ones_steps hx
  refine calls Tryz.func255 rfl (n := 35) rfl (by simp) ?_
  refine TC.seq ?_
  refine TC.region ?_
  refine TL.pure (PV.assign rfl) rfl (by decide) ?_
  refine TL.nil ?_
  refine TQ.thenC ?_
  refine TC.seq ?_
  refine TC.region ?_
  refine TL.pure (PV.move rfl) rfl (by decide) ?_
  refine TL.pure (PV.shrK rfl rfl (by decide) (by decide) (nat_shr 1 x)) rfl (by decide) ?_
  refine TL.pure (PV.andK rfl rfl (u64_and (by omega) (by decide))) rfl (by decide) ?_
  refine TL.pure (PV.move rfl) rfl (by decide) ?_
  refine TL.pure (PV.andK rfl rfl (u64_and hx (by decide))) rfl (by decide) ?_
  refine TL.pure (PV.addU rfl rfl hf.1) rfl (by decide) ?_
  refine TL.pure (PV.assign rfl) rfl (by decide) ?_
  refine TL.nil ?_
  refine TQ.thenC ?_
  refine TC.seq ?_
  refine TC.region ?_
  refine TL.pure (PV.move rfl) rfl (by decide) ?_
  refine TL.pure (PV.shrK rfl rfl (by decide) (by decide) (nat_shr 2 _)) rfl (by decide) ?_
  refine TL.pure (PV.andK rfl rfl (u64_and (by have := hf.2.1; omega) (by decide))) rfl (by decide) ?_
  refine TL.pure (PV.move rfl) rfl (by decide) ?_
  refine TL.pure (PV.andK rfl rfl (u64_and hf.2.1 (by decide))) rfl (by decide) ?_
  refine TL.pure (PV.addU rfl rfl hf.2.2.1) rfl (by decide) ?_
  refine TL.pure (PV.assign rfl) rfl (by decide) ?_
  refine TL.nil ?_
  refine TQ.thenC ?_
  refine TC.seq ?_
  refine TC.region ?_
  refine TL.pure (PV.move rfl) rfl (by decide) ?_
  refine TL.pure (PV.shrK rfl rfl (by decide) (by decide) (nat_shr 4 _)) rfl (by decide) ?_
  refine TL.pure (PV.move rfl) rfl (by decide) ?_
  refine TL.pure (PV.addU rfl rfl hf.2.2.2.1) rfl (by decide) ?_
  refine TL.pure (PV.andK rfl rfl hf.2.2.2.2.1) rfl (by decide) ?_
  refine TL.pure (PV.assign rfl) rfl (by decide) ?_
  refine TL.nil ?_
  refine TQ.thenC ?_
  refine TC.seq ?_
  refine TC.region ?_
  refine TL.pure (PV.move rfl) rfl (by decide) ?_
  refine TL.pure (PV.move rfl) rfl (by decide) ?_
  refine TL.pure (PV.shrK rfl rfl (by decide) (by decide) (nat_shr 8 _)) rfl (by decide) ?_
  refine TL.pure (PV.addU rfl rfl hf.2.2.2.2.2.1) rfl (by decide) ?_
  refine TL.pure (PV.assign rfl) rfl (by decide) ?_
  refine TL.nil ?_
  refine TQ.thenC ?_
  refine TC.seq ?_
  refine TC.region ?_
  refine TL.pure (PV.move rfl) rfl (by decide) ?_
  refine TL.pure (PV.move rfl) rfl (by decide) ?_
  refine TL.pure (PV.shrK rfl rfl (by decide) (by decide) (nat_shr 16 _)) rfl (by decide) ?_
  refine TL.pure (PV.addU rfl rfl hf.2.2.2.2.2.2.1) rfl (by decide) ?_
  refine TL.pure (PV.assign rfl) rfl (by decide) ?_
  refine TL.nil ?_
  refine TQ.thenC ?_
  refine TC.seq ?_
  refine TC.region ?_
  refine TL.pure (PV.move rfl) rfl (by decide) ?_
  refine TL.pure (PV.move rfl) rfl (by decide) ?_
  refine TL.pure (PV.shrK rfl rfl (by decide) (by decide) (nat_shr 32 _)) rfl (by decide) ?_
  refine TL.pure (PV.addU rfl rfl hf.2.2.2.2.2.2.2.1) rfl (by decide) ?_
  refine TL.pure (PV.assign rfl) rfl (by decide) ?_
  refine TL.nil ?_
  refine TQ.thenC ?_
  refine TC.seq ?_
  refine TC.region ?_
  refine TL.pure (PV.move rfl) rfl (by decide) ?_
  refine TL.pure (PV.conv Tb.int_231 Tb.int_3 rfl (conv_i (by have := hf.2.2.2.2.2.2.2.2.1; omega))) rfl (by decide) ?_
  refine TL.pure (PV.andK rfl rfl ((i64_and127 _).trans hf.2.2.2.2.2.2.2.2.2)) rfl (by decide) ?_
  refine TL.pure (PV.assign rfl) rfl (by decide) ?_
  refine TL.nil ?_
  refine TQ.thenC ?_
  refine TC.ret ?_
  refine TQ.retE1 rfl rfl ?_
  exact ⟨(), rfl, trivial, List.nil_sublist _⟩

set_option maxRecDepth 100000 in
theorem ones_ok (w0 : World) (x : Nat) (hx : x < 18446744073709551616) :
    Calls Tryz.prog 252 #[.int .u64 x] w0 (Post (X := Unit) (fun _ => .int .i64 (Mo.pc x : Nat)) (fun _ => True) (fun _ => []) w0) := by
  refine calls Tryz.func252 rfl (n := 8) rfl (by simp) ?_
  refine TC.seq ?_
  refine TC.region ?_
  refine TL.pure (PV.assign rfl) rfl (by decide) ?_
  refine TL.nil ?_
  refine TQ.thenC ?_
  refine TC.seq ?_
  refine TC.condF rfl ?_
  refine TC.skip ?_
  refine TQ.thenC ?_
  refine TC.seq ?_
  refine TC.region ?_
  refine TL.pure (PV.move rfl) rfl (by decide) ?_
  refine TL.call rfl Tb.gofn_255 (fun a w hs => ones64_ok w x hx) rfl (by decide) (fun _ _ => ?_)
  refine TL.pure (PV.assign rfl) rfl (by decide) ?_
  refine TL.nil ?_
  refine TQ.thenC ?_
  refine TC.ret ?_
  refine TQ.retE1 rfl rfl ?_
  exact ⟨(), rfl, trivial, List.nil_sublist _⟩

set_option maxRecDepth 100000 in
theorem count_ok (w0 : World) (x : Nat) (hx : x < 9223372036854775808) :
    Calls Tryz.prog 247 #[.int .i64 x] w0 (Post (X := Unit) (fun _ => .int .i64 (Mo.pc x : Nat)) (fun _ => True) (fun _ => []) w0) := by
  refine calls Tryz.func247 rfl (n := 6) rfl (by simp) ?_
  refine TC.seq ?_
  refine TC.region ?_
  refine TL.pure (PV.assign rfl) rfl (by decide) ?_
  refine TL.nil ?_
  refine TQ.thenC ?_
  refine TC.seq ?_
  refine TC.region ?_
  refine TL.pure (PV.move rfl) rfl (by decide) ?_
  refine TL.pure (PV.conv Tb.int_3 Tb.int_55 rfl (conv_u (by omega))) rfl (by decide) ?_
  refine TL.call rfl Tb.gofn_252 (fun a w hs => ones_ok w x (by omega)) rfl (by decide) (fun _ _ => ?_)
  refine TL.pure (PV.assign rfl) rfl (by decide) ?_
  refine TL.nil ?_
  refine TQ.thenC ?_
  refine TC.ret ?_
  refine TQ.retE1 rfl rfl ?_
  exact ⟨(), rfl, trivial, List.nil_sublist _⟩

set_option maxRecDepth 100000 in
theorem only_ok (w0 : World) (s : Nat) (hs4 : s ≤ 60) :
    Calls Tryz.prog 237 #[.int .i64 s] w0 (Post (X := Unit) (fun _ => .int .i64 (2 ^ s : Nat)) (fun _ => True) (fun _ => []) w0) := by
  refine calls Tryz.func237 rfl (n := 5) rfl (by simp) ?_
  refine TC.seq ?_
  refine TC.region ?_
  refine TL.pure (PV.assign rfl) rfl (by decide) ?_
  refine TL.nil ?_
  refine TQ.thenC ?_
  refine TC.seq ?_
  refine TC.region ?_
  refine TL.pure (PV.move rfl) rfl (by decide) ?_
  refine TL.pure (PV.shlK rfl rfl (by omega) (by omega) (shl_nat hs4)) rfl (by decide) ?_
  refine TL.pure (PV.assign rfl) rfl (by decide) ?_
  refine TL.nil ?_
  refine TQ.thenC ?_
  refine TC.ret ?_
  refine TQ.retE1 rfl rfl ?_
  exact ⟨(), rfl, trivial, List.nil_sublist _⟩

set_option maxRecDepth 100000 in
theorem isWithin_ok (w0 : World) (x y : Int) :
    Calls Tryz.prog 138 #[.int .i64 x, .int .i64 y] w0 (Post (X := Unit) (fun _ => .bool (decide (1 ≤ x ∧ x ≤ y))) (fun _ => True) (fun _ => []) w0) := by
  refine calls Tryz.func138 rfl (n := 12) rfl (by simp) ?_
  refine TC.seq ?_
  refine TC.region ?_
  refine TL.pure (PV.assign rfl) rfl (by decide) ?_
  refine TL.nil ?_
  refine TQ.thenC ?_
  refine TC.seq ?_
  refine TC.region ?_
  refine TL.pure (PV.move rfl) rfl (by decide) ?_
  refine TL.pure (PV.geq rfl rfl) rfl (by decide) ?_
  refine TL.pure (PV.move rfl) rfl (by decide) ?_
  first | refine TL.splitD 7 rfl (fun h0 => ?_) (fun h0 => ?_) | refine TL.split 7 rfl (fun h0 => ?_) (fun h0 => ?_)
  · refine TL.pure (PV.move rfl) rfl (by decide) ?_
    refine TL.pure (PV.move rfl) rfl (by decide) ?_
    refine TL.pure (PV.leq rfl rfl) rfl (by decide) ?_
    refine TL.pure (PV.pickT rfl rfl) rfl (by decide) ?_
    refine TL.pure (PV.assign rfl) rfl (by decide) ?_
    refine TL.nil ?_
    refine TQ.thenC ?_
    refine TC.ret ?_
    refine TQ.retE1 rfl rfl ?_
    exact ⟨(), congrArg Value.bool (by first | (refine bF ?_; omega) | (refine bT ?_; omega) | (refine decide_eq_decide.2 ?_; omega)), trivial, List.nil_sublist _⟩
  · refine TL.skip rfl (fun k hk => by cases hk; decide) ?_
    refine TL.skip rfl (fun k hk => by cases hk; decide) ?_
    refine TL.skip rfl (fun k hk => by cases hk; decide) ?_
    refine TL.pure (PV.pickF rfl rfl) rfl (by decide) ?_
    refine TL.pure (PV.assign rfl) rfl (by decide) ?_
    refine TL.nil ?_
    refine TQ.thenC ?_
    refine TC.ret ?_
    refine TQ.retE1 rfl rfl ?_
    exact ⟨(), congrArg Value.bool (by first | (refine bF ?_; omega) | (refine bT ?_; omega) | (refine decide_eq_decide.2 ?_; omega)), trivial, List.nil_sublist _⟩

set_option maxRecDepth 100000 in
theorem validate_ok (w0 : World) (r c k : Int) :
    Calls Tryz.prog 98 #[.agg #[.int .i64 r, .int .i64 c, .int .i64 k]] w0 (Post (X := Unit) (fun _ => .int .i64 (vI r c k)) (fun _ => True) (fun _ => []) w0) := by
  refine calls Tryz.func98 rfl (n := 19) rfl (by simp) ?_
  refine TC.seq ?_
  refine TC.region ?_
  refine TL.box rfl rfl (by decide) (fun b0 hb0 => ?_)
  refine TL.pure (PV.assign rfl) rfl (by decide) ?_
  refine TL.nil ?_
  refine TQ.thenC ?_
  refine TC.seq ?_
  refine TC.seq ?_
  refine TC.region ?_
  refine TL.pure (PV.fieldAddr rfl Tb.fo_52_0) rfl (by decide) ?_
  refine TL.pure (PV.load rfl Tb.one_3 (by repeat (first | exact List.Mem.head _ | refine List.Mem.tail _ ?_ | refine List.mem_append_right _ ?_)) rfl) rfl (by decide) ?_
  refine TL.call rfl Tb.gofn_138 (fun a w hs => isWithin_ok w _ _) rfl (by decide) (fun _ _ => ?_)
  refine TL.pure ((by first | exact PV.notD rfl | exact PV.not rfl)) rfl (by decide) ?_
  refine TL.pure (PV.move rfl) rfl (by decide) ?_
  first | refine TL.splitD 7 rfl (fun h0 => ?_) (fun h0 => ?_) | refine TL.split 7 rfl (fun h0 => ?_) (fun h0 => ?_)
  · refine TL.skip rfl (fun k hk => by cases hk; decide) ?_
    refine TL.skip rfl (fun k hk => by cases hk; decide) ?_
    refine TL.skip rfl (fun k hk => by cases hk; decide) ?_
    refine TL.skip rfl (fun k hk => by cases hk; decide) ?_
    refine TL.pure (PV.pickT rfl rfl) rfl (by decide) ?_
    refine TL.pure (PV.move rfl) rfl (by decide) ?_
    refine TL.skip rfl (fun k hk => by cases hk; decide) ?_
    refine TL.skip rfl (fun k hk => by cases hk; decide) ?_
    refine TL.skip rfl (fun k hk => by cases hk; decide) ?_
    refine TL.skip rfl (fun k hk => by cases hk; decide) ?_
    refine TL.pure (PV.pickT rfl rfl) rfl (by decide) ?_
    refine TL.nil ?_
    refine TQ.thenC ?_
    refine TC.condT rfl ?_
    refine TC.seq ?_
    refine TC.region ?_
    refine TL.pure (PV.assign rfl) rfl (by decide) ?_
    refine TL.nil ?_
    refine TQ.thenC ?_
    refine TC.ret ?_
    refine TQ.thenR ?_
    refine TQ.retE1 rfl rfl ?_
    exact ⟨(), congrArg (Value.int .i64) (by first | (refine (vI_no fun h => ?_).symm; unfold vB at h; omega) | (refine (vI_yes ?_).symm; unfold vB; omega)), trivial, List.nil_sublist _⟩
  · refine TL.pure (PV.fieldAddr rfl Tb.fo_52_1) rfl (by decide) ?_
    refine TL.pure (PV.load rfl Tb.one_3 (by repeat (first | exact List.Mem.head _ | refine List.Mem.tail _ ?_ | refine List.mem_append_right _ ?_)) rfl) rfl (by decide) ?_
    refine TL.call rfl Tb.gofn_138 (fun a w hs => isWithin_ok w _ _) rfl (by decide) (fun _ _ => ?_)
    refine TL.pure ((by first | exact PV.notD rfl | exact PV.not rfl)) rfl (by decide) ?_
    refine TL.pure (PV.pickF rfl rfl) rfl (by decide) ?_
    refine TL.pure (PV.move rfl) rfl (by decide) ?_
    first | refine TL.splitD 13 rfl (fun h1 => ?_) (fun h1 => ?_) | refine TL.split 13 rfl (fun h1 => ?_) (fun h1 => ?_)
    · refine TL.skip rfl (fun k hk => by cases hk; decide) ?_
      refine TL.skip rfl (fun k hk => by cases hk; decide) ?_
      refine TL.skip rfl (fun k hk => by cases hk; decide) ?_
      refine TL.skip rfl (fun k hk => by cases hk; decide) ?_
      refine TL.pure (PV.pickT rfl rfl) rfl (by decide) ?_
      refine TL.nil ?_
      refine TQ.thenC ?_
      refine TC.condT rfl ?_
      refine TC.seq ?_
      refine TC.region ?_
      refine TL.pure (PV.assign rfl) rfl (by decide) ?_
      refine TL.nil ?_
      refine TQ.thenC ?_
      refine TC.ret ?_
      refine TQ.thenR ?_
      refine TQ.retE1 rfl rfl ?_
      exact ⟨(), congrArg (Value.int .i64) (by first | (refine (vI_no fun h => ?_).symm; unfold vB at h; omega) | (refine (vI_yes ?_).symm; unfold vB; omega)), trivial, List.nil_sublist _⟩
    · refine TL.pure (PV.fieldAddr rfl Tb.fo_52_2) rfl (by decide) ?_
      refine TL.pure (PV.load rfl Tb.one_3 (by repeat (first | exact List.Mem.head _ | refine List.Mem.tail _ ?_ | refine List.mem_append_right _ ?_)) rfl) rfl (by decide) ?_
      refine TL.call rfl Tb.gofn_138 (fun a w hs => isWithin_ok w _ _) rfl (by decide) (fun _ _ => ?_)
      refine TL.pure ((by first | exact PV.notD rfl | exact PV.not rfl)) rfl (by decide) ?_
      refine TL.pure (PV.pickF rfl rfl) rfl (by decide) ?_
      refine TL.nil ?_
      refine TQ.thenC ?_
      first | refine TC.condD rfl (fun h2 => ?_) (fun h2 => ?_) | refine TC.cond rfl (fun h2 => ?_) (fun h2 => ?_)
      · refine TC.seq ?_
        refine TC.region ?_
        refine TL.pure (PV.assign rfl) rfl (by decide) ?_
        refine TL.nil ?_
        refine TQ.thenC ?_
        refine TC.ret ?_
        refine TQ.thenR ?_
        refine TQ.retE1 rfl rfl ?_
        exact ⟨(), congrArg (Value.int .i64) (by first | (refine (vI_no fun h => ?_).symm; unfold vB at h; omega) | (refine (vI_yes ?_).symm; unfold vB; omega)), trivial, List.nil_sublist _⟩
      · refine TC.skip ?_
        refine TQ.thenC ?_
        refine TC.seq ?_
        refine TC.region ?_
        refine TL.pure (PV.assign rfl) rfl (by decide) ?_
        refine TL.nil ?_
        refine TQ.thenC ?_
        refine TC.ret ?_
        refine TQ.retE1 rfl rfl ?_
        exact ⟨(), congrArg (Value.int .i64) (by first | (refine (vI_no fun h => ?_).symm; unfold vB at h; omega) | (refine (vI_yes ?_).symm; unfold vB; omega)), trivial, List.nil_sublist _⟩

set_option maxRecDepth 100000 in
theorem rsquares_ok (w0 : World) (m : Mo.Md) (ho : Mo.Ok m) :
    Calls Tryz.prog 191 #[mV m] w0 (Post (X := Unit) (fun _ => .int .i64 (m.N : Nat)) (fun _ => True) (fun _ => []) w0) := by
  have hN := ho.N36
  have hRC : (m.R : Int) * m.C = ((m.N : Nat) : Int) := (Int.natCast_mul _ _).symm
  refine calls Tryz.func191 rfl (n := 8) rfl (by simp) ?_
  refine TC.seq ?_
  refine TC.region ?_
  refine TL.box rfl rfl (by decide) (fun b0 hb0 => ?_)
  refine TL.pure (PV.assign rfl) rfl (by decide) ?_
  refine TL.nil ?_
  refine TQ.thenC ?_
  refine TC.seq ?_
  refine TC.region ?_
  refine TL.pure (PV.fieldAddr rfl Tb.fo_52_0) rfl (by decide) ?_
  refine TL.pure (PV.load rfl Tb.one_3 (by repeat (first | exact List.Mem.head _ | refine List.Mem.tail _ ?_ | refine List.mem_append_right _ ?_)) rfl) rfl (by decide) ?_
  refine TL.pure (PV.fieldAddr rfl Tb.fo_52_1) rfl (by decide) ?_
  refine TL.pure (PV.load rfl Tb.one_3 (by repeat (first | exact List.Mem.head _ | refine List.Mem.tail _ ?_ | refine List.mem_append_right _ ?_)) rfl) rfl (by decide) ?_
  refine TL.pure (PV.mul rfl rfl (by omega)) rfl (by decide) ?_
  refine TL.pure (PV.assign rfl) rfl (by decide) ?_
  refine TL.nil ?_
  refine TQ.thenC ?_
  refine TC.ret ?_
  refine TQ.retE1 rfl rfl ?_
  exact ⟨(), congrArg (Value.int .i64) hRC, trivial, List.nil_sublist _⟩

set_option maxRecDepth 100000 in
theorem all_ok (w0 : World) (m : Mo.Md) (ho : Mo.Ok m) :
    Calls Tryz.prog 234 #[mV m] w0 (Post (X := Unit) (fun _ => .int .i64 (Mo.full m : Nat)) (fun _ => True) (fun _ => []) w0) := by
  have hN := ho.N36
  have hRC : (m.R : Int) * m.C = ((m.N : Nat) : Int) := (Int.natCast_mul _ _).symm
  have h40 := N40 ho
  have h1p := Nat.two_pow_pos m.N
  refine calls Tryz.func234 rfl (n := 10) rfl (by simp) ?_
  refine TC.seq ?_
  refine TC.region ?_
  refine TL.box rfl rfl (by decide) (fun b0 hb0 => ?_)
  refine TL.pure (PV.assign rfl) rfl (by decide) ?_
  refine TL.nil ?_
  refine TQ.thenC ?_
  refine TC.seq ?_
  refine TC.region ?_
  refine TL.pure (PV.fieldAddr rfl Tb.fo_52_0) rfl (by decide) ?_
  refine TL.pure (PV.load rfl Tb.one_3 (by repeat (first | exact List.Mem.head _ | refine List.Mem.tail _ ?_ | refine List.mem_append_right _ ?_)) rfl) rfl (by decide) ?_
  refine TL.pure (PV.fieldAddr rfl Tb.fo_52_1) rfl (by decide) ?_
  refine TL.pure (PV.load rfl Tb.one_3 (by repeat (first | exact List.Mem.head _ | refine List.Mem.tail _ ?_ | refine List.mem_append_right _ ?_)) rfl) rfl (by decide) ?_
  refine TL.pure (PV.mul rfl rfl (by omega)) rfl (by decide) ?_
  refine TL.pure (PV.shlK rfl rfl (by omega) (by omega) ((congrArg (fun z : Int => IntKind.i64.wrap (1 * 2 ^ z.toNat)) hRC).trans (shl_nat (by omega)))) rfl (by decide) ?_
  refine TL.pure (PV.sub rfl rfl (by omega)) rfl (by decide) ?_
  refine TL.pure (PV.assign rfl) rfl (by decide) ?_
  refine TL.nil ?_
  refine TQ.thenC ?_
  refine TC.ret ?_
  refine TQ.retE1 rfl rfl ?_
  exact ⟨(), congrArg (Value.int .i64) (by unfold Mo.full; omega), trivial, List.nil_sublist _⟩

end Go.Proofs.YtbnjmkidbfmomaaGreatDoor.M
