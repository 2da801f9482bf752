/- The meadow of a text: contracts. -/
import Derived.Test.YtaeobkgogipceaaDoorUb
set_option linter.unusedVariables false
set_option linter.unusedSimpArgs false
namespace Go.Proofs.YtaeobkgogipceaaDoor
open Go.Sx Go.RowKit

theorem b_eq {b : UInt8} {k : Nat} (hk : k < 256) : ((b.toNat : Int) = (k : Int)) ↔ b = UInt8.ofNat k := by
  constructor
  · intro h
    have h1 : b.toNat = k := by omega
    apply UInt8.toNat_inj.1
    rw [h1, UInt8.toNat_ofNat']; omega
  · intro h
    rw [h, UInt8.toNat_ofNat']; omega
theorem b35 {b : UInt8} : ((b.toNat : Int) = 35) ↔ b = 35 := b_eq (k := 35) (by decide)
theorem b10 {b : UInt8} : ((b.toNat : Int) = 10) ↔ b = 10 := b_eq (k := 10) (by decide)
/-- Behind the first k bytes of what follows the first line: s squares, of which w are wet. -/
structure RdS (m : Mo.Md) (L : List UInt8) (k s w : Nat) : Prop where
  kl : k ≤ 2000
  sN : s ≤ m.N
  wl : w < 2 ^ s
  ok : ∀ S, S < 2 ^ m.N → L = Mo.fmt m S → k ≤ m.R * (m.C + 1) ∧ s = k / (m.C + 1) * m.C + k % (m.C + 1) ∧ w = S % 2 ^ s
theorem RdS.zero (m : Mo.Md) (L : List UInt8) : RdS m L 0 0 0 := ⟨Nat.zero_le _, Nat.zero_le _, Nat.two_pow_pos 0, fun S _ _ => ⟨Nat.zero_le _, by simp, by simp [Nat.mod_one]⟩⟩
theorem RdS.at {m : Mo.Md} {L : List UInt8} {k S : Nat} (hS : L = Mo.fmt m S) (hk : 13 + k < L.length) : L.getD (13 + k) 0 = Mo.bf m S k ∧ k < m.R * (m.C + 1) := by
  have hl := Mo.fmt_len m S
  rw [hS] at hk ⊢
  have : k < m.R * (m.C + 1) := by omega
  exact ⟨Mo.fmt_get this, this⟩
theorem or_up {w s : Nat} (h : w < 2 ^ s) : w ||| 2 ^ s < 2 ^ (s + 1) := Nat.or_lt_two_pow (Nat.lt_of_lt_of_le h (Nat.pow_le_pow_right (by decide) (by omega))) (Nat.pow_lt_pow_right (by decide) (by omega))
theorem RdS.wet {m : Mo.Md} (ho : Mo.Ok m) {L : List UInt8} {k s w : Nat} (hL : L.length ≤ 2000) (h : RdS m L k s w) (hk : 13 + k < L.length) (hs : s < m.N) (hc : L.getD (13 + k) 0 = 35) : RdS m L (k + 1) (s + 1) (w ||| 2 ^ s) := by
  refine ⟨by omega, hs, or_up h.wl, fun S hS hf => ?_⟩
  obtain ⟨h1, h2, h3⟩ := h.ok S hS hf
  obtain ⟨h4, h5⟩ := RdS.at hf hk
  rw [hc] at h4
  obtain ⟨h6, h7⟩ := Mo.bf_35.1 h4.symm
  rw [← h2] at h7
  have ht := Mo.total ho
  have h8 := (Mo.sc_fin m.C (by have := ho.C6; omega) k (by omega) (by have := ho.C1; omega)).2 h6
  exact ⟨h5, by omega, by rw [Mo.mod_up, if_pos h7, h3]⟩
theorem RdS.dry {m : Mo.Md} (ho : Mo.Ok m) {L : List UInt8} {k s w : Nat} (hL : L.length ≤ 2000) (h : RdS m L k s w) (hk : 13 + k < L.length) (hs : s < m.N) (hc : L.getD (13 + k) 0 ≠ 35) (hd : L.getD (13 + k) 0 ≠ 10) : RdS m L (k + 1) (s + 1) w := by
  refine ⟨by omega, hs, Nat.lt_of_lt_of_le h.wl (Nat.pow_le_pow_right (by decide) (by omega)), fun S hS hf => ?_⟩
  obtain ⟨h1, h2, h3⟩ := h.ok S hS hf
  obtain ⟨h4, h5⟩ := RdS.at hf hk
  rw [h4] at hc hd
  have h6 := fun e => hd (Mo.bf_10.2 e)
  have h7 : ¬ S.testBit s = true := fun e => hc (Mo.bf_35.2 ⟨h6, by rw [← h2]; exact e⟩)
  have ht := Mo.total ho
  have h8 := (Mo.sc_fin m.C (by have := ho.C6; omega) k (by omega) (by have := ho.C1; omega)).2 h6
  exact ⟨h5, by omega, by rw [Mo.mod_up, if_neg h7, h3]⟩
theorem RdS.nl {m : Mo.Md} (ho : Mo.Ok m) {L : List UInt8} {k s w : Nat} (hL : L.length ≤ 2000) (h : RdS m L k s w) (hk : 13 + k < L.length) (hd : L.getD (13 + k) 0 = 10) : RdS m L (k + 1) s w := by
  refine ⟨by omega, h.sN, h.wl, fun S hS hf => ?_⟩
  obtain ⟨h1, h2, h3⟩ := h.ok S hS hf
  obtain ⟨h4, h5⟩ := RdS.at hf hk
  rw [h4] at hd
  have h6 := Mo.bf_10.1 hd
  have ht := Mo.total ho
  have h8 := (Mo.sc_fin m.C (by have := ho.C6; omega) k (by omega) (by have := ho.C1; omega)).1 h6
  exact ⟨h5, by omega, h3⟩
theorem RdS.done {m : Mo.Md} (ho : Mo.Ok m) {L : List UInt8} {k s w : Nat} (h : RdS m L k s w) (hd : L.length ≤ 13 + k ∨ m.N ≤ s) : w < 2 ^ m.N ∧ ∀ S, S < 2 ^ m.N → L = Mo.fmt m S → w = S := by
  refine ⟨Nat.lt_of_lt_of_le h.wl (Nat.pow_le_pow_right (by decide) h.sN), fun S hS hf => ?_⟩
  obtain ⟨h1, h2, h3⟩ := h.ok S hS hf
  have hs : s = m.N := by
    rcases hd with h4 | h4
    · rw [hf, Mo.fmt_len] at h4
      have h5 : k = m.R * (m.C + 1) := by omega
      rw [h2, h5]
      exact Mo.se_fin m.R (by have := ho.R6; omega) m.C (by have := ho.C6; omega) ho.C1
    · have := h.sN; omega
  rw [h3, hs, Nat.mod_eq_of_lt hS]
theorem rFormat_v (w : World) (m : Mo.Md) (ho : Mo.Ok m) (S : Nat) (hS : S < 2 ^ m.N) : Calls Tryd.prog 53 #[mV m, .int .i64 S] w (Post (X := Unit) (fun _ => .tuple #[str (Mo.fmt m S), .int .i64 0]) (fun _ => True) (fun _ => []) w) := by
  have := rFormat_ok w m.R m.C m.K S
  rw [zT_ok ho hS, gI_ok ho hS] at this
  exact this
/-- Where the rows say that a square is wet. -/
def mkB (m : Mo.Md) (L : List UInt8) (q : Nat) : Bool := decide (q + q / m.C < L.length ∧ ((L.getD (q + q / m.C) 0).toNat : Int) = 35)
def mkd (m : Mo.Md) (L : List UInt8) : Nat := orL (mkB m L) (Mo.sqL (Mo.full m))
theorem mkd_lt {m : Mo.Md} (ho : Mo.Ok m) (L : List UInt8) : mkd m L < 2 ^ m.N := orL_lt fun q hq => sq_lt ho (Mo.full_lt m) hq
theorem mkd_fmt {m : Mo.Md} (ho : Mo.Ok m) {S : Nat} (hS : S < 2 ^ m.N) : mkd m (Mo.bd m S (m.R * (m.C + 1))) = S := Nat.eq_of_testBit_eq fun i => by
  unfold mkd
  rw [orL_t]
  have hmem : decide (i ∈ Mo.sqL (Mo.full m)) = decide (i < m.N) := decide_eq_decide.2 (by rw [Mo.mem_sq (Mo.p64 ho (Mo.full_lt m)), Mo.full_t, decide_eq_true_eq])
  rw [hmem]
  by_cases hi : i < m.N
  · obtain ⟨h1, h2⟩ := Mo.bf_at (S := S) ho hi
    rw [decide_eq_true hi, Bool.true_and, Bool.eq_iff_iff, ← Mo.mk_35, ← h1]
    unfold mkB
    rw [decide_eq_true_eq, Mo.bd_len, Mo.bd_get h2, b35]
    exact ⟨fun h => h.2, fun h => ⟨h2, h⟩⟩
  · rw [decide_eq_false hi, Bool.false_and, Nat.testBit_lt_two_pow (Nat.lt_of_lt_of_le hS (Nat.pow_le_pow_right (by decide) (by omega)))]


set_option maxRecDepth 100000 in
set_option maxHeartbeats 1000000 in
theorem read_ok (w0 : World) (m : Mo.Md) (ho : Mo.Ok m) (L : List UInt8) (hL : L.length ≤ 2000) :
    Calls Tryd.prog 94 #[mV m, str L] w0 (Post (X := Nat) (fun x => .tuple #[.int .i64 x, .bool (decide (Mo.fmt m x = L))]) (fun x => x < 2 ^ m.N ∧ ∀ S, S < 2 ^ m.N → L = Mo.fmt m S → x = S) (fun _ => []) w0) := by
  have hN := ho.N36
  refine calls Tryd.func94 rfl (n := 48) rfl (by simp) ?_
  refine TC.seq ?_
  refine TC.region ?_
  refine TL.box rfl rfl (by decide) (fun b0 hb0 => ?_)
  refine TL.pure (PV.assign rfl) rfl (by decide) ?_
  refine TL.pure (PV.assign rfl) rfl (by decide) ?_
  refine TL.nil ?_
  refine TQ.thenC ?_
  refine TC.seq ?_
  refine TC.region ?_
  refine TL.pure (PV.assign rfl) rfl (by decide) ?_
  refine TL.pure (PV.assign rfl) rfl (by decide) ?_
  refine TL.nil ?_
  refine TQ.thenC ?_
  refine TC.seq ?_
  refine TC.seq ?_
  refine TC.region ?_
  refine TL.pure (PV.assign rfl) rfl (by decide) ?_
  refine TL.nil ?_
  refine TQ.thenC ?_
  refine TC.block ?_
  refine TC.loopG [1, 2, 4, 5] (X := Nat × Nat × Nat) (fun x => RdS m L x.1 x.2.1 x.2.2) (fun x => [(6, .int .i64 (x.2.2 : Nat)), (7, .int .i64 (x.2.1 : Nat)), (8, .int .i64 ((13 + x.1 : Nat)))]) (fun x => L.length - x.1) (0, 0, 0) (RdS.zero m L) (by repeat (first | exact True.intro | refine And.intro rfl ?_)) ?_
  intro x hx
  have hk2 := hx.kl
  have hsN := hx.sN
  have hw63 : x.2.2 < 9223372036854775808 := set63 ho (Nat.lt_of_lt_of_le hx.wl (Nat.pow_le_pow_right (by decide) hx.sN))
  refine TC.seq ?_
  refine TC.seq ?_
  refine TC.region ?_
  refine TL.pure (PV.move rfl) rfl (by decide) ?_
  refine TL.pure (PV.move rfl) rfl (by decide) ?_
  refine TL.pure (PV.lenS rfl Tb.str_9) rfl (by decide) ?_
  refine TL.pure (PV.lss rfl rfl) rfl (by decide) ?_
  refine TL.pure (PV.move rfl) rfl (by decide) ?_
  first | refine TL.splitD 15 rfl (fun hil => ?_) (fun hil => ?_) | refine TL.split 15 rfl (fun hil => ?_) (fun hil => ?_)
  · skip
    refine TL.pure (PV.move rfl) rfl (by decide) ?_
    refine TL.pure (PV.loadBox rfl Tb.agg_23 (by repeat (first | exact List.Mem.head _ | refine List.Mem.tail _ ?_ | refine List.mem_append_right _ ?_)) rfl) rfl (by decide) ?_
    refine TL.call rfl Tb.gofn_61 (fun a w hs => rsquares_ok w m ho) rfl (by decide) (fun _ _ => ?_)
    refine TL.pure (PV.lss rfl rfl) rfl (by decide) ?_
    refine TL.pure (PV.pickT rfl rfl) rfl (by decide) ?_
    refine TL.nil ?_
    refine TQ.thenC ?_
    first | refine TC.condD rfl (fun hsn => ?_) (fun hsn => ?_) | refine TC.cond rfl (fun hsn => ?_) (fun hsn => ?_)
    · skip
      refine TC.skip ?_
      refine TQ.thenC ?_
      refine TC.seq ?_
      refine TC.block ?_
      refine TC.seq ?_
      refine TC.seq ?_
      refine TC.region ?_
      refine TL.pure (PV.move rfl) rfl (by decide) ?_
      refine TL.pure (PV.move rfl) rfl (by decide) ?_
      refine TL.pure (PV.indexS (j := 13 + x.1) rfl rfl Tb.str_9 rfl (by omega)) rfl (by decide) ?_
      refine TL.pure (PV.eqlK rfl rfl) rfl (by decide) ?_
      refine TL.nil ?_
      refine TQ.thenC ?_
      first | refine TC.condD rfl (fun h35 => ?_) (fun h35 => ?_) | refine TC.cond rfl (fun h35 => ?_) (fun h35 => ?_)
      · skip
        refine TC.region ?_
        refine TL.pure (PV.move rfl) rfl (by decide) ?_
        refine TL.pure (PV.move rfl) rfl (by decide) ?_
        refine TL.pure (PV.conv Tb.int_3 Tb.int_43 rfl (conv_u (by omega))) rfl (by decide) ?_
        refine TL.pure (PV.shlK rfl rfl (by omega) (by omega) (shl_nat (by omega))) rfl (by decide) ?_
        refine TL.pure (PV.orK rfl rfl (i64_or_nat hw63 (p63 (by omega)))) rfl (by decide) ?_
        refine TL.pure (PV.assign rfl) rfl (by decide) ?_
        refine TL.nil ?_
        refine TQ.thenC ?_
        refine TC.seq ?_
        refine TC.region ?_
        refine TL.pure (PV.move rfl) rfl (by decide) ?_
        refine TL.pure (PV.move rfl) rfl (by decide) ?_
        refine TL.pure (PV.indexS (j := 13 + x.1) rfl rfl Tb.str_9 rfl (by omega)) rfl (by decide) ?_
        refine TL.pure (PV.neqK rfl rfl) rfl (by decide) ?_
        refine TL.nil ?_
        refine TQ.thenC ?_
        first | refine TC.condD rfl (fun h10 => ?_) (fun h10 => ?_) | refine TC.cond rfl (fun h10 => ?_) (fun h10 => ?_)
        · skip
          refine TC.region ?_
          refine TL.pure (PV.move rfl) rfl (by decide) ?_
          refine TL.pure (PV.add rfl rfl (by omega)) rfl (by decide) ?_
          refine TL.pure (PV.assign rfl) rfl (by decide) ?_
          refine TL.nil ?_
          refine TQ.blkN ?_
          refine TQ.thenC ?_
          refine TC.region ?_
          refine TL.pure (PV.move rfl) rfl (by decide) ?_
          refine TL.pure (PV.add rfl rfl (by omega)) rfl (by decide) ?_
          refine TL.pure (PV.assign rfl) rfl (by decide) ?_
          refine TL.nil ?_
          refine TQ.thenN ?_
          refine TQ.backK (x.1 + 1, x.2.1 + 1, x.2.2 ||| 2 ^ x.2.1) (by repeat (first | exact True.intro | refine And.intro rfl ?_)) (by repeat (first | exact True.intro | refine And.intro rfl ?_)) (by repeat (first | exact List.Sublist.slnil | exact List.nil_sublist _ | exact List.Sublist.refl _ | refine List.Sublist.cons_cons _ ?_ | refine List.Sublist.cons _ ?_ | refine List.Sublist.trans ?_ (List.sublist_append_right _ _))) (hx.wet ho hL (by omega) (by omega) (b35.1 h35)) (by simp only; omega)
        · skip
          refine TC.skip ?_
          refine TQ.blkN ?_
          refine TQ.thenC ?_
          refine TC.region ?_
          refine TL.pure (PV.move rfl) rfl (by decide) ?_
          refine TL.pure (PV.add rfl rfl (by omega)) rfl (by decide) ?_
          refine TL.pure (PV.assign rfl) rfl (by decide) ?_
          refine TL.nil ?_
          refine TQ.thenN ?_
          refine TQ.backK (x.1 + 1, x.2.1, x.2.2 ||| 2 ^ x.2.1) (by repeat (first | exact True.intro | refine And.intro rfl ?_)) (by repeat (first | exact True.intro | refine And.intro rfl ?_)) (by repeat (first | exact List.Sublist.slnil | exact List.nil_sublist _ | exact List.Sublist.refl _ | refine List.Sublist.cons_cons _ ?_ | refine List.Sublist.cons _ ?_ | refine List.Sublist.trans ?_ (List.sublist_append_right _ _))) (by exfalso; omega) (by simp only; omega)
      · skip
        refine TC.skip ?_
        refine TQ.thenC ?_
        refine TC.seq ?_
        refine TC.region ?_
        refine TL.pure (PV.move rfl) rfl (by decide) ?_
        refine TL.pure (PV.move rfl) rfl (by decide) ?_
        refine TL.pure (PV.indexS (j := 13 + x.1) rfl rfl Tb.str_9 rfl (by omega)) rfl (by decide) ?_
        refine TL.pure (PV.neqK rfl rfl) rfl (by decide) ?_
        refine TL.nil ?_
        refine TQ.thenC ?_
        first | refine TC.condD rfl (fun h10 => ?_) (fun h10 => ?_) | refine TC.cond rfl (fun h10 => ?_) (fun h10 => ?_)
        · skip
          refine TC.region ?_
          refine TL.pure (PV.move rfl) rfl (by decide) ?_
          refine TL.pure (PV.add rfl rfl (by omega)) rfl (by decide) ?_
          refine TL.pure (PV.assign rfl) rfl (by decide) ?_
          refine TL.nil ?_
          refine TQ.blkN ?_
          refine TQ.thenC ?_
          refine TC.region ?_
          refine TL.pure (PV.move rfl) rfl (by decide) ?_
          refine TL.pure (PV.add rfl rfl (by omega)) rfl (by decide) ?_
          refine TL.pure (PV.assign rfl) rfl (by decide) ?_
          refine TL.nil ?_
          refine TQ.thenN ?_
          refine TQ.backK (x.1 + 1, x.2.1 + 1, x.2.2) (by repeat (first | exact True.intro | refine And.intro rfl ?_)) (by repeat (first | exact True.intro | refine And.intro rfl ?_)) (by repeat (first | exact List.Sublist.slnil | exact List.nil_sublist _ | exact List.Sublist.refl _ | refine List.Sublist.cons_cons _ ?_ | refine List.Sublist.cons _ ?_ | refine List.Sublist.trans ?_ (List.sublist_append_right _ _))) (hx.dry ho hL (by omega) (by omega) (fun e => h35 (b35.2 e)) (fun e => h10 (b10.2 e))) (by simp only; omega)
        · skip
          refine TC.skip ?_
          refine TQ.blkN ?_
          refine TQ.thenC ?_
          refine TC.region ?_
          refine TL.pure (PV.move rfl) rfl (by decide) ?_
          refine TL.pure (PV.add rfl rfl (by omega)) rfl (by decide) ?_
          refine TL.pure (PV.assign rfl) rfl (by decide) ?_
          refine TL.nil ?_
          refine TQ.thenN ?_
          refine TQ.backK (x.1 + 1, x.2.1, x.2.2) (by repeat (first | exact True.intro | refine And.intro rfl ?_)) (by repeat (first | exact True.intro | refine And.intro rfl ?_)) (by repeat (first | exact List.Sublist.slnil | exact List.nil_sublist _ | exact List.Sublist.refl _ | refine List.Sublist.cons_cons _ ?_ | refine List.Sublist.cons _ ?_ | refine List.Sublist.trans ?_ (List.sublist_append_right _ _))) (hx.nl ho hL (by omega) (b10.1 (by omega))) (by simp only; omega)
    · skip
      refine TC.exit ?_
      refine TQ.thenE ?_
      refine TQ.thenE ?_
      refine TQ.blkS ?_
      refine TQ.thenC ?_
      refine TC.seq ?_
      have hdn := hx.done ho (show L.length ≤ 13 + x.1 ∨ m.N ≤ x.2.1 by omega)
      refine TC.region ?_
      refine TL.pure (PV.loadBox rfl Tb.agg_23 (by repeat (first | exact List.Mem.head _ | refine List.Mem.tail _ ?_ | refine List.mem_append_right _ ?_)) rfl) rfl (by decide) ?_
      refine TL.pure (PV.move rfl) rfl (by decide) ?_
      refine TL.call rfl Tb.gofn_53 (fun a w hs => rFormat_v w m ho _ hdn.1) rfl (by decide) (fun _ _ => ?_)
      refine TL.pure (PV.move rfl) rfl (by decide) ?_
      refine TL.pure (PV.extract rfl rfl) rfl (by decide) ?_
      refine TL.pure (PV.extract rfl rfl) rfl (by decide) ?_
      refine TL.pure (PV.assign rfl) rfl (by decide) ?_
      refine TL.pure (PV.assign rfl) rfl (by decide) ?_
      refine TL.nil ?_
      refine TQ.thenC ?_
      refine TC.seq ?_
      refine TC.region ?_
      refine TL.pure (PV.move rfl) rfl (by decide) ?_
      refine TL.pure (PV.move rfl) rfl (by decide) ?_
      refine TL.pure (PV.move rfl) rfl (by decide) ?_
      refine TL.pure (PV.eqS rfl rfl) rfl (by decide) ?_
      refine TL.pure (PV.assign rfl) rfl (by decide) ?_
      refine TL.pure (PV.assign rfl) rfl (by decide) ?_
      refine TL.nil ?_
      refine TQ.thenC ?_
      refine TC.ret ?_
      refine TQ.retE2 rfl rfl rfl ?_
      exact ⟨x.2.2, rfl, hdn, List.nil_sublist _⟩
  · skip
    refine TL.skip rfl (fun k hk => by cases hk; decide) ?_
    refine TL.skip rfl (fun k hk => by cases hk; decide) ?_
    refine TL.skip rfl (fun k hk => by cases hk; decide) ?_
    refine TL.skip rfl (fun k hk => by cases hk; decide) ?_
    refine TL.pure (PV.pickF rfl rfl) rfl (by decide) ?_
    refine TL.nil ?_
    refine TQ.thenC ?_
    refine TC.condF rfl ?_
    refine TC.exit ?_
    refine TQ.thenE ?_
    refine TQ.thenE ?_
    refine TQ.blkS ?_
    refine TQ.thenC ?_
    refine TC.seq ?_
    have hdn := hx.done ho (show L.length ≤ 13 + x.1 ∨ m.N ≤ x.2.1 by omega)
    refine TC.region ?_
    refine TL.pure (PV.loadBox rfl Tb.agg_23 (by repeat (first | exact List.Mem.head _ | refine List.Mem.tail _ ?_ | refine List.mem_append_right _ ?_)) rfl) rfl (by decide) ?_
    refine TL.pure (PV.move rfl) rfl (by decide) ?_
    refine TL.call rfl Tb.gofn_53 (fun a w hs => rFormat_v w m ho _ hdn.1) rfl (by decide) (fun _ _ => ?_)
    refine TL.pure (PV.move rfl) rfl (by decide) ?_
    refine TL.pure (PV.extract rfl rfl) rfl (by decide) ?_
    refine TL.pure (PV.extract rfl rfl) rfl (by decide) ?_
    refine TL.pure (PV.assign rfl) rfl (by decide) ?_
    refine TL.pure (PV.assign rfl) rfl (by decide) ?_
    refine TL.nil ?_
    refine TQ.thenC ?_
    refine TC.seq ?_
    refine TC.region ?_
    refine TL.pure (PV.move rfl) rfl (by decide) ?_
    refine TL.pure (PV.move rfl) rfl (by decide) ?_
    refine TL.pure (PV.move rfl) rfl (by decide) ?_
    refine TL.pure (PV.eqS rfl rfl) rfl (by decide) ?_
    refine TL.pure (PV.assign rfl) rfl (by decide) ?_
    refine TL.pure (PV.assign rfl) rfl (by decide) ?_
    refine TL.nil ?_
    refine TQ.thenC ?_
    refine TC.ret ?_
    refine TQ.retE2 rfl rfl rfl ?_
    exact ⟨x.2.2, rfl, hdn, List.nil_sublist _⟩

set_option maxRecDepth 100000 in
set_option maxHeartbeats 1000000 in
theorem marked_ok (w0 : World) (ht : TzAt w0) (m : Mo.Md) (ho : Mo.Ok m) (L : List UInt8) (hL : L.length ≤ 2000) :
    Calls Tryd.prog 93 #[mV m, str L] w0 (Post (X := Unit) (fun _ => .int .i64 (mkd m L : Nat)) (fun _ => True) (fun _ => []) w0) := by
  have hf := Mo.full_lt m
  have hf63 := full_63 ho
  have hN := ho.N36
  have hC1 := ho.C1
  refine callsRF Tryd.func93 rfl (n := 33) rfl (by simp) ?_
  refine TC.seq ?_
  refine TC.region ?_
  refine TL.box rfl rfl (by decide) (fun b0 hb0 => ?_)
  refine TL.box rfl rfl (by decide) (fun b1 hb1 => ?_)
  refine TL.pure (PV.assign rfl) rfl (by decide) ?_
  refine TL.nil ?_
  refine TQ.thenC ?_
  refine TC.seq ?_
  refine TC.region ?_
  refine TL.alloc Tb.zero_3 rfl (by decide) (fun b2 hb2 => ?_)
  refine TL.store rfl rfl Tb.cells_3 rfl (by repeat (first | exact Upd.head _ | apply Upd.tail | apply Upd.appR)) (by first | decide | (simp; done) | (simp; omega) | omega) rfl rfl ?_
  refine TL.nil ?_
  refine TQ.thenC ?_
  refine TC.seq ?_
  refine TC.seq ?_
  refine TC.region ?_
  refine TL.pure (PV.loadBox rfl Tb.agg_23 (by repeat (first | exact List.Mem.head _ | refine List.Mem.tail _ ?_ | refine List.mem_append_right _ ?_)) rfl) rfl (by decide) ?_
  refine TL.call rfl Tb.gofn_71 (fun a w hs => all_ok w m ho) rfl (by decide) (fun _ _ => ?_)
  refine TL.call rfl Tb.gofn_58 (fun a w hs => squares_ok w (Mo.full m)) rfl (by decide) (fun bx hbx => ?_)
  refine TL.nil ?_
  refine TQ.thenC ?_
  refine TC.block ?_
  refine TC.rangeFunc (encs := fun s : Nat => [.int .i64 s]) (kept := [(bx, Obj.cells #[.int .i64 (Mo.full m : Nat)] 3 (0, 0))]) (α := Nat) (X := Nat) (Y := Unit) (Z := Nat) (ps := [11]) (fun pre s => s = orL (mkB m L) pre) (fun s => [(bx, Obj.cells #[.int .i64 (Mo.full m : Nat)] 3 (0, 0)), (b2, Obj.cells #[.int .i64 (s : Nat)] 3 (0, 0)), (b1, Obj.cells #[str L] 9 (0, 0)), (b0, Obj.cells #[.int .i64 m.R, .int .i64 m.C, .int .i64 m.K] 23 (0, 0))]) (fun pre y => False) (fun y => []) 0 (fun x s z => z = s) (fun x z => [(6, .int .i64 x), (2, .pointer (some ⟨b0, 0, none⟩)), (3, .pointer (some ⟨b1, 0, none⟩)), (5, .pointer (some ⟨b2, 0, none⟩))]) (fun x z => [(bx, Obj.cells #[.int .i64 (Mo.full m : Nat)] 3 (0, 0)), (b2, Obj.cells #[.int .i64 (z : Nat)] 3 (0, 0)), (b1, Obj.cells #[str L] 9 (0, 0)), (b0, Obj.cells #[.int .i64 m.R, .int .i64 m.C, .int .i64 m.K] 23 (0, 0))]) rfl Tb.gofn_95 (squares_it w0 ht _ hf63 bx) (fun _ => rfl) (by decide) rfl (by repeat (first | exact List.Sublist.slnil | exact List.nil_sublist _ | exact List.Sublist.refl _ | refine List.Sublist.cons_cons _ ?_ | refine List.Sublist.cons _ ?_ | refine List.Sublist.trans ?_ (List.sublist_append_right _ _))) (fun s q hq => by simp only [List.mem_cons, List.not_mem_nil, or_false] at hq; subst hq; exact List.Mem.head _) ?_ ?_ ?_ ?_
  · skip
    intro lR TR pre x s hp_ hF_
    refine TG.region (by repeat (first | with_reducible exact RB.lo | with_reducible exact QN.lo | with_reducible exact bodyM_lo | with_reducible exact bodyP_lo | with_reducible apply lo_then | with_reducible apply lo_blk)) (by kernel_rfl) ?_
    refine TL.pure (PV.assign rfl) rfl (by decide) ?_
    refine TL.nil ?_
    refine TQ.gmid s rfl (by repeat (first | exact True.intro | refine And.intro rfl ?_)) (List.Sublist.refl _)
  · skip
    intro lR TR pre x s z hp_ hF_ hz_
    obtain rfl : s = z := hz_.symm
    have hmem := pre_mem hp_
    have hxN := sq_lt ho hf hmem
    have hall : ∀ q ∈ pre ++ [x], q < m.N := fun q hq => sq_lt ho hf (hp_.subset hq)
    have hs63 : s < 9223372036854775808 := by rw [hF_]; exact set63 ho (orL_lt fun q hq => hall q (List.mem_append_left _ hq))
    have hsn := orL_snoc (mkB m L) pre x
    have hxq := Nat.div_le_self x m.C
    have hq0 : (0 : Int) ≤ (x : Int) / (m.C : Int) := Int.ediv_nonneg (by omega) (by omega)
    have hq1 : (x : Int) / (m.C : Int) ≤ x := Int.ediv_le_self _ (by omega)
    refine TG.block ?_
    refine TG.seq ?_
    refine TG.region (by repeat (first | with_reducible exact RB.lo | with_reducible exact QN.lo | with_reducible exact bodyM_lo | with_reducible exact bodyP_lo | with_reducible apply lo_then | with_reducible apply lo_blk)) (by kernel_rfl) ?_
    refine TL.pure (PV.move rfl) rfl (by decide) ?_
    refine TL.pure (PV.move rfl) rfl (by decide) ?_
    refine TL.pure (PV.fieldAddr rfl Tb.fo_23_1) rfl (by decide) ?_
    refine TL.pure (PV.load rfl Tb.one_3 (by repeat (first | exact List.Mem.head _ | refine List.Mem.tail _ ?_ | refine List.mem_append_right _ ?_)) rfl) rfl (by decide) ?_
    refine TL.pure (PV.quoN rfl rfl (by omega) (by omega)) rfl (by decide) ?_
    refine TL.pure (PV.add rfl rfl (by omega)) rfl (by decide) ?_
    refine TL.pure (PV.assign rfl) rfl (by decide) ?_
    refine TL.nil ?_
    refine TQ.thenG ?_
    refine TG.seq ?_
    refine TG.region (by repeat (first | with_reducible exact RB.lo | with_reducible exact QN.lo | with_reducible exact bodyM_lo | with_reducible exact bodyP_lo | with_reducible apply lo_then | with_reducible apply lo_blk)) (by kernel_rfl) ?_
    refine TL.pure (PV.move rfl) rfl (by decide) ?_
    refine TL.pure (PV.load rfl Tb.one_9 (by repeat (first | exact List.Mem.head _ | refine List.Mem.tail _ ?_ | refine List.mem_append_right _ ?_)) rfl) rfl (by decide) ?_
    refine TL.pure (PV.lenS rfl Tb.str_9) rfl (by decide) ?_
    refine TL.pure (PV.lss rfl rfl) rfl (by decide) ?_
    refine TL.pure (PV.move rfl) rfl (by decide) ?_
    first | refine TL.splitD 22 rfl (fun hlt => ?_) (fun hlt => ?_) | refine TL.split 22 rfl (fun hlt => ?_) (fun hlt => ?_)
    · skip
      refine TL.pure (PV.load rfl Tb.one_9 (by repeat (first | exact List.Mem.head _ | refine List.Mem.tail _ ?_ | refine List.mem_append_right _ ?_)) rfl) rfl (by decide) ?_
      refine TL.pure (PV.move rfl) rfl (by decide) ?_
      refine TL.pure (PV.indexS (j := x + x / m.C) rfl rfl Tb.str_9 (by push_cast; rfl) (by omega)) rfl (by decide) ?_
      refine TL.pure (PV.eqlK rfl rfl) rfl (by decide) ?_
      refine TL.pure (PV.pickT rfl rfl) rfl (by decide) ?_
      refine TL.nil ?_
      refine TQ.thenG ?_
      first | refine TG.condD rfl (fun h35 => ?_) (fun h35 => ?_) | refine TG.cond rfl (fun h35 => ?_) (fun h35 => ?_)
      · skip
        have hkk : mkB m L x = true := decide_eq_true ⟨by omega, h35⟩
        rw [if_pos hkk, ← hF_] at hsn
        refine TG.mix (by repeat (first | with_reducible exact RB.lo | with_reducible exact QN.lo | with_reducible exact bodyM_lo | with_reducible exact bodyP_lo | with_reducible apply lo_then | with_reducible apply lo_blk)) (by kernel_rfl) [false, true, false, false, false] [(bx, Obj.cells #[.int .i64 (Mo.full m : Nat)] 3 (0, 0)), (b1, Obj.cells #[str L] 9 (0, 0)), (b0, Obj.cells #[.int .i64 m.R, .int .i64 m.C, .int .i64 m.K] 23 (0, 0))] 4 Tb.mixed rfl (by kernel_rfl) (by kernel_rfl) (by kernel_rfl) (by kernel_rfl) (by repeat (first | exact List.Sublist.slnil | exact List.nil_sublist _ | exact List.Sublist.refl _ | refine List.Sublist.cons_cons _ ?_ | refine List.Sublist.cons _ ?_ | refine List.Sublist.trans ?_ (List.sublist_append_right _ _))) ?_
        refine TB.no ?_
        refine TB.op (SOK.pure (PV.move rfl) rfl) (by decide) ?_
        refine TB.no ?_
        refine TB.no ?_
        refine TB.no ?_
        refine TB.fin ?_
        refine TX.step [0, 2] (by kernel_rfl) (by decide) ⟨⟨_, rfl, ?_⟩, ⟨_, rfl, ?_⟩, trivial⟩
        · skip
          refine TL.pure (PV.load rfl Tb.one_3 (by repeat (first | exact List.Mem.head _ | refine List.Mem.tail _ ?_ | refine List.mem_append_right _ ?_)) rfl) rfl (by decide) ?_
          refine TL.nil ?_
          refine TX.next (.inl (by repeat (first | exact List.Sublist.slnil | exact List.nil_sublist _ | exact List.Sublist.refl _ | refine List.Sublist.cons_cons _ ?_ | refine List.Sublist.cons _ ?_ | refine List.Sublist.trans ?_ (List.sublist_append_right _ _)))) ?_
          refine TX.step [2] (by kernel_rfl) (by decide) ⟨⟨_, rfl, ?_⟩, trivial⟩
          refine TL.call rfl Tb.gofn_79 (fun a w hs => only_ok w _ (by omega)) rfl (by decide) (fun _ _ => ?_)
          refine TL.nil ?_
          refine TX.next (.inr (by kernel_rfl)) ?_
          refine TX.step [3] (by kernel_rfl) (by decide) ⟨⟨_, rfl, ?_⟩, trivial⟩
          refine TL.pure (PV.orK rfl rfl (i64_or_nat hs63 (p63 (by omega)))) rfl (by decide) ?_
          refine TL.nil ?_
          refine TX.next (.inl (by repeat (first | exact List.Sublist.slnil | exact List.nil_sublist _ | exact List.Sublist.refl _ | refine List.Sublist.cons_cons _ ?_ | refine List.Sublist.cons _ ?_ | refine List.Sublist.trans ?_ (List.sublist_append_right _ _)))) ?_
          refine TX.step [4] (by kernel_rfl) (by decide) ⟨⟨_, rfl, ?_⟩, trivial⟩
          refine TL.store rfl rfl Tb.cells_3 rfl (by repeat (first | exact Upd.head _ | apply Upd.tail | apply Upd.appR)) (by first | decide | (simp; done) | (simp; omega) | omega) rfl rfl ?_
          refine TL.nil ?_
          refine TX.next (.inr (by kernel_rfl)) ?_
          refine TX.done (by kernel_rfl) ?_
          refine TQ.gblkN ?_
          first
            | (refine TQ.goOn (s ||| 2 ^ x) ?_ (by repeat (first | exact List.Sublist.slnil | exact List.nil_sublist _ | exact List.Sublist.refl _ | refine List.Sublist.cons_cons _ ?_ | refine List.Sublist.cons _ ?_ | refine List.Sublist.trans ?_ (List.sublist_append_right _ _)))
               exact hsn.symm)
            | (refine TQ.goOn s ?_ (by repeat (first | exact List.Sublist.slnil | exact List.nil_sublist _ | exact List.Sublist.refl _ | refine List.Sublist.cons_cons _ ?_ | refine List.Sublist.cons _ ?_ | refine List.Sublist.trans ?_ (List.sublist_append_right _ _)))
               rw [hsn, if_neg (by unfold mkB; rw [decide_eq_true_eq]; exact fun e => h35 e.2), ← hF_]; done)
            | (refine TQ.goOn s ?_ (by repeat (first | exact List.Sublist.slnil | exact List.nil_sublist _ | exact List.Sublist.refl _ | refine List.Sublist.cons_cons _ ?_ | refine List.Sublist.cons _ ?_ | refine List.Sublist.trans ?_ (List.sublist_append_right _ _)))
               rw [hsn, if_neg (by unfold mkB; rw [decide_eq_true_eq]; exact fun e => by omega), ← hF_]; done)
        · skip
          refine TL.call rfl Tb.gofn_79 (fun a w hs => only_ok w _ (by omega)) rfl (by decide) (fun _ _ => ?_)
          refine TL.nil ?_
          refine TX.next (.inr (by kernel_rfl)) ?_
          refine TX.step [0] (by kernel_rfl) (by decide) ⟨⟨_, rfl, ?_⟩, trivial⟩
          refine TL.pure (PV.load rfl Tb.one_3 (by repeat (first | exact List.Mem.head _ | refine List.Mem.tail _ ?_ | refine List.mem_append_right _ ?_)) rfl) rfl (by decide) ?_
          refine TL.nil ?_
          refine TX.next (.inl (by repeat (first | exact List.Sublist.slnil | exact List.nil_sublist _ | exact List.Sublist.refl _ | refine List.Sublist.cons_cons _ ?_ | refine List.Sublist.cons _ ?_ | refine List.Sublist.trans ?_ (List.sublist_append_right _ _)))) ?_
          refine TX.step [3] (by kernel_rfl) (by decide) ⟨⟨_, rfl, ?_⟩, trivial⟩
          refine TL.pure (PV.orK rfl rfl (i64_or_nat hs63 (p63 (by omega)))) rfl (by decide) ?_
          refine TL.nil ?_
          refine TX.next (.inl (by repeat (first | exact List.Sublist.slnil | exact List.nil_sublist _ | exact List.Sublist.refl _ | refine List.Sublist.cons_cons _ ?_ | refine List.Sublist.cons _ ?_ | refine List.Sublist.trans ?_ (List.sublist_append_right _ _)))) ?_
          refine TX.step [4] (by kernel_rfl) (by decide) ⟨⟨_, rfl, ?_⟩, trivial⟩
          refine TL.store rfl rfl Tb.cells_3 rfl (by repeat (first | exact Upd.head _ | apply Upd.tail | apply Upd.appR)) (by first | decide | (simp; done) | (simp; omega) | omega) rfl rfl ?_
          refine TL.nil ?_
          refine TX.next (.inr (by kernel_rfl)) ?_
          refine TX.done (by kernel_rfl) ?_
          refine TQ.gblkN ?_
          first
            | (refine TQ.goOn (s ||| 2 ^ x) ?_ (by repeat (first | exact List.Sublist.slnil | exact List.nil_sublist _ | exact List.Sublist.refl _ | refine List.Sublist.cons_cons _ ?_ | refine List.Sublist.cons _ ?_ | refine List.Sublist.trans ?_ (List.sublist_append_right _ _)))
               exact hsn.symm)
            | (refine TQ.goOn s ?_ (by repeat (first | exact List.Sublist.slnil | exact List.nil_sublist _ | exact List.Sublist.refl _ | refine List.Sublist.cons_cons _ ?_ | refine List.Sublist.cons _ ?_ | refine List.Sublist.trans ?_ (List.sublist_append_right _ _)))
               rw [hsn, if_neg (by unfold mkB; rw [decide_eq_true_eq]; exact fun e => h35 e.2), ← hF_]; done)
            | (refine TQ.goOn s ?_ (by repeat (first | exact List.Sublist.slnil | exact List.nil_sublist _ | exact List.Sublist.refl _ | refine List.Sublist.cons_cons _ ?_ | refine List.Sublist.cons _ ?_ | refine List.Sublist.trans ?_ (List.sublist_append_right _ _)))
               rw [hsn, if_neg (by unfold mkB; rw [decide_eq_true_eq]; exact fun e => by omega), ← hF_]; done)
      · skip
        refine TG.skip ?_
        refine TQ.gblkN ?_
        first
          | (refine TQ.goOn (s ||| 2 ^ x) ?_ (by repeat (first | exact List.Sublist.slnil | exact List.nil_sublist _ | exact List.Sublist.refl _ | refine List.Sublist.cons_cons _ ?_ | refine List.Sublist.cons _ ?_ | refine List.Sublist.trans ?_ (List.sublist_append_right _ _)))
             exact hsn.symm)
          | (refine TQ.goOn s ?_ (by repeat (first | exact List.Sublist.slnil | exact List.nil_sublist _ | exact List.Sublist.refl _ | refine List.Sublist.cons_cons _ ?_ | refine List.Sublist.cons _ ?_ | refine List.Sublist.trans ?_ (List.sublist_append_right _ _)))
             rw [hsn, if_neg (by unfold mkB; rw [decide_eq_true_eq]; exact fun e => h35 e.2), ← hF_]; done)
          | (refine TQ.goOn s ?_ (by repeat (first | exact List.Sublist.slnil | exact List.nil_sublist _ | exact List.Sublist.refl _ | refine List.Sublist.cons_cons _ ?_ | refine List.Sublist.cons _ ?_ | refine List.Sublist.trans ?_ (List.sublist_append_right _ _)))
             rw [hsn, if_neg (by unfold mkB; rw [decide_eq_true_eq]; exact fun e => by omega), ← hF_]; done)
    · skip
      refine TL.skip rfl (fun k hk => by cases hk; decide) ?_
      refine TL.skip rfl (fun k hk => by cases hk; decide) ?_
      refine TL.skip rfl (fun k hk => by cases hk; decide) ?_
      refine TL.skip rfl (fun k hk => by cases hk; decide) ?_
      refine TL.pure (PV.pickF rfl rfl) rfl (by decide) ?_
      refine TL.nil ?_
      refine TQ.thenG ?_
      refine TG.condF rfl ?_
      refine TG.skip ?_
      refine TQ.gblkN ?_
      first
        | (refine TQ.goOn (s ||| 2 ^ x) ?_ (by repeat (first | exact List.Sublist.slnil | exact List.nil_sublist _ | exact List.Sublist.refl _ | refine List.Sublist.cons_cons _ ?_ | refine List.Sublist.cons _ ?_ | refine List.Sublist.trans ?_ (List.sublist_append_right _ _)))
           exact hsn.symm)
        | (refine TQ.goOn s ?_ (by repeat (first | exact List.Sublist.slnil | exact List.nil_sublist _ | exact List.Sublist.refl _ | refine List.Sublist.cons_cons _ ?_ | refine List.Sublist.cons _ ?_ | refine List.Sublist.trans ?_ (List.sublist_append_right _ _)))
           rw [hsn, if_neg (by unfold mkB; rw [decide_eq_true_eq]; exact fun e => h35 e.2), ← hF_]; done)
        | (refine TQ.goOn s ?_ (by repeat (first | exact List.Sublist.slnil | exact List.nil_sublist _ | exact List.Sublist.refl _ | refine List.Sublist.cons_cons _ ?_ | refine List.Sublist.cons _ ?_ | refine List.Sublist.trans ?_ (List.sublist_append_right _ _)))
           rw [hsn, if_neg (by unfold mkB; rw [decide_eq_true_eq]; exact fun e => by omega), ← hF_]; done)
  · skip
    intro dB lB oB xs_ s hD_ hF_
    have hs9 : s = mkd m L := by rw [hF_, hD_]; rfl
    refine TQ.gblkN ?_
    refine TQ.thenD ?_
    refine TG.seq ?_
    refine TG.region (by repeat (first | with_reducible exact RB.lo | with_reducible exact QN.lo | with_reducible exact bodyM_lo | with_reducible exact bodyP_lo | with_reducible apply lo_then | with_reducible apply lo_blk)) (by kernel_rfl) ?_
    refine TL.pure (PV.load rfl Tb.one_3 (by repeat (first | exact List.Mem.head _ | refine List.Mem.tail _ ?_ | refine List.mem_append_right _ ?_)) rfl) rfl (by decide) ?_
    refine TL.pure (PV.assign rfl) rfl (by decide) ?_
    refine TL.nil ?_
    refine TQ.thenG ?_
    refine TG.ret ?_
    refine TQ.retM (by repeat (first | exact Take.head _ | apply Take.tail | apply Take.appR)) ?_
    refine TQ.retE1 rfl rfl ?_
    exact ⟨(), by rw [hs9], trivial, List.nil_sublist _⟩
  · skip
    intro dB lB oB xs_ y hP_ hF_
    exact hF_.elim

end Go.Proofs.YtaeobkgogipceaaDoor
