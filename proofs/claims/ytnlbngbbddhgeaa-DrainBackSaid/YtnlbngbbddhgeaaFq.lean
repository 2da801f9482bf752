/- The reference of flows and cuts: contracts. -/
import Derived.Test.YtnlbngbbddhgeaaFp
import Derived.Test.YtnlbngbbddhgeaaPq
set_option linter.unusedVariables false
set_option linter.unusedSimpArgs false
namespace Go.Proofs.Ytnlbngbbddhgeaa
open Go.Sx Go.RowKit


section
variable {P : Program} {n : Nat} {w0 : World} {E : Env} {G : Heap} {d : Option Nat} {ty : TypeId} {pos : String} {aft : Array Edge} {g : Option (Nat × Bool)}
theorem PV.conv {x : Operand} {k k2 : IntKind} {s t : Nat} {i v : Int} (hs : P.underlying s = some (.int k)) (ht : P.underlying t = some (.int k2)) (hx : evo E x = some (.int k i)) (hv : k2.wrap i = v) : PV P n w0 E G ⟨d, .convert s t x, ty, pos, aft, g⟩ (.int k2 v) :=
  fun a w hS => by
    subst hv
    simp only [execOp, hS.ev hx]
    simp [convert, run_underlying hs, run_underlying ht, Conv.intToInt]
theorem PV.shl {x y : Operand} {i j v : Int} {t t' : TypeId} (hx : evo E x = some (.int .i64 i)) (hy : evo E y = some (.int .u64 j)) (h0 : 0 ≤ j) (h1 : j ≤ 64) (hv : IntKind.i64.wrap (i * 2 ^ j.toNat) = v) : PV P n w0 E G ⟨d, .binOp .shl t x y t', ty, pos, aft, g⟩ (.int .i64 v) :=
  fun a w hS => by
    subst hv
    simp only [execOp, hS.ev hx, hS.ev hy]
    simp [binOp, eqGuard, shift_shl .i64 .u64 i j h0 h1]
theorem PV.shr {x y : Operand} {i j v : Int} {t t' : TypeId} (hx : evo E x = some (.int .i64 i)) (hy : evo E y = some (.int .u64 j)) (h0 : 0 ≤ j) (h1 : j ≤ 64) (hv : i / 2 ^ j.toNat = v) : PV P n w0 E G ⟨d, .binOp .shr t x y t', ty, pos, aft, g⟩ (.int .i64 v) :=
  fun a w hS => by
    subst hv
    simp only [execOp, hS.ev hx, hS.ev hy]
    simp [binOp, eqGuard, shift_shr .i64 .u64 i j h0 h1]
theorem PV.andI {x y : Operand} {i j v : Int} {t t' : TypeId} (hx : evo E x = some (.int .i64 i)) (hy : evo E y = some (.int .i64 j)) (hv : bits .and .i64 i j = v) : PV P n w0 E G ⟨d, .binOp .and t x y t', ty, pos, aft, g⟩ (.int .i64 v) :=
  fun a w hS => by
    subst hv
    simp only [execOp, hS.ev hx, hS.ev hy]
    simp [binOp, eqGuard, intBits_and]
theorem PV.orI {x y : Operand} {i j v : Int} {t t' : TypeId} (hx : evo E x = some (.int .i64 i)) (hy : evo E y = some (.int .i64 j)) (hv : bits .or .i64 i j = v) : PV P n w0 E G ⟨d, .binOp .or t x y t', ty, pos, aft, g⟩ (.int .i64 v) :=
  fun a w hS => by
    subst hv
    simp only [execOp, hS.ev hx, hS.ev hy]
    simp [binOp, eqGuard, intBits_or]
theorem PV.fieldAddrA {x : Operand} {q : Addr} {k : Nat} {t f : Nat} (hx : evo E x = some (.pointer (some q))) (hf : fieldOff P t f = some k) :
    PV P n w0 E G ⟨d, .fieldAddr t x f, ty, pos, aft, g⟩ (.pointer (some (q.add k))) :=
  fun a w hs => by
    unfold fieldOff at hf
    cases hu : P.underlying t with
    | none => simp [hu] at hf
    | some u =>
      cases u <;> simp only [hu] at hf <;> try (simp at hf; done)
      rename_i fs
      cases hfd : fs[f]? with
      | none => simp [hfd] at hf
      | some fd =>
        simp only [hfd] at hf
        cases hi : P.info? fd.type with
        | none => simp [hi] at hf
        | some i =>
          simp only [hi] at hf
          split at hf
          · cases hf
          · rename_i hne
            cases hf
            simp only [execOp, hs.ev hx]
            simp [Instr.fieldAt, run_underlying hu, hfd, Instr.sureAddr, fieldPlace, sizeOf, typeInfo, hi, hne]
end
theorem int_3 : Try.prog.underlying 3 = some (.int .i64) := by kernel_rfl
theorem int_81 : Try.prog.underlying 81 = some (.int .u64) := by kernel_rfl
theorem wrap_u : ∀ x : Nat, x < 9 → IntKind.u64.wrap (x : Int) = (x : Int) := by decide +kernel
theorem shl_one : ∀ x : Nat, x < 9 → IntKind.i64.wrap ((1 : Int) * 2 ^ ((x : Int)).toNat) = ((2 ^ x : Nat) : Int) := by decide +kernel
theorem shr_nat (m i : Nat) : ((m : Nat) : Int) / 2 ^ (((i : Nat) : Int)).toNat = ((m / 2 ^ i : Nat) : Int) := by
  rw [Int.toNat_natCast]; norm_cast
theorem and_one : ∀ x : Nat, x < 256 → bits .and .i64 (x : Int) 1 = ((x % 2 : Nat) : Int) := by decide +kernel
theorem ofInt_i64 (a : Nat) (ha : a < 9223372036854775808) : (BitVec.ofInt 64 (a : Int)).toNat = a := by
  rw [BitVec.ofInt_natCast, BitVec.toNat_ofNat]; exact Nat.mod_eq_of_lt (by omega)
theorem wrap_nat {a : Nat} (ha : a < 9223372036854775808) : IntKind.i64.wrap (a : Int) = (a : Int) := by rw [IntKind.wrap_i64]; omega
theorem and_nat {a b : Nat} (ha : a < 256) (hb : b < 256) : bits .and .i64 (a : Int) (b : Int) = ((a &&& b : Nat) : Int) := by
  have hx : a &&& b < 2 ^ 63 := Nat.and_lt_two_pow _ (by omega)
  show IntKind.i64.wrap ((BitVec.ofInt 64 (a : Int) &&& BitVec.ofInt 64 (b : Int)).toNat : Int) = _
  rw [BitVec.toNat_and, ofInt_i64 a (by omega), ofInt_i64 b (by omega), wrap_nat (by omega)]
theorem or_nat {a b : Nat} (ha : a < 256) (hb : b < 256) : bits .or .i64 (a : Int) (b : Int) = ((a ||| b : Nat) : Int) := by
  have hx : a ||| b < 2 ^ 63 := Nat.or_lt_two_pow (by omega) (by omega)
  show IntKind.i64.wrap ((BitVec.ofInt 64 (a : Int) ||| BitVec.ofInt 64 (b : Int)).toNat : Int) = _
  rw [BitVec.toNat_or, ofInt_i64 a (by omega), ofInt_i64 b (by omega), wrap_nat (by omega)]
theorem p2_256 {n : Nat} (h : n ≤ 8) : 2 ^ n ≤ 256 := Nat.pow_le_pow_right (by decide) h
theorem tb_mod (set v : Nat) : decide (((set / 2 ^ v % 2 : Nat) : Int) = 1) = set.testBit v := by
  rw [Nat.testBit_eq_decide_div_mod_eq]
  exact decide_eq_decide.2 (by omega)
theorem div_256 {set v : Nat} (h : set < 256) : set / 2 ^ v < 256 := Nat.lt_of_le_of_lt (Nat.div_le_self _ _) h
/-- A net of which the widths may be a little greater. -/
structure W1 (n s t : Nat) (rs : List Bd) : Prop where
  n8 : n ≤ 8
  sn : s < n
  tn : t < n
  st : s ≠ t
  len : rs.length ≤ 16
  ok : ∀ k, k < rs.length → (0 ≤ (rs.getD k default).a ∧ (rs.getD k default).a < n) ∧ (0 ≤ (rs.getD k default).b ∧ (rs.getD k default).b < n) ∧ 0 ≤ (rs.getD k default).m ∧ (rs.getD k default).m ≤ 40
theorem Vd.w1 {n s t : Nat} {rs : List Bd} (h : Vd n s t rs) : W1 n s t rs :=
  ⟨by have := h.n8; omega, by have := h.s0; omega, by have := h.t0; omega, by have := h.st; omega, h.len, fun k hk => by have := h.at hk; omega⟩
theorem W1.dr {n s t : Nat} {rs : List Bd} (h : W1 n s t rs) : ∀ e ∈ dr0 rs, (e.f < n ∧ e.t < n) ∧ 0 ≤ e.w ∧ e.w ≤ 40 := fun e he => by
  obtain ⟨k, hk, rfl⟩ := mkL_mem he
  have := h.ok k hk
  simp only [mkE]; omega
theorem W1.nn {n s t : Nat} {rs : List Bd} (h : W1 n s t rs) : ∀ e ∈ dr0 rs, 0 ≤ e.w := fun e he => (h.dr e he).2.1
theorem W1.nodes {n s t : Nat} {rs : List Bd} (h : W1 n s t rs) : ∀ e ∈ dr0 rs, e.f < n ∧ e.t < n := fun e he => (h.dr e he).1
theorem cutW_40 {S : Nat → Bool} : ∀ {L : List Fl.E}, (∀ e ∈ L, 0 ≤ e.w ∧ e.w ≤ 40) → 0 ≤ Fl.cutW S L ∧ Fl.cutW S L ≤ 40 * L.length
  | [], _ => by simp [Fl.cutW]
  | e :: l, h => by
    have h1 := h e List.mem_cons_self
    have h2 := cutW_40 (S := S) (L := l) fun x hx => h x (List.mem_cons_of_mem _ hx)
    simp only [Fl.cutW, List.length_cons]
    split <;> omega
theorem W1.cut {n s t : Nat} {rs : List Bd} (h : W1 n s t rs) (S : Nat → Bool) (k : Nat) : 0 ≤ Fl.cutW S ((dr0 rs).take k) ∧ Fl.cutW S ((dr0 rs).take k) ≤ 640 := by
  have h1 := cutW_40 (S := S) (L := (dr0 rs).take k) fun e he => (h.dr e (List.mem_of_mem_take he)).2
  have h2 : ((dr0 rs).take k).length ≤ 16 := by have := h.len; rw [List.length_take, mkL_len]; omega
  omega
theorem W1.cut' {n s t : Nat} {rs : List Bd} (h : W1 n s t rs) (S : Nat → Bool) : 0 ≤ Fl.cutW S (dr0 rs) ∧ Fl.cutW S (dr0 rs) ≤ 640 := by
  have := h.cut S rs.length
  rwa [List.take_of_length_le (by rw [mkL_len]; exact Nat.le_refl _)] at this
theorem cut_nextS {rs : List Bd} {S : Nat → Bool} {k : Nat} (hk : k < rs.length) :
    Fl.cutW S ((dr0 rs).take (k + 1)) = Fl.cutW S ((dr0 rs).take k) + (if S (rs.getD k default).a.toNat = true ∧ S (rs.getD k default).b.toNat = false then (rs.getD k default).m else 0) := by
  rw [take_mkL hk, cutW_snoc]; rfl
/-- The least width among the first numbers of sets. -/
def LMo (s t : Nat) (L : List Fl.E) (k : Nat) (m : Int) : Prop :=
  (m = -1 ∧ ∀ S, S < k → ¬ (S.testBit s = true ∧ S.testBit t = false)) ∨
  (0 ≤ m ∧ (∃ S, S < k ∧ S.testBit s = true ∧ S.testBit t = false ∧ m = Fl.cutW S.testBit L) ∧ ∀ S, S < k → S.testBit s = true → S.testBit t = false → m ≤ Fl.cutW S.testBit L)
theorem LMo.zero {s t : Nat} {L : List Fl.E} : LMo s t L 0 (-1) := .inl ⟨rfl, fun S h => absurd h (Nat.not_lt_zero _)⟩
theorem LMo.skip {s t : Nat} {L : List Fl.E} {k : Nat} {m : Int} (h : LMo s t L k m) (hk : ¬ (k.testBit s = true ∧ k.testBit t = false)) : LMo s t L (k + 1) m := by
  rcases h with ⟨h1, h2⟩ | ⟨h1, ⟨S, a1, a2⟩, h3⟩
  · refine .inl ⟨h1, fun S hS => ?_⟩
    by_cases e : S = k
    · subst e; exact hk
    · exact h2 S (by omega)
  · refine .inr ⟨h1, ⟨S, by omega, a2⟩, fun S hS b1 b2 => ?_⟩
    by_cases e : S = k
    · subst e; exact absurd ⟨b1, b2⟩ hk
    · exact h3 S (by omega) b1 b2
theorem LMo.take {s t : Nat} {L : List Fl.E} {k : Nat} {m : Int} (h : LMo s t L k m) (hk : k.testBit s = true ∧ k.testBit t = false) (h0 : 0 ≤ Fl.cutW k.testBit L) (hm : m < 0 ∨ Fl.cutW k.testBit L < m) : LMo s t L (k + 1) (Fl.cutW k.testBit L) := by
  refine .inr ⟨h0, ⟨k, by omega, hk.1, hk.2, rfl⟩, fun S hS b1 b2 => ?_⟩
  by_cases e : S = k
  · subst e; exact Int.le_refl _
  · rcases h with ⟨h1, h2⟩ | ⟨h1, _, h3⟩
    · exact absurd ⟨b1, b2⟩ (h2 S (by omega))
    · have := h3 S (by omega) b1 b2; omega
theorem LMo.keep {s t : Nat} {L : List Fl.E} {k : Nat} {m : Int} (h : LMo s t L k m) (hm : ¬ (m < 0 ∨ Fl.cutW k.testBit L < m)) : LMo s t L (k + 1) m := by
  rcases h with ⟨h1, h2⟩ | ⟨h1, ⟨S, a1, a2⟩, h3⟩
  · omega
  · refine .inr ⟨h1, ⟨S, by omega, a2⟩, fun S hS b1 b2 => ?_⟩
    by_cases e : S = k
    · subst e; omega
    · exact h3 S (by omega) b1 b2
theorem W1.msk {n s t : Nat} {rs : List Bd} (h : W1 n s t rs) (C : Nat → Bool) : Fl.cutW (Fl.msk n C).testBit (dr0 rs) = Fl.cutW C (dr0 rs) := Fl.cutW_nodes h.nodes fun v hv => Fl.msk_in hv
theorem LMo.done {n s t : Nat} {rs : List Bd} {m : Int} (hw : W1 n s t rs) (h : LMo s t (dr0 rs) (2 ^ n) m) : m = Fl.mw s t (dr0 rs) := by
  have hm : ∀ C : Nat → Bool, C s = true → C t = false → (Fl.msk n C).testBit s = true ∧ (Fl.msk n C).testBit t = false := fun C c1 c2 => by rw [Fl.msk_in hw.sn, Fl.msk_in hw.tn]; exact ⟨c1, c2⟩
  rcases h with ⟨h1, h2⟩ | ⟨h1, ⟨S, a1, a2, a3, a4⟩, h3⟩
  · obtain ⟨C, hC⟩ := Fl.minC_ex hw.st hw.nn
    exact absurd (hm C hC.1 hC.2.1) (h2 _ (Fl.msk_lt _ _))
  · refine (Fl.MW.eq ⟨⟨S.testBit, a2, a3, a4⟩, fun C c1 c2 => ?_⟩).symm
    rw [← hw.msk C]
    have := hm C c1 c2
    exact h3 _ (Fl.msk_lt _ _) this.1 this.2
theorem LMo.bd {s t : Nat} {L : List Fl.E} {k : Nat} {m : Int} (h : LMo s t L k m) : -1 ≤ m := by rcases h with h | h <;> omega
theorem out_next {rs : List Bd} {f : Nat → Int} {u k : Nat} (hk : k < rs.length) : Fl.out u ((mkL rs f).take (k + 1)) = Fl.out u ((mkL rs f).take k) + ((if (rs.getD k default).a.toNat = u then f k else 0) - (if (rs.getD k default).b.toNat = u then f k else 0)) := by
  rw [take_mkL hk, out_snoc]; rfl


set_option maxRecDepth 100000 in
theorem within_ok (w0 : World) (a lo hi : Int) :
    Calls Try.prog 57 #[.int .i64 a, .int .i64 lo, .int .i64 hi] w0 (Post (X := Unit) (fun _ => .bool (decide (lo ≤ a ∧ a ≤ hi))) (fun _ => True) (fun _ => []) w0) := by
  refine calls Try.func57 rfl (n := 15) rfl (by simp) ?_
  refine TC.seq ?_
  refine TC.region ?_
  refine TL.pure (PV.assign rfl) rfl (by decide) ?_
  refine TL.nil ?_
  refine TQ.thenC ?_
  refine TC.seq ?_
  refine TC.region ?_
  refine TL.pure (PV.move rfl) rfl (by decide) ?_
  refine TL.pure (PV.move rfl) rfl (by decide) ?_
  refine TL.pure (PV.geq rfl rfl) rfl (by decide) ?_
  refine TL.pure (PV.move rfl) rfl (by decide) ?_
  first | refine TL.splitD 10 rfl (fun h0 => ?_) (fun h0 => ?_) | refine TL.split 10 rfl (fun h0 => ?_) (fun h0 => ?_)
  · skip
    refine TL.pure (PV.move rfl) rfl (by decide) ?_
    refine TL.pure (PV.move rfl) rfl (by decide) ?_
    refine TL.pure (PV.leq rfl rfl) rfl (by decide) ?_
    refine TL.pure (PV.pickT rfl rfl) rfl (by decide) ?_
    refine TL.pure (PV.assign rfl) rfl (by decide) ?_
    refine TL.nil ?_
    refine TQ.thenC ?_
    refine TC.ret ?_
    refine TQ.retE1 rfl rfl ?_
    exact ⟨(), congrArg Value.bool (by simp [*] <;> omega), trivial, List.nil_sublist _⟩
  · skip
    refine TL.skip rfl (fun k hk => by cases hk; decide) ?_
    refine TL.skip rfl (fun k hk => by cases hk; decide) ?_
    refine TL.skip rfl (fun k hk => by cases hk; decide) ?_
    refine TL.pure (PV.pickF rfl rfl) rfl (by decide) ?_
    refine TL.pure (PV.assign rfl) rfl (by decide) ?_
    refine TL.nil ?_
    refine TQ.thenC ?_
    refine TC.ret ?_
    refine TQ.retE1 rfl rfl ?_
    exact ⟨(), congrArg Value.bool (by simp [*] <;> omega), trivial, List.nil_sublist _⟩

set_option maxRecDepth 100000 in
set_option maxHeartbeats 1000000 in
theorem rvalidate_ok (w0 : World) (n s t : Int) (p : Option Addr) (cap : Nat) (rs : List Bd) (hr : BdsAt w0 p rs) :
    Calls Try.prog 21 #[dnV n s t p rs.length cap] w0 (Post (X := Unit) (fun _ => .int .i64 (dI n s t rs)) (fun _ => True) (fun _ => []) w0) := by
  refine calls Try.func21 rfl (n := 79) rfl (by simp) ?_
  refine TC.seq ?_
  refine TC.region ?_
  refine TL.box rfl rfl (by decide) (fun b0 hb0 => ?_)
  refine TL.pure (PV.assign rfl) rfl (by decide) ?_
  refine TL.nil ?_
  refine TQ.thenC ?_
  refine TC.seq ?_
  refine TC.seq ?_
  refine TC.region ?_
  refine TL.pure (PV.fieldAddr rfl Tb.fo_24_0) rfl (by decide) ?_
  refine TL.pure (PV.load rfl Tb.one_3 (by repeat (first | exact List.Mem.head _ | refine List.Mem.tail _ ?_ | refine List.mem_append_right _ ?_)) rfl) rfl (by decide) ?_
  refine TL.call rfl Tb.gofn_57 (fun a w hs => within_ok _ _ _ _) rfl (by decide) (fun _ _ => ?_)
  refine TL.pure ((by first | exact PV.notD rfl | exact PV.not rfl)) rfl (by decide) ?_
  refine TL.pure (PV.move rfl) rfl (by decide) ?_
  first | refine TL.splitD 9 rfl (fun h0 => ?_) (fun h0 => ?_) | refine TL.split 9 rfl (fun h0 => ?_) (fun h0 => ?_)
  · skip
    refine TL.skip rfl (fun k hk => by cases hk; decide) ?_
    refine TL.skip rfl (fun k hk => by cases hk; decide) ?_
    refine TL.skip rfl (fun k hk => by cases hk; decide) ?_
    refine TL.skip rfl (fun k hk => by cases hk; decide) ?_
    refine TL.skip rfl (fun k hk => by cases hk; decide) ?_
    refine TL.skip rfl (fun k hk => by cases hk; decide) ?_
    refine TL.skip rfl (fun k hk => by cases hk; decide) ?_
    refine TL.pure (PV.pickT rfl rfl) rfl (by decide) ?_
    refine TL.pure (PV.move rfl) rfl (by decide) ?_
    refine TL.skip rfl (fun k hk => by cases hk; decide) ?_
    refine TL.skip rfl (fun k hk => by cases hk; decide) ?_
    refine TL.skip rfl (fun k hk => by cases hk; decide) ?_
    refine TL.skip rfl (fun k hk => by cases hk; decide) ?_
    refine TL.skip rfl (fun k hk => by cases hk; decide) ?_
    refine TL.skip rfl (fun k hk => by cases hk; decide) ?_
    refine TL.skip rfl (fun k hk => by cases hk; decide) ?_
    refine TL.pure (PV.pickT rfl rfl) rfl (by decide) ?_
    refine TL.pure (PV.move rfl) rfl (by decide) ?_
    refine TL.skip rfl (fun k hk => by cases hk; decide) ?_
    refine TL.skip rfl (fun k hk => by cases hk; decide) ?_
    refine TL.skip rfl (fun k hk => by cases hk; decide) ?_
    refine TL.skip rfl (fun k hk => by cases hk; decide) ?_
    refine TL.skip rfl (fun k hk => by cases hk; decide) ?_
    refine TL.pure (PV.pickT rfl rfl) rfl (by decide) ?_
    refine TL.nil ?_
    refine TQ.thenC ?_
    refine TC.condT rfl ?_
    refine TC.seq ?_
    refine TC.region ?_
    refine TL.pure (PV.assign rfl) rfl (by decide) ?_
    refine TL.nil ?_
    refine TQ.thenC ?_
    refine TC.ret ?_
    refine TQ.thenR ?_
    refine TQ.retE1 rfl rfl ?_
    first | exact ⟨(), by rw [dI, if_pos (by omega)], trivial, List.nil_sublist _⟩ | exact ⟨(), by rw [dI, if_neg (by omega), if_pos (by omega)], trivial, List.nil_sublist _⟩ | exact ⟨(), by rw [dI, if_neg (by omega), if_neg (by omega), if_neg (fun h => by have h9 := all_at h (k := k) (by omega); have h8 := ok_spec h9; omega)], trivial, List.nil_sublist _⟩ | exact ⟨(), by rw [dI, if_neg (by omega), if_neg (by omega), if_pos (by rw [← hk.2, List.take_of_length_le (by omega)])], trivial, List.nil_sublist _⟩
  · skip
    refine TL.pure (PV.fieldAddr rfl Tb.fo_24_1) rfl (by decide) ?_
    refine TL.pure (PV.load rfl Tb.one_3 (by repeat (first | exact List.Mem.head _ | refine List.Mem.tail _ ?_ | refine List.mem_append_right _ ?_)) rfl) rfl (by decide) ?_
    refine TL.pure (PV.fieldAddr rfl Tb.fo_24_0) rfl (by decide) ?_
    refine TL.pure (PV.load rfl Tb.one_3 (by repeat (first | exact List.Mem.head _ | refine List.Mem.tail _ ?_ | refine List.mem_append_right _ ?_)) rfl) rfl (by decide) ?_
    refine TL.pure (PV.sub rfl rfl (by omega)) rfl (by decide) ?_
    refine TL.call rfl Tb.gofn_57 (fun a w hs => within_ok _ _ _ _) rfl (by decide) (fun _ _ => ?_)
    refine TL.pure ((by first | exact PV.notD rfl | exact PV.not rfl)) rfl (by decide) ?_
    refine TL.pure (PV.pickF rfl rfl) rfl (by decide) ?_
    refine TL.pure (PV.move rfl) rfl (by decide) ?_
    first | refine TL.splitD 18 rfl (fun h1 => ?_) (fun h1 => ?_) | refine TL.split 18 rfl (fun h1 => ?_) (fun h1 => ?_)
    · skip
      refine TL.skip rfl (fun k hk => by cases hk; decide) ?_
      refine TL.skip rfl (fun k hk => by cases hk; decide) ?_
      refine TL.skip rfl (fun k hk => by cases hk; decide) ?_
      refine TL.skip rfl (fun k hk => by cases hk; decide) ?_
      refine TL.skip rfl (fun k hk => by cases hk; decide) ?_
      refine TL.skip rfl (fun k hk => by cases hk; decide) ?_
      refine TL.skip rfl (fun k hk => by cases hk; decide) ?_
      refine TL.pure (PV.pickT rfl rfl) rfl (by decide) ?_
      refine TL.pure (PV.move rfl) rfl (by decide) ?_
      refine TL.skip rfl (fun k hk => by cases hk; decide) ?_
      refine TL.skip rfl (fun k hk => by cases hk; decide) ?_
      refine TL.skip rfl (fun k hk => by cases hk; decide) ?_
      refine TL.skip rfl (fun k hk => by cases hk; decide) ?_
      refine TL.skip rfl (fun k hk => by cases hk; decide) ?_
      refine TL.pure (PV.pickT rfl rfl) rfl (by decide) ?_
      refine TL.nil ?_
      refine TQ.thenC ?_
      refine TC.condT rfl ?_
      refine TC.seq ?_
      refine TC.region ?_
      refine TL.pure (PV.assign rfl) rfl (by decide) ?_
      refine TL.nil ?_
      refine TQ.thenC ?_
      refine TC.ret ?_
      refine TQ.thenR ?_
      refine TQ.retE1 rfl rfl ?_
      first | exact ⟨(), by rw [dI, if_pos (by omega)], trivial, List.nil_sublist _⟩ | exact ⟨(), by rw [dI, if_neg (by omega), if_pos (by omega)], trivial, List.nil_sublist _⟩ | exact ⟨(), by rw [dI, if_neg (by omega), if_neg (by omega), if_neg (fun h => by have h9 := all_at h (k := k) (by omega); have h8 := ok_spec h9; omega)], trivial, List.nil_sublist _⟩ | exact ⟨(), by rw [dI, if_neg (by omega), if_neg (by omega), if_pos (by rw [← hk.2, List.take_of_length_le (by omega)])], trivial, List.nil_sublist _⟩
    · skip
      refine TL.pure (PV.fieldAddr rfl Tb.fo_24_2) rfl (by decide) ?_
      refine TL.pure (PV.load rfl Tb.one_3 (by repeat (first | exact List.Mem.head _ | refine List.Mem.tail _ ?_ | refine List.mem_append_right _ ?_)) rfl) rfl (by decide) ?_
      refine TL.pure (PV.fieldAddr rfl Tb.fo_24_0) rfl (by decide) ?_
      refine TL.pure (PV.load rfl Tb.one_3 (by repeat (first | exact List.Mem.head _ | refine List.Mem.tail _ ?_ | refine List.mem_append_right _ ?_)) rfl) rfl (by decide) ?_
      refine TL.pure (PV.sub rfl rfl (by omega)) rfl (by decide) ?_
      refine TL.call rfl Tb.gofn_57 (fun a w hs => within_ok _ _ _ _) rfl (by decide) (fun _ _ => ?_)
      refine TL.pure ((by first | exact PV.notD rfl | exact PV.not rfl)) rfl (by decide) ?_
      refine TL.pure (PV.pickF rfl rfl) rfl (by decide) ?_
      refine TL.pure (PV.move rfl) rfl (by decide) ?_
      first | refine TL.splitD 27 rfl (fun h2 => ?_) (fun h2 => ?_) | refine TL.split 27 rfl (fun h2 => ?_) (fun h2 => ?_)
      · skip
        refine TL.skip rfl (fun k hk => by cases hk; decide) ?_
        refine TL.skip rfl (fun k hk => by cases hk; decide) ?_
        refine TL.skip rfl (fun k hk => by cases hk; decide) ?_
        refine TL.skip rfl (fun k hk => by cases hk; decide) ?_
        refine TL.skip rfl (fun k hk => by cases hk; decide) ?_
        refine TL.pure (PV.pickT rfl rfl) rfl (by decide) ?_
        refine TL.nil ?_
        refine TQ.thenC ?_
        refine TC.condT rfl ?_
        refine TC.seq ?_
        refine TC.region ?_
        refine TL.pure (PV.assign rfl) rfl (by decide) ?_
        refine TL.nil ?_
        refine TQ.thenC ?_
        refine TC.ret ?_
        refine TQ.thenR ?_
        refine TQ.retE1 rfl rfl ?_
        first | exact ⟨(), by rw [dI, if_pos (by omega)], trivial, List.nil_sublist _⟩ | exact ⟨(), by rw [dI, if_neg (by omega), if_pos (by omega)], trivial, List.nil_sublist _⟩ | exact ⟨(), by rw [dI, if_neg (by omega), if_neg (by omega), if_neg (fun h => by have h9 := all_at h (k := k) (by omega); have h8 := ok_spec h9; omega)], trivial, List.nil_sublist _⟩ | exact ⟨(), by rw [dI, if_neg (by omega), if_neg (by omega), if_pos (by rw [← hk.2, List.take_of_length_le (by omega)])], trivial, List.nil_sublist _⟩
      · skip
        refine TL.pure (PV.fieldAddr rfl Tb.fo_24_1) rfl (by decide) ?_
        refine TL.pure (PV.load rfl Tb.one_3 (by repeat (first | exact List.Mem.head _ | refine List.Mem.tail _ ?_ | refine List.mem_append_right _ ?_)) rfl) rfl (by decide) ?_
        refine TL.pure (PV.fieldAddr rfl Tb.fo_24_2) rfl (by decide) ?_
        refine TL.pure (PV.load rfl Tb.one_3 (by repeat (first | exact List.Mem.head _ | refine List.Mem.tail _ ?_ | refine List.mem_append_right _ ?_)) rfl) rfl (by decide) ?_
        refine TL.pure (PV.eql rfl rfl) rfl (by decide) ?_
        refine TL.pure (PV.pickF rfl rfl) rfl (by decide) ?_
        refine TL.nil ?_
        refine TQ.thenC ?_
        first | refine TC.condD rfl (fun h3 => ?_) (fun h3 => ?_) | refine TC.cond rfl (fun h3 => ?_) (fun h3 => ?_)
        · skip
          refine TC.seq ?_
          refine TC.region ?_
          refine TL.pure (PV.assign rfl) rfl (by decide) ?_
          refine TL.nil ?_
          refine TQ.thenC ?_
          refine TC.ret ?_
          refine TQ.thenR ?_
          refine TQ.retE1 rfl rfl ?_
          first | exact ⟨(), by rw [dI, if_pos (by omega)], trivial, List.nil_sublist _⟩ | exact ⟨(), by rw [dI, if_neg (by omega), if_pos (by omega)], trivial, List.nil_sublist _⟩ | exact ⟨(), by rw [dI, if_neg (by omega), if_neg (by omega), if_neg (fun h => by have h9 := all_at h (k := k) (by omega); have h8 := ok_spec h9; omega)], trivial, List.nil_sublist _⟩ | exact ⟨(), by rw [dI, if_neg (by omega), if_neg (by omega), if_pos (by rw [← hk.2, List.take_of_length_le (by omega)])], trivial, List.nil_sublist _⟩
        · skip
          refine TC.skip ?_
          refine TQ.thenC ?_
          refine TC.seq ?_
          refine TC.seq ?_
          refine TC.region ?_
          refine TL.pure (PV.fieldAddr rfl Tb.fo_24_3) rfl (by decide) ?_
          refine TL.pure (PV.load rfl Tb.one_22 (by repeat (first | exact List.Mem.head _ | refine List.Mem.tail _ ?_ | refine List.mem_append_right _ ?_)) rfl) rfl (by decide) ?_
          refine TL.pure (PV.len rfl Tb.sl_22) rfl (by decide) ?_
          refine TL.pure (PV.gtr rfl rfl) rfl (by decide) ?_
          refine TL.nil ?_
          refine TQ.thenC ?_
          first | refine TC.condD rfl (fun hlong => ?_) (fun hlong => ?_) | refine TC.cond rfl (fun hlong => ?_) (fun hlong => ?_)
          · skip
            refine TC.seq ?_
            refine TC.region ?_
            refine TL.pure (PV.assign rfl) rfl (by decide) ?_
            refine TL.nil ?_
            refine TQ.thenC ?_
            refine TC.ret ?_
            refine TQ.thenR ?_
            refine TQ.retE1 rfl rfl ?_
            first | exact ⟨(), by rw [dI, if_pos (by omega)], trivial, List.nil_sublist _⟩ | exact ⟨(), by rw [dI, if_neg (by omega), if_pos (by omega)], trivial, List.nil_sublist _⟩ | exact ⟨(), by rw [dI, if_neg (by omega), if_neg (by omega), if_neg (fun h => by have h9 := all_at h (k := k) (by omega); have h8 := ok_spec h9; omega)], trivial, List.nil_sublist _⟩ | exact ⟨(), by rw [dI, if_neg (by omega), if_neg (by omega), if_pos (by rw [← hk.2, List.take_of_length_le (by omega)])], trivial, List.nil_sublist _⟩
          · skip
            refine TC.skip ?_
            refine TQ.thenC ?_
            refine TC.seq ?_
            refine TC.seq ?_
            refine TC.region ?_
            refine TL.pure (PV.assign rfl) rfl (by decide) ?_
            refine TL.nil ?_
            refine TQ.thenC ?_
            refine TC.block ?_
            -- live and written in the loop, not told: [2]
            refine TC.loopK [1] (X := Nat) (fun k => k ≤ rs.length ∧ (rs.take k).all (okD n) = true) (fun k => [(3, .int .i64 k)]) (fun k => [(b0, Obj.cells #[.int .i64 n, .int .i64 s, .int .i64 t, .slice p rs.length cap] 24 (0, 0))]) (fun k => rs.length - k) 0 ⟨Nat.zero_le _, by simp⟩ (by repeat (first | exact True.intro | refine And.intro rfl ?_)) (by repeat (first | exact List.Sublist.slnil | exact List.nil_sublist _ | exact List.Sublist.refl _ | refine List.Sublist.cons_cons _ ?_ | refine List.Sublist.cons _ ?_ | refine List.Sublist.trans ?_ (List.sublist_append_right _ _))) ?_
            intro k hk
            refine TC.seq ?_
            refine TC.seq ?_
            refine TC.region ?_
            refine TL.pure (PV.move rfl) rfl (by decide) ?_
            refine TL.pure (PV.fieldAddr rfl Tb.fo_24_3) rfl (by decide) ?_
            refine TL.pure (PV.load rfl Tb.one_22 (by repeat (first | exact List.Mem.head _ | refine List.Mem.tail _ ?_ | refine List.mem_append_right _ ?_)) rfl) rfl (by decide) ?_
            refine TL.pure (PV.len rfl Tb.sl_22) rfl (by decide) ?_
            refine TL.pure (PV.lss rfl rfl) rfl (by decide) ?_
            refine TL.nil ?_
            refine TQ.thenC ?_
            first | refine TC.condD rfl (fun hlt => ?_) (fun hlt => ?_) | refine TC.cond rfl (fun hlt => ?_) (fun hlt => ?_)
            · skip
              refine TC.skip ?_
              refine TQ.thenC ?_
              refine TC.seq ?_
              refine TC.block ?_
              refine TC.seq ?_
              obtain ⟨q, hqp, hq⟩ := hr k (by omega)
              refine TC.region ?_
              refine TL.pure (PV.fieldAddr rfl Tb.fo_24_3) rfl (by decide) ?_
              refine TL.pure (PV.load rfl Tb.one_22 (by repeat (first | exact List.Mem.head _ | refine List.Mem.tail _ ?_ | refine List.mem_append_right _ ?_)) rfl) rfl (by decide) ?_
              refine TL.pure (PV.move rfl) rfl (by decide) ?_
              refine TL.pure (PV.indexA rfl hqp rfl Tb.elm_22 rfl (by omega)) rfl (by decide) ?_
              refine TL.pure (PV.loadAggA rfl Tb.agg_40 rfl hq) rfl (by decide) ?_
              refine TL.alloc Tb.zero_40 rfl (by decide) (fun b1 hb1 => ?_)
              refine TL.storeAgg (vs := [.int .i64 (rs.getD k default).a, .int .i64 (rs.getD k default).b, .int .i64 (rs.getD k default).m]) rfl rfl Tb.cells_40 (by repeat (first | exact Upd.head _ | apply Upd.tail | apply Upd.appR)) rfl rfl rfl rfl rfl ?_
              refine TL.nil ?_
              refine TQ.thenC ?_
              refine TC.seq ?_
              refine TC.region ?_
              refine TL.pure (PV.fieldAddr rfl Tb.fo_40_0) rfl (by decide) ?_
              refine TL.pure (PV.load rfl Tb.one_3 (by repeat (first | exact List.Mem.head _ | refine List.Mem.tail _ ?_ | refine List.mem_append_right _ ?_)) rfl) rfl (by decide) ?_
              refine TL.pure (PV.fieldAddr rfl Tb.fo_24_0) rfl (by decide) ?_
              refine TL.pure (PV.load rfl Tb.one_3 (by repeat (first | exact List.Mem.head _ | refine List.Mem.tail _ ?_ | refine List.mem_append_right _ ?_)) rfl) rfl (by decide) ?_
              refine TL.pure (PV.sub rfl rfl (by omega)) rfl (by decide) ?_
              refine TL.call rfl Tb.gofn_57 (fun a w hs => within_ok _ _ _ _) rfl (by decide) (fun _ _ => ?_)
              refine TL.pure ((by first | exact PV.notD rfl | exact PV.not rfl)) rfl (by decide) ?_
              refine TL.pure (PV.move rfl) rfl (by decide) ?_
              first | refine TL.splitD 57 rfl (fun h6 => ?_) (fun h6 => ?_) | refine TL.split 57 rfl (fun h6 => ?_) (fun h6 => ?_)
              · skip
                refine TL.skip rfl (fun k hk => by cases hk; decide) ?_
                refine TL.skip rfl (fun k hk => by cases hk; decide) ?_
                refine TL.skip rfl (fun k hk => by cases hk; decide) ?_
                refine TL.skip rfl (fun k hk => by cases hk; decide) ?_
                refine TL.skip rfl (fun k hk => by cases hk; decide) ?_
                refine TL.skip rfl (fun k hk => by cases hk; decide) ?_
                refine TL.skip rfl (fun k hk => by cases hk; decide) ?_
                refine TL.pure (PV.pickT rfl rfl) rfl (by decide) ?_
                refine TL.pure (PV.move rfl) rfl (by decide) ?_
                refine TL.skip rfl (fun k hk => by cases hk; decide) ?_
                refine TL.skip rfl (fun k hk => by cases hk; decide) ?_
                refine TL.skip rfl (fun k hk => by cases hk; decide) ?_
                refine TL.skip rfl (fun k hk => by cases hk; decide) ?_
                refine TL.skip rfl (fun k hk => by cases hk; decide) ?_
                refine TL.pure (PV.pickT rfl rfl) rfl (by decide) ?_
                refine TL.pure (PV.move rfl) rfl (by decide) ?_
                refine TL.skip rfl (fun k hk => by cases hk; decide) ?_
                refine TL.skip rfl (fun k hk => by cases hk; decide) ?_
                refine TL.skip rfl (fun k hk => by cases hk; decide) ?_
                refine TL.skip rfl (fun k hk => by cases hk; decide) ?_
                refine TL.pure (PV.pickT rfl rfl) rfl (by decide) ?_
                refine TL.nil ?_
                refine TQ.thenC ?_
                refine TC.condT rfl ?_
                refine TC.seq ?_
                refine TC.region ?_
                refine TL.pure (PV.assign rfl) rfl (by decide) ?_
                refine TL.nil ?_
                refine TQ.thenC ?_
                refine TC.ret ?_
                refine TQ.blkR ?_
                refine TQ.thenR ?_
                refine TQ.thenR ?_
                refine TQ.blkR ?_
                refine TQ.thenR ?_
                refine TQ.retE1 rfl rfl ?_
                first | exact ⟨(), by rw [dI, if_pos (by omega)], trivial, List.nil_sublist _⟩ | exact ⟨(), by rw [dI, if_neg (by omega), if_pos (by omega)], trivial, List.nil_sublist _⟩ | exact ⟨(), by rw [dI, if_neg (by omega), if_neg (by omega), if_neg (fun h => by have h9 := all_at h (k := k) (by omega); have h8 := ok_spec h9; omega)], trivial, List.nil_sublist _⟩ | exact ⟨(), by rw [dI, if_neg (by omega), if_neg (by omega), if_pos (by rw [← hk.2, List.take_of_length_le (by omega)])], trivial, List.nil_sublist _⟩
              · skip
                refine TL.pure (PV.fieldAddr rfl Tb.fo_40_1) rfl (by decide) ?_
                refine TL.pure (PV.load rfl Tb.one_3 (by repeat (first | exact List.Mem.head _ | refine List.Mem.tail _ ?_ | refine List.mem_append_right _ ?_)) rfl) rfl (by decide) ?_
                refine TL.pure (PV.fieldAddr rfl Tb.fo_24_0) rfl (by decide) ?_
                refine TL.pure (PV.load rfl Tb.one_3 (by repeat (first | exact List.Mem.head _ | refine List.Mem.tail _ ?_ | refine List.mem_append_right _ ?_)) rfl) rfl (by decide) ?_
                refine TL.pure (PV.sub rfl rfl (by omega)) rfl (by decide) ?_
                refine TL.call rfl Tb.gofn_57 (fun a w hs => within_ok _ _ _ _) rfl (by decide) (fun _ _ => ?_)
                refine TL.pure ((by first | exact PV.notD rfl | exact PV.not rfl)) rfl (by decide) ?_
                refine TL.pure (PV.pickF rfl rfl) rfl (by decide) ?_
                refine TL.pure (PV.move rfl) rfl (by decide) ?_
                first | refine TL.splitD 66 rfl (fun h7 => ?_) (fun h7 => ?_) | refine TL.split 66 rfl (fun h7 => ?_) (fun h7 => ?_)
                · skip
                  refine TL.skip rfl (fun k hk => by cases hk; decide) ?_
                  refine TL.skip rfl (fun k hk => by cases hk; decide) ?_
                  refine TL.skip rfl (fun k hk => by cases hk; decide) ?_
                  refine TL.skip rfl (fun k hk => by cases hk; decide) ?_
                  refine TL.skip rfl (fun k hk => by cases hk; decide) ?_
                  refine TL.pure (PV.pickT rfl rfl) rfl (by decide) ?_
                  refine TL.pure (PV.move rfl) rfl (by decide) ?_
                  refine TL.skip rfl (fun k hk => by cases hk; decide) ?_
                  refine TL.skip rfl (fun k hk => by cases hk; decide) ?_
                  refine TL.skip rfl (fun k hk => by cases hk; decide) ?_
                  refine TL.skip rfl (fun k hk => by cases hk; decide) ?_
                  refine TL.pure (PV.pickT rfl rfl) rfl (by decide) ?_
                  refine TL.nil ?_
                  refine TQ.thenC ?_
                  refine TC.condT rfl ?_
                  refine TC.seq ?_
                  refine TC.region ?_
                  refine TL.pure (PV.assign rfl) rfl (by decide) ?_
                  refine TL.nil ?_
                  refine TQ.thenC ?_
                  refine TC.ret ?_
                  refine TQ.blkR ?_
                  refine TQ.thenR ?_
                  refine TQ.thenR ?_
                  refine TQ.blkR ?_
                  refine TQ.thenR ?_
                  refine TQ.retE1 rfl rfl ?_
                  first | exact ⟨(), by rw [dI, if_pos (by omega)], trivial, List.nil_sublist _⟩ | exact ⟨(), by rw [dI, if_neg (by omega), if_pos (by omega)], trivial, List.nil_sublist _⟩ | exact ⟨(), by rw [dI, if_neg (by omega), if_neg (by omega), if_neg (fun h => by have h9 := all_at h (k := k) (by omega); have h8 := ok_spec h9; omega)], trivial, List.nil_sublist _⟩ | exact ⟨(), by rw [dI, if_neg (by omega), if_neg (by omega), if_pos (by rw [← hk.2, List.take_of_length_le (by omega)])], trivial, List.nil_sublist _⟩
                · skip
                  refine TL.pure (PV.fieldAddr rfl Tb.fo_40_0) rfl (by decide) ?_
                  refine TL.pure (PV.load rfl Tb.one_3 (by repeat (first | exact List.Mem.head _ | refine List.Mem.tail _ ?_ | refine List.mem_append_right _ ?_)) rfl) rfl (by decide) ?_
                  refine TL.pure (PV.fieldAddr rfl Tb.fo_40_1) rfl (by decide) ?_
                  refine TL.pure (PV.load rfl Tb.one_3 (by repeat (first | exact List.Mem.head _ | refine List.Mem.tail _ ?_ | refine List.mem_append_right _ ?_)) rfl) rfl (by decide) ?_
                  refine TL.pure (PV.eql rfl rfl) rfl (by decide) ?_
                  refine TL.pure (PV.pickF rfl rfl) rfl (by decide) ?_
                  refine TL.pure (PV.move rfl) rfl (by decide) ?_
                  first | refine TL.splitD 73 rfl (fun h8 => ?_) (fun h8 => ?_) | refine TL.split 73 rfl (fun h8 => ?_) (fun h8 => ?_)
                  · skip
                    refine TL.skip rfl (fun k hk => by cases hk; decide) ?_
                    refine TL.skip rfl (fun k hk => by cases hk; decide) ?_
                    refine TL.skip rfl (fun k hk => by cases hk; decide) ?_
                    refine TL.skip rfl (fun k hk => by cases hk; decide) ?_
                    refine TL.pure (PV.pickT rfl rfl) rfl (by decide) ?_
                    refine TL.nil ?_
                    refine TQ.thenC ?_
                    refine TC.condT rfl ?_
                    refine TC.seq ?_
                    refine TC.region ?_
                    refine TL.pure (PV.assign rfl) rfl (by decide) ?_
                    refine TL.nil ?_
                    refine TQ.thenC ?_
                    refine TC.ret ?_
                    refine TQ.blkR ?_
                    refine TQ.thenR ?_
                    refine TQ.thenR ?_
                    refine TQ.blkR ?_
                    refine TQ.thenR ?_
                    refine TQ.retE1 rfl rfl ?_
                    first | exact ⟨(), by rw [dI, if_pos (by omega)], trivial, List.nil_sublist _⟩ | exact ⟨(), by rw [dI, if_neg (by omega), if_pos (by omega)], trivial, List.nil_sublist _⟩ | exact ⟨(), by rw [dI, if_neg (by omega), if_neg (by omega), if_neg (fun h => by have h9 := all_at h (k := k) (by omega); have h8 := ok_spec h9; omega)], trivial, List.nil_sublist _⟩ | exact ⟨(), by rw [dI, if_neg (by omega), if_neg (by omega), if_pos (by rw [← hk.2, List.take_of_length_le (by omega)])], trivial, List.nil_sublist _⟩
                  · skip
                    refine TL.pure (PV.fieldAddr rfl Tb.fo_40_2) rfl (by decide) ?_
                    refine TL.pure (PV.load rfl Tb.one_3 (by repeat (first | exact List.Mem.head _ | refine List.Mem.tail _ ?_ | refine List.mem_append_right _ ?_)) rfl) rfl (by decide) ?_
                    refine TL.call rfl Tb.gofn_57 (fun a w hs => within_ok _ _ _ _) rfl (by decide) (fun _ _ => ?_)
                    refine TL.pure ((by first | exact PV.notD rfl | exact PV.not rfl)) rfl (by decide) ?_
                    refine TL.pure (PV.pickF rfl rfl) rfl (by decide) ?_
                    refine TL.nil ?_
                    refine TQ.thenC ?_
                    first | refine TC.condD rfl (fun hbad => ?_) (fun hbad => ?_) | refine TC.cond rfl (fun hbad => ?_) (fun hbad => ?_)
                    · skip
                      refine TC.seq ?_
                      refine TC.region ?_
                      refine TL.pure (PV.assign rfl) rfl (by decide) ?_
                      refine TL.nil ?_
                      refine TQ.thenC ?_
                      refine TC.ret ?_
                      refine TQ.blkR ?_
                      refine TQ.thenR ?_
                      refine TQ.thenR ?_
                      refine TQ.blkR ?_
                      refine TQ.thenR ?_
                      refine TQ.retE1 rfl rfl ?_
                      first | exact ⟨(), by rw [dI, if_pos (by omega)], trivial, List.nil_sublist _⟩ | exact ⟨(), by rw [dI, if_neg (by omega), if_pos (by omega)], trivial, List.nil_sublist _⟩ | exact ⟨(), by rw [dI, if_neg (by omega), if_neg (by omega), if_neg (fun h => by have h9 := all_at h (k := k) (by omega); have h8 := ok_spec h9; omega)], trivial, List.nil_sublist _⟩ | exact ⟨(), by rw [dI, if_neg (by omega), if_neg (by omega), if_pos (by rw [← hk.2, List.take_of_length_le (by omega)])], trivial, List.nil_sublist _⟩
                    · skip
                      have hall : okD n (rs.getD k default) = true := decide_eq_true (by omega)
                      refine TC.skip ?_
                      refine TQ.blkN ?_
                      refine TQ.thenC ?_
                      refine TC.region ?_
                      refine TL.pure (PV.move rfl) rfl (by decide) ?_
                      refine TL.pure (PV.add rfl rfl (by omega)) rfl (by decide) ?_
                      refine TL.pure (PV.assign rfl) rfl (by decide) ?_
                      refine TL.nil ?_
                      refine TQ.thenN ?_
                      refine TQ.backK (k + 1) (by repeat (first | exact True.intro | refine And.intro rfl ?_)) (by repeat (first | exact True.intro | refine And.intro rfl ?_)) (by repeat (first | exact List.Sublist.slnil | exact List.nil_sublist _ | exact List.Sublist.refl _ | refine List.Sublist.cons_cons _ ?_ | refine List.Sublist.cons _ ?_ | refine List.Sublist.trans ?_ (List.sublist_append_right _ _))) ⟨by omega, take_all hk.2 (by omega) hall⟩ (by omega)
            · skip
              refine TC.exit ?_
              refine TQ.thenE ?_
              refine TQ.thenE ?_
              refine TQ.blkS ?_
              refine TQ.thenC ?_
              refine TC.seq ?_
              refine TC.region ?_
              refine TL.pure (PV.assign rfl) rfl (by decide) ?_
              refine TL.nil ?_
              refine TQ.thenC ?_
              refine TC.ret ?_
              refine TQ.retE1 rfl rfl ?_
              first | exact ⟨(), by rw [dI, if_pos (by omega)], trivial, List.nil_sublist _⟩ | exact ⟨(), by rw [dI, if_neg (by omega), if_pos (by omega)], trivial, List.nil_sublist _⟩ | exact ⟨(), by rw [dI, if_neg (by omega), if_neg (by omega), if_neg (fun h => by have h9 := all_at h (k := k) (by omega); have h8 := ok_spec h9; omega)], trivial, List.nil_sublist _⟩ | exact ⟨(), by rw [dI, if_neg (by omega), if_neg (by omega), if_pos (by rw [← hk.2, List.take_of_length_le (by omega)])], trivial, List.nil_sublist _⟩

set_option maxRecDepth 100000 in
theorem in_ok (w0 : World) (S v : Nat) (hS : S < 256) (hv : v < 8) :
    Calls Try.prog 91 #[.int .i64 (S : Nat), .int .i64 (v : Nat)] w0 (Post (X := Unit) (fun _ => .bool (S.testBit v)) (fun _ => True) (fun _ => []) w0) := by
  refine calls Try.func91 rfl (n := 11) rfl (by simp) ?_
  refine TC.seq ?_
  refine TC.region ?_
  refine TL.pure (PV.assign rfl) rfl (by decide) ?_
  refine TL.nil ?_
  refine TQ.thenC ?_
  refine TC.seq ?_
  refine TC.region ?_
  refine TL.pure (PV.move rfl) rfl (by decide) ?_
  refine TL.pure (PV.move rfl) rfl (by decide) ?_
  refine TL.pure (PV.conv int_3 int_81 rfl (wrap_u v (by omega))) rfl (by decide) ?_
  refine TL.pure (PV.shr rfl rfl (by omega) (by omega) (shr_nat S v)) rfl (by decide) ?_
  refine TL.pure (PV.andI rfl rfl (and_one _ (div_256 hS))) rfl (by decide) ?_
  refine TL.pure (PV.eql rfl rfl) rfl (by decide) ?_
  refine TL.pure (PV.assign rfl) rfl (by decide) ?_
  refine TL.nil ?_
  refine TQ.thenC ?_
  refine TC.ret ?_
  refine TQ.retE1 rfl rfl ?_
  exact ⟨(), congrArg Value.bool (tb_mod S v), trivial, List.nil_sublist _⟩

theorem in_i (w0 : World) (S : Nat) (v : Int) (hS : S < 256) (hv : 0 ≤ v ∧ v < 8) : Calls Try.prog 91 #[.int .i64 (S : Nat), .int .i64 v] w0 (Post (X := Unit) (fun _ => .bool (S.testBit v.toNat)) (fun _ => True) (fun _ => []) w0) := by
  have h := in_ok w0 S v.toNat hS (by omega)
  rwa [show ((v.toNat : Nat) : Int) = v from by omega] at h

set_option maxRecDepth 100000 in
theorem risCut_ok (w0 : World) (n s t : Nat) (x3 : Value) (S : Nat) (hS : S < 256) (hs8 : s < 8) (ht8 : t < 8) :
    Calls Try.prog 72 #[.agg #[.int .i64 (n : Nat), .int .i64 (s : Nat), .int .i64 (t : Nat), x3], .int .i64 (S : Nat)] w0 (Post (X := Unit) (fun _ => .bool (decide (S.testBit s = true ∧ S.testBit t = false))) (fun _ => True) (fun _ => []) w0) := by
  refine calls Try.func72 rfl (n := 16) rfl (by simp) ?_
  refine TC.seq ?_
  refine TC.region ?_
  refine TL.box rfl rfl (by decide) (fun b0 hb0 => ?_)
  refine TL.pure (PV.assign rfl) rfl (by decide) ?_
  refine TL.nil ?_
  refine TQ.thenC ?_
  refine TC.seq ?_
  refine TC.region ?_
  refine TL.pure (PV.move rfl) rfl (by decide) ?_
  refine TL.pure (PV.fieldAddr rfl Tb.fo_24_1) rfl (by decide) ?_
  refine TL.pure (PV.load rfl Tb.one_3 (by repeat (first | exact List.Mem.head _ | refine List.Mem.tail _ ?_ | refine List.mem_append_right _ ?_)) rfl) rfl (by decide) ?_
  refine TL.call rfl Tb.gofn_91 (fun a w hs => in_ok _ S s hS hs8) rfl (by decide) (fun _ _ => ?_)
  refine TL.pure (PV.move rfl) rfl (by decide) ?_
  first | refine TL.splitD 9 rfl (fun h0 => ?_) (fun h0 => ?_) | refine TL.split 9 rfl (fun h0 => ?_) (fun h0 => ?_)
  · skip
    refine TL.pure (PV.move rfl) rfl (by decide) ?_
    refine TL.pure (PV.fieldAddr rfl Tb.fo_24_2) rfl (by decide) ?_
    refine TL.pure (PV.load rfl Tb.one_3 (by repeat (first | exact List.Mem.head _ | refine List.Mem.tail _ ?_ | refine List.mem_append_right _ ?_)) rfl) rfl (by decide) ?_
    refine TL.call rfl Tb.gofn_91 (fun a w hs => in_ok _ S t hS ht8) rfl (by decide) (fun _ _ => ?_)
    refine TL.pure ((by first | exact PV.notD rfl | exact PV.not rfl)) rfl (by decide) ?_
    refine TL.pure (PV.pickT rfl rfl) rfl (by decide) ?_
    refine TL.pure (PV.assign rfl) rfl (by decide) ?_
    refine TL.nil ?_
    refine TQ.thenC ?_
    refine TC.ret ?_
    refine TQ.retE1 rfl rfl ?_
    exact ⟨(), congrArg Value.bool (by simp_all), trivial, List.nil_sublist _⟩
  · skip
    refine TL.skip rfl (fun k hk => by cases hk; decide) ?_
    refine TL.skip rfl (fun k hk => by cases hk; decide) ?_
    refine TL.skip rfl (fun k hk => by cases hk; decide) ?_
    refine TL.skip rfl (fun k hk => by cases hk; decide) ?_
    refine TL.skip rfl (fun k hk => by cases hk; decide) ?_
    refine TL.pure (PV.pickF rfl rfl) rfl (by decide) ?_
    refine TL.pure (PV.assign rfl) rfl (by decide) ?_
    refine TL.nil ?_
    refine TQ.thenC ?_
    refine TC.ret ?_
    refine TQ.retE1 rfl rfl ?_
    exact ⟨(), congrArg Value.bool (by simp_all), trivial, List.nil_sublist _⟩

set_option maxRecDepth 100000 in
set_option maxHeartbeats 1000000 in
theorem width_ok (w0 : World) (n s t : Nat) (p : Option Addr) (cap : Nat) (rs : List Bd) (hr : BdsAt w0 p rs) (hw : W1 n s t rs) (S : Nat) (hS : S < 256) :
    Calls Try.prog 71 #[dnV n s t p rs.length cap, .int .i64 (S : Nat)] w0 (Post (X := Unit) (fun _ => .int .i64 (Fl.cutW S.testBit (dr0 rs))) (fun _ => True) (fun _ => []) w0) := by
  have hlen := hw.len
  have hn8 := hw.n8
  refine calls Try.func71 rfl (n := 36) rfl (by simp) ?_
  refine TC.seq ?_
  refine TC.region ?_
  refine TL.box rfl rfl (by decide) (fun b0 hb0 => ?_)
  refine TL.pure (PV.assign rfl) rfl (by decide) ?_
  refine TL.nil ?_
  refine TQ.thenC ?_
  refine TC.seq ?_
  refine TC.region ?_
  refine TL.pure (PV.assign rfl) rfl (by decide) ?_
  refine TL.nil ?_
  refine TQ.thenC ?_
  refine TC.seq ?_
  refine TC.seq ?_
  refine TC.region ?_
  refine TL.pure (PV.assign rfl) rfl (by decide) ?_
  refine TL.nil ?_
  refine TQ.thenC ?_
  refine TC.block ?_
  refine TC.loopK [1, 2, 4] (X := Nat) (fun k => k ≤ rs.length) (fun k => [(5, .int .i64 (Fl.cutW S.testBit ((dr0 rs).take k))), (6, .int .i64 k)]) (fun k => [(b0, Obj.cells #[.int .i64 (n : Nat), .int .i64 (s : Nat), .int .i64 (t : Nat), .slice p rs.length cap] 24 (0, 0))]) (fun k => rs.length - k) 0 (Nat.zero_le _) (by refine And.intro ?_ (And.intro rfl True.intro); rfl) (by repeat (first | exact List.Sublist.slnil | exact List.nil_sublist _ | exact List.Sublist.refl _ | refine List.Sublist.cons_cons _ ?_ | refine List.Sublist.cons _ ?_ | refine List.Sublist.trans ?_ (List.sublist_append_right _ _))) ?_
  intro k hk
  refine TC.seq ?_
  refine TC.seq ?_
  refine TC.region ?_
  refine TL.pure (PV.move rfl) rfl (by decide) ?_
  refine TL.pure (PV.fieldAddr rfl Tb.fo_24_3) rfl (by decide) ?_
  refine TL.pure (PV.load rfl Tb.one_22 (by repeat (first | exact List.Mem.head _ | refine List.Mem.tail _ ?_ | refine List.mem_append_right _ ?_)) rfl) rfl (by decide) ?_
  refine TL.pure (PV.len rfl Tb.sl_22) rfl (by decide) ?_
  refine TL.pure (PV.lss rfl rfl) rfl (by decide) ?_
  refine TL.nil ?_
  refine TQ.thenC ?_
  first | refine TC.condD rfl (fun hlt => ?_) (fun hlt => ?_) | refine TC.cond rfl (fun hlt => ?_) (fun hlt => ?_)
  · skip
    refine TC.skip ?_
    refine TQ.thenC ?_
    refine TC.seq ?_
    refine TC.block ?_
    refine TC.seq ?_
    obtain ⟨q, hqp, hq⟩ := hr k (by omega)
    have hcb := hw.cut S.testBit k
    have hnx := cut_nextS (S := S.testBit) (show k < rs.length by omega)
    have hma := hw.ok k (show k < rs.length by omega)
    refine TC.region ?_
    refine TL.pure (PV.fieldAddr rfl Tb.fo_24_3) rfl (by decide) ?_
    refine TL.pure (PV.load rfl Tb.one_22 (by repeat (first | exact List.Mem.head _ | refine List.Mem.tail _ ?_ | refine List.mem_append_right _ ?_)) rfl) rfl (by decide) ?_
    refine TL.pure (PV.move rfl) rfl (by decide) ?_
    refine TL.pure (PV.indexA rfl hqp rfl Tb.elm_22 rfl (by omega)) rfl (by decide) ?_
    refine TL.pure (PV.loadAggA rfl Tb.agg_40 rfl hq) rfl (by decide) ?_
    refine TL.alloc Tb.zero_40 rfl (by decide) (fun b1 hb1 => ?_)
    refine TL.storeAgg (vs := [.int .i64 (rs.getD k default).a, .int .i64 (rs.getD k default).b, .int .i64 (rs.getD k default).m]) rfl rfl Tb.cells_40 (by repeat (first | exact Upd.head _ | apply Upd.tail | apply Upd.appR)) rfl rfl rfl rfl rfl ?_
    refine TL.nil ?_
    refine TQ.thenC ?_
    refine TC.seq ?_
    refine TC.region ?_
    refine TL.pure (PV.move rfl) rfl (by decide) ?_
    refine TL.pure (PV.fieldAddr rfl Tb.fo_40_0) rfl (by decide) ?_
    refine TL.pure (PV.load rfl Tb.one_3 (by repeat (first | exact List.Mem.head _ | refine List.Mem.tail _ ?_ | refine List.mem_append_right _ ?_)) rfl) rfl (by decide) ?_
    refine TL.call rfl Tb.gofn_91 (fun a w hs => in_i _ S (rs.getD k default).a hS (by omega)) rfl (by decide) (fun _ _ => ?_)
    refine TL.pure (PV.move rfl) rfl (by decide) ?_
    first | refine TL.splitD 24 rfl (fun e1 => ?_) (fun e1 => ?_) | refine TL.split 24 rfl (fun e1 => ?_) (fun e1 => ?_)
    · skip
      refine TL.pure (PV.move rfl) rfl (by decide) ?_
      refine TL.pure (PV.fieldAddr rfl Tb.fo_40_1) rfl (by decide) ?_
      refine TL.pure (PV.load rfl Tb.one_3 (by repeat (first | exact List.Mem.head _ | refine List.Mem.tail _ ?_ | refine List.mem_append_right _ ?_)) rfl) rfl (by decide) ?_
      refine TL.call rfl Tb.gofn_91 (fun a w hs => in_i _ S (rs.getD k default).b hS (by omega)) rfl (by decide) (fun _ _ => ?_)
      refine TL.pure ((by first | exact PV.notD rfl | exact PV.not rfl)) rfl (by decide) ?_
      refine TL.pure (PV.pickT rfl rfl) rfl (by decide) ?_
      refine TL.nil ?_
      refine TQ.thenC ?_
      first | refine TC.condD rfl (fun hc => ?_) (fun hc => ?_) | refine TC.cond rfl (fun hc => ?_) (fun hc => ?_)
      · skip
        rw [if_pos ⟨by simpa using e1, by simpa using hc⟩] at hnx
        refine TC.region ?_
        refine TL.pure (PV.move rfl) rfl (by decide) ?_
        refine TL.pure (PV.fieldAddr rfl Tb.fo_40_2) rfl (by decide) ?_
        refine TL.pure (PV.load rfl Tb.one_3 (by repeat (first | exact List.Mem.head _ | refine List.Mem.tail _ ?_ | refine List.mem_append_right _ ?_)) rfl) rfl (by decide) ?_
        refine TL.pure (PV.add rfl rfl (by omega)) rfl (by decide) ?_
        refine TL.pure (PV.assign rfl) rfl (by decide) ?_
        refine TL.nil ?_
        refine TQ.blkN ?_
        refine TQ.thenC ?_
        refine TC.region ?_
        refine TL.pure (PV.move rfl) rfl (by decide) ?_
        refine TL.pure (PV.add rfl rfl (by omega)) rfl (by decide) ?_
        refine TL.pure (PV.assign rfl) rfl (by decide) ?_
        refine TL.nil ?_
        refine TQ.thenN ?_
        refine TQ.backK (k + 1) (by refine And.intro ?_ (And.intro rfl True.intro); show some _ = some _; rw [hnx]) (by repeat (first | exact True.intro | refine And.intro rfl ?_)) (by repeat (first | exact List.Sublist.slnil | exact List.nil_sublist _ | exact List.Sublist.refl _ | refine List.Sublist.cons_cons _ ?_ | refine List.Sublist.cons _ ?_ | refine List.Sublist.trans ?_ (List.sublist_append_right _ _))) (by omega) (by omega)
      · skip
        rw [if_neg (fun h9 => absurd h9.2 (by simpa using hc)), Int.add_zero] at hnx
        refine TC.skip ?_
        refine TQ.blkN ?_
        refine TQ.thenC ?_
        refine TC.region ?_
        refine TL.pure (PV.move rfl) rfl (by decide) ?_
        refine TL.pure (PV.add rfl rfl (by omega)) rfl (by decide) ?_
        refine TL.pure (PV.assign rfl) rfl (by decide) ?_
        refine TL.nil ?_
        refine TQ.thenN ?_
        refine TQ.backK (k + 1) (by refine And.intro ?_ (And.intro rfl True.intro); show some _ = some _; rw [hnx]) (by repeat (first | exact True.intro | refine And.intro rfl ?_)) (by repeat (first | exact List.Sublist.slnil | exact List.nil_sublist _ | exact List.Sublist.refl _ | refine List.Sublist.cons_cons _ ?_ | refine List.Sublist.cons _ ?_ | refine List.Sublist.trans ?_ (List.sublist_append_right _ _))) (by omega) (by omega)
    · skip
      refine TL.skip rfl (fun k hk => by cases hk; decide) ?_
      refine TL.skip rfl (fun k hk => by cases hk; decide) ?_
      refine TL.skip rfl (fun k hk => by cases hk; decide) ?_
      refine TL.skip rfl (fun k hk => by cases hk; decide) ?_
      refine TL.skip rfl (fun k hk => by cases hk; decide) ?_
      refine TL.pure (PV.pickF rfl rfl) rfl (by decide) ?_
      refine TL.nil ?_
      refine TQ.thenC ?_
      refine TC.condF rfl ?_
      rw [if_neg (fun h9 => absurd h9.1 (by simpa using e1)), Int.add_zero] at hnx
      refine TC.skip ?_
      refine TQ.blkN ?_
      refine TQ.thenC ?_
      refine TC.region ?_
      refine TL.pure (PV.move rfl) rfl (by decide) ?_
      refine TL.pure (PV.add rfl rfl (by omega)) rfl (by decide) ?_
      refine TL.pure (PV.assign rfl) rfl (by decide) ?_
      refine TL.nil ?_
      refine TQ.thenN ?_
      refine TQ.backK (k + 1) (by refine And.intro ?_ (And.intro rfl True.intro); show some _ = some _; rw [hnx]) (by repeat (first | exact True.intro | refine And.intro rfl ?_)) (by repeat (first | exact List.Sublist.slnil | exact List.nil_sublist _ | exact List.Sublist.refl _ | refine List.Sublist.cons_cons _ ?_ | refine List.Sublist.cons _ ?_ | refine List.Sublist.trans ?_ (List.sublist_append_right _ _))) (by omega) (by omega)
  · skip
    refine TC.exit ?_
    refine TQ.thenE ?_
    refine TQ.thenE ?_
    refine TQ.blkS ?_
    refine TQ.thenC ?_
    refine TC.seq ?_
    have hke : k = rs.length := by omega
    refine TC.region ?_
    refine TL.pure (PV.move rfl) rfl (by decide) ?_
    refine TL.pure (PV.assign rfl) rfl (by decide) ?_
    refine TL.nil ?_
    refine TQ.thenC ?_
    refine TC.ret ?_
    refine TQ.retE1 rfl rfl ?_
    exact ⟨(), by rw [hke, List.take_of_length_le (by rw [mkL_len]; exact Nat.le_refl _)], trivial, List.nil_sublist _⟩

set_option maxRecDepth 100000 in
set_option maxHeartbeats 1000000 in
theorem rmost_ok (w0 : World) (n s t : Nat) (p : Option Addr) (cap : Nat) (rs : List Bd) (hr : BdsAt w0 p rs) (hw : W1 n s t rs) :
    Calls Try.prog 60 #[dnV n s t p rs.length cap] w0 (Post (X := Unit) (fun _ => .int .i64 (Fl.mw s t (dr0 rs))) (fun _ => True) (fun _ => []) w0) := by
  have hlen := hw.len
  have hn8 := hw.n8
  have hsn := hw.sn
  have htn := hw.tn
  have h256 := p2_256 hn8
  refine calls Try.func60 rfl (n := 29) rfl (by simp) ?_
  refine TC.seq ?_
  refine TC.region ?_
  refine TL.box rfl rfl (by decide) (fun b0 hb0 => ?_)
  refine TL.pure (PV.assign rfl) rfl (by decide) ?_
  refine TL.nil ?_
  refine TQ.thenC ?_
  refine TC.seq ?_
  refine TC.region ?_
  refine TL.pure (PV.assign rfl) rfl (by decide) ?_
  refine TL.nil ?_
  refine TQ.thenC ?_
  refine TC.seq ?_
  refine TC.seq ?_
  refine TC.region ?_
  refine TL.pure (PV.assign rfl) rfl (by decide) ?_
  refine TL.nil ?_
  refine TQ.thenC ?_
  refine TC.block ?_
  refine TC.loopK [1, 2] (X := Nat × Int) (fun y => y.1 ≤ 2 ^ n ∧ LMo s t (dr0 rs) y.1 y.2) (fun y => [(3, .int .i64 y.2), (4, .int .i64 y.1)]) (fun y => [(b0, Obj.cells #[.int .i64 (n : Nat), .int .i64 (s : Nat), .int .i64 (t : Nat), .slice p rs.length cap] 24 (0, 0))]) (fun y => 2 ^ n - y.1) (0, -1) ⟨Nat.zero_le _, LMo.zero⟩ (by exact ⟨rfl, rfl, trivial⟩) (by repeat (first | exact List.Sublist.slnil | exact List.nil_sublist _ | exact List.Sublist.refl _ | refine List.Sublist.cons_cons _ ?_ | refine List.Sublist.cons _ ?_ | refine List.Sublist.trans ?_ (List.sublist_append_right _ _))) ?_
  intro y hy
  have hyb := hy.2.bd
  refine TC.seq ?_
  refine TC.seq ?_
  refine TC.region ?_
  refine TL.pure (PV.move rfl) rfl (by decide) ?_
  refine TL.pure (PV.fieldAddr rfl Tb.fo_24_0) rfl (by decide) ?_
  refine TL.pure (PV.load rfl Tb.one_3 (by repeat (first | exact List.Mem.head _ | refine List.Mem.tail _ ?_ | refine List.mem_append_right _ ?_)) rfl) rfl (by decide) ?_
  refine TL.pure (PV.conv int_3 int_81 rfl (wrap_u n (by omega))) rfl (by decide) ?_
  refine TL.pure (PV.shl rfl rfl (by omega) (by omega) (shl_one n (by omega))) rfl (by decide) ?_
  refine TL.pure (PV.lss rfl rfl) rfl (by decide) ?_
  refine TL.nil ?_
  refine TQ.thenC ?_
  first | refine TC.condD rfl (fun hlt => ?_) (fun hlt => ?_) | refine TC.cond rfl (fun hlt => ?_) (fun hlt => ?_)
  · skip
    refine TC.skip ?_
    refine TQ.thenC ?_
    refine TC.seq ?_
    refine TC.block ?_
    refine TC.seq ?_
    refine TC.region ?_
    refine TL.pure (PV.loadBox rfl Tb.agg_24 (by repeat (first | exact List.Mem.head _ | refine List.Mem.tail _ ?_ | refine List.mem_append_right _ ?_)) rfl) rfl (by decide) ?_
    refine TL.pure (PV.move rfl) rfl (by decide) ?_
    refine TL.call rfl Tb.gofn_72 (fun a w hs => risCut_ok _ n s t _ y.1 (by omega) (by omega) (by omega)) rfl (by decide) (fun _ _ => ?_)
    refine TL.nil ?_
    refine TQ.thenC ?_
    first | refine TC.condD rfl (fun hc => ?_) (fun hc => ?_) | refine TC.cond rfl (fun hc => ?_) (fun hc => ?_)
    · skip
      refine TC.seq ?_
      have hcb := hw.cut' y.1.testBit
      refine TC.region ?_
      refine TL.pure (PV.loadBox rfl Tb.agg_24 (by repeat (first | exact List.Mem.head _ | refine List.Mem.tail _ ?_ | refine List.mem_append_right _ ?_)) rfl) rfl (by decide) ?_
      refine TL.pure (PV.move rfl) rfl (by decide) ?_
      refine TL.call rfl Tb.gofn_71 (fun a w hs => width_ok w n s t p cap rs (hr.new hs.new) hw y.1 (by omega)) rfl (by decide) (fun _ _ => ?_)
      refine TL.pure (PV.assign rfl) rfl (by decide) ?_
      refine TL.nil ?_
      refine TQ.thenC ?_
      refine TC.seq ?_
      refine TC.region ?_
      refine TL.pure (PV.move rfl) rfl (by decide) ?_
      refine TL.pure (PV.lss rfl rfl) rfl (by decide) ?_
      refine TL.pure (PV.move rfl) rfl (by decide) ?_
      first | refine TL.splitD 22 rfl (fun e1 => ?_) (fun e1 => ?_) | refine TL.split 22 rfl (fun e1 => ?_) (fun e1 => ?_)
      · skip
        refine TL.skip rfl (fun k hk => by cases hk; decide) ?_
        refine TL.skip rfl (fun k hk => by cases hk; decide) ?_
        refine TL.skip rfl (fun k hk => by cases hk; decide) ?_
        refine TL.pure (PV.pickT rfl rfl) rfl (by decide) ?_
        refine TL.nil ?_
        refine TQ.thenC ?_
        refine TC.condT rfl ?_
        refine TC.region ?_
        refine TL.pure (PV.move rfl) rfl (by decide) ?_
        refine TL.pure (PV.assign rfl) rfl (by decide) ?_
        refine TL.nil ?_
        refine TQ.blkN ?_
        refine TQ.thenC ?_
        refine TC.region ?_
        refine TL.pure (PV.move rfl) rfl (by decide) ?_
        refine TL.pure (PV.add rfl rfl (by omega)) rfl (by decide) ?_
        refine TL.pure (PV.assign rfl) rfl (by decide) ?_
        refine TL.nil ?_
        refine TQ.thenN ?_
        refine TQ.backK (y.1 + 1, Fl.cutW y.1.testBit (dr0 rs)) (by exact ⟨rfl, rfl, trivial⟩) (by repeat (first | exact True.intro | refine And.intro rfl ?_)) (by repeat (first | exact List.Sublist.slnil | exact List.nil_sublist _ | exact List.Sublist.refl _ | refine List.Sublist.cons_cons _ ?_ | refine List.Sublist.cons _ ?_ | refine List.Sublist.trans ?_ (List.sublist_append_right _ _))) ⟨by simp only; omega, hy.2.take hc hcb.1 (by omega)⟩ (by simp only; omega)
      · skip
        refine TL.pure (PV.move rfl) rfl (by decide) ?_
        refine TL.pure (PV.move rfl) rfl (by decide) ?_
        refine TL.pure (PV.lss rfl rfl) rfl (by decide) ?_
        refine TL.pure (PV.pickF rfl rfl) rfl (by decide) ?_
        refine TL.nil ?_
        refine TQ.thenC ?_
        first | refine TC.condD rfl (fun hb => ?_) (fun hb => ?_) | refine TC.cond rfl (fun hb => ?_) (fun hb => ?_)
        · skip
          refine TC.region ?_
          refine TL.pure (PV.move rfl) rfl (by decide) ?_
          refine TL.pure (PV.assign rfl) rfl (by decide) ?_
          refine TL.nil ?_
          refine TQ.blkN ?_
          refine TQ.thenC ?_
          refine TC.region ?_
          refine TL.pure (PV.move rfl) rfl (by decide) ?_
          refine TL.pure (PV.add rfl rfl (by omega)) rfl (by decide) ?_
          refine TL.pure (PV.assign rfl) rfl (by decide) ?_
          refine TL.nil ?_
          refine TQ.thenN ?_
          refine TQ.backK (y.1 + 1, Fl.cutW y.1.testBit (dr0 rs)) (by exact ⟨rfl, rfl, trivial⟩) (by repeat (first | exact True.intro | refine And.intro rfl ?_)) (by repeat (first | exact List.Sublist.slnil | exact List.nil_sublist _ | exact List.Sublist.refl _ | refine List.Sublist.cons_cons _ ?_ | refine List.Sublist.cons _ ?_ | refine List.Sublist.trans ?_ (List.sublist_append_right _ _))) ⟨by simp only; omega, hy.2.take hc hcb.1 (by omega)⟩ (by simp only; omega)
        · skip
          refine TC.skip ?_
          refine TQ.blkN ?_
          refine TQ.thenC ?_
          refine TC.region ?_
          refine TL.pure (PV.move rfl) rfl (by decide) ?_
          refine TL.pure (PV.add rfl rfl (by omega)) rfl (by decide) ?_
          refine TL.pure (PV.assign rfl) rfl (by decide) ?_
          refine TL.nil ?_
          refine TQ.thenN ?_
          refine TQ.backK (y.1 + 1, y.2) (by exact ⟨rfl, rfl, trivial⟩) (by repeat (first | exact True.intro | refine And.intro rfl ?_)) (by repeat (first | exact List.Sublist.slnil | exact List.nil_sublist _ | exact List.Sublist.refl _ | refine List.Sublist.cons_cons _ ?_ | refine List.Sublist.cons _ ?_ | refine List.Sublist.trans ?_ (List.sublist_append_right _ _))) ⟨by simp only; omega, hy.2.keep (by omega)⟩ (by simp only; omega)
    · skip
      refine TC.skip ?_
      refine TQ.blkN ?_
      refine TQ.thenC ?_
      refine TC.region ?_
      refine TL.pure (PV.move rfl) rfl (by decide) ?_
      refine TL.pure (PV.add rfl rfl (by omega)) rfl (by decide) ?_
      refine TL.pure (PV.assign rfl) rfl (by decide) ?_
      refine TL.nil ?_
      refine TQ.thenN ?_
      refine TQ.backK (y.1 + 1, y.2) (by exact ⟨rfl, rfl, trivial⟩) (by repeat (first | exact True.intro | refine And.intro rfl ?_)) (by repeat (first | exact List.Sublist.slnil | exact List.nil_sublist _ | exact List.Sublist.refl _ | refine List.Sublist.cons_cons _ ?_ | refine List.Sublist.cons _ ?_ | refine List.Sublist.trans ?_ (List.sublist_append_right _ _))) ⟨by simp only; omega, hy.2.skip hc⟩ (by simp only; omega)
  · skip
    refine TC.exit ?_
    refine TQ.thenE ?_
    refine TQ.thenE ?_
    refine TQ.blkS ?_
    refine TQ.thenC ?_
    refine TC.seq ?_
    have hke : y.1 = 2 ^ n := by omega
    have hdn := (show LMo s t (dr0 rs) (2 ^ n) y.2 from hke ▸ hy.2).done hw
    refine TC.region ?_
    refine TL.pure (PV.move rfl) rfl (by decide) ?_
    refine TL.pure (PV.assign rfl) rfl (by decide) ?_
    refine TL.nil ?_
    refine TQ.thenC ?_
    refine TC.ret ?_
    refine TQ.retE1 rfl rfl ?_
    exact ⟨(), by rw [hdn], trivial, List.nil_sublist _⟩

set_option maxRecDepth 100000 in
set_option maxHeartbeats 1000000 in
theorem value_ok (w0 : World) (n s t : Nat) (p : Option Addr) (cap : Nat) (rs : List Bd) (hr : BdsAt w0 p rs) (hv : Vd n s t rs) (pf : Option Addr) (cf m : Nat) (fs : List Int) (hf : IntsAt w0 pf fs) (hm : fs.length = m) (hl : fs.length = rs.length) (hb : ∀ k, k < rs.length → 0 ≤ fs.getD k 0 ∧ fs.getD k 0 ≤ 20) (u : Nat) :
    Calls Try.prog 58 #[dnV n s t p rs.length cap, .slice pf m cf, .int .i64 (u : Nat)] w0 (Post (X := Unit) (fun _ => .int .i64 (Fl.out u (cfL rs fs))) (fun _ => True) (fun _ => []) w0) := by
  subst hm
  have hlen := hv.len
  refine calls Try.func58 rfl (n := 45) rfl (by simp) ?_
  refine TC.seq ?_
  refine TC.region ?_
  refine TL.box rfl rfl (by decide) (fun b0 hb0 => ?_)
  refine TL.pure (PV.assign rfl) rfl (by decide) ?_
  refine TL.nil ?_
  refine TQ.thenC ?_
  refine TC.seq ?_
  refine TC.region ?_
  refine TL.pure (PV.assign rfl) rfl (by decide) ?_
  refine TL.nil ?_
  refine TQ.thenC ?_
  refine TC.seq ?_
  refine TC.seq ?_
  refine TC.region ?_
  refine TL.pure (PV.assign rfl) rfl (by decide) ?_
  refine TL.nil ?_
  refine TQ.thenC ?_
  refine TC.block ?_
  refine TC.loopK [1, 2, 3, 6] (X := Nat) (fun k => k ≤ rs.length) (fun k => [(7, .int .i64 (Fl.out u ((mkL rs fun j => fs.getD j 0).take k))), (8, .int .i64 k)]) (fun k => [(b0, Obj.cells #[.int .i64 (n : Nat), .int .i64 (s : Nat), .int .i64 (t : Nat), .slice p rs.length cap] 24 (0, 0))]) (fun k => rs.length - k) 0 (Nat.zero_le _) (by refine And.intro ?_ (And.intro rfl True.intro); rfl) (by repeat (first | exact List.Sublist.slnil | exact List.nil_sublist _ | exact List.Sublist.refl _ | refine List.Sublist.cons_cons _ ?_ | refine List.Sublist.cons _ ?_ | refine List.Sublist.trans ?_ (List.sublist_append_right _ _))) ?_
  intro k hk
  refine TC.seq ?_
  refine TC.seq ?_
  refine TC.region ?_
  refine TL.pure (PV.move rfl) rfl (by decide) ?_
  refine TL.pure (PV.fieldAddr rfl Tb.fo_24_3) rfl (by decide) ?_
  refine TL.pure (PV.load rfl Tb.one_22 (by repeat (first | exact List.Mem.head _ | refine List.Mem.tail _ ?_ | refine List.mem_append_right _ ?_)) rfl) rfl (by decide) ?_
  refine TL.pure (PV.len rfl Tb.sl_22) rfl (by decide) ?_
  refine TL.pure (PV.lss rfl rfl) rfl (by decide) ?_
  refine TL.nil ?_
  refine TQ.thenC ?_
  first | refine TC.condD rfl (fun hlt => ?_) (fun hlt => ?_) | refine TC.cond rfl (fun hlt => ?_) (fun hlt => ?_)
  · skip
    refine TC.skip ?_
    refine TQ.thenC ?_
    refine TC.seq ?_
    refine TC.block ?_
    refine TC.seq ?_
    refine TC.seq ?_
    obtain ⟨q, hqp, hq⟩ := hr k (by omega)
    obtain ⟨qf, hfp, hfq⟩ := hf k (by omega)
    have hnx := out_next (f := fun j => fs.getD j 0) (u := u) (show k < rs.length by omega)
    have hbk := hb k (by omega)
    have hma := hv.at (show k < rs.length by omega)
    have hob := take_bd (f := fun j => fs.getD j 0) hb k u hlen
    refine TC.region ?_
    refine TL.pure (PV.fieldAddr rfl Tb.fo_24_3) rfl (by decide) ?_
    refine TL.pure (PV.load rfl Tb.one_22 (by repeat (first | exact List.Mem.head _ | refine List.Mem.tail _ ?_ | refine List.mem_append_right _ ?_)) rfl) rfl (by decide) ?_
    refine TL.pure (PV.move rfl) rfl (by decide) ?_
    refine TL.pure (PV.indexA rfl hqp rfl Tb.elm_22 rfl (by omega)) rfl (by decide) ?_
    refine TL.pure (PV.fieldAddrA rfl Tb.fo_40_0) rfl (by decide) ?_
    refine TL.pure (PV.loadOld rfl Tb.one_3 (hq 0 _ rfl)) rfl (by decide) ?_
    refine TL.pure (PV.move rfl) rfl (by decide) ?_
    refine TL.pure (PV.eql rfl rfl) rfl (by decide) ?_
    refine TL.nil ?_
    refine TQ.thenC ?_
    first | refine TC.condD rfl (fun e1 => ?_) (fun e1 => ?_) | refine TC.cond rfl (fun e1 => ?_) (fun e1 => ?_)
    · skip
      refine TC.region ?_
      refine TL.pure (PV.move rfl) rfl (by decide) ?_
      refine TL.pure (PV.move rfl) rfl (by decide) ?_
      refine TL.pure (PV.move rfl) rfl (by decide) ?_
      refine TL.pure (PV.indexA rfl hfp rfl Tb.elm_25 rfl (by omega)) rfl (by decide) ?_
      refine TL.pure (PV.loadOld rfl Tb.one_3 hfq) rfl (by decide) ?_
      refine TL.pure (PV.add rfl rfl (by omega)) rfl (by decide) ?_
      refine TL.pure (PV.assign rfl) rfl (by decide) ?_
      refine TL.nil ?_
      refine TQ.thenC ?_
      refine TC.seq ?_
      refine TC.region ?_
      refine TL.pure (PV.fieldAddr rfl Tb.fo_24_3) rfl (by decide) ?_
      refine TL.pure (PV.load rfl Tb.one_22 (by repeat (first | exact List.Mem.head _ | refine List.Mem.tail _ ?_ | refine List.mem_append_right _ ?_)) rfl) rfl (by decide) ?_
      refine TL.pure (PV.move rfl) rfl (by decide) ?_
      refine TL.pure (PV.indexA rfl hqp rfl Tb.elm_22 rfl (by omega)) rfl (by decide) ?_
      refine TL.pure (PV.fieldAddrA rfl Tb.fo_40_1) rfl (by decide) ?_
      refine TL.pure (PV.loadOld rfl Tb.one_3 (hq 1 _ rfl)) rfl (by decide) ?_
      refine TL.pure (PV.move rfl) rfl (by decide) ?_
      refine TL.pure (PV.eql rfl rfl) rfl (by decide) ?_
      refine TL.nil ?_
      refine TQ.thenC ?_
      first | refine TC.condD rfl (fun e2 => ?_) (fun e2 => ?_) | refine TC.cond rfl (fun e2 => ?_) (fun e2 => ?_)
      · skip
        refine TC.region ?_
        refine TL.pure (PV.move rfl) rfl (by decide) ?_
        refine TL.pure (PV.move rfl) rfl (by decide) ?_
        refine TL.pure (PV.move rfl) rfl (by decide) ?_
        refine TL.pure (PV.indexA rfl hfp rfl Tb.elm_25 rfl (by omega)) rfl (by decide) ?_
        refine TL.pure (PV.loadOld rfl Tb.one_3 hfq) rfl (by decide) ?_
        refine TL.pure (PV.sub rfl rfl (by omega)) rfl (by decide) ?_
        refine TL.pure (PV.assign rfl) rfl (by decide) ?_
        refine TL.nil ?_
        refine TQ.blkN ?_
        refine TQ.thenC ?_
        refine TC.region ?_
        refine TL.pure (PV.move rfl) rfl (by decide) ?_
        refine TL.pure (PV.add rfl rfl (by omega)) rfl (by decide) ?_
        refine TL.pure (PV.assign rfl) rfl (by decide) ?_
        refine TL.nil ?_
        refine TQ.thenN ?_
        refine TQ.backK (k + 1) (by refine And.intro ?_ (And.intro rfl True.intro); show some _ = some _; rw [hnx]; congr 2; split <;> split <;> omega) (by repeat (first | exact True.intro | refine And.intro rfl ?_)) (by repeat (first | exact List.Sublist.slnil | exact List.nil_sublist _ | exact List.Sublist.refl _ | refine List.Sublist.cons_cons _ ?_ | refine List.Sublist.cons _ ?_ | refine List.Sublist.trans ?_ (List.sublist_append_right _ _))) (by omega) (by omega)
      · skip
        refine TC.skip ?_
        refine TQ.blkN ?_
        refine TQ.thenC ?_
        refine TC.region ?_
        refine TL.pure (PV.move rfl) rfl (by decide) ?_
        refine TL.pure (PV.add rfl rfl (by omega)) rfl (by decide) ?_
        refine TL.pure (PV.assign rfl) rfl (by decide) ?_
        refine TL.nil ?_
        refine TQ.thenN ?_
        refine TQ.backK (k + 1) (by refine And.intro ?_ (And.intro rfl True.intro); show some _ = some _; rw [hnx]; congr 2; split <;> split <;> omega) (by repeat (first | exact True.intro | refine And.intro rfl ?_)) (by repeat (first | exact List.Sublist.slnil | exact List.nil_sublist _ | exact List.Sublist.refl _ | refine List.Sublist.cons_cons _ ?_ | refine List.Sublist.cons _ ?_ | refine List.Sublist.trans ?_ (List.sublist_append_right _ _))) (by omega) (by omega)
    · skip
      refine TC.skip ?_
      refine TQ.thenC ?_
      refine TC.seq ?_
      refine TC.region ?_
      refine TL.pure (PV.fieldAddr rfl Tb.fo_24_3) rfl (by decide) ?_
      refine TL.pure (PV.load rfl Tb.one_22 (by repeat (first | exact List.Mem.head _ | refine List.Mem.tail _ ?_ | refine List.mem_append_right _ ?_)) rfl) rfl (by decide) ?_
      refine TL.pure (PV.move rfl) rfl (by decide) ?_
      refine TL.pure (PV.indexA rfl hqp rfl Tb.elm_22 rfl (by omega)) rfl (by decide) ?_
      refine TL.pure (PV.fieldAddrA rfl Tb.fo_40_1) rfl (by decide) ?_
      refine TL.pure (PV.loadOld rfl Tb.one_3 (hq 1 _ rfl)) rfl (by decide) ?_
      refine TL.pure (PV.move rfl) rfl (by decide) ?_
      refine TL.pure (PV.eql rfl rfl) rfl (by decide) ?_
      refine TL.nil ?_
      refine TQ.thenC ?_
      first | refine TC.condD rfl (fun e2 => ?_) (fun e2 => ?_) | refine TC.cond rfl (fun e2 => ?_) (fun e2 => ?_)
      · skip
        refine TC.region ?_
        refine TL.pure (PV.move rfl) rfl (by decide) ?_
        refine TL.pure (PV.move rfl) rfl (by decide) ?_
        refine TL.pure (PV.move rfl) rfl (by decide) ?_
        refine TL.pure (PV.indexA rfl hfp rfl Tb.elm_25 rfl (by omega)) rfl (by decide) ?_
        refine TL.pure (PV.loadOld rfl Tb.one_3 hfq) rfl (by decide) ?_
        refine TL.pure (PV.sub rfl rfl (by omega)) rfl (by decide) ?_
        refine TL.pure (PV.assign rfl) rfl (by decide) ?_
        refine TL.nil ?_
        refine TQ.blkN ?_
        refine TQ.thenC ?_
        refine TC.region ?_
        refine TL.pure (PV.move rfl) rfl (by decide) ?_
        refine TL.pure (PV.add rfl rfl (by omega)) rfl (by decide) ?_
        refine TL.pure (PV.assign rfl) rfl (by decide) ?_
        refine TL.nil ?_
        refine TQ.thenN ?_
        refine TQ.backK (k + 1) (by refine And.intro ?_ (And.intro rfl True.intro); show some _ = some _; rw [hnx]; congr 2; split <;> split <;> omega) (by repeat (first | exact True.intro | refine And.intro rfl ?_)) (by repeat (first | exact List.Sublist.slnil | exact List.nil_sublist _ | exact List.Sublist.refl _ | refine List.Sublist.cons_cons _ ?_ | refine List.Sublist.cons _ ?_ | refine List.Sublist.trans ?_ (List.sublist_append_right _ _))) (by omega) (by omega)
      · skip
        refine TC.skip ?_
        refine TQ.blkN ?_
        refine TQ.thenC ?_
        refine TC.region ?_
        refine TL.pure (PV.move rfl) rfl (by decide) ?_
        refine TL.pure (PV.add rfl rfl (by omega)) rfl (by decide) ?_
        refine TL.pure (PV.assign rfl) rfl (by decide) ?_
        refine TL.nil ?_
        refine TQ.thenN ?_
        refine TQ.backK (k + 1) (by refine And.intro ?_ (And.intro rfl True.intro); show some _ = some _; rw [hnx]; congr 2; split <;> split <;> omega) (by repeat (first | exact True.intro | refine And.intro rfl ?_)) (by repeat (first | exact List.Sublist.slnil | exact List.nil_sublist _ | exact List.Sublist.refl _ | refine List.Sublist.cons_cons _ ?_ | refine List.Sublist.cons _ ?_ | refine List.Sublist.trans ?_ (List.sublist_append_right _ _))) (by omega) (by omega)
  · skip
    refine TC.exit ?_
    refine TQ.thenE ?_
    refine TQ.thenE ?_
    refine TQ.blkS ?_
    refine TQ.thenC ?_
    refine TC.seq ?_
    have hke : k = rs.length := by omega
    refine TC.region ?_
    refine TL.pure (PV.move rfl) rfl (by decide) ?_
    refine TL.pure (PV.assign rfl) rfl (by decide) ?_
    refine TL.nil ?_
    refine TQ.thenC ?_
    refine TC.ret ?_
    refine TQ.retE1 rfl rfl ?_
    exact ⟨(), by rw [hke, List.take_of_length_le (by rw [mkL_len]; exact Nat.le_refl _)]; rfl, trivial, List.nil_sublist _⟩

end Go.Proofs.Ytnlbngbbddhgeaa
