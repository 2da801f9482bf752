/- The reference of flows and cuts: contracts. -/
import Derived.Test.YtnlbngbbddhgeaaQFp
import Derived.Test.YtnlbngbbddhgeaaQPq
set_option linter.unusedVariables false
set_option linter.unusedSimpArgs false
namespace Go.Proofs.Ytnlbngbbddhgeaa
open Go.Sx Go.RowKit


section
variable {P : Program} {n : Nat} {w0 : World} {E : Env} {G : Heap} {d : Option Nat} {ty : TypeId} {pos : String} {aft : Array Edge} {g : Option (Nat × Bool)}
theorem PV.fieldAddrA {x : Operand} {q : Addr} {k : Nat} {t f : Nat} (hx : evo E x = some (.pointer (some q))) (hf : fieldOff P t f = some k) :
    PV P n w0 E G ⟨d, .fieldAddr t x f, ty, pos, aft, g⟩ (.pointer (some (q.add k))) :=
  fun a w hs => by
    unfold fieldOff at hf
    cases hu : P.underlying t with
    | none => simp [hu] at hf
    | some u =>
      cases u <;> simp only [hu] at hf <;> try (simp at hf; done)
      rename_i fs
      cases hfd : fs[f]? with
      | none => simp [hfd] at hf
      | some fd =>
        simp only [hfd] at hf
        cases hi : P.info? fd.type with
        | none => simp [hi] at hf
        | some i =>
          simp only [hi] at hf
          split at hf
          · cases hf
          · rename_i hne
            cases hf
            simp only [execOp, hs.ev hx]
            simp [Instr.fieldAt, run_underlying hu, hfd, Instr.sureAddr, fieldPlace, sizeOf, typeInfo, hi, hne]
end
theorem int_3 : Try.prog.underlying 3 = some (.int .i64) := by kernel_rfl
theorem p2_256 {n : Nat} (h : n ≤ 8) : 2 ^ n ≤ 256 := Nat.pow_le_pow_right (by decide) h
/-- A net of which the widths may be a little greater. -/
structure W1 (n s t : Nat) (rs : List Bd) : Prop where
  n8 : n ≤ 8
  sn : s < n
  tn : t < n
  st : s ≠ t
  len : rs.length ≤ 16
  ok : ∀ k, k < rs.length → (0 ≤ (rs.getD k default).a ∧ (rs.getD k default).a < n) ∧ (0 ≤ (rs.getD k default).b ∧ (rs.getD k default).b < n) ∧ 0 ≤ (rs.getD k default).m ∧ (rs.getD k default).m ≤ 40
theorem Vd.w1 {n s t : Nat} {rs : List Bd} (h : Vd n s t rs) : W1 n s t rs :=
  ⟨by have := h.n8; omega, by have := h.s0; omega, by have := h.t0; omega, by have := h.st; omega, h.len, fun k hk => by have := h.at hk; omega⟩
theorem W1.dr {n s t : Nat} {rs : List Bd} (h : W1 n s t rs) : ∀ e ∈ dr0 rs, (e.f < n ∧ e.t < n) ∧ 0 ≤ e.w ∧ e.w ≤ 40 := fun e he => by
  obtain ⟨k, hk, rfl⟩ := mkL_mem he
  have := h.ok k hk
  simp only [mkE]; omega
theorem W1.nn {n s t : Nat} {rs : List Bd} (h : W1 n s t rs) : ∀ e ∈ dr0 rs, 0 ≤ e.w := fun e he => (h.dr e he).2.1
theorem W1.nodes {n s t : Nat} {rs : List Bd} (h : W1 n s t rs) : ∀ e ∈ dr0 rs, e.f < n ∧ e.t < n := fun e he => (h.dr e he).1
theorem cutW_40 {S : Nat → Bool} : ∀ {L : List Fl.E}, (∀ e ∈ L, 0 ≤ e.w ∧ e.w ≤ 40) → 0 ≤ Fl.cutW S L ∧ Fl.cutW S L ≤ 40 * L.length
  | [], _ => by simp [Fl.cutW]
  | e :: l, h => by
    have h1 := h e List.mem_cons_self
    have h2 := cutW_40 (S := S) (L := l) fun x hx => h x (List.mem_cons_of_mem _ hx)
    simp only [Fl.cutW, List.length_cons]
    split <;> omega
theorem W1.cut {n s t : Nat} {rs : List Bd} (h : W1 n s t rs) (S : Nat → Bool) (k : Nat) : 0 ≤ Fl.cutW S ((dr0 rs).take k) ∧ Fl.cutW S ((dr0 rs).take k) ≤ 640 := by
  have h1 := cutW_40 (S := S) (L := (dr0 rs).take k) fun e he => (h.dr e (List.mem_of_mem_take he)).2
  have h2 : ((dr0 rs).take k).length ≤ 16 := by have := h.len; rw [List.length_take, mkL_len]; omega
  omega
/-- The least width among the first numbers of sets. -/
def LMo (s t : Nat) (L : List Fl.E) (k : Nat) (m : Int) : Prop :=
  (m = -1 ∧ ∀ S, S < k → ¬ (S.testBit s = true ∧ S.testBit t = false)) ∨
  (0 ≤ m ∧ (∃ S, S < k ∧ S.testBit s = true ∧ S.testBit t = false ∧ m = Fl.cutW S.testBit L) ∧ ∀ S, S < k → S.testBit s = true → S.testBit t = false → m ≤ Fl.cutW S.testBit L)
theorem LMo.zero {s t : Nat} {L : List Fl.E} : LMo s t L 0 (-1) := .inl ⟨rfl, fun S h => absurd h (Nat.not_lt_zero _)⟩
theorem LMo.keep {s t : Nat} {L : List Fl.E} {k : Nat} {m : Int} (h : LMo s t L k m) (hm : ¬ (m < 0 ∨ Fl.cutW k.testBit L < m)) : LMo s t L (k + 1) m := by
  rcases h with ⟨h1, h2⟩ | ⟨h1, ⟨S, a1, a2⟩, h3⟩
  · omega
  · refine .inr ⟨h1, ⟨S, by omega, a2⟩, fun S hS b1 b2 => ?_⟩
    by_cases e : S = k
    · subst e; omega
    · exact h3 S (by omega) b1 b2
theorem W1.msk {n s t : Nat} {rs : List Bd} (h : W1 n s t rs) (C : Nat → Bool) : Fl.cutW (Fl.msk n C).testBit (dr0 rs) = Fl.cutW C (dr0 rs) := Fl.cutW_nodes h.nodes fun v hv => Fl.msk_in hv
theorem LMo.bd {s t : Nat} {L : List Fl.E} {k : Nat} {m : Int} (h : LMo s t L k m) : -1 ≤ m := by rcases h with h | h <;> omega
end Go.Proofs.Ytnlbngbbddhgeaa
