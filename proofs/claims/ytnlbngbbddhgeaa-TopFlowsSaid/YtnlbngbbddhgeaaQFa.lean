/- Which nets are valid, and how a drain leads on: contracts. -/
import Derived.Test.YtnlbngbbddhgeaaQRe
import Derived.Test.YtnlbngbbddhgeaaQJb
import Derived.Test.YtnlbngbbddhgeaaQSv
import Derived.Test.YtnlbngbbddhgeaaQPz
set_option linter.unusedVariables false
set_option linter.unusedSimpArgs false
namespace Go.Proofs.Ytnlbngbbddhgeaa
open Go.Sx Go.RowKit

abbrev dnV (n s t : Int) (p : Option Addr) (len cap : Nat) : Value := .agg #[.int .i64 n, .int .i64 s, .int .i64 t, .slice p len cap]
def okD (n : Int) (r : Bd) : Bool := decide ((0 ≤ r.a ∧ r.a < n) ∧ (0 ≤ r.b ∧ r.b < n) ∧ r.a ≠ r.b ∧ 0 ≤ r.m ∧ r.m ≤ 20)
def dI (n s t : Int) (rs : List Bd) : Int := if (n < 2 ∨ 8 < n) ∨ ¬ (0 ≤ s ∧ s < n) ∨ ¬ (0 ≤ t ∧ t < n) ∨ s = t then 1 else if 16 < rs.length then 3 else if rs.all (okD n) = true then 0 else 1
theorem ok_spec {n : Int} {r : Bd} (h : okD n r = true) : (0 ≤ r.a ∧ r.a < n) ∧ (0 ≤ r.b ∧ r.b < n) ∧ r.a ≠ r.b ∧ 0 ≤ r.m ∧ r.m ≤ 20 := of_decide_eq_true h
theorem take_all {rs : List Bd} {f : Bd → Bool} {k : Nat} (h : (rs.take k).all f = true) (hk : k < rs.length) (h2 : f (rs.getD k default) = true) : (rs.take (k + 1)).all f = true := by
  have e : rs.getD k default = rs[k] := by simp [List.getD, hk]
  rw [List.take_succ_eq_append_getElem hk, List.all_append, h, ← e]
  simp only [List.all_cons, List.all_nil, Bool.and_true, Bool.true_and]
  exact h2
structure Vd (n s t : Int) (rs : List Bd) : Prop where
  n1 : 2 ≤ n
  n8 : n ≤ 8
  s0 : 0 ≤ s ∧ s < n
  t0 : 0 ≤ t ∧ t < n
  st : s ≠ t
  len : rs.length ≤ 16
  ok : rs.all (okD n) = true
theorem dI_is {n s t : Int} {rs : List Bd} (h : dI n s t rs = 0) : Vd n s t rs := by
  unfold dI at h
  split at h
  · cases h
  · split at h
    · cases h
    · split at h
      · rename_i h1 h2 h3
        exact ⟨by omega, by omega, by omega, by omega, by omega, by omega, h3⟩
      · cases h
theorem Vd.at {n s t : Int} {rs : List Bd} (h : Vd n s t rs) {k : Nat} (hk : k < rs.length) : (0 ≤ (rs.getD k default).a ∧ (rs.getD k default).a < n) ∧ (0 ≤ (rs.getD k default).b ∧ (rs.getD k default).b < n) ∧ (rs.getD k default).a ≠ (rs.getD k default).b ∧ 0 ≤ (rs.getD k default).m ∧ (rs.getD k default).m ≤ 20 := ok_spec (all_at h.ok hk)
/-- A drain and what runs in it, as four cells. -/
def e4 (e : Fl.E) : List Value := [.int .i64 e.f, .int .i64 e.t, .int .i64 e.w, .int .i64 e.r]
def mkE (r : Bd) (x : Int) : Fl.E := ⟨r.a.toNat, r.b.toNat, r.m, x⟩
def E4At (w : World) (b off : Nat) (e : Fl.E) : Prop := ∀ i v, (e4 e)[i]? = some v → w.cell? ⟨b, off + i, none⟩ = some v
theorem E4At.new {w0 w : World} {G : Heap} {b off : Nat} {e : Fl.E} (h : E4At w0 b off e) (hn : New w0 w G) : E4At w b off e := fun i v hv => hn.old (h i v hv)
section
variable {P : Program} {n : Nat} {w0 : World} {E : Env} {G : Heap} {d : Option Nat} {ty : TypeId} {pos : String} {aft : Array Edge} {g : Option (Nat × Bool)}
theorem PV.nilCheck {x : Operand} {a : Addr} (hx : evo E x = some (.pointer (some a))) : PV P n w0 E G ⟨d, .nilCheck x, ty, pos, aft, g⟩ (.pointer (some a)) :=
  fun A w hs => by simp only [execOp, hs.ev hx]; simp
end


set_option maxRecDepth 100000 in
theorem isNode_ok (w0 : World) (n a : Int) (x1 x2 x3 : Value) :
    Calls Try.prog 59 #[.agg #[.int .i64 n, x1, x2, x3], .int .i64 a] w0 (Post (X := Unit) (fun _ => .bool (decide (0 ≤ a ∧ a < n))) (fun _ => True) (fun _ => []) w0) := by
  refine calls Try.func59 rfl (n := 13) rfl (by simp) ?_
  refine TC.seq ?_
  refine TC.region ?_
  refine TL.box rfl rfl (by decide) (fun b0 hb0 => ?_)
  refine TL.pure (PV.assign rfl) rfl (by decide) ?_
  refine TL.nil ?_
  refine TQ.thenC ?_
  refine TC.seq ?_
  refine TC.region ?_
  refine TL.pure (PV.move rfl) rfl (by decide) ?_
  refine TL.pure (PV.geq rfl rfl) rfl (by decide) ?_
  refine TL.pure (PV.move rfl) rfl (by decide) ?_
  first | refine TL.splitD 7 rfl (fun h0 => ?_) (fun h0 => ?_) | refine TL.split 7 rfl (fun h0 => ?_) (fun h0 => ?_)
  · skip
    refine TL.pure (PV.move rfl) rfl (by decide) ?_
    refine TL.pure (PV.fieldAddr rfl Tb.fo_24_0) rfl (by decide) ?_
    refine TL.pure (PV.load rfl Tb.one_3 (by repeat (first | exact List.Mem.head _ | refine List.Mem.tail _ ?_ | refine List.mem_append_right _ ?_)) rfl) rfl (by decide) ?_
    refine TL.pure (PV.lss rfl rfl) rfl (by decide) ?_
    refine TL.pure (PV.pickT rfl rfl) rfl (by decide) ?_
    refine TL.pure (PV.assign rfl) rfl (by decide) ?_
    refine TL.nil ?_
    refine TQ.thenC ?_
    refine TC.ret ?_
    refine TQ.retE1 rfl rfl ?_
    exact ⟨(), congrArg Value.bool (by simp [*] <;> omega), trivial, List.nil_sublist _⟩
  · skip
    refine TL.skip rfl (fun k hk => by cases hk; decide) ?_
    refine TL.skip rfl (fun k hk => by cases hk; decide) ?_
    refine TL.skip rfl (fun k hk => by cases hk; decide) ?_
    refine TL.skip rfl (fun k hk => by cases hk; decide) ?_
    refine TL.pure (PV.pickF rfl rfl) rfl (by decide) ?_
    refine TL.pure (PV.assign rfl) rfl (by decide) ?_
    refine TL.nil ?_
    refine TQ.thenC ?_
    refine TC.ret ?_
    refine TQ.retE1 rfl rfl ?_
    exact ⟨(), congrArg Value.bool (by simp [*] <;> omega), trivial, List.nil_sublist _⟩

set_option maxRecDepth 100000 in
set_option maxHeartbeats 1000000 in
theorem validate_ok (w0 : World) (n s t : Int) (p : Option Addr) (cap : Nat) (rs : List Bd) (hr : BdsAt w0 p rs) :
    Calls Try.prog 20 #[dnV n s t p rs.length cap] w0 (Post (X := Unit) (fun _ => .int .i64 (dI n s t rs)) (fun _ => True) (fun _ => []) w0) := by
  refine calls Try.func20 rfl (n := 75) rfl (by simp) ?_
  refine TC.seq ?_
  refine TC.region ?_
  refine TL.box rfl rfl (by decide) (fun b0 hb0 => ?_)
  refine TL.pure (PV.assign rfl) rfl (by decide) ?_
  refine TL.nil ?_
  refine TQ.thenC ?_
  refine TC.seq ?_
  refine TC.seq ?_
  refine TC.region ?_
  refine TL.pure (PV.fieldAddr rfl Tb.fo_24_0) rfl (by decide) ?_
  refine TL.pure (PV.load rfl Tb.one_3 (by repeat (first | exact List.Mem.head _ | refine List.Mem.tail _ ?_ | refine List.mem_append_right _ ?_)) rfl) rfl (by decide) ?_
  refine TL.pure (PV.lss rfl rfl) rfl (by decide) ?_
  refine TL.pure (PV.move rfl) rfl (by decide) ?_
  first | refine TL.splitD 8 rfl (fun h0 => ?_) (fun h0 => ?_) | refine TL.split 8 rfl (fun h0 => ?_) (fun h0 => ?_)
  · skip
    refine TL.skip rfl (fun k hk => by cases hk; decide) ?_
    refine TL.skip rfl (fun k hk => by cases hk; decide) ?_
    refine TL.skip rfl (fun k hk => by cases hk; decide) ?_
    refine TL.pure (PV.pickT rfl rfl) rfl (by decide) ?_
    refine TL.pure (PV.move rfl) rfl (by decide) ?_
    refine TL.skip rfl (fun k hk => by cases hk; decide) ?_
    refine TL.skip rfl (fun k hk => by cases hk; decide) ?_
    refine TL.skip rfl (fun k hk => by cases hk; decide) ?_
    refine TL.skip rfl (fun k hk => by cases hk; decide) ?_
    refine TL.skip rfl (fun k hk => by cases hk; decide) ?_
    refine TL.pure (PV.pickT rfl rfl) rfl (by decide) ?_
    refine TL.pure (PV.move rfl) rfl (by decide) ?_
    refine TL.skip rfl (fun k hk => by cases hk; decide) ?_
    refine TL.skip rfl (fun k hk => by cases hk; decide) ?_
    refine TL.skip rfl (fun k hk => by cases hk; decide) ?_
    refine TL.skip rfl (fun k hk => by cases hk; decide) ?_
    refine TL.skip rfl (fun k hk => by cases hk; decide) ?_
    refine TL.pure (PV.pickT rfl rfl) rfl (by decide) ?_
    refine TL.pure (PV.move rfl) rfl (by decide) ?_
    refine TL.skip rfl (fun k hk => by cases hk; decide) ?_
    refine TL.skip rfl (fun k hk => by cases hk; decide) ?_
    refine TL.skip rfl (fun k hk => by cases hk; decide) ?_
    refine TL.skip rfl (fun k hk => by cases hk; decide) ?_
    refine TL.skip rfl (fun k hk => by cases hk; decide) ?_
    refine TL.pure (PV.pickT rfl rfl) rfl (by decide) ?_
    refine TL.nil ?_
    refine TQ.thenC ?_
    refine TC.condT rfl ?_
    refine TC.seq ?_
    refine TC.region ?_
    refine TL.pure (PV.assign rfl) rfl (by decide) ?_
    refine TL.nil ?_
    refine TQ.thenC ?_
    refine TC.ret ?_
    refine TQ.thenR ?_
    refine TQ.retE1 rfl rfl ?_
    first | exact ⟨(), by rw [dI, if_pos (by omega)], trivial, List.nil_sublist _⟩ | exact ⟨(), by rw [dI, if_neg (by omega), if_pos (by omega)], trivial, List.nil_sublist _⟩ | exact ⟨(), by rw [dI, if_neg (by omega), if_neg (by omega), if_neg (fun h => by have h9 := all_at h (k := k) (by omega); have h8 := ok_spec h9; omega)], trivial, List.nil_sublist _⟩ | exact ⟨(), by rw [dI, if_neg (by omega), if_neg (by omega), if_pos (by rw [← hk.2, List.take_of_length_le (by omega)])], trivial, List.nil_sublist _⟩
  · skip
    refine TL.pure (PV.fieldAddr rfl Tb.fo_24_0) rfl (by decide) ?_
    refine TL.pure (PV.load rfl Tb.one_3 (by repeat (first | exact List.Mem.head _ | refine List.Mem.tail _ ?_ | refine List.mem_append_right _ ?_)) rfl) rfl (by decide) ?_
    refine TL.pure (PV.gtr rfl rfl) rfl (by decide) ?_
    refine TL.pure (PV.pickF rfl rfl) rfl (by decide) ?_
    refine TL.pure (PV.move rfl) rfl (by decide) ?_
    first | refine TL.splitD 13 rfl (fun h1 => ?_) (fun h1 => ?_) | refine TL.split 13 rfl (fun h1 => ?_) (fun h1 => ?_)
    · skip
      refine TL.skip rfl (fun k hk => by cases hk; decide) ?_
      refine TL.skip rfl (fun k hk => by cases hk; decide) ?_
      refine TL.skip rfl (fun k hk => by cases hk; decide) ?_
      refine TL.skip rfl (fun k hk => by cases hk; decide) ?_
      refine TL.skip rfl (fun k hk => by cases hk; decide) ?_
      refine TL.pure (PV.pickT rfl rfl) rfl (by decide) ?_
      refine TL.pure (PV.move rfl) rfl (by decide) ?_
      refine TL.skip rfl (fun k hk => by cases hk; decide) ?_
      refine TL.skip rfl (fun k hk => by cases hk; decide) ?_
      refine TL.skip rfl (fun k hk => by cases hk; decide) ?_
      refine TL.skip rfl (fun k hk => by cases hk; decide) ?_
      refine TL.skip rfl (fun k hk => by cases hk; decide) ?_
      refine TL.pure (PV.pickT rfl rfl) rfl (by decide) ?_
      refine TL.pure (PV.move rfl) rfl (by decide) ?_
      refine TL.skip rfl (fun k hk => by cases hk; decide) ?_
      refine TL.skip rfl (fun k hk => by cases hk; decide) ?_
      refine TL.skip rfl (fun k hk => by cases hk; decide) ?_
      refine TL.skip rfl (fun k hk => by cases hk; decide) ?_
      refine TL.skip rfl (fun k hk => by cases hk; decide) ?_
      refine TL.pure (PV.pickT rfl rfl) rfl (by decide) ?_
      refine TL.nil ?_
      refine TQ.thenC ?_
      refine TC.condT rfl ?_
      refine TC.seq ?_
      refine TC.region ?_
      refine TL.pure (PV.assign rfl) rfl (by decide) ?_
      refine TL.nil ?_
      refine TQ.thenC ?_
      refine TC.ret ?_
      refine TQ.thenR ?_
      refine TQ.retE1 rfl rfl ?_
      first | exact ⟨(), by rw [dI, if_pos (by omega)], trivial, List.nil_sublist _⟩ | exact ⟨(), by rw [dI, if_neg (by omega), if_pos (by omega)], trivial, List.nil_sublist _⟩ | exact ⟨(), by rw [dI, if_neg (by omega), if_neg (by omega), if_neg (fun h => by have h9 := all_at h (k := k) (by omega); have h8 := ok_spec h9; omega)], trivial, List.nil_sublist _⟩ | exact ⟨(), by rw [dI, if_neg (by omega), if_neg (by omega), if_pos (by rw [← hk.2, List.take_of_length_le (by omega)])], trivial, List.nil_sublist _⟩
    · skip
      refine TL.pure (PV.loadBox rfl Tb.agg_24 (by repeat (first | exact List.Mem.head _ | refine List.Mem.tail _ ?_ | refine List.mem_append_right _ ?_)) rfl) rfl (by decide) ?_
      refine TL.pure (PV.fieldAddr rfl Tb.fo_24_1) rfl (by decide) ?_
      refine TL.pure (PV.load rfl Tb.one_3 (by repeat (first | exact List.Mem.head _ | refine List.Mem.tail _ ?_ | refine List.mem_append_right _ ?_)) rfl) rfl (by decide) ?_
      refine TL.call rfl Tb.gofn_59 (fun a w hs => isNode_ok _ _ _ _ _ _) rfl (by decide) (fun _ _ => ?_)
      refine TL.pure ((by first | exact PV.notD rfl | exact PV.not rfl)) rfl (by decide) ?_
      refine TL.pure (PV.pickF rfl rfl) rfl (by decide) ?_
      refine TL.pure (PV.move rfl) rfl (by decide) ?_
      first | refine TL.splitD 20 rfl (fun h2 => ?_) (fun h2 => ?_) | refine TL.split 20 rfl (fun h2 => ?_) (fun h2 => ?_)
      · skip
        refine TL.skip rfl (fun k hk => by cases hk; decide) ?_
        refine TL.skip rfl (fun k hk => by cases hk; decide) ?_
        refine TL.skip rfl (fun k hk => by cases hk; decide) ?_
        refine TL.skip rfl (fun k hk => by cases hk; decide) ?_
        refine TL.skip rfl (fun k hk => by cases hk; decide) ?_
        refine TL.pure (PV.pickT rfl rfl) rfl (by decide) ?_
        refine TL.pure (PV.move rfl) rfl (by decide) ?_
        refine TL.skip rfl (fun k hk => by cases hk; decide) ?_
        refine TL.skip rfl (fun k hk => by cases hk; decide) ?_
        refine TL.skip rfl (fun k hk => by cases hk; decide) ?_
        refine TL.skip rfl (fun k hk => by cases hk; decide) ?_
        refine TL.skip rfl (fun k hk => by cases hk; decide) ?_
        refine TL.pure (PV.pickT rfl rfl) rfl (by decide) ?_
        refine TL.nil ?_
        refine TQ.thenC ?_
        refine TC.condT rfl ?_
        refine TC.seq ?_
        refine TC.region ?_
        refine TL.pure (PV.assign rfl) rfl (by decide) ?_
        refine TL.nil ?_
        refine TQ.thenC ?_
        refine TC.ret ?_
        refine TQ.thenR ?_
        refine TQ.retE1 rfl rfl ?_
        first | exact ⟨(), by rw [dI, if_pos (by omega)], trivial, List.nil_sublist _⟩ | exact ⟨(), by rw [dI, if_neg (by omega), if_pos (by omega)], trivial, List.nil_sublist _⟩ | exact ⟨(), by rw [dI, if_neg (by omega), if_neg (by omega), if_neg (fun h => by have h9 := all_at h (k := k) (by omega); have h8 := ok_spec h9; omega)], trivial, List.nil_sublist _⟩ | exact ⟨(), by rw [dI, if_neg (by omega), if_neg (by omega), if_pos (by rw [← hk.2, List.take_of_length_le (by omega)])], trivial, List.nil_sublist _⟩
      · skip
        refine TL.pure (PV.loadBox rfl Tb.agg_24 (by repeat (first | exact List.Mem.head _ | refine List.Mem.tail _ ?_ | refine List.mem_append_right _ ?_)) rfl) rfl (by decide) ?_
        refine TL.pure (PV.fieldAddr rfl Tb.fo_24_2) rfl (by decide) ?_
        refine TL.pure (PV.load rfl Tb.one_3 (by repeat (first | exact List.Mem.head _ | refine List.Mem.tail _ ?_ | refine List.mem_append_right _ ?_)) rfl) rfl (by decide) ?_
        refine TL.call rfl Tb.gofn_59 (fun a w hs => isNode_ok _ _ _ _ _ _) rfl (by decide) (fun _ _ => ?_)
        refine TL.pure ((by first | exact PV.notD rfl | exact PV.not rfl)) rfl (by decide) ?_
        refine TL.pure (PV.pickF rfl rfl) rfl (by decide) ?_
        refine TL.pure (PV.move rfl) rfl (by decide) ?_
        first | refine TL.splitD 27 rfl (fun h3 => ?_) (fun h3 => ?_) | refine TL.split 27 rfl (fun h3 => ?_) (fun h3 => ?_)
        · skip
          refine TL.skip rfl (fun k hk => by cases hk; decide) ?_
          refine TL.skip rfl (fun k hk => by cases hk; decide) ?_
          refine TL.skip rfl (fun k hk => by cases hk; decide) ?_
          refine TL.skip rfl (fun k hk => by cases hk; decide) ?_
          refine TL.skip rfl (fun k hk => by cases hk; decide) ?_
          refine TL.pure (PV.pickT rfl rfl) rfl (by decide) ?_
          refine TL.nil ?_
          refine TQ.thenC ?_
          refine TC.condT rfl ?_
          refine TC.seq ?_
          refine TC.region ?_
          refine TL.pure (PV.assign rfl) rfl (by decide) ?_
          refine TL.nil ?_
          refine TQ.thenC ?_
          refine TC.ret ?_
          refine TQ.thenR ?_
          refine TQ.retE1 rfl rfl ?_
          first | exact ⟨(), by rw [dI, if_pos (by omega)], trivial, List.nil_sublist _⟩ | exact ⟨(), by rw [dI, if_neg (by omega), if_pos (by omega)], trivial, List.nil_sublist _⟩ | exact ⟨(), by rw [dI, if_neg (by omega), if_neg (by omega), if_neg (fun h => by have h9 := all_at h (k := k) (by omega); have h8 := ok_spec h9; omega)], trivial, List.nil_sublist _⟩ | exact ⟨(), by rw [dI, if_neg (by omega), if_neg (by omega), if_pos (by rw [← hk.2, List.take_of_length_le (by omega)])], trivial, List.nil_sublist _⟩
        · skip
          refine TL.pure (PV.fieldAddr rfl Tb.fo_24_1) rfl (by decide) ?_
          refine TL.pure (PV.load rfl Tb.one_3 (by repeat (first | exact List.Mem.head _ | refine List.Mem.tail _ ?_ | refine List.mem_append_right _ ?_)) rfl) rfl (by decide) ?_
          refine TL.pure (PV.fieldAddr rfl Tb.fo_24_2) rfl (by decide) ?_
          refine TL.pure (PV.load rfl Tb.one_3 (by repeat (first | exact List.Mem.head _ | refine List.Mem.tail _ ?_ | refine List.mem_append_right _ ?_)) rfl) rfl (by decide) ?_
          refine TL.pure (PV.eql rfl rfl) rfl (by decide) ?_
          refine TL.pure (PV.pickF rfl rfl) rfl (by decide) ?_
          refine TL.nil ?_
          refine TQ.thenC ?_
          first | refine TC.condD rfl (fun h4 => ?_) (fun h4 => ?_) | refine TC.cond rfl (fun h4 => ?_) (fun h4 => ?_)
          · skip
            refine TC.seq ?_
            refine TC.region ?_
            refine TL.pure (PV.assign rfl) rfl (by decide) ?_
            refine TL.nil ?_
            refine TQ.thenC ?_
            refine TC.ret ?_
            refine TQ.thenR ?_
            refine TQ.retE1 rfl rfl ?_
            first | exact ⟨(), by rw [dI, if_pos (by omega)], trivial, List.nil_sublist _⟩ | exact ⟨(), by rw [dI, if_neg (by omega), if_pos (by omega)], trivial, List.nil_sublist _⟩ | exact ⟨(), by rw [dI, if_neg (by omega), if_neg (by omega), if_neg (fun h => by have h9 := all_at h (k := k) (by omega); have h8 := ok_spec h9; omega)], trivial, List.nil_sublist _⟩ | exact ⟨(), by rw [dI, if_neg (by omega), if_neg (by omega), if_pos (by rw [← hk.2, List.take_of_length_le (by omega)])], trivial, List.nil_sublist _⟩
          · skip
            refine TC.skip ?_
            refine TQ.thenC ?_
            refine TC.seq ?_
            refine TC.seq ?_
            refine TC.region ?_
            refine TL.pure (PV.fieldAddr rfl Tb.fo_24_3) rfl (by decide) ?_
            refine TL.pure (PV.load rfl Tb.one_22 (by repeat (first | exact List.Mem.head _ | refine List.Mem.tail _ ?_ | refine List.mem_append_right _ ?_)) rfl) rfl (by decide) ?_
            refine TL.pure (PV.len rfl Tb.sl_22) rfl (by decide) ?_
            refine TL.pure (PV.gtr rfl rfl) rfl (by decide) ?_
            refine TL.nil ?_
            refine TQ.thenC ?_
            first | refine TC.condD rfl (fun hlong => ?_) (fun hlong => ?_) | refine TC.cond rfl (fun hlong => ?_) (fun hlong => ?_)
            · skip
              refine TC.seq ?_
              refine TC.region ?_
              refine TL.pure (PV.assign rfl) rfl (by decide) ?_
              refine TL.nil ?_
              refine TQ.thenC ?_
              refine TC.ret ?_
              refine TQ.thenR ?_
              refine TQ.retE1 rfl rfl ?_
              first | exact ⟨(), by rw [dI, if_pos (by omega)], trivial, List.nil_sublist _⟩ | exact ⟨(), by rw [dI, if_neg (by omega), if_pos (by omega)], trivial, List.nil_sublist _⟩ | exact ⟨(), by rw [dI, if_neg (by omega), if_neg (by omega), if_neg (fun h => by have h9 := all_at h (k := k) (by omega); have h8 := ok_spec h9; omega)], trivial, List.nil_sublist _⟩ | exact ⟨(), by rw [dI, if_neg (by omega), if_neg (by omega), if_pos (by rw [← hk.2, List.take_of_length_le (by omega)])], trivial, List.nil_sublist _⟩
            · skip
              refine TC.skip ?_
              refine TQ.thenC ?_
              refine TC.seq ?_
              refine TC.seq ?_
              refine TC.region ?_
              refine TL.pure (PV.fieldAddr rfl Tb.fo_24_3) rfl (by decide) ?_
              refine TL.pure (PV.load rfl Tb.one_22 (by repeat (first | exact List.Mem.head _ | refine List.Mem.tail _ ?_ | refine List.mem_append_right _ ?_)) rfl) rfl (by decide) ?_
              refine TL.pure (PV.len rfl Tb.sl_22) rfl (by decide) ?_
              refine TL.pure (PV.move rfl) rfl (by decide) ?_
              refine TL.nil ?_
              refine TQ.thenC ?_
              refine TC.block ?_
              -- live and written in the loop, not told: [2]
              refine TC.loopG [1, 39, 40] (X := Nat) (fun k => k ≤ rs.length ∧ (rs.take k).all (okD n) = true) (fun k => [(41, .int .i64 k)]) (fun k => rs.length - k) 0 ⟨Nat.zero_le _, by simp⟩ (by repeat (first | exact True.intro | refine And.intro rfl ?_)) ?_
              intro k hk
              refine TC.seq ?_
              refine TC.region ?_
              refine TL.pure (PV.lss rfl rfl) rfl (by decide) ?_
              refine TL.nil ?_
              refine TQ.thenC ?_
              refine TC.seq ?_
              first | refine TC.condD rfl (fun hlt => ?_) (fun hlt => ?_) | refine TC.cond rfl (fun hlt => ?_) (fun hlt => ?_)
              · skip
                refine TC.skip ?_
                refine TQ.thenC ?_
                refine TC.seq ?_
                refine TC.block ?_
                refine TC.seq ?_
                obtain ⟨q, hqp, hq⟩ := hr k (by omega)
                refine TC.region ?_
                refine TL.pure (PV.indexA rfl hqp rfl Tb.elm_22 rfl (by omega)) rfl (by decide) ?_
                refine TL.pure (PV.loadAggA rfl Tb.agg_40 rfl hq) rfl (by decide) ?_
                refine TL.alloc Tb.zero_40 rfl (by decide) (fun b1 hb1 => ?_)
                refine TL.storeAgg rfl rfl Tb.cells_40 (by repeat (first | exact Upd.head _ | apply Upd.tail | apply Upd.appR)) rfl rfl rfl rfl rfl ?_
                refine TL.nil ?_
                refine TQ.thenC ?_
                refine TC.seq ?_
                refine TC.region ?_
                refine TL.pure (PV.loadBox rfl Tb.agg_24 (by repeat (first | exact List.Mem.head _ | refine List.Mem.tail _ ?_ | refine List.mem_append_right _ ?_)) rfl) rfl (by decide) ?_
                refine TL.pure (PV.fieldAddr rfl Tb.fo_40_0) rfl (by decide) ?_
                refine TL.pure (PV.load rfl Tb.one_3 (by repeat (first | exact List.Mem.head _ | refine List.Mem.tail _ ?_ | refine List.mem_append_right _ ?_)) rfl) rfl (by decide) ?_
                refine TL.call rfl Tb.gofn_59 (fun a w hs => isNode_ok _ _ _ _ _ _) rfl (by decide) (fun _ _ => ?_)
                refine TL.pure ((by first | exact PV.notD rfl | exact PV.not rfl)) rfl (by decide) ?_
                refine TL.pure (PV.move rfl) rfl (by decide) ?_
                first | refine TL.splitD 50 rfl (fun h7 => ?_) (fun h7 => ?_) | refine TL.split 50 rfl (fun h7 => ?_) (fun h7 => ?_)
                · skip
                  refine TL.skip rfl (fun k hk => by cases hk; decide) ?_
                  refine TL.skip rfl (fun k hk => by cases hk; decide) ?_
                  refine TL.skip rfl (fun k hk => by cases hk; decide) ?_
                  refine TL.skip rfl (fun k hk => by cases hk; decide) ?_
                  refine TL.skip rfl (fun k hk => by cases hk; decide) ?_
                  refine TL.pure (PV.pickT rfl rfl) rfl (by decide) ?_
                  refine TL.pure (PV.move rfl) rfl (by decide) ?_
                  refine TL.skip rfl (fun k hk => by cases hk; decide) ?_
                  refine TL.skip rfl (fun k hk => by cases hk; decide) ?_
                  refine TL.skip rfl (fun k hk => by cases hk; decide) ?_
                  refine TL.skip rfl (fun k hk => by cases hk; decide) ?_
                  refine TL.skip rfl (fun k hk => by cases hk; decide) ?_
                  refine TL.pure (PV.pickT rfl rfl) rfl (by decide) ?_
                  refine TL.pure (PV.move rfl) rfl (by decide) ?_
                  refine TL.skip rfl (fun k hk => by cases hk; decide) ?_
                  refine TL.skip rfl (fun k hk => by cases hk; decide) ?_
                  refine TL.skip rfl (fun k hk => by cases hk; decide) ?_
                  refine TL.pure (PV.pickT rfl rfl) rfl (by decide) ?_
                  refine TL.pure (PV.move rfl) rfl (by decide) ?_
                  refine TL.skip rfl (fun k hk => by cases hk; decide) ?_
                  refine TL.skip rfl (fun k hk => by cases hk; decide) ?_
                  refine TL.skip rfl (fun k hk => by cases hk; decide) ?_
                  refine TL.pure (PV.pickT rfl rfl) rfl (by decide) ?_
                  refine TL.nil ?_
                  refine TQ.thenC ?_
                  refine TC.condT rfl ?_
                  refine TC.seq ?_
                  refine TC.region ?_
                  refine TL.pure (PV.assign rfl) rfl (by decide) ?_
                  refine TL.nil ?_
                  refine TQ.thenC ?_
                  refine TC.ret ?_
                  refine TQ.blkR ?_
                  refine TQ.thenR ?_
                  refine TQ.thenR ?_
                  refine TQ.blkR ?_
                  refine TQ.thenR ?_
                  refine TQ.retE1 rfl rfl ?_
                  first | exact ⟨(), by rw [dI, if_pos (by omega)], trivial, List.nil_sublist _⟩ | exact ⟨(), by rw [dI, if_neg (by omega), if_pos (by omega)], trivial, List.nil_sublist _⟩ | exact ⟨(), by rw [dI, if_neg (by omega), if_neg (by omega), if_neg (fun h => by have h9 := all_at h (k := k) (by omega); have h8 := ok_spec h9; omega)], trivial, List.nil_sublist _⟩ | exact ⟨(), by rw [dI, if_neg (by omega), if_neg (by omega), if_pos (by rw [← hk.2, List.take_of_length_le (by omega)])], trivial, List.nil_sublist _⟩
                · skip
                  refine TL.pure (PV.loadBox rfl Tb.agg_24 (by repeat (first | exact List.Mem.head _ | refine List.Mem.tail _ ?_ | refine List.mem_append_right _ ?_)) rfl) rfl (by decide) ?_
                  refine TL.pure (PV.fieldAddr rfl Tb.fo_40_1) rfl (by decide) ?_
                  refine TL.pure (PV.load rfl Tb.one_3 (by repeat (first | exact List.Mem.head _ | refine List.Mem.tail _ ?_ | refine List.mem_append_right _ ?_)) rfl) rfl (by decide) ?_
                  refine TL.call rfl Tb.gofn_59 (fun a w hs => isNode_ok _ _ _ _ _ _) rfl (by decide) (fun _ _ => ?_)
                  refine TL.pure ((by first | exact PV.notD rfl | exact PV.not rfl)) rfl (by decide) ?_
                  refine TL.pure (PV.pickF rfl rfl) rfl (by decide) ?_
                  refine TL.pure (PV.move rfl) rfl (by decide) ?_
                  first | refine TL.splitD 57 rfl (fun h8 => ?_) (fun h8 => ?_) | refine TL.split 57 rfl (fun h8 => ?_) (fun h8 => ?_)
                  · skip
                    refine TL.skip rfl (fun k hk => by cases hk; decide) ?_
                    refine TL.skip rfl (fun k hk => by cases hk; decide) ?_
                    refine TL.skip rfl (fun k hk => by cases hk; decide) ?_
                    refine TL.skip rfl (fun k hk => by cases hk; decide) ?_
                    refine TL.skip rfl (fun k hk => by cases hk; decide) ?_
                    refine TL.pure (PV.pickT rfl rfl) rfl (by decide) ?_
                    refine TL.pure (PV.move rfl) rfl (by decide) ?_
                    refine TL.skip rfl (fun k hk => by cases hk; decide) ?_
                    refine TL.skip rfl (fun k hk => by cases hk; decide) ?_
                    refine TL.skip rfl (fun k hk => by cases hk; decide) ?_
                    refine TL.pure (PV.pickT rfl rfl) rfl (by decide) ?_
                    refine TL.pure (PV.move rfl) rfl (by decide) ?_
                    refine TL.skip rfl (fun k hk => by cases hk; decide) ?_
                    refine TL.skip rfl (fun k hk => by cases hk; decide) ?_
                    refine TL.skip rfl (fun k hk => by cases hk; decide) ?_
                    refine TL.pure (PV.pickT rfl rfl) rfl (by decide) ?_
                    refine TL.nil ?_
                    refine TQ.thenC ?_
                    refine TC.condT rfl ?_
                    refine TC.seq ?_
                    refine TC.region ?_
                    refine TL.pure (PV.assign rfl) rfl (by decide) ?_
                    refine TL.nil ?_
                    refine TQ.thenC ?_
                    refine TC.ret ?_
                    refine TQ.blkR ?_
                    refine TQ.thenR ?_
                    refine TQ.thenR ?_
                    refine TQ.blkR ?_
                    refine TQ.thenR ?_
                    refine TQ.retE1 rfl rfl ?_
                    first | exact ⟨(), by rw [dI, if_pos (by omega)], trivial, List.nil_sublist _⟩ | exact ⟨(), by rw [dI, if_neg (by omega), if_pos (by omega)], trivial, List.nil_sublist _⟩ | exact ⟨(), by rw [dI, if_neg (by omega), if_neg (by omega), if_neg (fun h => by have h9 := all_at h (k := k) (by omega); have h8 := ok_spec h9; omega)], trivial, List.nil_sublist _⟩ | exact ⟨(), by rw [dI, if_neg (by omega), if_neg (by omega), if_pos (by rw [← hk.2, List.take_of_length_le (by omega)])], trivial, List.nil_sublist _⟩
                  · skip
                    refine TL.pure (PV.fieldAddr rfl Tb.fo_40_0) rfl (by decide) ?_
                    refine TL.pure (PV.load rfl Tb.one_3 (by repeat (first | exact List.Mem.head _ | refine List.Mem.tail _ ?_ | refine List.mem_append_right _ ?_)) rfl) rfl (by decide) ?_
                    refine TL.pure (PV.fieldAddr rfl Tb.fo_40_1) rfl (by decide) ?_
                    refine TL.pure (PV.load rfl Tb.one_3 (by repeat (first | exact List.Mem.head _ | refine List.Mem.tail _ ?_ | refine List.mem_append_right _ ?_)) rfl) rfl (by decide) ?_
                    refine TL.pure (PV.eql rfl rfl) rfl (by decide) ?_
                    refine TL.pure (PV.pickF rfl rfl) rfl (by decide) ?_
                    refine TL.pure (PV.move rfl) rfl (by decide) ?_
                    first | refine TL.splitD 64 rfl (fun h9 => ?_) (fun h9 => ?_) | refine TL.split 64 rfl (fun h9 => ?_) (fun h9 => ?_)
                    · skip
                      refine TL.skip rfl (fun k hk => by cases hk; decide) ?_
                      refine TL.skip rfl (fun k hk => by cases hk; decide) ?_
                      refine TL.skip rfl (fun k hk => by cases hk; decide) ?_
                      refine TL.pure (PV.pickT rfl rfl) rfl (by decide) ?_
                      refine TL.pure (PV.move rfl) rfl (by decide) ?_
                      refine TL.skip rfl (fun k hk => by cases hk; decide) ?_
                      refine TL.skip rfl (fun k hk => by cases hk; decide) ?_
                      refine TL.skip rfl (fun k hk => by cases hk; decide) ?_
                      refine TL.pure (PV.pickT rfl rfl) rfl (by decide) ?_
                      refine TL.nil ?_
                      refine TQ.thenC ?_
                      refine TC.condT rfl ?_
                      refine TC.seq ?_
                      refine TC.region ?_
                      refine TL.pure (PV.assign rfl) rfl (by decide) ?_
                      refine TL.nil ?_
                      refine TQ.thenC ?_
                      refine TC.ret ?_
                      refine TQ.blkR ?_
                      refine TQ.thenR ?_
                      refine TQ.thenR ?_
                      refine TQ.blkR ?_
                      refine TQ.thenR ?_
                      refine TQ.retE1 rfl rfl ?_
                      first | exact ⟨(), by rw [dI, if_pos (by omega)], trivial, List.nil_sublist _⟩ | exact ⟨(), by rw [dI, if_neg (by omega), if_pos (by omega)], trivial, List.nil_sublist _⟩ | exact ⟨(), by rw [dI, if_neg (by omega), if_neg (by omega), if_neg (fun h => by have h9 := all_at h (k := k) (by omega); have h8 := ok_spec h9; omega)], trivial, List.nil_sublist _⟩ | exact ⟨(), by rw [dI, if_neg (by omega), if_neg (by omega), if_pos (by rw [← hk.2, List.take_of_length_le (by omega)])], trivial, List.nil_sublist _⟩
                    · skip
                      refine TL.pure (PV.fieldAddr rfl Tb.fo_40_2) rfl (by decide) ?_
                      refine TL.pure (PV.load rfl Tb.one_3 (by repeat (first | exact List.Mem.head _ | refine List.Mem.tail _ ?_ | refine List.mem_append_right _ ?_)) rfl) rfl (by decide) ?_
                      refine TL.pure (PV.lss rfl rfl) rfl (by decide) ?_
                      refine TL.pure (PV.pickF rfl rfl) rfl (by decide) ?_
                      refine TL.pure (PV.move rfl) rfl (by decide) ?_
                      first | refine TL.splitD 69 rfl (fun h10 => ?_) (fun h10 => ?_) | refine TL.split 69 rfl (fun h10 => ?_) (fun h10 => ?_)
                      · skip
                        refine TL.skip rfl (fun k hk => by cases hk; decide) ?_
                        refine TL.skip rfl (fun k hk => by cases hk; decide) ?_
                        refine TL.skip rfl (fun k hk => by cases hk; decide) ?_
                        refine TL.pure (PV.pickT rfl rfl) rfl (by decide) ?_
                        refine TL.nil ?_
                        refine TQ.thenC ?_
                        refine TC.condT rfl ?_
                        refine TC.seq ?_
                        refine TC.region ?_
                        refine TL.pure (PV.assign rfl) rfl (by decide) ?_
                        refine TL.nil ?_
                        refine TQ.thenC ?_
                        refine TC.ret ?_
                        refine TQ.blkR ?_
                        refine TQ.thenR ?_
                        refine TQ.thenR ?_
                        refine TQ.blkR ?_
                        refine TQ.thenR ?_
                        refine TQ.retE1 rfl rfl ?_
                        first | exact ⟨(), by rw [dI, if_pos (by omega)], trivial, List.nil_sublist _⟩ | exact ⟨(), by rw [dI, if_neg (by omega), if_pos (by omega)], trivial, List.nil_sublist _⟩ | exact ⟨(), by rw [dI, if_neg (by omega), if_neg (by omega), if_neg (fun h => by have h9 := all_at h (k := k) (by omega); have h8 := ok_spec h9; omega)], trivial, List.nil_sublist _⟩ | exact ⟨(), by rw [dI, if_neg (by omega), if_neg (by omega), if_pos (by rw [← hk.2, List.take_of_length_le (by omega)])], trivial, List.nil_sublist _⟩
                      · skip
                        refine TL.pure (PV.fieldAddr rfl Tb.fo_40_2) rfl (by decide) ?_
                        refine TL.pure (PV.load rfl Tb.one_3 (by repeat (first | exact List.Mem.head _ | refine List.Mem.tail _ ?_ | refine List.mem_append_right _ ?_)) rfl) rfl (by decide) ?_
                        refine TL.pure (PV.gtr rfl rfl) rfl (by decide) ?_
                        refine TL.pure (PV.pickF rfl rfl) rfl (by decide) ?_
                        refine TL.nil ?_
                        refine TQ.thenC ?_
                        first | refine TC.condD rfl (fun hbad => ?_) (fun hbad => ?_) | refine TC.cond rfl (fun hbad => ?_) (fun hbad => ?_)
                        · skip
                          refine TC.seq ?_
                          refine TC.region ?_
                          refine TL.pure (PV.assign rfl) rfl (by decide) ?_
                          refine TL.nil ?_
                          refine TQ.thenC ?_
                          refine TC.ret ?_
                          refine TQ.blkR ?_
                          refine TQ.thenR ?_
                          refine TQ.thenR ?_
                          refine TQ.blkR ?_
                          refine TQ.thenR ?_
                          refine TQ.retE1 rfl rfl ?_
                          first | exact ⟨(), by rw [dI, if_pos (by omega)], trivial, List.nil_sublist _⟩ | exact ⟨(), by rw [dI, if_neg (by omega), if_pos (by omega)], trivial, List.nil_sublist _⟩ | exact ⟨(), by rw [dI, if_neg (by omega), if_neg (by omega), if_neg (fun h => by have h9 := all_at h (k := k) (by omega); have h8 := ok_spec h9; omega)], trivial, List.nil_sublist _⟩ | exact ⟨(), by rw [dI, if_neg (by omega), if_neg (by omega), if_pos (by rw [← hk.2, List.take_of_length_le (by omega)])], trivial, List.nil_sublist _⟩
                        · skip
                          have hall : okD n (rs.getD k default) = true := decide_eq_true (by omega)
                          refine TC.skip ?_
                          refine TQ.blkN ?_
                          refine TQ.thenC ?_
                          refine TC.region ?_
                          refine TL.pure (PV.add rfl rfl (by omega)) rfl (by decide) ?_
                          refine TL.pure (PV.move rfl) rfl (by decide) ?_
                          refine TL.nil ?_
                          refine TQ.thenN ?_
                          refine TQ.backK (k + 1) (by repeat (first | exact True.intro | refine And.intro rfl ?_)) (by repeat (first | exact True.intro | refine And.intro rfl ?_)) (by repeat (first | exact List.Sublist.slnil | exact List.nil_sublist _ | exact List.Sublist.refl _ | refine List.Sublist.cons_cons _ ?_ | refine List.Sublist.cons _ ?_ | refine List.Sublist.trans ?_ (List.sublist_append_right _ _))) ⟨by omega, take_all hk.2 (by omega) hall⟩ (by omega)
              · skip
                refine TC.exit ?_
                refine TQ.thenE ?_
                refine TQ.thenE ?_
                refine TQ.blkS ?_
                refine TQ.thenC ?_
                refine TC.seq ?_
                refine TC.region ?_
                refine TL.pure (PV.assign rfl) rfl (by decide) ?_
                refine TL.nil ?_
                refine TQ.thenC ?_
                refine TC.ret ?_
                refine TQ.retE1 rfl rfl ?_
                first | exact ⟨(), by rw [dI, if_pos (by omega)], trivial, List.nil_sublist _⟩ | exact ⟨(), by rw [dI, if_neg (by omega), if_pos (by omega)], trivial, List.nil_sublist _⟩ | exact ⟨(), by rw [dI, if_neg (by omega), if_neg (by omega), if_neg (fun h => by have h9 := all_at h (k := k) (by omega); have h8 := ok_spec h9; omega)], trivial, List.nil_sublist _⟩ | exact ⟨(), by rw [dI, if_neg (by omega), if_neg (by omega), if_pos (by rw [← hk.2, List.take_of_length_le (by omega)])], trivial, List.nil_sublist _⟩

set_option maxRecDepth 100000 in
theorem onward_ok (w0 : World) (b off : Nat) (e : Fl.E) (u : Nat) (hq : E4At w0 b off e) (hb : 0 ≤ e.r ∧ e.r ≤ e.w ∧ e.w ≤ 20) :
    Calls Try.prog 89 #[.pointer (some ⟨b, off, none⟩), .int .i64 u] w0 (Post (X := Unit) (fun _ => .tuple #[.int .i64 ((Fl.onw e u).1 : Nat), .int .i64 (Fl.onw e u).2]) (fun _ => True) (fun _ => []) w0) := by
  refine calls Try.func89 rfl (n := 46) rfl (by simp) ?_
  refine TC.seq ?_
  refine TC.region ?_
  refine TL.pure (PV.assign rfl) rfl (by decide) ?_
  refine TL.pure (PV.assign rfl) rfl (by decide) ?_
  refine TL.nil ?_
  refine TQ.thenC ?_
  refine TC.seq ?_
  refine TC.seq ?_
  refine TC.region ?_
  refine TL.pure (PV.move rfl) rfl (by decide) ?_
  refine TL.nil ?_
  refine TQ.thenC ?_
  refine TC.block ?_
  refine TC.seq ?_
  refine TC.region ?_
  refine TL.pure (PV.move rfl) rfl (by decide) ?_
  refine TL.pure (PV.nilCheck rfl) rfl (by decide) ?_
  refine TL.pure (PV.fieldAddr rfl Tb.fo_92_0) rfl (by decide) ?_
  refine TL.pure (PV.fieldAddr rfl Tb.fo_40_0) rfl (by decide) ?_
  refine TL.pure (PV.loadOld rfl Tb.one_3 (hq 0 _ rfl)) rfl (by decide) ?_
  refine TL.pure (PV.eql rfl rfl) rfl (by decide) ?_
  refine TL.pure (PV.assign rfl) rfl (by decide) ?_
  refine TL.nil ?_
  refine TQ.thenC ?_
  first | refine TC.condD rfl (fun h1 => ?_) (fun h1 => ?_) | refine TC.cond rfl (fun h1 => ?_) (fun h1 => ?_)
  · skip
    refine TC.seq ?_
    refine TC.mixV [true, true, true, true, true, true, true, true, true, true, true, true, true, true, true, true, true] [] 17 Tb.mixed rfl (by kernel_rfl) (by kernel_rfl) (by kernel_rfl) (by kernel_rfl) (by repeat (first | exact List.Sublist.slnil | exact List.nil_sublist _ | exact List.Sublist.refl _ | refine List.Sublist.cons_cons _ ?_ | refine List.Sublist.cons _ ?_ | refine List.Sublist.trans ?_ (List.sublist_append_right _ _))) ?_
    refine TV.virt 0 rfl rfl (by decide) rfl (by kernel_rfl) (SOK.pure (PV.move rfl) rfl) ?_
    refine TV.virt 1 rfl rfl (by decide) rfl (by kernel_rfl) (SOK.pure (PV.nilCheck rfl) rfl) ?_
    refine TV.virt 2 rfl rfl (by decide) rfl (by kernel_rfl) (SOK.pure (PV.fieldAddr rfl Tb.fo_92_0) rfl) ?_
    refine TV.virt 3 rfl rfl (by decide) rfl (by kernel_rfl) (SOK.pure (PV.fieldAddr rfl Tb.fo_40_1) rfl) ?_
    refine TV.virt 4 rfl rfl (by decide) rfl (by kernel_rfl) (SOK.pure (PV.loadOld rfl Tb.one_3 (hq 1 _ rfl)) rfl) ?_
    refine TV.virt 5 rfl rfl (by decide) rfl (by kernel_rfl) (SOK.pure (PV.move rfl) rfl) ?_
    refine TV.virt 6 rfl rfl (by decide) rfl (by kernel_rfl) (SOK.pure (PV.nilCheck rfl) rfl) ?_
    refine TV.virt 7 rfl rfl (by decide) rfl (by kernel_rfl) (SOK.pure (PV.fieldAddr rfl Tb.fo_92_0) rfl) ?_
    refine TV.virt 8 rfl rfl (by decide) rfl (by kernel_rfl) (SOK.pure (PV.fieldAddr rfl Tb.fo_40_2) rfl) ?_
    refine TV.virt 9 rfl rfl (by decide) rfl (by kernel_rfl) (SOK.pure (PV.loadOld rfl Tb.one_3 (hq 2 _ rfl)) rfl) ?_
    refine TV.virt 10 rfl rfl (by decide) rfl (by kernel_rfl) (SOK.pure (PV.move rfl) rfl) ?_
    refine TV.virt 11 rfl rfl (by decide) rfl (by kernel_rfl) (SOK.pure (PV.nilCheck rfl) rfl) ?_
    refine TV.virt 12 rfl rfl (by decide) rfl (by kernel_rfl) (SOK.pure (PV.fieldAddr rfl Tb.fo_92_1) rfl) ?_
    refine TV.virt 13 rfl rfl (by decide) rfl (by kernel_rfl) (SOK.pure (PV.loadOld rfl Tb.one_3 (hq 3 _ rfl)) rfl) ?_
    refine TV.virt 14 rfl rfl (by decide) rfl (by kernel_rfl) (SOK.pure (PV.sub rfl rfl (by omega)) rfl) ?_
    refine TV.virt 15 rfl rfl (by decide) rfl (by kernel_rfl) (SOK.pure (PV.assign rfl) rfl) ?_
    refine TV.virt 16 rfl rfl (by decide) rfl (by kernel_rfl) (SOK.pure (PV.assign rfl) rfl) ?_
    refine TV.done (by kernel_rfl) ?_
    refine TQ.thenC ?_
    refine TC.ret ?_
    refine TQ.blkR ?_
    refine TQ.thenR ?_
    refine TQ.retE2 rfl rfl rfl ?_
    exact ⟨(), by unfold Fl.onw; rw [if_pos (by omega)], trivial, List.nil_sublist _⟩
  · skip
    refine TC.seq ?_
    refine TC.region ?_
    refine TL.pure (PV.move rfl) rfl (by decide) ?_
    refine TL.pure (PV.nilCheck rfl) rfl (by decide) ?_
    refine TL.pure (PV.fieldAddr rfl Tb.fo_92_0) rfl (by decide) ?_
    refine TL.pure (PV.fieldAddr rfl Tb.fo_40_1) rfl (by decide) ?_
    refine TL.pure (PV.loadOld rfl Tb.one_3 (hq 1 _ rfl)) rfl (by decide) ?_
    refine TL.pure (PV.eql rfl rfl) rfl (by decide) ?_
    refine TL.pure (PV.assign rfl) rfl (by decide) ?_
    refine TL.nil ?_
    refine TQ.thenC ?_
    first | refine TC.condD rfl (fun h2 => ?_) (fun h2 => ?_) | refine TC.cond rfl (fun h2 => ?_) (fun h2 => ?_)
    · skip
      refine TC.seq ?_
      refine TC.mixV [true, true, true, true, true, true, true, true, true, true, true] [] 11 Tb.mixed rfl (by kernel_rfl) (by kernel_rfl) (by kernel_rfl) (by kernel_rfl) (by repeat (first | exact List.Sublist.slnil | exact List.nil_sublist _ | exact List.Sublist.refl _ | refine List.Sublist.cons_cons _ ?_ | refine List.Sublist.cons _ ?_ | refine List.Sublist.trans ?_ (List.sublist_append_right _ _))) ?_
      refine TV.virt 0 rfl rfl (by decide) rfl (by kernel_rfl) (SOK.pure (PV.move rfl) rfl) ?_
      refine TV.virt 1 rfl rfl (by decide) rfl (by kernel_rfl) (SOK.pure (PV.nilCheck rfl) rfl) ?_
      refine TV.virt 2 rfl rfl (by decide) rfl (by kernel_rfl) (SOK.pure (PV.fieldAddr rfl Tb.fo_92_0) rfl) ?_
      refine TV.virt 3 rfl rfl (by decide) rfl (by kernel_rfl) (SOK.pure (PV.fieldAddr rfl Tb.fo_40_0) rfl) ?_
      refine TV.virt 4 rfl rfl (by decide) rfl (by kernel_rfl) (SOK.pure (PV.loadOld rfl Tb.one_3 (hq 0 _ rfl)) rfl) ?_
      refine TV.virt 5 rfl rfl (by decide) rfl (by kernel_rfl) (SOK.pure (PV.move rfl) rfl) ?_
      refine TV.virt 6 rfl rfl (by decide) rfl (by kernel_rfl) (SOK.pure (PV.nilCheck rfl) rfl) ?_
      refine TV.virt 7 rfl rfl (by decide) rfl (by kernel_rfl) (SOK.pure (PV.fieldAddr rfl Tb.fo_92_1) rfl) ?_
      refine TV.virt 8 rfl rfl (by decide) rfl (by kernel_rfl) (SOK.pure (PV.loadOld rfl Tb.one_3 (hq 3 _ rfl)) rfl) ?_
      refine TV.virt 9 rfl rfl (by decide) rfl (by kernel_rfl) (SOK.pure (PV.assign rfl) rfl) ?_
      refine TV.virt 10 rfl rfl (by decide) rfl (by kernel_rfl) (SOK.pure (PV.assign rfl) rfl) ?_
      refine TV.done (by kernel_rfl) ?_
      refine TQ.thenC ?_
      refine TC.ret ?_
      refine TQ.blkR ?_
      refine TQ.thenR ?_
      refine TQ.retE2 rfl rfl rfl ?_
      exact ⟨(), by unfold Fl.onw; rw [if_neg (by omega), if_pos (by omega)], trivial, List.nil_sublist _⟩
    · skip
      refine TC.skip ?_
      refine TQ.blkN ?_
      refine TQ.thenC ?_
      refine TC.seq ?_
      refine TC.region ?_
      refine TL.pure (PV.move rfl) rfl (by decide) ?_
      refine TL.pure (PV.assign rfl) rfl (by decide) ?_
      refine TL.pure (PV.assign rfl) rfl (by decide) ?_
      refine TL.nil ?_
      refine TQ.thenC ?_
      refine TC.ret ?_
      refine TQ.retE2 rfl rfl rfl ?_
      exact ⟨(), by unfold Fl.onw; rw [if_neg (by omega), if_neg (by omega)], trivial, List.nil_sublist _⟩

end Go.Proofs.Ytnlbngbbddhgeaa
