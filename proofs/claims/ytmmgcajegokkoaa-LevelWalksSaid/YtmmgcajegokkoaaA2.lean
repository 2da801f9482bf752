/- Contracts of the small functions, and of what says which surveys are valid. -/
import Derived.Test.YtmmgcajegokkoaaTb
import Derived.Test.YtmmgcajegokkoaaRows
set_option linter.unusedVariables false
set_option linter.unusedSimpArgs false
namespace Go.Proofs.Ytmmgcajegokkoaa
open Go.Sx Go.RowKit

structure Rd where
  fr : Int
  to : Int
  rise : Int
  wt : Int
  deriving Inhabited, DecidableEq

abbrev Rd.cells (r : Rd) : List Value := [.int .i64 r.fr, .int .i64 r.to, .int .i64 r.rise, .int .i64 r.wt]
abbrev Rd.val (r : Rd) : Value := .agg #[.int .i64 r.fr, .int .i64 r.to, .int .i64 r.rise, .int .i64 r.wt]

/-- A slice that begins at p reads as the readings rs. -/
def RdsAt (w : World) (p : Option Addr) (rs : List Rd) : Prop :=
  ∀ j, j < rs.length → ∃ q, p = some q ∧ ∀ i v, (rs.getD j default).cells[i]? = some v → w.cell? ((q.add (j * 4)).add i) = some v

theorem RdsAt.new {w0 w : World} {G : Heap} {p : Option Addr} {rs : List Rd} (h : RdsAt w0 p rs) (hn : New w0 w G) : RdsAt w p rs := fun j hj =>
  let ⟨q, hq, hc⟩ := h j hj
  ⟨q, hq, fun i v hv => hn.old (hc i v hv)⟩

abbrev sv (n : Int) (p : Option Addr) (len cap : Nat) : Value := .agg #[.int .i64 n, .slice p len cap]

theorem all_at {rs : List Rd} {f : Rd → Bool} {k : Nat} (h : rs.all f = true) (hk : k < rs.length) : f (rs.getD k default) = true := by
  rw [List.all_eq_true] at h
  refine h _ ?_
  simp [List.getD, hk]

def isWithinB (a m : Int) : Bool := decide (-m ≤ a ∧ a ≤ m)
def isPointB (n p : Int) : Bool := decide (0 ≤ p ∧ p < n)
def isReadingB (n : Int) (r : Rd) : Bool := isPointB n r.fr && isPointB n r.to && decide (r.fr ≠ r.to) && isWithinB r.rise 1000 && decide (1 ≤ r.wt ∧ r.wt ≤ 3)
def validateI (n : Int) (rs : List Rd) : Int := if n < 1 ∨ 5 < n then 1 else if 8 < rs.length then 3 else if rs.all (isReadingB n) then 0 else 1


set_option maxRecDepth 100000 in
theorem isWithin_ok (w0 : World) (a m : Int) (h0 : 0 ≤ m) (h1 : m ≤ 1000000000) :
    Calls Try.prog 93 #[.int .i64 a, .int .i64 m] w0 (Post (X := Unit) (fun _ => .bool (isWithinB a m)) (fun _ => True) (fun _ => []) w0) := by
  refine calls Try.func93 rfl (n := 14) rfl (by simp) ?_
  refine TC.seq ?_
  refine TC.region ?_
  refine TL.pure (PV.assign rfl) rfl (by decide) ?_
  refine TL.nil ?_
  refine TQ.thenC ?_
  refine TC.seq ?_
  refine TC.region ?_
  refine TL.pure (PV.move rfl) rfl (by decide) ?_
  refine TL.pure (PV.move rfl) rfl (by decide) ?_
  refine TL.pure (PV.neg rfl (by omega)) rfl (by decide) ?_
  refine TL.pure (PV.geq rfl rfl) rfl (by decide) ?_
  refine TL.pure (PV.move rfl) rfl (by decide) ?_
  first | refine TL.splitD 9 rfl (fun h0 => ?_) (fun h0 => ?_) | refine TL.split 9 rfl (fun h0 => ?_) (fun h0 => ?_)
  · skip
    refine TL.pure (PV.move rfl) rfl (by decide) ?_
    refine TL.pure (PV.move rfl) rfl (by decide) ?_
    refine TL.pure (PV.leq rfl rfl) rfl (by decide) ?_
    refine TL.pure (PV.pickT rfl rfl) rfl (by decide) ?_
    refine TL.pure (PV.assign rfl) rfl (by decide) ?_
    refine TL.nil ?_
    refine TQ.thenC ?_
    refine TC.ret ?_
    refine TQ.retE1 rfl rfl ?_
    exact ⟨(), by simp [isWithinB, isPointB, *] <;> omega, trivial, List.nil_sublist _⟩
  · skip
    refine TL.skip rfl (fun k hk => by cases hk; decide) ?_
    refine TL.skip rfl (fun k hk => by cases hk; decide) ?_
    refine TL.skip rfl (fun k hk => by cases hk; decide) ?_
    refine TL.pure (PV.pickF rfl rfl) rfl (by decide) ?_
    refine TL.pure (PV.assign rfl) rfl (by decide) ?_
    refine TL.nil ?_
    refine TQ.thenC ?_
    refine TC.ret ?_
    refine TQ.retE1 rfl rfl ?_
    exact ⟨(), by simp [isWithinB, isPointB, *] <;> omega, trivial, List.nil_sublist _⟩

set_option maxRecDepth 100000 in
theorem isPoint_ok (w0 : World) (n p : Int) (rd : Value) :
    Calls Try.prog 71 #[.agg #[.int .i64 n, rd], .int .i64 p] w0 (Post (X := Unit) (fun _ => .bool (isPointB n p)) (fun _ => True) (fun _ => []) w0) := by
  refine calls Try.func71 rfl (n := 13) rfl (by simp) ?_
  refine TC.seq ?_
  refine TC.region ?_
  refine TL.box rfl rfl (by decide) (fun b0 hb0 => ?_)
  refine TL.pure (PV.assign rfl) rfl (by decide) ?_
  refine TL.nil ?_
  refine TQ.thenC ?_
  refine TC.seq ?_
  refine TC.region ?_
  refine TL.pure (PV.move rfl) rfl (by decide) ?_
  refine TL.pure (PV.geq rfl rfl) rfl (by decide) ?_
  refine TL.pure (PV.move rfl) rfl (by decide) ?_
  first | refine TL.splitD 7 rfl (fun h0 => ?_) (fun h0 => ?_) | refine TL.split 7 rfl (fun h0 => ?_) (fun h0 => ?_)
  · skip
    refine TL.pure (PV.move rfl) rfl (by decide) ?_
    refine TL.pure (PV.fieldAddr rfl Tb.fo_24_0) rfl (by decide) ?_
    refine TL.pure (PV.load rfl Tb.one_3 (by repeat (first | exact List.Mem.head _ | refine List.Mem.tail _ ?_ | refine List.mem_append_right _ ?_)) rfl) rfl (by decide) ?_
    refine TL.pure (PV.lss rfl rfl) rfl (by decide) ?_
    refine TL.pure (PV.pickT rfl rfl) rfl (by decide) ?_
    refine TL.pure (PV.assign rfl) rfl (by decide) ?_
    refine TL.nil ?_
    refine TQ.thenC ?_
    refine TC.ret ?_
    refine TQ.retE1 rfl rfl ?_
    exact ⟨(), by simp [isWithinB, isPointB, *] <;> omega, trivial, List.nil_sublist _⟩
  · skip
    refine TL.skip rfl (fun k hk => by cases hk; decide) ?_
    refine TL.skip rfl (fun k hk => by cases hk; decide) ?_
    refine TL.skip rfl (fun k hk => by cases hk; decide) ?_
    refine TL.skip rfl (fun k hk => by cases hk; decide) ?_
    refine TL.pure (PV.pickF rfl rfl) rfl (by decide) ?_
    refine TL.pure (PV.assign rfl) rfl (by decide) ?_
    refine TL.nil ?_
    refine TQ.thenC ?_
    refine TC.ret ?_
    refine TQ.retE1 rfl rfl ?_
    exact ⟨(), by simp [isWithinB, isPointB, *] <;> omega, trivial, List.nil_sublist _⟩

set_option maxRecDepth 100000 in
theorem isReading_ok (w0 : World) (n : Int) (rd : Value) (r : Rd) :
    Calls Try.prog 65 #[.agg #[.int .i64 n, rd], r.val] w0 (Post (X := Unit) (fun _ => .bool (isReadingB n r)) (fun _ => True) (fun _ => []) w0) := by
  refine calls Try.func65 rfl (n := 37) rfl (by simp) ?_
  refine TC.seq ?_
  refine TC.region ?_
  refine TL.box rfl rfl (by decide) (fun b0 hb0 => ?_)
  refine TL.box rfl rfl (by decide) (fun b1 hb1 => ?_)
  refine TL.pure (PV.assign rfl) rfl (by decide) ?_
  refine TL.nil ?_
  refine TQ.thenC ?_
  refine TC.seq ?_
  refine TC.region ?_
  refine TL.pure (PV.loadBox rfl Tb.agg_24 (by repeat (first | exact List.Mem.head _ | refine List.Mem.tail _ ?_ | refine List.mem_append_right _ ?_)) rfl) rfl (by decide) ?_
  refine TL.pure (PV.fieldAddr rfl Tb.fo_61_0) rfl (by decide) ?_
  refine TL.pure (PV.load rfl Tb.one_3 (by repeat (first | exact List.Mem.head _ | refine List.Mem.tail _ ?_ | refine List.mem_append_right _ ?_)) rfl) rfl (by decide) ?_
  refine TL.call rfl Tb.gofn_71 (fun a w hs => isPoint_ok _ _ _ _) rfl (by decide) (fun _ _ => ?_)
  refine TL.pure (PV.move rfl) rfl (by decide) ?_
  first | refine TL.splitD 9 rfl (fun h0 => ?_) (fun h0 => ?_) | refine TL.split 9 rfl (fun h0 => ?_) (fun h0 => ?_)
  · skip
    refine TL.pure (PV.loadBox rfl Tb.agg_24 (by repeat (first | exact List.Mem.head _ | refine List.Mem.tail _ ?_ | refine List.mem_append_right _ ?_)) rfl) rfl (by decide) ?_
    refine TL.pure (PV.fieldAddr rfl Tb.fo_61_1) rfl (by decide) ?_
    refine TL.pure (PV.load rfl Tb.one_3 (by repeat (first | exact List.Mem.head _ | refine List.Mem.tail _ ?_ | refine List.mem_append_right _ ?_)) rfl) rfl (by decide) ?_
    refine TL.call rfl Tb.gofn_71 (fun a w hs => isPoint_ok _ _ _ _) rfl (by decide) (fun _ _ => ?_)
    refine TL.pure (PV.pickT rfl rfl) rfl (by decide) ?_
    refine TL.pure (PV.move rfl) rfl (by decide) ?_
    first | refine TL.splitD 15 rfl (fun h1 => ?_) (fun h1 => ?_) | refine TL.split 15 rfl (fun h1 => ?_) (fun h1 => ?_)
    · skip
      refine TL.pure (PV.fieldAddr rfl Tb.fo_61_0) rfl (by decide) ?_
      refine TL.pure (PV.load rfl Tb.one_3 (by repeat (first | exact List.Mem.head _ | refine List.Mem.tail _ ?_ | refine List.mem_append_right _ ?_)) rfl) rfl (by decide) ?_
      refine TL.pure (PV.fieldAddr rfl Tb.fo_61_1) rfl (by decide) ?_
      refine TL.pure (PV.load rfl Tb.one_3 (by repeat (first | exact List.Mem.head _ | refine List.Mem.tail _ ?_ | refine List.mem_append_right _ ?_)) rfl) rfl (by decide) ?_
      refine TL.pure (PV.neq rfl rfl) rfl (by decide) ?_
      refine TL.pure (PV.pickT rfl rfl) rfl (by decide) ?_
      refine TL.pure (PV.move rfl) rfl (by decide) ?_
      first | refine TL.splitD 22 rfl (fun h2 => ?_) (fun h2 => ?_) | refine TL.split 22 rfl (fun h2 => ?_) (fun h2 => ?_)
      · skip
        refine TL.pure (PV.fieldAddr rfl Tb.fo_61_2) rfl (by decide) ?_
        refine TL.pure (PV.load rfl Tb.one_3 (by repeat (first | exact List.Mem.head _ | refine List.Mem.tail _ ?_ | refine List.mem_append_right _ ?_)) rfl) rfl (by decide) ?_
        refine TL.call rfl Tb.gofn_93 (fun a w hs => isWithin_ok _ _ _ (by omega) (by omega)) rfl (by decide) (fun _ _ => ?_)
        refine TL.pure (PV.pickT rfl rfl) rfl (by decide) ?_
        refine TL.pure (PV.move rfl) rfl (by decide) ?_
        first | refine TL.splitD 27 rfl (fun h3 => ?_) (fun h3 => ?_) | refine TL.split 27 rfl (fun h3 => ?_) (fun h3 => ?_)
        · skip
          refine TL.pure (PV.fieldAddr rfl Tb.fo_61_3) rfl (by decide) ?_
          refine TL.pure (PV.load rfl Tb.one_3 (by repeat (first | exact List.Mem.head _ | refine List.Mem.tail _ ?_ | refine List.mem_append_right _ ?_)) rfl) rfl (by decide) ?_
          refine TL.pure (PV.geq rfl rfl) rfl (by decide) ?_
          refine TL.pure (PV.pickT rfl rfl) rfl (by decide) ?_
          refine TL.pure (PV.move rfl) rfl (by decide) ?_
          first | refine TL.splitD 32 rfl (fun h4 => ?_) (fun h4 => ?_) | refine TL.split 32 rfl (fun h4 => ?_) (fun h4 => ?_)
          · skip
            refine TL.pure (PV.fieldAddr rfl Tb.fo_61_3) rfl (by decide) ?_
            refine TL.pure (PV.load rfl Tb.one_3 (by repeat (first | exact List.Mem.head _ | refine List.Mem.tail _ ?_ | refine List.mem_append_right _ ?_)) rfl) rfl (by decide) ?_
            refine TL.pure (PV.leq rfl rfl) rfl (by decide) ?_
            refine TL.pure (PV.pickT rfl rfl) rfl (by decide) ?_
            refine TL.pure (PV.assign rfl) rfl (by decide) ?_
            refine TL.nil ?_
            refine TQ.thenC ?_
            refine TC.ret ?_
            refine TQ.retE1 rfl rfl ?_
            refine ⟨(), ?_, trivial, List.nil_sublist _⟩; simp only [Value.bool.injEq, isReadingB, isPointB, isWithinB]; simp [*] <;> omega
          · skip
            refine TL.skip rfl (fun k hk => by cases hk; decide) ?_
            refine TL.skip rfl (fun k hk => by cases hk; decide) ?_
            refine TL.skip rfl (fun k hk => by cases hk; decide) ?_
            refine TL.pure (PV.pickF rfl rfl) rfl (by decide) ?_
            refine TL.pure (PV.assign rfl) rfl (by decide) ?_
            refine TL.nil ?_
            refine TQ.thenC ?_
            refine TC.ret ?_
            refine TQ.retE1 rfl rfl ?_
            refine ⟨(), ?_, trivial, List.nil_sublist _⟩; simp only [Value.bool.injEq, isReadingB, isPointB, isWithinB]; simp [*] <;> omega
        · skip
          refine TL.skip rfl (fun k hk => by cases hk; decide) ?_
          refine TL.skip rfl (fun k hk => by cases hk; decide) ?_
          refine TL.skip rfl (fun k hk => by cases hk; decide) ?_
          refine TL.pure (PV.pickF rfl rfl) rfl (by decide) ?_
          refine TL.pure (PV.move rfl) rfl (by decide) ?_
          refine TL.skip rfl (fun k hk => by cases hk; decide) ?_
          refine TL.skip rfl (fun k hk => by cases hk; decide) ?_
          refine TL.skip rfl (fun k hk => by cases hk; decide) ?_
          refine TL.pure (PV.pickF rfl rfl) rfl (by decide) ?_
          refine TL.pure (PV.assign rfl) rfl (by decide) ?_
          refine TL.nil ?_
          refine TQ.thenC ?_
          refine TC.ret ?_
          refine TQ.retE1 rfl rfl ?_
          refine ⟨(), ?_, trivial, List.nil_sublist _⟩; simp only [Value.bool.injEq, isReadingB, isPointB, isWithinB]; simp [*] <;> omega
      · skip
        refine TL.skip rfl (fun k hk => by cases hk; decide) ?_
        refine TL.skip rfl (fun k hk => by cases hk; decide) ?_
        refine TL.skip rfl (fun k hk => by cases hk; decide) ?_
        refine TL.pure (PV.pickF rfl rfl) rfl (by decide) ?_
        refine TL.pure (PV.move rfl) rfl (by decide) ?_
        refine TL.skip rfl (fun k hk => by cases hk; decide) ?_
        refine TL.skip rfl (fun k hk => by cases hk; decide) ?_
        refine TL.skip rfl (fun k hk => by cases hk; decide) ?_
        refine TL.pure (PV.pickF rfl rfl) rfl (by decide) ?_
        refine TL.pure (PV.move rfl) rfl (by decide) ?_
        refine TL.skip rfl (fun k hk => by cases hk; decide) ?_
        refine TL.skip rfl (fun k hk => by cases hk; decide) ?_
        refine TL.skip rfl (fun k hk => by cases hk; decide) ?_
        refine TL.pure (PV.pickF rfl rfl) rfl (by decide) ?_
        refine TL.pure (PV.assign rfl) rfl (by decide) ?_
        refine TL.nil ?_
        refine TQ.thenC ?_
        refine TC.ret ?_
        refine TQ.retE1 rfl rfl ?_
        refine ⟨(), ?_, trivial, List.nil_sublist _⟩; simp only [Value.bool.injEq, isReadingB, isPointB, isWithinB]; simp [*] <;> omega
    · skip
      refine TL.skip rfl (fun k hk => by cases hk; decide) ?_
      refine TL.skip rfl (fun k hk => by cases hk; decide) ?_
      refine TL.skip rfl (fun k hk => by cases hk; decide) ?_
      refine TL.skip rfl (fun k hk => by cases hk; decide) ?_
      refine TL.skip rfl (fun k hk => by cases hk; decide) ?_
      refine TL.pure (PV.pickF rfl rfl) rfl (by decide) ?_
      refine TL.pure (PV.move rfl) rfl (by decide) ?_
      refine TL.skip rfl (fun k hk => by cases hk; decide) ?_
      refine TL.skip rfl (fun k hk => by cases hk; decide) ?_
      refine TL.skip rfl (fun k hk => by cases hk; decide) ?_
      refine TL.pure (PV.pickF rfl rfl) rfl (by decide) ?_
      refine TL.pure (PV.move rfl) rfl (by decide) ?_
      refine TL.skip rfl (fun k hk => by cases hk; decide) ?_
      refine TL.skip rfl (fun k hk => by cases hk; decide) ?_
      refine TL.skip rfl (fun k hk => by cases hk; decide) ?_
      refine TL.pure (PV.pickF rfl rfl) rfl (by decide) ?_
      refine TL.pure (PV.move rfl) rfl (by decide) ?_
      refine TL.skip rfl (fun k hk => by cases hk; decide) ?_
      refine TL.skip rfl (fun k hk => by cases hk; decide) ?_
      refine TL.skip rfl (fun k hk => by cases hk; decide) ?_
      refine TL.pure (PV.pickF rfl rfl) rfl (by decide) ?_
      refine TL.pure (PV.assign rfl) rfl (by decide) ?_
      refine TL.nil ?_
      refine TQ.thenC ?_
      refine TC.ret ?_
      refine TQ.retE1 rfl rfl ?_
      refine ⟨(), ?_, trivial, List.nil_sublist _⟩; simp only [Value.bool.injEq, isReadingB, isPointB, isWithinB]; simp [*] <;> omega
  · skip
    refine TL.skip rfl (fun k hk => by cases hk; decide) ?_
    refine TL.skip rfl (fun k hk => by cases hk; decide) ?_
    refine TL.skip rfl (fun k hk => by cases hk; decide) ?_
    refine TL.skip rfl (fun k hk => by cases hk; decide) ?_
    refine TL.pure (PV.pickF rfl rfl) rfl (by decide) ?_
    refine TL.pure (PV.move rfl) rfl (by decide) ?_
    refine TL.skip rfl (fun k hk => by cases hk; decide) ?_
    refine TL.skip rfl (fun k hk => by cases hk; decide) ?_
    refine TL.skip rfl (fun k hk => by cases hk; decide) ?_
    refine TL.skip rfl (fun k hk => by cases hk; decide) ?_
    refine TL.skip rfl (fun k hk => by cases hk; decide) ?_
    refine TL.pure (PV.pickF rfl rfl) rfl (by decide) ?_
    refine TL.pure (PV.move rfl) rfl (by decide) ?_
    refine TL.skip rfl (fun k hk => by cases hk; decide) ?_
    refine TL.skip rfl (fun k hk => by cases hk; decide) ?_
    refine TL.skip rfl (fun k hk => by cases hk; decide) ?_
    refine TL.pure (PV.pickF rfl rfl) rfl (by decide) ?_
    refine TL.pure (PV.move rfl) rfl (by decide) ?_
    refine TL.skip rfl (fun k hk => by cases hk; decide) ?_
    refine TL.skip rfl (fun k hk => by cases hk; decide) ?_
    refine TL.skip rfl (fun k hk => by cases hk; decide) ?_
    refine TL.pure (PV.pickF rfl rfl) rfl (by decide) ?_
    refine TL.pure (PV.move rfl) rfl (by decide) ?_
    refine TL.skip rfl (fun k hk => by cases hk; decide) ?_
    refine TL.skip rfl (fun k hk => by cases hk; decide) ?_
    refine TL.skip rfl (fun k hk => by cases hk; decide) ?_
    refine TL.pure (PV.pickF rfl rfl) rfl (by decide) ?_
    refine TL.pure (PV.assign rfl) rfl (by decide) ?_
    refine TL.nil ?_
    refine TQ.thenC ?_
    refine TC.ret ?_
    refine TQ.retE1 rfl rfl ?_
    refine ⟨(), ?_, trivial, List.nil_sublist _⟩; simp only [Value.bool.injEq, isReadingB, isPointB, isWithinB]; simp [*] <;> omega

set_option maxRecDepth 100000 in
theorem validate_ok (w0 : World) (n : Int) (p : Option Addr) (cap : Nat) (rs : List Rd) (hr : RdsAt w0 p rs) :
    Calls Try.prog 23 #[sv n p rs.length cap] w0 (Post (X := Unit) (fun _ => .int .i64 (validateI n rs)) (fun _ => True) (fun _ => []) w0) := by
  refine calls Try.func23 rfl (n := 29) rfl (by simp) ?_
  refine TC.seq ?_
  refine TC.region ?_
  refine TL.box rfl rfl (by decide) (fun b0 hb0 => ?_)
  refine TL.pure (PV.assign rfl) rfl (by decide) ?_
  refine TL.nil ?_
  refine TQ.thenC ?_
  refine TC.seq ?_
  refine TC.seq ?_
  refine TC.region ?_
  refine TL.pure (PV.fieldAddr rfl Tb.fo_24_0) rfl (by decide) ?_
  refine TL.pure (PV.load rfl Tb.one_3 (by repeat (first | exact List.Mem.head _ | refine List.Mem.tail _ ?_ | refine List.mem_append_right _ ?_)) rfl) rfl (by decide) ?_
  refine TL.pure (PV.lss rfl rfl) rfl (by decide) ?_
  refine TL.pure (PV.move rfl) rfl (by decide) ?_
  first | refine TL.splitD 8 rfl (fun h0 => ?_) (fun h0 => ?_) | refine TL.split 8 rfl (fun h0 => ?_) (fun h0 => ?_)
  · skip
    refine TL.skip rfl (fun k hk => by cases hk; decide) ?_
    refine TL.skip rfl (fun k hk => by cases hk; decide) ?_
    refine TL.skip rfl (fun k hk => by cases hk; decide) ?_
    refine TL.pure (PV.pickT rfl rfl) rfl (by decide) ?_
    refine TL.nil ?_
    refine TQ.thenC ?_
    refine TC.condT rfl ?_
    refine TC.seq ?_
    refine TC.region ?_
    refine TL.pure (PV.assign rfl) rfl (by decide) ?_
    refine TL.nil ?_
    refine TQ.thenC ?_
    refine TC.ret ?_
    refine TQ.thenR ?_
    refine TQ.retE1 rfl rfl ?_
    exact ⟨(), by simp [validateI, *], trivial, List.nil_sublist _⟩
  · skip
    refine TL.pure (PV.fieldAddr rfl Tb.fo_24_0) rfl (by decide) ?_
    refine TL.pure (PV.load rfl Tb.one_3 (by repeat (first | exact List.Mem.head _ | refine List.Mem.tail _ ?_ | refine List.mem_append_right _ ?_)) rfl) rfl (by decide) ?_
    refine TL.pure (PV.gtr rfl rfl) rfl (by decide) ?_
    refine TL.pure (PV.pickF rfl rfl) rfl (by decide) ?_
    refine TL.nil ?_
    refine TQ.thenC ?_
    first | refine TC.condD rfl (fun h1 => ?_) (fun h1 => ?_) | refine TC.cond rfl (fun h1 => ?_) (fun h1 => ?_)
    · skip
      refine TC.seq ?_
      refine TC.region ?_
      refine TL.pure (PV.assign rfl) rfl (by decide) ?_
      refine TL.nil ?_
      refine TQ.thenC ?_
      refine TC.ret ?_
      refine TQ.thenR ?_
      refine TQ.retE1 rfl rfl ?_
      exact ⟨(), by simp [validateI, *], trivial, List.nil_sublist _⟩
    · skip
      refine TC.skip ?_
      refine TQ.thenC ?_
      refine TC.seq ?_
      refine TC.seq ?_
      refine TC.region ?_
      refine TL.pure (PV.fieldAddr rfl Tb.fo_24_1) rfl (by decide) ?_
      refine TL.pure (PV.load rfl Tb.one_22 (by repeat (first | exact List.Mem.head _ | refine List.Mem.tail _ ?_ | refine List.mem_append_right _ ?_)) rfl) rfl (by decide) ?_
      refine TL.pure (PV.len rfl Tb.sl_22) rfl (by decide) ?_
      refine TL.pure (PV.gtr rfl rfl) rfl (by decide) ?_
      refine TL.nil ?_
      refine TQ.thenC ?_
      first | refine TC.condD rfl (fun h2 => ?_) (fun h2 => ?_) | refine TC.cond rfl (fun h2 => ?_) (fun h2 => ?_)
      · skip
        refine TC.seq ?_
        refine TC.region ?_
        refine TL.pure (PV.assign rfl) rfl (by decide) ?_
        refine TL.nil ?_
        refine TQ.thenC ?_
        refine TC.ret ?_
        refine TQ.thenR ?_
        refine TQ.retE1 rfl rfl ?_
        exact ⟨(), by rw [validateI, if_neg (by omega), if_pos (by omega)], trivial, List.nil_sublist _⟩
      · skip
        refine TC.skip ?_
        refine TQ.thenC ?_
        refine TC.seq ?_
        refine TC.seq ?_
        refine TC.region ?_
        refine TL.pure (PV.fieldAddr rfl Tb.fo_24_1) rfl (by decide) ?_
        refine TL.pure (PV.load rfl Tb.one_22 (by repeat (first | exact List.Mem.head _ | refine List.Mem.tail _ ?_ | refine List.mem_append_right _ ?_)) rfl) rfl (by decide) ?_
        refine TL.pure (PV.len rfl Tb.sl_22) rfl (by decide) ?_
        refine TL.pure (PV.move rfl) rfl (by decide) ?_
        refine TL.nil ?_
        refine TQ.thenC ?_
        refine TC.block ?_
        -- live and written in the loop, not told: [2]
        refine TC.loopG [1, 18, 19] (X := Nat) (fun k => k ≤ rs.length ∧ (rs.take k).all (isReadingB n) = true) (fun k => [(20, .int .i64 k)]) (fun k => rs.length - k) 0 ⟨Nat.zero_le _, by simp⟩ (by repeat (first | exact True.intro | refine And.intro rfl ?_)) ?_
        intro k hk
        refine TC.seq ?_
        refine TC.region ?_
        refine TL.pure (PV.lss rfl rfl) rfl (by decide) ?_
        refine TL.nil ?_
        refine TQ.thenC ?_
        refine TC.seq ?_
        first | refine TC.condD rfl (fun hlt => ?_) (fun hlt => ?_) | refine TC.cond rfl (fun hlt => ?_) (fun hlt => ?_)
        · skip
          refine TC.skip ?_
          refine TQ.thenC ?_
          refine TC.seq ?_
          refine TC.block ?_
          refine TC.seq ?_
          refine TC.region ?_
          obtain ⟨q, rfl, hq⟩ := hr k (by omega)
          refine TL.pure (PV.indexA rfl rfl rfl Tb.elm_22 rfl (by omega)) rfl (by decide) ?_
          refine TL.pure (PV.loadAggA rfl Tb.agg_61 rfl hq) rfl (by decide) ?_
          refine TL.alloc Tb.zero_61 rfl (by decide) (fun b1 hb1 => ?_)
          refine TL.storeAgg rfl rfl Tb.cells_61 (by repeat (first | exact Upd.head _ | apply Upd.tail | apply Upd.appR)) rfl rfl rfl rfl rfl ?_
          refine TL.nil ?_
          refine TQ.thenC ?_
          refine TC.seq ?_
          refine TC.region ?_
          refine TL.pure (PV.loadBox rfl Tb.agg_24 (by repeat (first | exact List.Mem.head _ | refine List.Mem.tail _ ?_ | refine List.mem_append_right _ ?_)) rfl) rfl (by decide) ?_
          refine TL.pure (PV.loadBox rfl Tb.agg_61 (by repeat (first | exact List.Mem.head _ | refine List.Mem.tail _ ?_ | refine List.mem_append_right _ ?_)) rfl) rfl (by decide) ?_
          refine TL.call rfl Tb.gofn_65 (fun a w hs => isReading_ok _ _ _ (rs.getD k default)) rfl (by decide) (fun _ _ => ?_)
          refine TL.pure ((by first | exact PV.notD rfl | exact PV.not rfl)) rfl (by decide) ?_
          refine TL.nil ?_
          refine TQ.thenC ?_
          first | refine TC.condD rfl (fun hok => ?_) (fun hok => ?_) | refine TC.cond rfl (fun hok => ?_) (fun hok => ?_)
          · skip
            refine TC.seq ?_
            refine TC.region ?_
            refine TL.pure (PV.assign rfl) rfl (by decide) ?_
            refine TL.nil ?_
            refine TQ.thenC ?_
            refine TC.ret ?_
            refine TQ.blkR ?_
            refine TQ.thenR ?_
            refine TQ.thenR ?_
            refine TQ.blkR ?_
            refine TQ.thenR ?_
            refine TQ.retE1 rfl rfl ?_
            exact ⟨(), by rw [validateI, if_neg (by omega), if_neg (by omega), if_neg (fun h => by rw [all_at h (by omega)] at hok; cases hok)], trivial, List.nil_sublist _⟩
          · skip
            refine TC.skip ?_
            refine TQ.blkN ?_
            refine TQ.thenC ?_
            refine TC.region ?_
            refine TL.pure (PV.add rfl rfl (by omega)) rfl (by decide) ?_
            refine TL.pure (PV.move rfl) rfl (by decide) ?_
            refine TL.nil ?_
            refine TQ.thenN ?_
            refine TQ.backK (k + 1) (by repeat (first | exact True.intro | refine And.intro rfl ?_)) (by repeat (first | exact True.intro | refine And.intro rfl ?_)) (by repeat (first | exact List.Sublist.slnil | exact List.nil_sublist _ | exact List.Sublist.refl _ | refine List.Sublist.cons_cons _ ?_ | refine List.Sublist.cons _ ?_ | refine List.Sublist.trans ?_ (List.sublist_append_right _ _))) ⟨by omega, by rw [List.take_succ_eq_append_getElem (by omega), List.all_append, hk.2]; simpa [List.getD, show k < rs.length by omega] using hok⟩ (by omega)
        · skip
          refine TC.exit ?_
          refine TQ.thenE ?_
          refine TQ.thenE ?_
          refine TQ.blkS ?_
          refine TQ.thenC ?_
          refine TC.seq ?_
          refine TC.region ?_
          refine TL.pure (PV.assign rfl) rfl (by decide) ?_
          refine TL.nil ?_
          refine TQ.thenC ?_
          refine TC.ret ?_
          refine TQ.retE1 rfl rfl ?_
          exact ⟨(), by rw [validateI, if_neg (by omega), if_neg (by omega), if_pos (by rw [← hk.2, List.take_of_length_le (by omega)])], trivial, List.nil_sublist _⟩

end Go.Proofs.Ytmmgcajegokkoaa
