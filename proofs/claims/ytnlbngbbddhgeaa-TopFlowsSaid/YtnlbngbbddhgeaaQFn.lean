/- Cuts and their widths, and the example of the laws: contracts. -/
import Derived.Test.YtnlbngbbddhgeaaQFm
set_option linter.unusedVariables false
set_option linter.unusedSimpArgs false
namespace Go.Proofs.Ytnlbngbbddhgeaa
open Go.Sx Go.RowKit

/-- An operation whose guard's own operation was not wanted is not wanted. -/
def undoneB (ops : Array Oper) (E : Env) : Option (Nat × Bool) → Bool
  | none => false
  | some (j, _) => match (ops[j]?).bind (·.dst) with
    | none => false
    | some s => match Sx.look s E with
      | some (.tuple _) => true
      | _ => false
section
variable {P : Program} {n : Nat} {w0 : World} {E : Env} {G : Heap} {a : Act} {w : World} {ops : Array Oper} {Q : Exit → Act → World → Prop} {l : List Oper}
theorem S_undone (h : S n w0 E G a w) {o : Oper} (hw : undoneB ops E o.guard = true) : Region.wanted o (yielded ops a.tmps) = false := by
  unfold Region.wanted
  cases hg : o.guard with
  | none => simp [undoneB, hg] at hw
  | some jw =>
    obtain ⟨j, want⟩ := jw
    simp only [undoneB, hg] at hw
    simp only [yielded]
    cases hs : (ops[j]?).bind (·.dst) with
    | none => simp [hs] at hw
    | some s =>
      simp only [hs] at hw
      cases hl : Sx.look s E with
      | none => simp [hl] at hw
      | some v =>
        have := h.env s v hl
        rw [hl] at hw
        cases v <;> first | (simp [this]; done) | simp at hw
theorem TL.skipU {d : Option Nat} {op : Op} {ty : TypeId} {pos : String} {aft : Array Edge} {g : Option (Nat × Bool)}
    (hg : undoneB ops E g = true) (hd : ∀ k, d = some k → k < n) (h : TL P n w0 ops Q l (match d with | some k => (k, undef) :: E | none => E) G) :
    TL P n w0 ops Q (⟨d, op, ty, pos, aft, g⟩ :: l) E G := by
  intro a w hs
  unfold wpList
  have := S_undone hs (o := ⟨d, op, ty, pos, aft, g⟩) hg
  rw [if_neg (by simp [this])]
  cases d with
  | none => exact h _ _ hs
  | some k => exact h _ _ (hs.put (hd k rfl) undef)
theorem OpOK.skipU {d : Nat} {op : Op} {ty : TypeId} {pos : String} {aft : Array Edge} {g : Option (Nat × Bool)} (hg : undoneB ops E g = true) :
    OpOK P n w0 ops Q G E ⟨some d, op, ty, pos, aft, g⟩ d undef := by
  intro F' hF a w hs
  have := S_undone (hs.env_le hF) (o := ⟨some d, op, ty, pos, aft, g⟩) hg
  rw [if_neg (by simp [this])]
end

theorem mem_at {xs : List Int} {k : Nat} {v : Int} (hk : k < xs.length) (h : v = xs.getD k 0) : v ∈ xs := by
  rw [h]; simp [List.getD, hk]
theorem take_not {xs : List Int} {k : Nat} {v : Int} (hk : k < xs.length) (h : v ∉ xs.take k) (h2 : v ≠ xs.getD k 0) : v ∉ xs.take (k + 1) := by
  rw [List.take_succ_eq_append_getElem hk]
  intro hm
  rcases List.mem_append.1 hm with h3 | h3
  · exact h h3
  · exact h2 (by rw [List.mem_singleton.1 h3]; simp [List.getD, hk])
def asc1 (n : Nat) (xs : List Int) (i : Nat) : Bool := decide ((0 ≤ xs.getD i 0 ∧ xs.getD i 0 < n) ∧ (i = 0 ∨ xs.getD (i - 1) 0 < xs.getD i 0))
def cutB (n s t : Nat) (xs : List Int) : Bool := (List.range xs.length).all (asc1 n xs) && (decide ((s : Int) ∈ xs) && !decide ((t : Int) ∈ xs))


set_option maxRecDepth 100000 in
theorem index_ok (w0 : World) (p : Option Addr) (cap : Nat) (xs : List Int) (v : Int) (hx : IntsAt w0 p xs) (hl : xs.length ≤ 1000000) :
    Calls Try.prog 87 #[.slice p xs.length cap, .int .i64 v] w0 (Post (X := Int) (fun i => .int .i64 i) (fun i => 0 ≤ i ↔ v ∈ xs) (fun _ => []) w0) := by
  refine calls Try.func87 rfl (n := 19) rfl (by simp) ?_
  refine TC.seq ?_
  refine TC.region ?_
  refine TL.pure (PV.assign rfl) rfl (by decide) ?_
  refine TL.nil ?_
  refine TQ.thenC ?_
  refine TC.seq ?_
  refine TC.seq ?_
  refine TC.region ?_
  refine TL.pure (PV.move rfl) rfl (by decide) ?_
  refine TL.pure (PV.len rfl Tb.sl_25) rfl (by decide) ?_
  refine TL.pure (PV.move rfl) rfl (by decide) ?_
  refine TL.nil ?_
  refine TQ.thenC ?_
  refine TC.block ?_
  -- live and written in the loop, not told: [4]
  refine TC.loopK [0, 1, 7] (X := Nat) (fun k => k ≤ xs.length ∧ v ∉ xs.take k) (fun k => [(8, .int .i64 k)]) (fun k => []) (fun k => xs.length - k) 0 ⟨Nat.zero_le _, by simp⟩ (by repeat (first | exact True.intro | refine And.intro rfl ?_)) (by repeat (first | exact List.Sublist.slnil | exact List.nil_sublist _ | exact List.Sublist.refl _ | refine List.Sublist.cons_cons _ ?_ | refine List.Sublist.cons _ ?_ | refine List.Sublist.trans ?_ (List.sublist_append_right _ _))) ?_
  intro k hk
  refine TC.seq ?_
  refine TC.region ?_
  refine TL.pure (PV.lss rfl rfl) rfl (by decide) ?_
  refine TL.nil ?_
  refine TQ.thenC ?_
  refine TC.seq ?_
  first | refine TC.condD rfl (fun hlt => ?_) (fun hlt => ?_) | refine TC.cond rfl (fun hlt => ?_) (fun hlt => ?_)
  · skip
    refine TC.skip ?_
    refine TQ.thenC ?_
    refine TC.seq ?_
    refine TC.block ?_
    refine TC.seq ?_
    refine TC.region ?_
    refine TL.pure (PV.move rfl) rfl (by decide) ?_
    refine TL.pure (PV.assign rfl) rfl (by decide) ?_
    refine TL.nil ?_
    refine TQ.thenC ?_
    refine TC.seq ?_
    obtain ⟨q, hqp, hq⟩ := hx k (by omega)
    refine TC.region ?_
    refine TL.pure (PV.move rfl) rfl (by decide) ?_
    refine TL.pure (PV.move rfl) rfl (by decide) ?_
    refine TL.pure (PV.move rfl) rfl (by decide) ?_
    refine TL.pure (PV.indexA rfl hqp rfl Tb.elm_25 rfl (by omega)) rfl (by decide) ?_
    refine TL.pure (PV.loadOld rfl Tb.one_3 hq) rfl (by decide) ?_
    refine TL.pure (PV.eql rfl rfl) rfl (by decide) ?_
    refine TL.nil ?_
    refine TQ.thenC ?_
    first | refine TC.condD rfl (fun heq => ?_) (fun heq => ?_) | refine TC.cond rfl (fun heq => ?_) (fun heq => ?_)
    · skip
      refine TC.seq ?_
      refine TC.region ?_
      refine TL.pure (PV.move rfl) rfl (by decide) ?_
      refine TL.pure (PV.assign rfl) rfl (by decide) ?_
      refine TL.nil ?_
      refine TQ.thenC ?_
      refine TC.ret ?_
      refine TQ.blkR ?_
      refine TQ.thenR ?_
      refine TQ.thenR ?_
      refine TQ.blkR ?_
      refine TQ.thenR ?_
      refine TQ.retE1 rfl rfl ?_
      exact ⟨(k : Int), rfl, ⟨fun _ => mem_at (k := k) (by omega) heq, fun _ => by omega⟩, List.nil_sublist _⟩
    · skip
      refine TC.skip ?_
      refine TQ.blkN ?_
      refine TQ.thenC ?_
      refine TC.region ?_
      refine TL.pure (PV.add rfl rfl (by omega)) rfl (by decide) ?_
      refine TL.pure (PV.move rfl) rfl (by decide) ?_
      refine TL.nil ?_
      refine TQ.thenN ?_
      refine TQ.backK (k + 1) (by repeat (first | exact True.intro | refine And.intro rfl ?_)) (by repeat (first | exact True.intro | refine And.intro rfl ?_)) (by repeat (first | exact List.Sublist.slnil | exact List.nil_sublist _ | exact List.Sublist.refl _ | refine List.Sublist.cons_cons _ ?_ | refine List.Sublist.cons _ ?_ | refine List.Sublist.trans ?_ (List.sublist_append_right _ _))) ⟨by omega, take_not (by omega) hk.2 heq⟩ (by omega)
  · skip
    refine TC.exit ?_
    refine TQ.thenE ?_
    refine TQ.thenE ?_
    refine TQ.blkS ?_
    refine TQ.thenC ?_
    refine TC.seq ?_
    have hke : k = xs.length := by omega
    refine TC.region ?_
    refine TL.pure (PV.assign rfl) rfl (by decide) ?_
    refine TL.nil ?_
    refine TQ.thenC ?_
    refine TC.ret ?_
    refine TQ.retE1 rfl rfl ?_
    exact ⟨-1, rfl, ⟨fun h => by omega, fun h => absurd h (by have h9 := hk.2; rw [hke, List.take_length] at h9; exact h9)⟩, List.nil_sublist _⟩

set_option maxRecDepth 100000 in
theorem contains_ok (w0 : World) (p : Option Addr) (cap : Nat) (xs : List Int) (v : Int) (hx : IntsAt w0 p xs) (hl : xs.length ≤ 1000000) :
    Calls Try.prog 69 #[.slice p xs.length cap, .int .i64 v] w0 (Post (X := Unit) (fun _ => .bool (decide (v ∈ xs))) (fun _ => True) (fun _ => []) w0) := by
  refine calls Try.func69 rfl (n := 9) rfl (by simp) ?_
  refine TC.seq ?_
  refine TC.region ?_
  refine TL.pure (PV.assign rfl) rfl (by decide) ?_
  refine TL.nil ?_
  refine TQ.thenC ?_
  refine TC.seq ?_
  refine TC.region ?_
  refine TL.pure (PV.move rfl) rfl (by decide) ?_
  refine TL.pure (PV.move rfl) rfl (by decide) ?_
  refine TL.call rfl Tb.gofn_87 (fun a w hs => index_ok w p cap xs v (hx.new hs.new) hl) rfl (by decide) (fun i hi => ?_)
  refine TL.pure (PV.geq rfl rfl) rfl (by decide) ?_
  refine TL.pure (PV.assign rfl) rfl (by decide) ?_
  refine TL.nil ?_
  refine TQ.thenC ?_
  refine TC.ret ?_
  refine TQ.retE1 rfl rfl ?_
  exact ⟨(), by rw [decide_eq_decide.2 hi], trivial, List.nil_sublist _⟩

set_option maxRecDepth 100000 in
set_option maxHeartbeats 1000000 in
theorem isCut_ok (w0 : World) (n s t : Nat) (x3 : Value) (p : Option Addr) (cap : Nat) (xs : List Int) (hx : IntsAt w0 p xs) (hl : xs.length ≤ 1000000) :
    Calls Try.prog 68 #[.agg #[.int .i64 (n : Nat), .int .i64 (s : Nat), .int .i64 (t : Nat), x3], .slice p xs.length cap] w0 (Post (X := Unit) (fun _ => .bool (cutB n s t xs)) (fun _ => True) (fun _ => []) w0) := by
  refine calls Try.func68 rfl (n := 43) rfl (by simp) ?_
  refine TC.seq ?_
  refine TC.region ?_
  refine TL.box rfl rfl (by decide) (fun b0 hb0 => ?_)
  refine TL.pure (PV.assign rfl) rfl (by decide) ?_
  refine TL.nil ?_
  refine TQ.thenC ?_
  refine TC.seq ?_
  refine TC.seq ?_
  refine TC.region ?_
  refine TL.pure (PV.move rfl) rfl (by decide) ?_
  refine TL.pure (PV.len rfl Tb.sl_25) rfl (by decide) ?_
  refine TL.pure (PV.move rfl) rfl (by decide) ?_
  refine TL.nil ?_
  refine TQ.thenC ?_
  refine TC.block ?_
  -- live and written in the loop, not told: [4]
  refine TC.loopK [1, 2, 7, 8] (X := Nat) (fun k => k ≤ xs.length ∧ (List.range k).all (asc1 n xs) = true) (fun k => [(9, .int .i64 k)]) (fun k => [(b0, Obj.cells #[.int .i64 (n : Nat), .int .i64 (s : Nat), .int .i64 (t : Nat), x3] 24 (0, 0))]) (fun k => xs.length - k) 0 ⟨Nat.zero_le _, rfl⟩ (by repeat (first | exact True.intro | refine And.intro rfl ?_)) (List.Sublist.refl _) ?_
  intro k hk
  refine TC.seq ?_
  refine TC.region ?_
  refine TL.pure (PV.lss rfl rfl) rfl (by decide) ?_
  refine TL.nil ?_
  refine TQ.thenC ?_
  refine TC.seq ?_
  first | refine TC.condD rfl (fun hlt => ?_) (fun hlt => ?_) | refine TC.cond rfl (fun hlt => ?_) (fun hlt => ?_)
  · skip
    refine TC.skip ?_
    refine TQ.thenC ?_
    refine TC.seq ?_
    refine TC.block ?_
    refine TC.seq ?_
    obtain ⟨q, hqp, hq⟩ := hx k (by omega)
    obtain ⟨q2, hqp2, hq2⟩ := hx (k - 1) (by omega)
    refine TC.region ?_
    refine TL.pure (PV.move rfl) rfl (by decide) ?_
    refine TL.pure (PV.indexA rfl hqp rfl Tb.elm_25 rfl (by omega)) rfl (by decide) ?_
    refine TL.pure (PV.loadOld rfl Tb.one_3 hq) rfl (by decide) ?_
    refine TL.pure (PV.assign rfl) rfl (by decide) ?_
    refine TL.pure (PV.assign rfl) rfl (by decide) ?_
    refine TL.nil ?_
    refine TQ.thenC ?_
    refine TC.seq ?_
    refine TC.region ?_
    refine TL.pure (PV.loadBox rfl Tb.agg_24 (by repeat (first | exact List.Mem.head _ | refine List.Mem.tail _ ?_ | refine List.mem_append_right _ ?_)) rfl) rfl (by decide) ?_
    refine TL.pure (PV.move rfl) rfl (by decide) ?_
    refine TL.call rfl Tb.gofn_59 (fun a w hs => isNode_ok _ _ _ _ _ _) rfl (by decide) (fun _ _ => ?_)
    refine TL.pure ((by first | exact PV.notD rfl | exact PV.not rfl)) rfl (by decide) ?_
    refine TL.pure (PV.move rfl) rfl (by decide) ?_
    first | refine TL.splitD 18 rfl (fun e1 => ?_) (fun e1 => ?_) | refine TL.split 18 rfl (fun e1 => ?_) (fun e1 => ?_)
    · skip
      refine TL.skip rfl (fun k hk => by cases hk; decide) ?_
      refine TL.skip rfl (fun k hk => by cases hk; decide) ?_
      refine TL.skip rfl (fun k hk => by cases hk; decide) ?_
      refine TL.skipU rfl (fun k hk => by cases hk; decide) ?_
      refine TL.skipU rfl (fun k hk => by cases hk; decide) ?_
      refine TL.skipU rfl (fun k hk => by cases hk; decide) ?_
      refine TL.skipU rfl (fun k hk => by cases hk; decide) ?_
      refine TL.skipU rfl (fun k hk => by cases hk; decide) ?_
      refine TL.skipU rfl (fun k hk => by cases hk; decide) ?_
      refine TL.skipU rfl (fun k hk => by cases hk; decide) ?_
      refine TL.skip rfl (fun k hk => by cases hk; decide) ?_
      refine TL.pure (PV.pickT rfl rfl) rfl (by decide) ?_
      refine TL.nil ?_
      refine TQ.thenC ?_
      refine TC.condT rfl ?_
      refine TC.seq ?_
      refine TC.region ?_
      refine TL.pure (PV.assign rfl) rfl (by decide) ?_
      refine TL.nil ?_
      refine TQ.thenC ?_
      refine TC.ret ?_
      refine TQ.blkR ?_
      refine TQ.thenR ?_
      refine TQ.thenR ?_
      refine TQ.blkR ?_
      refine TQ.thenR ?_
      refine TQ.retE1 rfl rfl ?_
      first | exact ⟨(), by unfold cutB; rw [hka]; simp_all, trivial, List.nil_sublist _⟩ | exact ⟨(), by unfold cutB; rw [show (List.range xs.length).all (asc1 n xs) = false from by cases h9 : (List.range xs.length).all (asc1 n xs) with | false => rfl | true => exact absurd (of_decide_eq_true (all_get h9 (show k < xs.length by omega))) (by omega)]; rfl, trivial, List.nil_sublist _⟩
    · skip
      refine TL.pure (PV.move rfl) rfl (by decide) ?_
      refine TL.pure (PV.gtr rfl rfl) rfl (by decide) ?_
      refine TL.pure (PV.move rfl) rfl (by decide) ?_
      first | refine TL.splitD 21 rfl (fun e2 => ?_) (fun e2 => ?_) | refine TL.split 21 rfl (fun e2 => ?_) (fun e2 => ?_)
      · skip
        refine TL.pure (PV.move rfl) rfl (by decide) ?_
        refine TL.pure (PV.move rfl) rfl (by decide) ?_
        refine TL.pure (PV.move rfl) rfl (by decide) ?_
        refine TL.pure (PV.sub rfl rfl (by omega)) rfl (by decide) ?_
        refine TL.pure (PV.indexA (j := k - 1) rfl hqp2 rfl Tb.elm_25 (by omega) (by omega)) rfl (by decide) ?_
        refine TL.pure (PV.loadOld rfl Tb.one_3 hq2) rfl (by decide) ?_
        refine TL.pure (PV.leq rfl rfl) rfl (by decide) ?_
        refine TL.pure (PV.pickT rfl rfl) rfl (by decide) ?_
        refine TL.pure (PV.pickF rfl rfl) rfl (by decide) ?_
        refine TL.nil ?_
        refine TQ.thenC ?_
        first | refine TC.condD rfl (fun hbad => ?_) (fun hbad => ?_) | refine TC.cond rfl (fun hbad => ?_) (fun hbad => ?_)
        · skip
          refine TC.seq ?_
          refine TC.region ?_
          refine TL.pure (PV.assign rfl) rfl (by decide) ?_
          refine TL.nil ?_
          refine TQ.thenC ?_
          refine TC.ret ?_
          refine TQ.blkR ?_
          refine TQ.thenR ?_
          refine TQ.thenR ?_
          refine TQ.blkR ?_
          refine TQ.thenR ?_
          refine TQ.retE1 rfl rfl ?_
          first | exact ⟨(), by unfold cutB; rw [hka]; simp_all, trivial, List.nil_sublist _⟩ | exact ⟨(), by unfold cutB; rw [show (List.range xs.length).all (asc1 n xs) = false from by cases h9 : (List.range xs.length).all (asc1 n xs) with | false => rfl | true => exact absurd (of_decide_eq_true (all_get h9 (show k < xs.length by omega))) (by omega)]; rfl, trivial, List.nil_sublist _⟩
        · skip
          have has : asc1 n xs k = true := decide_eq_true (by omega)
          refine TC.skip ?_
          refine TQ.blkN ?_
          refine TQ.thenC ?_
          refine TC.region ?_
          refine TL.pure (PV.add rfl rfl (by omega)) rfl (by decide) ?_
          refine TL.pure (PV.move rfl) rfl (by decide) ?_
          refine TL.nil ?_
          refine TQ.thenN ?_
          refine TQ.backK (k + 1) (by repeat (first | exact True.intro | refine And.intro rfl ?_)) (by repeat (first | exact True.intro | refine And.intro rfl ?_)) (List.Sublist.refl _) ⟨by omega, all_next hk.2 has⟩ (by omega)
      · skip
        refine TL.skip rfl (fun k hk => by cases hk; decide) ?_
        refine TL.skip rfl (fun k hk => by cases hk; decide) ?_
        refine TL.skip rfl (fun k hk => by cases hk; decide) ?_
        refine TL.skip rfl (fun k hk => by cases hk; decide) ?_
        refine TL.skip rfl (fun k hk => by cases hk; decide) ?_
        refine TL.skip rfl (fun k hk => by cases hk; decide) ?_
        refine TL.skip rfl (fun k hk => by cases hk; decide) ?_
        refine TL.pure (PV.pickF rfl rfl) rfl (by decide) ?_
        refine TL.pure (PV.pickF rfl rfl) rfl (by decide) ?_
        refine TL.nil ?_
        refine TQ.thenC ?_
        refine TC.condF rfl ?_
        have has : asc1 n xs k = true := decide_eq_true (by omega)
        refine TC.skip ?_
        refine TQ.blkN ?_
        refine TQ.thenC ?_
        refine TC.region ?_
        refine TL.pure (PV.add rfl rfl (by omega)) rfl (by decide) ?_
        refine TL.pure (PV.move rfl) rfl (by decide) ?_
        refine TL.nil ?_
        refine TQ.thenN ?_
        refine TQ.backK (k + 1) (by repeat (first | exact True.intro | refine And.intro rfl ?_)) (by repeat (first | exact True.intro | refine And.intro rfl ?_)) (List.Sublist.refl _) ⟨by omega, all_next hk.2 has⟩ (by omega)
  · skip
    refine TC.exit ?_
    refine TQ.thenE ?_
    refine TQ.thenE ?_
    refine TQ.blkS ?_
    refine TQ.thenC ?_
    refine TC.seq ?_
    have hka : (List.range xs.length).all (asc1 n xs) = true := (show k = xs.length by omega) ▸ hk.2
    refine TC.region ?_
    refine TL.pure (PV.move rfl) rfl (by decide) ?_
    refine TL.pure (PV.fieldAddr rfl Tb.fo_24_1) rfl (by decide) ?_
    refine TL.pure (PV.load rfl Tb.one_3 (by repeat (first | exact List.Mem.head _ | refine List.Mem.tail _ ?_ | refine List.mem_append_right _ ?_)) rfl) rfl (by decide) ?_
    refine TL.call rfl Tb.gofn_69 (fun a w hs => contains_ok w p cap xs _ (hx.new hs.new) hl) rfl (by decide) (fun _ _ => ?_)
    refine TL.pure (PV.move rfl) rfl (by decide) ?_
    first | refine TL.splitD 36 rfl (fun hs1 => ?_) (fun hs1 => ?_) | refine TL.split 36 rfl (fun hs1 => ?_) (fun hs1 => ?_)
    · skip
      refine TL.pure (PV.move rfl) rfl (by decide) ?_
      refine TL.pure (PV.fieldAddr rfl Tb.fo_24_2) rfl (by decide) ?_
      refine TL.pure (PV.load rfl Tb.one_3 (by repeat (first | exact List.Mem.head _ | refine List.Mem.tail _ ?_ | refine List.mem_append_right _ ?_)) rfl) rfl (by decide) ?_
      refine TL.call rfl Tb.gofn_69 (fun a w hs => contains_ok w p cap xs _ (hx.new hs.new) hl) rfl (by decide) (fun _ _ => ?_)
      refine TL.pure ((by first | exact PV.notD rfl | exact PV.not rfl)) rfl (by decide) ?_
      refine TL.pure (PV.pickT rfl rfl) rfl (by decide) ?_
      refine TL.pure (PV.assign rfl) rfl (by decide) ?_
      refine TL.nil ?_
      refine TQ.thenC ?_
      refine TC.ret ?_
      refine TQ.retE1 rfl rfl ?_
      first | exact ⟨(), by unfold cutB; rw [hka]; simp_all, trivial, List.nil_sublist _⟩ | exact ⟨(), by unfold cutB; rw [show (List.range xs.length).all (asc1 n xs) = false from by cases h9 : (List.range xs.length).all (asc1 n xs) with | false => rfl | true => exact absurd (of_decide_eq_true (all_get h9 (show k < xs.length by omega))) (by omega)]; rfl, trivial, List.nil_sublist _⟩
    · skip
      refine TL.skip rfl (fun k hk => by cases hk; decide) ?_
      refine TL.skip rfl (fun k hk => by cases hk; decide) ?_
      refine TL.skip rfl (fun k hk => by cases hk; decide) ?_
      refine TL.skip rfl (fun k hk => by cases hk; decide) ?_
      refine TL.skip rfl (fun k hk => by cases hk; decide) ?_
      refine TL.pure (PV.pickF rfl rfl) rfl (by decide) ?_
      refine TL.pure (PV.assign rfl) rfl (by decide) ?_
      refine TL.nil ?_
      refine TQ.thenC ?_
      refine TC.ret ?_
      refine TQ.retE1 rfl rfl ?_
      first | exact ⟨(), by unfold cutB; rw [hka]; simp_all, trivial, List.nil_sublist _⟩ | exact ⟨(), by unfold cutB; rw [show (List.range xs.length).all (asc1 n xs) = false from by cases h9 : (List.range xs.length).all (asc1 n xs) with | false => rfl | true => exact absurd (of_decide_eq_true (all_get h9 (show k < xs.length by omega))) (by omega)]; rfl, trivial, List.nil_sublist _⟩

end Go.Proofs.Ytnlbngbbddhgeaa
