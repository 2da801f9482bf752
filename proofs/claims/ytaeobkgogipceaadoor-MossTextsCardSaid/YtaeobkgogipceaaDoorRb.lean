/- The laws of days, growth, edges and cores. -/
import Derived.Test.YtaeobkgogipceaaDoorQi
set_option linter.unusedVariables false
set_option linter.unusedSimpArgs false
namespace Go.Proofs.YtaeobkgogipceaaDoor
open Go.Sx Go.RowKit

end Go.Proofs.YtaeobkgogipceaaDoor
namespace Go.Sx
open Go.RowKit
/-- An operation whose guard's own operation was not wanted is not wanted. -/
def undoneB (ops : Array Oper) (E : Env) : Option (Nat × Bool) → Bool
  | none => false
  | some (j, _) => match (ops[j]?).bind (·.dst) with
    | none => false
    | some s => match Sx.look s E with
      | some (.tuple _) => true
      | _ => false
section
variable {P : Program} {n : Nat} {w0 : World} {E : Env} {G : Heap} {a : Act} {w : World} {ops : Array Oper} {Q : Exit → Act → World → Prop} {l : List Oper}
theorem S_undone (h : S n w0 E G a w) {o : Oper} (hw : undoneB ops E o.guard = true) : Region.wanted o (yielded ops a.tmps) = false := by
  unfold Region.wanted
  cases hg : o.guard with
  | none => simp [undoneB, hg] at hw
  | some jw =>
    obtain ⟨j, want⟩ := jw
    simp only [undoneB, hg] at hw
    simp only [yielded]
    cases hs : (ops[j]?).bind (·.dst) with
    | none => simp [hs] at hw
    | some s =>
      simp only [hs] at hw
      cases hl : Sx.look s E with
      | none => simp [hl] at hw
      | some v =>
        have := h.env s v hl
        rw [hl] at hw
        cases v <;> first | (simp [this]; done) | simp at hw
theorem TL.skipU {d : Option Nat} {op : Op} {ty : TypeId} {pos : String} {aft : Array Edge} {g : Option (Nat × Bool)}
    (hg : undoneB ops E g = true) (hd : ∀ k, d = some k → k < n) (h : TL P n w0 ops Q l (match d with | some k => (k, undef) :: E | none => E) G) :
    TL P n w0 ops Q (⟨d, op, ty, pos, aft, g⟩ :: l) E G := by
  intro a w hs
  unfold wpList
  have := S_undone hs (o := ⟨d, op, ty, pos, aft, g⟩) hg
  rw [if_neg (by simp [this])]
  cases d with
  | none => exact h _ _ hs
  | some k => exact h _ _ (hs.put (hd k rfl) undef)
theorem OpOK.skipU {d : Nat} {op : Op} {ty : TypeId} {pos : String} {aft : Array Edge} {g : Option (Nat × Bool)} (hg : undoneB ops E g = true) :
    OpOK P n w0 ops Q G E ⟨some d, op, ty, pos, aft, g⟩ d undef := by
  intro F' hF a w hs
  have := S_undone (hs.env_le hF) (o := ⟨some d, op, ty, pos, aft, g⟩) hg
  rw [if_neg (by simp [this])]
theorem TS.skipU {tl : List Oper} {d : Nat} {op : Op} {ty : TypeId} {pos : String} {aft : Array Edge} {g : Option (Nat × Bool)}
    (hg : undoneB ops E g = true) (hd : d < n) (h : TS P n w0 ops Q tl l ((d, undef) :: E) G) :
    TS P n w0 ops Q tl (⟨some d, op, ty, pos, aft, g⟩ :: l) E G := by
  intro a w hs
  unfold wpStill
  have := S_undone hs (o := ⟨some d, op, ty, pos, aft, g⟩) hg
  rw [if_neg (by simp [this])]
  exact h _ _ (hs.put hd undef)
end


end Go.Sx
namespace Go.Proofs.YtaeobkgogipceaaDoor
open Go.Sx Go.RowKit
section
variable {w0 : World} (ht : TzAt w0) {m : Mo.Md} (ho : Mo.Ok m) {S : Nat} (hS : S < 2 ^ m.N)
include ht ho hS
theorem Spread_v : Calls Tryd.prog 25 #[mV m, .int .i64 S] w0 (Post (X := Unit) (fun _ => .tuple #[.int .i64 (Mo.en m S : Nat), .int .i64 (Mo.dy m S : Nat), .int .i64 0]) (fun _ => True) (fun _ => []) w0) := by
  have h := Spread_ok w0 ht m.R m.C m.K S
  simp only [zI_ok ho hS, gI_ok ho hS] at h
  exact h
theorem Step_v : Calls Tryd.prog 23 #[mV m, .int .i64 S] w0 (Post (X := Unit) (fun _ => .tuple #[.int .i64 (Mo.stp m S : Nat), .int .i64 0]) (fun _ => True) (fun _ => []) w0) := by
  have h := Step_ok w0 ht m.R m.C m.K S
  simp only [zI_ok ho hS, gI_ok ho hS] at h
  exact h
theorem Edge_v : Calls Tryd.prog 32 #[mV m, .int .i64 S] w0 (Post (X := Unit) (fun _ => .tuple #[.int .i64 (Mo.edge m S), .int .i64 0]) (fun _ => True) (fun _ => []) w0) := by
  have h := Edge_ok w0 ht m.R m.C m.K S
  simp only [zI_ok ho hS, gI_ok ho hS] at h
  exact h
theorem Core_v : Calls Tryd.prog 34 #[mV m, .int .i64 S] w0 (Post (X := Unit) (fun _ => .tuple #[.int .i64 (Mo.cor m S : Nat), .int .i64 0]) (fun _ => True) (fun _ => []) w0) := by
  have h := Core_ok w0 ht m.R m.C m.K S
  simp only [zI_ok ho hS, gI_ok ho hS] at h
  exact h
theorem CheckCore_v (hc : Mo.isC m S) : Calls Tryd.prog 36 #[mV m, .int .i64 S] w0 (Post (X := Unit) (fun _ => .int .i64 0) (fun _ => True) (fun _ => []) w0) := by
  have h := CheckCore_ok w0 ht m.R m.C m.K S
  rw [ck_v ho hS, if_pos (isC_rdy.1 hc)] at h
  exact h
/-- With one more neighbor wanted. -/
theorem need_ok : Calls Tryd.prog 25 #[.agg #[.int .i64 m.R, .int .i64 m.C, .int .i64 ((m.K : Int) + 1)], .int .i64 S] w0 (Post (X := Nat × Int × Int) (fun x => .tuple #[.int .i64 x.1, .int .i64 x.2.1, .int .i64 x.2.2]) (fun x => x.1 < 9223372036854775808 ∧ (x.2.2 = 0 → Mo.Sub x.1 (Mo.en m S))) (fun _ => []) w0) := by
  have h := Spread_ok w0 ht m.R m.C ((m.K : Int) + 1) S
  refine h.mono fun e w' ⟨_, he, _, hn⟩ => ?_
  by_cases hg : gI m.R m.C ((m.K : Int) + 1) S = 0
  · obtain ⟨m', S', ho', hS', e1, e2, e3, e4⟩ := gI_is hg
    obtain ⟨R', C', K'⟩ := m'
    obtain rfl : m.R = R' := Int.ofNat_inj.1 e1
    obtain rfl : m.C = C' := Int.ofNat_inj.1 e2
    obtain rfl : S = S' := by omega
    have e3' : K' = m.K + 1 := by have : (m.K : Int) + 1 = (K' : Int) := e3; omega
    subst e3'
    refine ⟨(Mo.en ⟨m.R, m.C, m.K + 1⟩ S, ((Mo.dy ⟨m.R, m.C, m.K + 1⟩ S : Nat) : Int), 0), ?_, ⟨set63 ho' (Mo.en_lt hS'), fun _ => Mo.en_need (m := m) (m' := ⟨m.R, m.C, m.K + 1⟩) ho rfl rfl (Nat.le_succ _) hS⟩, hn⟩
    rw [he]
    have hz := zI_ok (m := ⟨m.R, m.C, m.K + 1⟩) ho' hS'
    have hgv := gI_ok (m := ⟨m.R, m.C, m.K + 1⟩) ho' hS'
    have e5 : (((m.K + 1 : Nat)) : Int) = (m.K : Int) + 1 := by omega
    simp only [e5] at hz hgv
    simp only [hz, hgv]
    have e6 : Mo.mD (m.R : Int) m.C ((m.K : Int) + 1) = ⟨m.R, m.C, m.K + 1⟩ := by
      unfold Mo.mD
      rw [show ((m.K : Int) + 1).toNat = m.K + 1 by omega]; rfl
    rw [e6]; rfl
  · refine ⟨(0, 0, gI m.R m.C ((m.K : Int) + 1) S), ?_, ⟨Nat.zero_lt_of_lt (by decide : 0 < 9223372036854775808), fun h0 => absurd h0 hg⟩, hn⟩
    rw [he, zI_no hg, zI_no hg]; rfl
end
section
variable {P : Program} {n : Nat} {w0 : World} {E : Env} {G : Heap} {d : Option Nat} {ty : TypeId} {pos : String} {aft : Array Edge} {g : Option (Nat × Bool)} {x y : Operand} {i j : Int} {t t' : TypeId}
theorem PV.leqT (hx : evo E x = some (.int .i64 i)) (hy : evo E y = some (.int .i64 j)) (h : i ≤ j) : PV P n w0 E G ⟨d, .binOp .leq t x y t', ty, pos, aft, g⟩ (.bool true) := by
  have := PV.leq (P := P) (n := n) (w0 := w0) (G := G) (d := d) (t := t) (t' := t') (ty := ty) (pos := pos) (aft := aft) (g := g) hx hy
  rwa [decide_eq_true h] at this
theorem PV.neqT (hx : evo E x = some (.int .i64 i)) (hy : evo E y = some (.int .i64 j)) (h : i ≠ j) : PV P n w0 E G ⟨d, .binOp .neq t x y t', ty, pos, aft, g⟩ (.bool true) := by
  have := PV.neq (P := P) (n := n) (w0 := w0) (G := G) (d := d) (t := t) (t' := t') (ty := ty) (pos := pos) (aft := aft) (g := g) hx hy
  rwa [decide_eq_true h] at this
end
theorem and_sub {A B : Nat} (h : Mo.Sub B A) : A &&& B = B := by rw [Nat.and_comm]; exact Mo.Sub.and.1 h
theorem sub_and {A B : Nat} (h : Mo.Sub A B) : A &&& B = A := Mo.Sub.and.1 h
theorem Spread_n {w0 : World} (ht : TzAt w0) {r c k w9 : Int} (h : gI r c k w9 ≠ 0) : Calls Tryd.prog 25 #[.agg #[.int .i64 r, .int .i64 c, .int .i64 k], .int .i64 w9] w0 (Post (X := Unit) (fun _ => .tuple #[.int .i64 0, .int .i64 0, .int .i64 (gI r c k w9)]) (fun _ => True) (fun _ => []) w0) := by
  have h2 := Spread_ok w0 ht r c k w9
  simp only [zI_no h] at h2
  exact h2


set_option maxRecDepth 100000 in
theorem mossDays_v (w0 : World) (ht : TzAt w0) (m : Mo.Md) (ho : Mo.Ok m) (S : Nat) (hS : S < 2 ^ m.N) (s : Nat) (hs3 : s < m.N) :
    Calls Tryd.prog 5 #[mV m, .int .i64 S, .int .i64 s] w0 (Post (X := Unit) (fun _ => .bool true) (fun _ => True) (fun _ => []) w0) := by
  have hN := ho.N36
  have hd9 := d_ok ho hS hs3
  have hen63 := set63 ho (Mo.en_lt hS)
  refine calls Tryd.func5 rfl (n := 73) rfl (by simp) ?_
  refine TC.seq ?_
  refine TC.region ?_
  refine TL.box rfl rfl (by decide) (fun b0 hb0 => ?_)
  refine TL.pure (PV.assign rfl) rfl (by decide) ?_
  refine TL.nil ?_
  refine TQ.thenC ?_
  refine TC.seq ?_
  refine TC.region ?_
  refine TL.pure (PV.loadBox rfl Tb.agg_23 (by repeat (first | exact List.Mem.head _ | refine List.Mem.tail _ ?_ | refine List.mem_append_right _ ?_)) rfl) rfl (by decide) ?_
  refine TL.pure (PV.move rfl) rfl (by decide) ?_
  refine TL.pure (PV.move rfl) rfl (by decide) ?_
  refine TL.call rfl Tb.gofn_29 (fun a w hs => Day_ok w (ht.new hs.new) _ _ _ _ _) rfl (by decide) (fun _ _ => ?_)
  refine TL.pure (PV.move rfl) rfl (by decide) ?_
  refine TL.pure (PV.extract rfl rfl) rfl (by decide) ?_
  refine TL.pure (PV.extract rfl rfl) rfl (by decide) ?_
  refine TL.pure (PV.extract rfl rfl) rfl (by decide) ?_
  refine TL.pure (PV.assign rfl) rfl (by decide) ?_
  refine TL.pure (PV.assign rfl) rfl (by decide) ?_
  refine TL.pure (PV.assign rfl) rfl (by decide) ?_
  refine TL.nil ?_
  refine TQ.thenC ?_
  refine TC.seq ?_
  refine TC.region ?_
  refine TL.pure (PV.loadBox rfl Tb.agg_23 (by repeat (first | exact List.Mem.head _ | refine List.Mem.tail _ ?_ | refine List.mem_append_right _ ?_)) rfl) rfl (by decide) ?_
  refine TL.pure (PV.move rfl) rfl (by decide) ?_
  refine TL.pure (PV.move rfl) rfl (by decide) ?_
  refine TL.call rfl Tb.gofn_30 (fun a w hs => rDay_ok w _ _ _ _ _) rfl (by decide) (fun _ _ => ?_)
  refine TL.pure (PV.move rfl) rfl (by decide) ?_
  refine TL.pure (PV.extract rfl rfl) rfl (by decide) ?_
  refine TL.pure (PV.extract rfl rfl) rfl (by decide) ?_
  refine TL.pure (PV.extract rfl rfl) rfl (by decide) ?_
  refine TL.pure (PV.assign rfl) rfl (by decide) ?_
  refine TL.pure (PV.assign rfl) rfl (by decide) ?_
  refine TL.pure (PV.assign rfl) rfl (by decide) ?_
  refine TL.nil ?_
  refine TQ.thenC ?_
  refine TC.seq ?_
  refine TC.seq ?_
  refine TC.region ?_
  refine TL.pure (PV.move rfl) rfl (by decide) ?_
  refine TL.pure (PV.move rfl) rfl (by decide) ?_
  refine TL.pure (PV.neqI rfl rfl) rfl (by decide) ?_
  refine TL.pure (PV.move rfl) rfl (by decide) ?_
  refine TL.pure (PV.move rfl) rfl (by decide) ?_
  refine TL.pure (PV.move rfl) rfl (by decide) ?_
  refine TL.pure (PV.neqBI rfl rfl Tb.bool_4) rfl (by decide) ?_
  refine TL.pure (PV.pickF rfl rfl) rfl (by decide) ?_
  refine TL.pure (PV.move rfl) rfl (by decide) ?_
  refine TL.pure (PV.move rfl) rfl (by decide) ?_
  refine TL.pure (PV.move rfl) rfl (by decide) ?_
  refine TL.pure (PV.neqI rfl rfl) rfl (by decide) ?_
  refine TL.pure (PV.pickF rfl rfl) rfl (by decide) ?_
  refine TL.nil ?_
  refine TQ.thenC ?_
  refine TC.condF rfl ?_
  refine TC.skip ?_
  refine TQ.thenC ?_
  refine TC.seq ?_
  refine TC.region ?_
  refine TL.pure (PV.loadBox rfl Tb.agg_23 (by repeat (first | exact List.Mem.head _ | refine List.Mem.tail _ ?_ | refine List.mem_append_right _ ?_)) rfl) rfl (by decide) ?_
  refine TL.pure (PV.move rfl) rfl (by decide) ?_
  refine TL.call rfl Tb.gofn_25 (fun a w hs => Spread_v (ht.new hs.new) ho hS) rfl (by decide) (fun _ _ => ?_)
  refine TL.pure (PV.move rfl) rfl (by decide) ?_
  refine TL.pure (PV.extract rfl rfl) rfl (by decide) ?_
  refine TL.pure (PV.extract rfl rfl) rfl (by decide) ?_
  refine TL.pure (PV.extract rfl rfl) rfl (by decide) ?_
  refine TL.pure (PV.assign rfl) rfl (by decide) ?_
  refine TL.pure (PV.assign rfl) rfl (by decide) ?_
  refine TL.pure (PV.assign rfl) rfl (by decide) ?_
  refine TL.nil ?_
  refine TQ.thenC ?_
  refine TC.seq ?_
  have hle9 : dN m.R m.C m.K S s ≤ ((Mo.dy m S : Nat) : Int) := by
    rw [hd9.2.2]
    split
    · rename_i he; have := (day_le he).1; omega
    · omega
  refine TC.region ?_
  refine TL.pure (PV.move rfl) rfl (by decide) ?_
  refine TL.pure (PV.neqI (i := 0) (by show some _ = some _; rw [hd9.1]) rfl) rfl (by decide) ?_
  refine TL.pure (PV.move rfl) rfl (by decide) ?_
  refine TL.pure (PV.move rfl) rfl (by decide) ?_
  refine TL.pure (PV.eqlI rfl rfl) rfl (by decide) ?_
  refine TL.pure (PV.move rfl) rfl (by decide) ?_
  refine TL.pure (PV.move rfl) rfl (by decide) ?_
  refine TL.pure (PV.move rfl) rfl (by decide) ?_
  refine TL.pure (PV.move rfl) rfl (by decide) ?_
  refine TL.call rfl Tb.gofn_31 (fun a w hs => rHas_ok w _ s hen63 (by omega)) rfl (by decide) (fun _ _ => ?_)
  refine TL.pure (PV.eqlBI (b := (Mo.en m S).testBit s) (by show some _ = some _; rw [hd9.2.1]) rfl Tb.bool_4) rfl (by decide) ?_
  refine TL.pure (PV.pickT rfl rfl) rfl (by decide) ?_
  refine TL.pure (PV.move rfl) rfl (by decide) ?_
  refine TL.pure (PV.move rfl) rfl (by decide) ?_
  refine TL.pure (PV.move rfl) rfl (by decide) ?_
  refine TL.pure (PV.leqT rfl rfl hle9) rfl (by decide) ?_
  refine TL.pure (PV.pickT rfl rfl) rfl (by decide) ?_
  refine TL.pure (PV.pickF rfl rfl) rfl (by decide) ?_
  refine TL.pure (PV.move rfl) rfl (by decide) ?_
  refine TL.call rfl Tb.gofn_22 (fun a w hs => sane_ok w (ht.new hs.new)) rfl (by decide) (fun _ _ => ?_)
  refine TL.pure (PV.pickT rfl rfl) rfl (by decide) ?_
  refine TL.pure (PV.assign rfl) rfl (by decide) ?_
  refine TL.nil ?_
  refine TQ.thenC ?_
  refine TC.ret ?_
  refine TQ.retE1 rfl rfl ?_
  exact ⟨(), rfl, trivial, List.nil_sublist _⟩

set_option maxRecDepth 100000 in
theorem mossDays_n (w0 : World) (ht : TzAt w0) (r c k w9 s9 : Int) (hne : dE r c k w9 s9 ≠ 0) :
    Calls Tryd.prog 5 #[.agg #[.int .i64 r, .int .i64 c, .int .i64 k], .int .i64 w9, .int .i64 s9] w0 (Post (X := Unit) (fun _ => .bool true) (fun _ => True) (fun _ => []) w0) := by
  refine calls Tryd.func5 rfl (n := 73) rfl (by simp) ?_
  refine TC.seq ?_
  refine TC.region ?_
  refine TL.box rfl rfl (by decide) (fun b0 hb0 => ?_)
  refine TL.pure (PV.assign rfl) rfl (by decide) ?_
  refine TL.nil ?_
  refine TQ.thenC ?_
  refine TC.seq ?_
  refine TC.region ?_
  refine TL.pure (PV.loadBox rfl Tb.agg_23 (by repeat (first | exact List.Mem.head _ | refine List.Mem.tail _ ?_ | refine List.mem_append_right _ ?_)) rfl) rfl (by decide) ?_
  refine TL.pure (PV.move rfl) rfl (by decide) ?_
  refine TL.pure (PV.move rfl) rfl (by decide) ?_
  refine TL.call rfl Tb.gofn_29 (fun a w hs => Day_ok w (ht.new hs.new) _ _ _ _ _) rfl (by decide) (fun _ _ => ?_)
  refine TL.pure (PV.move rfl) rfl (by decide) ?_
  refine TL.pure (PV.extract rfl rfl) rfl (by decide) ?_
  refine TL.pure (PV.extract rfl rfl) rfl (by decide) ?_
  refine TL.pure (PV.extract rfl rfl) rfl (by decide) ?_
  refine TL.pure (PV.assign rfl) rfl (by decide) ?_
  refine TL.pure (PV.assign rfl) rfl (by decide) ?_
  refine TL.pure (PV.assign rfl) rfl (by decide) ?_
  refine TL.nil ?_
  refine TQ.thenC ?_
  refine TC.seq ?_
  refine TC.region ?_
  refine TL.pure (PV.loadBox rfl Tb.agg_23 (by repeat (first | exact List.Mem.head _ | refine List.Mem.tail _ ?_ | refine List.mem_append_right _ ?_)) rfl) rfl (by decide) ?_
  refine TL.pure (PV.move rfl) rfl (by decide) ?_
  refine TL.pure (PV.move rfl) rfl (by decide) ?_
  refine TL.call rfl Tb.gofn_30 (fun a w hs => rDay_ok w _ _ _ _ _) rfl (by decide) (fun _ _ => ?_)
  refine TL.pure (PV.move rfl) rfl (by decide) ?_
  refine TL.pure (PV.extract rfl rfl) rfl (by decide) ?_
  refine TL.pure (PV.extract rfl rfl) rfl (by decide) ?_
  refine TL.pure (PV.extract rfl rfl) rfl (by decide) ?_
  refine TL.pure (PV.assign rfl) rfl (by decide) ?_
  refine TL.pure (PV.assign rfl) rfl (by decide) ?_
  refine TL.pure (PV.assign rfl) rfl (by decide) ?_
  refine TL.nil ?_
  refine TQ.thenC ?_
  refine TC.seq ?_
  refine TC.seq ?_
  refine TC.region ?_
  refine TL.pure (PV.move rfl) rfl (by decide) ?_
  refine TL.pure (PV.move rfl) rfl (by decide) ?_
  refine TL.pure (PV.neqI rfl rfl) rfl (by decide) ?_
  refine TL.pure (PV.move rfl) rfl (by decide) ?_
  refine TL.pure (PV.move rfl) rfl (by decide) ?_
  refine TL.pure (PV.move rfl) rfl (by decide) ?_
  refine TL.pure (PV.neqBI rfl rfl Tb.bool_4) rfl (by decide) ?_
  refine TL.pure (PV.pickF rfl rfl) rfl (by decide) ?_
  refine TL.pure (PV.move rfl) rfl (by decide) ?_
  refine TL.pure (PV.move rfl) rfl (by decide) ?_
  refine TL.pure (PV.move rfl) rfl (by decide) ?_
  refine TL.pure (PV.neqI rfl rfl) rfl (by decide) ?_
  refine TL.pure (PV.pickF rfl rfl) rfl (by decide) ?_
  refine TL.nil ?_
  refine TQ.thenC ?_
  refine TC.condF rfl ?_
  refine TC.skip ?_
  refine TQ.thenC ?_
  refine TC.seq ?_
  refine TC.region ?_
  refine TL.pure (PV.loadBox rfl Tb.agg_23 (by repeat (first | exact List.Mem.head _ | refine List.Mem.tail _ ?_ | refine List.mem_append_right _ ?_)) rfl) rfl (by decide) ?_
  refine TL.pure (PV.move rfl) rfl (by decide) ?_
  refine TL.call rfl Tb.gofn_25 (fun a w hs => Spread_ok w (ht.new hs.new) _ _ _ _) rfl (by decide) (fun _ _ => ?_)
  refine TL.pure (PV.move rfl) rfl (by decide) ?_
  refine TL.pure (PV.extract rfl rfl) rfl (by decide) ?_
  refine TL.pure (PV.extract rfl rfl) rfl (by decide) ?_
  refine TL.pure (PV.extract rfl rfl) rfl (by decide) ?_
  refine TL.pure (PV.assign rfl) rfl (by decide) ?_
  refine TL.pure (PV.assign rfl) rfl (by decide) ?_
  refine TL.pure (PV.assign rfl) rfl (by decide) ?_
  refine TL.nil ?_
  refine TQ.thenC ?_
  refine TC.seq ?_
  refine TC.region ?_
  refine TL.pure (PV.move rfl) rfl (by decide) ?_
  refine TL.pure (PV.neqT rfl rfl hne) rfl (by decide) ?_
  refine TL.pure (PV.move rfl) rfl (by decide) ?_
  refine TL.skip rfl (fun k hk => by cases hk; decide) ?_
  refine TL.skip rfl (fun k hk => by cases hk; decide) ?_
  refine TL.skip rfl (fun k hk => by cases hk; decide) ?_
  refine TL.skipU rfl (fun k hk => by cases hk; decide) ?_
  refine TL.skipU rfl (fun k hk => by cases hk; decide) ?_
  refine TL.skipU rfl (fun k hk => by cases hk; decide) ?_
  refine TL.skipU rfl (fun k hk => by cases hk; decide) ?_
  refine TL.skipU rfl (fun k hk => by cases hk; decide) ?_
  refine TL.skip rfl (fun k hk => by cases hk; decide) ?_
  refine TL.skip rfl (fun k hk => by cases hk; decide) ?_
  refine TL.skipU rfl (fun k hk => by cases hk; decide) ?_
  refine TL.skipU rfl (fun k hk => by cases hk; decide) ?_
  refine TL.skipU rfl (fun k hk => by cases hk; decide) ?_
  refine TL.skip rfl (fun k hk => by cases hk; decide) ?_
  refine TL.pure (PV.pickT rfl rfl) rfl (by decide) ?_
  refine TL.pure (PV.move rfl) rfl (by decide) ?_
  refine TL.call rfl Tb.gofn_22 (fun a w hs => sane_ok w (ht.new hs.new)) rfl (by decide) (fun _ _ => ?_)
  refine TL.pure (PV.pickT rfl rfl) rfl (by decide) ?_
  refine TL.pure (PV.assign rfl) rfl (by decide) ?_
  refine TL.nil ?_
  refine TQ.thenC ?_
  refine TC.ret ?_
  refine TQ.retE1 rfl rfl ?_
  exact ⟨(), rfl, trivial, List.nil_sublist _⟩

set_option maxRecDepth 100000 in
theorem mossGrows_v (w0 : World) (ht : TzAt w0) (m : Mo.Md) (ho : Mo.Ok m) (S : Nat) (hS : S < 2 ^ m.N) (S2 : Nat) (hS2 : S2 < 2 ^ m.N) :
    Calls Tryd.prog 6 #[mV m, .int .i64 S, .int .i64 S2] w0 (Post (X := Unit) (fun _ => .bool true) (fun _ => True) (fun _ => []) w0) := by
  have hS63 := set63 ho hS
  have hT63 := set63 ho hS2
  have hor := Nat.or_lt_two_pow hS hS2
  have hen63 := set63 ho (Mo.en_lt hS)
  have henT := set63 ho (Mo.en_lt hS2)
  have henO := set63 ho (Mo.en_lt hor)
  have hee := Mo.en_en ho hS
  have ha1 := and_sub (Mo.sub_en m S)
  have ha2 := and_sub (Mo.en_mono ho hor (Mo.or_left S S2))
  have ha3 := and_sub (Mo.en_mono ho hor (Mo.or_right S S2))
  have hK3 := ho.K3
  refine calls Tryd.func6 rfl (n := 118) rfl (by simp) ?_
  refine TC.seq ?_
  refine TC.region ?_
  refine TL.box rfl rfl (by decide) (fun b0 hb0 => ?_)
  refine TL.pure (PV.assign rfl) rfl (by decide) ?_
  refine TL.nil ?_
  refine TQ.thenC ?_
  refine TC.seq ?_
  refine TC.region ?_
  refine TL.pure (PV.loadBox rfl Tb.agg_23 (by repeat (first | exact List.Mem.head _ | refine List.Mem.tail _ ?_ | refine List.mem_append_right _ ?_)) rfl) rfl (by decide) ?_
  refine TL.pure (PV.move rfl) rfl (by decide) ?_
  refine TL.call rfl Tb.gofn_25 (fun a w hs => Spread_v (ht.new hs.new) ho hS) rfl (by decide) (fun _ _ => ?_)
  refine TL.pure (PV.move rfl) rfl (by decide) ?_
  refine TL.pure (PV.extract rfl rfl) rfl (by decide) ?_
  refine TL.pure (PV.extract rfl rfl) rfl (by decide) ?_
  refine TL.pure (PV.extract rfl rfl) rfl (by decide) ?_
  refine TL.pure (PV.assign rfl) rfl (by decide) ?_
  refine TL.pure (PV.assign rfl) rfl (by decide) ?_
  refine TL.pure (PV.assign rfl) rfl (by decide) ?_
  refine TL.nil ?_
  refine TQ.thenC ?_
  refine TC.seq ?_
  refine TC.region ?_
  refine TL.pure (PV.loadBox rfl Tb.agg_23 (by repeat (first | exact List.Mem.head _ | refine List.Mem.tail _ ?_ | refine List.mem_append_right _ ?_)) rfl) rfl (by decide) ?_
  refine TL.pure (PV.move rfl) rfl (by decide) ?_
  refine TL.call rfl Tb.gofn_25 (fun a w hs => Spread_v (ht.new hs.new) ho hS2) rfl (by decide) (fun _ _ => ?_)
  refine TL.pure (PV.move rfl) rfl (by decide) ?_
  refine TL.pure (PV.extract rfl rfl) rfl (by decide) ?_
  refine TL.pure (PV.extract rfl rfl) rfl (by decide) ?_
  refine TL.pure (PV.extract rfl rfl) rfl (by decide) ?_
  refine TL.pure (PV.assign rfl) rfl (by decide) ?_
  refine TL.pure (PV.assign rfl) rfl (by decide) ?_
  refine TL.pure (PV.assign rfl) rfl (by decide) ?_
  refine TL.nil ?_
  refine TQ.thenC ?_
  refine TC.seq ?_
  refine TC.seq ?_
  refine TC.region ?_
  refine TL.pure (PV.move rfl) rfl (by decide) ?_
  refine TL.pure (PV.neqI rfl rfl) rfl (by decide) ?_
  refine TL.pure (PV.move rfl) rfl (by decide) ?_
  refine TL.pure (PV.move rfl) rfl (by decide) ?_
  refine TL.pure (PV.neqI rfl rfl) rfl (by decide) ?_
  refine TL.pure (PV.pickF rfl rfl) rfl (by decide) ?_
  refine TL.nil ?_
  refine TQ.thenC ?_
  refine TC.condF rfl ?_
  refine TC.skip ?_
  refine TQ.thenC ?_
  refine TC.seq ?_
  refine TC.region ?_
  refine TL.pure (PV.loadBox rfl Tb.agg_23 (by repeat (first | exact List.Mem.head _ | refine List.Mem.tail _ ?_ | refine List.mem_append_right _ ?_)) rfl) rfl (by decide) ?_
  refine TL.pure (PV.move rfl) rfl (by decide) ?_
  refine TL.pure (PV.move rfl) rfl (by decide) ?_
  refine TL.pure (PV.orK rfl rfl (i64_or_nat hS63 hT63)) rfl (by decide) ?_
  refine TL.call rfl Tb.gofn_25 (fun a w hs => Spread_v (ht.new hs.new) ho hor) rfl (by decide) (fun _ _ => ?_)
  refine TL.pure (PV.move rfl) rfl (by decide) ?_
  refine TL.pure (PV.extract rfl rfl) rfl (by decide) ?_
  refine TL.pure (PV.extract rfl rfl) rfl (by decide) ?_
  refine TL.pure (PV.extract rfl rfl) rfl (by decide) ?_
  refine TL.pure (PV.assign rfl) rfl (by decide) ?_
  refine TL.pure (PV.assign rfl) rfl (by decide) ?_
  refine TL.pure (PV.assign rfl) rfl (by decide) ?_
  refine TL.nil ?_
  refine TQ.thenC ?_
  refine TC.seq ?_
  refine TC.region ?_
  refine TL.pure (PV.loadBox rfl Tb.agg_23 (by repeat (first | exact List.Mem.head _ | refine List.Mem.tail _ ?_ | refine List.mem_append_right _ ?_)) rfl) rfl (by decide) ?_
  refine TL.pure (PV.move rfl) rfl (by decide) ?_
  refine TL.call rfl Tb.gofn_25 (fun a w hs => Spread_v (ht.new hs.new) ho (Mo.en_lt hS)) rfl (by decide) (fun _ _ => ?_)
  refine TL.pure (PV.move rfl) rfl (by decide) ?_
  refine TL.pure (PV.extract rfl rfl) rfl (by decide) ?_
  refine TL.pure (PV.extract rfl rfl) rfl (by decide) ?_
  refine TL.pure (PV.extract rfl rfl) rfl (by decide) ?_
  refine TL.pure (PV.assign rfl) rfl (by decide) ?_
  refine TL.pure (PV.assign rfl) rfl (by decide) ?_
  refine TL.pure (PV.assign rfl) rfl (by decide) ?_
  refine TL.nil ?_
  refine TQ.thenC ?_
  refine TC.seq ?_
  refine TC.seq ?_
  refine TC.region ?_
  refine TL.pure (PV.move rfl) rfl (by decide) ?_
  refine TL.pure (PV.neqI rfl rfl) rfl (by decide) ?_
  refine TL.pure (PV.move rfl) rfl (by decide) ?_
  refine TL.pure (PV.move rfl) rfl (by decide) ?_
  refine TL.pure (PV.neqI rfl rfl) rfl (by decide) ?_
  refine TL.pure (PV.pickF rfl rfl) rfl (by decide) ?_
  refine TL.pure (PV.move rfl) rfl (by decide) ?_
  refine TL.pure (PV.move rfl) rfl (by decide) ?_
  refine TL.pure (PV.move rfl) rfl (by decide) ?_
  refine TL.pure (PV.neqI (i := ((Mo.en m S : Nat) : Int)) (by show some _ = some _; rw [hee.1]) rfl) rfl (by decide) ?_
  refine TL.pure (PV.pickF rfl rfl) rfl (by decide) ?_
  refine TL.pure (PV.move rfl) rfl (by decide) ?_
  refine TL.pure (PV.move rfl) rfl (by decide) ?_
  refine TL.pure (PV.neqI (i := 0) (by show some _ = some _; rw [hee.2]; rfl) rfl) rfl (by decide) ?_
  refine TL.pure (PV.pickF rfl rfl) rfl (by decide) ?_
  refine TL.pure (PV.move rfl) rfl (by decide) ?_
  refine TL.pure (PV.move rfl) rfl (by decide) ?_
  refine TL.pure (PV.move rfl) rfl (by decide) ?_
  refine TL.pure (PV.andK rfl rfl ((i64_and_nat hen63 hS63).trans (by rw [ha1]))) rfl (by decide) ?_
  refine TL.pure (PV.move rfl) rfl (by decide) ?_
  refine TL.pure (PV.neqI rfl rfl) rfl (by decide) ?_
  refine TL.pure (PV.pickF rfl rfl) rfl (by decide) ?_
  refine TL.pure (PV.move rfl) rfl (by decide) ?_
  refine TL.pure (PV.move rfl) rfl (by decide) ?_
  refine TL.pure (PV.move rfl) rfl (by decide) ?_
  refine TL.pure (PV.andK rfl rfl ((i64_and_nat henO hen63).trans (by rw [ha2]))) rfl (by decide) ?_
  refine TL.pure (PV.move rfl) rfl (by decide) ?_
  refine TL.pure (PV.neqI rfl rfl) rfl (by decide) ?_
  refine TL.pure (PV.pickF rfl rfl) rfl (by decide) ?_
  refine TL.pure (PV.move rfl) rfl (by decide) ?_
  refine TL.pure (PV.move rfl) rfl (by decide) ?_
  refine TL.pure (PV.move rfl) rfl (by decide) ?_
  refine TL.pure (PV.andK rfl rfl ((i64_and_nat henO henT).trans (by rw [ha3]))) rfl (by decide) ?_
  refine TL.pure (PV.move rfl) rfl (by decide) ?_
  refine TL.pure (PV.neqI rfl rfl) rfl (by decide) ?_
  refine TL.pure (PV.pickF rfl rfl) rfl (by decide) ?_
  refine TL.nil ?_
  refine TQ.thenC ?_
  refine TC.condF rfl ?_
  refine TC.skip ?_
  refine TQ.thenC ?_
  refine TC.seq ?_
  refine TC.region ?_
  refine TL.pure (PV.fieldAddr rfl Tb.fo_23_2) rfl (by decide) ?_
  refine TL.pure (PV.load rfl Tb.one_3 (by repeat (first | exact List.Mem.head _ | refine List.Mem.tail _ ?_ | refine List.mem_append_right _ ?_)) rfl) rfl (by decide) ?_
  refine TL.pure (PV.add rfl rfl (by omega)) rfl (by decide) ?_
  refine TL.pure (PV.fieldAddr rfl Tb.fo_23_2) rfl (by decide) ?_
  refine TL.store (cs := #[.int .i64 m.R, .int .i64 m.C, .int .i64 m.K]) rfl rfl Tb.cells_3 rfl (by repeat (first | exact Upd.head _ | apply Upd.tail | apply Upd.appR)) (by show 2 < 3; decide) rfl rfl ?_
  refine TL.nil ?_
  refine TQ.thenC ?_
  refine TC.seq ?_
  refine TC.region ?_
  refine TL.pure (PV.loadBox rfl Tb.agg_23 (by repeat (first | exact List.Mem.head _ | refine List.Mem.tail _ ?_ | refine List.mem_append_right _ ?_)) rfl) rfl (by decide) ?_
  refine TL.pure (PV.move rfl) rfl (by decide) ?_
  refine TL.call rfl Tb.gofn_25 (fun a w hs => need_ok (ht.new hs.new) ho hS) rfl (by decide) (fun z9 hz9 => ?_)
  refine TL.pure (PV.move rfl) rfl (by decide) ?_
  refine TL.pure (PV.extract rfl rfl) rfl (by decide) ?_
  refine TL.pure (PV.extract rfl rfl) rfl (by decide) ?_
  refine TL.pure (PV.extract rfl rfl) rfl (by decide) ?_
  refine TL.pure (PV.assign rfl) rfl (by decide) ?_
  refine TL.pure (PV.assign rfl) rfl (by decide) ?_
  refine TL.pure (PV.assign rfl) rfl (by decide) ?_
  refine TL.nil ?_
  refine TQ.thenC ?_
  refine TC.seq ?_
  refine TC.region ?_
  refine TL.pure (PV.move rfl) rfl (by decide) ?_
  refine TL.pure (PV.neq rfl rfl) rfl (by decide) ?_
  refine TL.pure (PV.move rfl) rfl (by decide) ?_
  first | refine TL.splitD 108 rfl (fun hie => ?_) (fun hie => ?_) | refine TL.split 108 rfl (fun hie => ?_) (fun hie => ?_)
  · skip
    refine TL.skip rfl (fun k hk => by cases hk; decide) ?_
    refine TL.skip rfl (fun k hk => by cases hk; decide) ?_
    refine TL.skip rfl (fun k hk => by cases hk; decide) ?_
    refine TL.skip rfl (fun k hk => by cases hk; decide) ?_
    refine TL.skip rfl (fun k hk => by cases hk; decide) ?_
    refine TL.pure (PV.pickT rfl rfl) rfl (by decide) ?_
    refine TL.pure (PV.move rfl) rfl (by decide) ?_
    refine TL.call rfl Tb.gofn_22 (fun a w hs => sane_ok w (ht.new hs.new)) rfl (by decide) (fun _ _ => ?_)
    refine TL.pure (PV.pickT rfl rfl) rfl (by decide) ?_
    refine TL.pure (PV.assign rfl) rfl (by decide) ?_
    refine TL.nil ?_
    refine TQ.thenC ?_
    refine TC.ret ?_
    refine TQ.retE1 rfl rfl ?_
    exact ⟨(), rfl, trivial, List.nil_sublist _⟩
  · skip
    refine TL.pure (PV.move rfl) rfl (by decide) ?_
    refine TL.pure (PV.move rfl) rfl (by decide) ?_
    refine TL.pure (PV.andK rfl rfl (i64_and_nat hz9.1 hen63)) rfl (by decide) ?_
    refine TL.pure (PV.move rfl) rfl (by decide) ?_
    refine TL.pure (PV.eqlI (i := z9.1) (by show some _ = some _; rw [sub_and (hz9.2 (by omega))]) rfl) rfl (by decide) ?_
    refine TL.pure (PV.pickF rfl rfl) rfl (by decide) ?_
    refine TL.pure (PV.move rfl) rfl (by decide) ?_
    refine TL.call rfl Tb.gofn_22 (fun a w hs => sane_ok w (ht.new hs.new)) rfl (by decide) (fun _ _ => ?_)
    refine TL.pure (PV.pickT rfl rfl) rfl (by decide) ?_
    refine TL.pure (PV.assign rfl) rfl (by decide) ?_
    refine TL.nil ?_
    refine TQ.thenC ?_
    refine TC.ret ?_
    refine TQ.retE1 rfl rfl ?_
    exact ⟨(), rfl, trivial, List.nil_sublist _⟩

set_option maxRecDepth 100000 in
theorem mossGrows_n (w0 : World) (ht : TzAt w0) (r c k w9 u9 : Int) (hne : ¬ (gI r c k w9 = 0 ∧ gI r c k u9 = 0)) :
    Calls Tryd.prog 6 #[.agg #[.int .i64 r, .int .i64 c, .int .i64 k], .int .i64 w9, .int .i64 u9] w0 (Post (X := Unit) (fun _ => .bool true) (fun _ => True) (fun _ => []) w0) := by
  refine calls Tryd.func6 rfl (n := 118) rfl (by simp) ?_
  refine TC.seq ?_
  refine TC.region ?_
  refine TL.box rfl rfl (by decide) (fun b0 hb0 => ?_)
  refine TL.pure (PV.assign rfl) rfl (by decide) ?_
  refine TL.nil ?_
  refine TQ.thenC ?_
  refine TC.seq ?_
  refine TC.region ?_
  refine TL.pure (PV.loadBox rfl Tb.agg_23 (by repeat (first | exact List.Mem.head _ | refine List.Mem.tail _ ?_ | refine List.mem_append_right _ ?_)) rfl) rfl (by decide) ?_
  refine TL.pure (PV.move rfl) rfl (by decide) ?_
  refine TL.call rfl Tb.gofn_25 (fun a w hs => Spread_ok w (ht.new hs.new) _ _ _ _) rfl (by decide) (fun _ _ => ?_)
  refine TL.pure (PV.move rfl) rfl (by decide) ?_
  refine TL.pure (PV.extract rfl rfl) rfl (by decide) ?_
  refine TL.pure (PV.extract rfl rfl) rfl (by decide) ?_
  refine TL.pure (PV.extract rfl rfl) rfl (by decide) ?_
  refine TL.pure (PV.assign rfl) rfl (by decide) ?_
  refine TL.pure (PV.assign rfl) rfl (by decide) ?_
  refine TL.pure (PV.assign rfl) rfl (by decide) ?_
  refine TL.nil ?_
  refine TQ.thenC ?_
  refine TC.seq ?_
  refine TC.region ?_
  refine TL.pure (PV.loadBox rfl Tb.agg_23 (by repeat (first | exact List.Mem.head _ | refine List.Mem.tail _ ?_ | refine List.mem_append_right _ ?_)) rfl) rfl (by decide) ?_
  refine TL.pure (PV.move rfl) rfl (by decide) ?_
  refine TL.call rfl Tb.gofn_25 (fun a w hs => Spread_ok w (ht.new hs.new) _ _ _ _) rfl (by decide) (fun _ _ => ?_)
  refine TL.pure (PV.move rfl) rfl (by decide) ?_
  refine TL.pure (PV.extract rfl rfl) rfl (by decide) ?_
  refine TL.pure (PV.extract rfl rfl) rfl (by decide) ?_
  refine TL.pure (PV.extract rfl rfl) rfl (by decide) ?_
  refine TL.pure (PV.assign rfl) rfl (by decide) ?_
  refine TL.pure (PV.assign rfl) rfl (by decide) ?_
  refine TL.pure (PV.assign rfl) rfl (by decide) ?_
  refine TL.nil ?_
  refine TQ.thenC ?_
  refine TC.seq ?_
  refine TC.seq ?_
  refine TC.region ?_
  refine TL.pure (PV.move rfl) rfl (by decide) ?_
  refine TL.pure (PV.neq rfl rfl) rfl (by decide) ?_
  refine TL.pure (PV.move rfl) rfl (by decide) ?_
  first | refine TL.splitD 38 rfl (fun h1 => ?_) (fun h1 => ?_) | refine TL.split 38 rfl (fun h1 => ?_) (fun h1 => ?_)
  · skip
    refine TL.skip rfl (fun k hk => by cases hk; decide) ?_
    refine TL.skip rfl (fun k hk => by cases hk; decide) ?_
    refine TL.pure (PV.pickT rfl rfl) rfl (by decide) ?_
    refine TL.nil ?_
    refine TQ.thenC ?_
    refine TC.condT rfl ?_
    refine TC.seq ?_
    refine TC.region ?_
    refine TL.call rfl Tb.gofn_22 (fun a w hs => sane_ok w (ht.new hs.new)) rfl (by decide) (fun _ _ => ?_)
    refine TL.pure (PV.assign rfl) rfl (by decide) ?_
    refine TL.nil ?_
    refine TQ.thenC ?_
    refine TC.ret ?_
    refine TQ.thenR ?_
    refine TQ.retE1 rfl rfl ?_
    exact ⟨(), rfl, trivial, List.nil_sublist _⟩
  · skip
    refine TL.pure (PV.move rfl) rfl (by decide) ?_
    refine TL.pure (PV.neq rfl rfl) rfl (by decide) ?_
    refine TL.pure (PV.pickF rfl rfl) rfl (by decide) ?_
    refine TL.nil ?_
    refine TQ.thenC ?_
    first | refine TC.condD rfl (fun h2 => ?_) (fun h2 => ?_) | refine TC.cond rfl (fun h2 => ?_) (fun h2 => ?_)
    · skip
      refine TC.seq ?_
      refine TC.region ?_
      refine TL.call rfl Tb.gofn_22 (fun a w hs => sane_ok w (ht.new hs.new)) rfl (by decide) (fun _ _ => ?_)
      refine TL.pure (PV.assign rfl) rfl (by decide) ?_
      refine TL.nil ?_
      refine TQ.thenC ?_
      refine TC.ret ?_
      refine TQ.thenR ?_
      refine TQ.retE1 rfl rfl ?_
      exact ⟨(), rfl, trivial, List.nil_sublist _⟩
    · skip
      exact absurd ⟨by omega, by omega⟩ hne

end Go.Proofs.YtaeobkgogipceaaDoor
