/- Books of orders: contracts. -/
import Derived.Test.YtbnjmkidbfmomaaGreatDoorQBB
import Derived.Test.YtbnjmkidbfmomaaGreatDoorQWa
import Derived.Test.YtbnjmkidbfmomaaGreatDoorQSd
set_option linter.unusedVariables false
set_option linter.unusedSimpArgs false
namespace Go.Proofs.YtbnjmkidbfmomaaGreatDoor
open Go.Sx Go.RowKit Go.Bt Go.Lib Go.Sand

/-- An order that the document allows. -/
def rightS (s : List UInt8) : Bool := decide (1 ≤ s.length ∧ s.length ≤ 40 ∧ (10 : UInt8) ∉ s)
theorem dI_len {i : Int} (h : 0 ≤ i) (h2 : i < 1000003) : (dI i).length ≤ 7 := itoa_len h h2
def pageL (dg : Int → List UInt8) (sum : Int) (s : List UInt8) : List UInt8 := dg sum ++ [32] ++ s ++ [10]
def bookF (dg : Int → List UInt8) (x : Int × List UInt8) (s : List UInt8) : Int × List UInt8 := (smV x.1 s, x.2 ++ pageL dg (smV x.1 s) s)
def bookL (dg : Int → List UInt8) (L : List (List UInt8)) : Int × List UInt8 := L.foldl (bookF dg) (0, [])
theorem bookL_next {dg : Int → List UInt8} {L : List (List UInt8)} {k : Nat} (hk : k < L.length) : bookL dg (L.take (k + 1)) = bookF dg (bookL dg (L.take k)) (L.getD k []) := by
  unfold bookL
  rw [List.take_succ_eq_append_getElem hk, List.foldl_append]
  simp [List.getD, hk]
theorem bookL_bd {dg : Int → List UInt8} (L : List (List UInt8)) : 0 ≤ (bookL dg L).1 ∧ (bookL dg L).1 < 1000003 := by
  rcases List.eq_nil_or_concat L with h | ⟨M, c, h⟩
  · subst h; exact ⟨Int.le_refl (0 : Int), show (0 : Int) < 1000003 by decide⟩
  · subst h
    unfold bookL
    rw [List.concat_eq_append, List.foldl_append]
    exact smV_bd _ _
theorem right_end {L : List UInt8} {k : Nat} {b : Bool} (h : ∀ j, j < k → L.getD j 0 ≠ 10) (hk : k = L.length) (hb : b = decide (1 ≤ L.length ∧ L.length ≤ 40)) : b = rightS L := by
  have hn : (10 : UInt8) ∉ L := fun hm => by
    obtain ⟨j, hj, e⟩ := List.getElem_of_mem hm
    exact h j (by omega) (by simp [List.getD, hj, e])
  rw [hb]
  unfold rightS
  exact decide_eq_decide.2 ⟨fun h9 => ⟨h9.1, h9.2, hn⟩, fun h9 => ⟨h9.1, h9.2.1⟩⟩
section
variable {P : Program} {n : Nat} {w0 : World} {E : Env} {G : Heap} {d : Option Nat} {ty : TypeId} {pos : String} {aft : Array Edge} {g : Option (Nat × Bool)}
theorem PV.eqlK {k : IntKind} {x y : Operand} {i j : Int} {t t' : TypeId} (hx : evo E x = some (.int k i)) (hy : evo E y = some (.int k j)) : PV P n w0 E G ⟨d, .binOp .eql t x y t', ty, pos, aft, g⟩ (.bool (decide (i = j))) :=
  fun a w hs => by simp only [execOp, hs.ev hx, hs.ev hy]; cases k <;> (simp [go_sem]; rw [Bool.eq_iff_iff]; simp)
theorem PV.eqlU8 {x : Operand} {c : UInt8} {t t' : TypeId} {z : Value} (hx : evo E x = some (.int .u8 (c.toNat : Int))) (hz : z = .int .u8 10) : PV P n w0 E G ⟨d, .binOp .eql t x (.const z) t', ty, pos, aft, g⟩ (.bool (decide (c = 10))) := by
  subst hz
  have h := PV.eqlK (P := P) (n := n) (w0 := w0) (G := G) (d := d) (t := t) (t' := t') (ty := ty) (pos := pos) (aft := aft) (g := g) hx (show evo E (.const (.int .u8 10)) = some (.int .u8 10) from rfl)
  have e : decide ((c.toNat : Int) = 10) = decide (c = 10) := decide_eq_decide.2 ⟨fun h => UInt8.toNat_inj.1 (by show c.toNat = 10; omega), fun h => by subst h; rfl⟩
  rwa [e] at h
end
set_option maxRecDepth 100000 in
theorem Right_ok (w0 : World) (L : List UInt8) (hl : L.length ≤ 1000000) :
    Calls Tryz.prog 83 #[str L] w0 (Post (X := Unit) (fun _ => .bool (rightS L)) (fun _ => True) (fun _ => []) w0) := by
  refine calls Tryz.func83 rfl (n := 22) rfl (by simp) ?_
  refine TC.seq ?_
  refine TC.region ?_
  refine TL.pure (PV.assign rfl) rfl (by decide) ?_
  refine TL.nil ?_
  refine TQ.thenC ?_
  refine TC.seq ?_
  refine TC.seq ?_
  refine TC.region ?_
  refine TL.pure (PV.assign rfl) rfl (by decide) ?_
  refine TL.nil ?_
  refine TQ.thenC ?_
  refine TC.block ?_
  -- live and written in the loop, not told: [2]
  refine TC.loopK [0] (X := Nat) (fun k => k ≤ L.length ∧ ∀ j, j < k → L.getD j 0 ≠ 10) (fun k => [(3, .int .i64 (k : Nat))]) (fun k => []) (fun k => L.length - k) 0 ⟨Nat.zero_le _, fun j hj => absurd hj (Nat.not_lt_zero _)⟩ (by repeat (first | exact True.intro | refine And.intro rfl ?_)) (by repeat (first | exact .slnil | exact List.nil_sublist _ | exact .refl _ | refine .cons_cons _ ?_ | refine .cons _ ?_ | refine .trans ?_ (List.sublist_append_right _ _))) ?_
  intro k hk
  have hk1 := hk.1
  refine TC.seq ?_
  refine TC.seq ?_
  refine TC.region ?_
  refine TL.pure (PV.move rfl) rfl (by decide) ?_
  refine TL.pure (PV.move rfl) rfl (by decide) ?_
  refine TL.pure (PV.lenS rfl Tb.str_9) rfl (by decide) ?_
  refine TL.pure (PV.lss rfl rfl) rfl (by decide) ?_
  refine TL.nil ?_
  refine TQ.thenC ?_
  first | refine TC.condD rfl (fun hlt => ?_) (fun hlt => ?_) | refine TC.cond rfl (fun hlt => ?_) (fun hlt => ?_)
  · refine TC.skip ?_
    refine TQ.thenC ?_
    refine TC.seq ?_
    refine TC.block ?_
    refine TC.seq ?_
    have hk9 : k < L.length := by omega
    refine TC.region ?_
    refine TL.pure (PV.move rfl) rfl (by decide) ?_
    refine TL.pure (PV.move rfl) rfl (by decide) ?_
    refine TL.pure (PV.indexS (j := k) rfl rfl Tb.str_9 rfl hk9) rfl (by decide) ?_
    refine TL.pure (PV.eqlU8 rfl rfl) rfl (by decide) ?_
    refine TL.nil ?_
    refine TQ.thenC ?_
    first | refine TC.condD rfl (fun hnl => ?_) (fun hnl => ?_) | refine TC.cond rfl (fun hnl => ?_) (fun hnl => ?_)
    · refine TC.seq ?_
      refine TC.region ?_
      refine TL.pure (PV.assign rfl) rfl (by decide) ?_
      refine TL.nil ?_
      refine TQ.thenC ?_
      refine TC.ret ?_
      refine TQ.blkR ?_
      refine TQ.thenR ?_
      refine TQ.thenR ?_
      refine TQ.blkR ?_
      refine TQ.thenR ?_
      refine TQ.retE1 rfl rfl ?_
      exact ⟨(), by unfold rightS; rw [decide_eq_false (fun h => h.2.2 (by rw [← hnl]; simp [List.getD, hk9]))], trivial, List.nil_sublist _⟩
    · refine TC.skip ?_
      refine TQ.blkN ?_
      refine TQ.thenC ?_
      refine TC.region ?_
      refine TL.pure (PV.move rfl) rfl (by decide) ?_
      refine TL.pure (PV.add rfl rfl (by omega)) rfl (by decide) ?_
      refine TL.pure (PV.assign rfl) rfl (by decide) ?_
      refine TL.nil ?_
      refine TQ.thenN ?_
      refine TQ.backK (k + 1) (by repeat (first | exact True.intro | refine And.intro rfl ?_)) (by repeat (first | exact True.intro | refine And.intro rfl ?_)) (by repeat (first | exact .slnil | exact List.nil_sublist _ | exact .refl _ | refine .cons_cons _ ?_ | refine .cons _ ?_ | refine .trans ?_ (List.sublist_append_right _ _))) ⟨by omega, fun j hj => if e : j < k then hk.2 j e else (show k = j by omega) ▸ hnl⟩ (by omega)
  · refine TC.exit ?_
    refine TQ.thenE ?_
    refine TQ.thenE ?_
    refine TQ.blkS ?_
    refine TQ.thenC ?_
    refine TC.seq ?_
    have hke : k = L.length := by omega
    refine TC.region ?_
    refine TL.pure (PV.move rfl) rfl (by decide) ?_
    refine TL.pure (PV.lenS rfl Tb.str_9) rfl (by decide) ?_
    refine TL.pure (PV.geq rfl rfl) rfl (by decide) ?_
    refine TL.pure (PV.move rfl) rfl (by decide) ?_
    first | refine TL.splitD 17 rfl (fun h2 => ?_) (fun h2 => ?_) | refine TL.split 17 rfl (fun h2 => ?_) (fun h2 => ?_)
    · refine TL.pure (PV.move rfl) rfl (by decide) ?_
      refine TL.pure (PV.lenS rfl Tb.str_9) rfl (by decide) ?_
      refine TL.pure (PV.leq rfl rfl) rfl (by decide) ?_
      refine TL.pure (PV.pickT rfl rfl) rfl (by decide) ?_
      refine TL.pure (PV.assign rfl) rfl (by decide) ?_
      refine TL.nil ?_
      refine TQ.thenC ?_
      refine TC.ret ?_
      refine TQ.retE1 rfl rfl ?_
      exact ⟨(), congrArg Value.bool (right_end hk.2 hke (by first | exact decide_eq_decide.2 (by omega) | (symm; exact decide_eq_false (by omega)))), trivial, List.nil_sublist _⟩
    · refine TL.skip rfl (fun k hk => by cases hk; decide) ?_
      refine TL.skip rfl (fun k hk => by cases hk; decide) ?_
      refine TL.skip rfl (fun k hk => by cases hk; decide) ?_
      refine TL.pure (PV.pickF rfl rfl) rfl (by decide) ?_
      refine TL.pure (PV.assign rfl) rfl (by decide) ?_
      refine TL.nil ?_
      refine TQ.thenC ?_
      refine TC.ret ?_
      refine TQ.retE1 rfl rfl ?_
      exact ⟨(), congrArg Value.bool (right_end hk.2 hke (by first | exact decide_eq_decide.2 (by omega) | (symm; exact decide_eq_false (by omega)))), trivial, List.nil_sublist _⟩

set_option maxRecDepth 100000 in
theorem page_ok (w0 : World) (hW : WAt w0) (i : Int) (hi : 0 ≤ i ∧ i < 1000003) (L : List UInt8) (hl : L.length ≤ 1000000) :
    Calls Tryz.prog 82 #[.int .i64 i, str L] w0 (Post (X := Unit) (fun _ => str (pageL dI i L)) (fun _ => True) (fun _ => []) w0) := by
  have hd := dI_len hi.1 hi.2
  refine calls Tryz.func82 rfl (n := 11) rfl (by simp) ?_
  refine TC.seq ?_
  refine TC.region ?_
  refine TL.pure (PV.assign rfl) rfl (by decide) ?_
  refine TL.nil ?_
  refine TQ.thenC ?_
  refine TC.seq ?_
  refine TC.region ?_
  refine TL.pure (PV.move rfl) rfl (by decide) ?_
  refine TL.call rfl Tb.gofn_78 (fun a w hs => itoa_ok w (hW.new hs.new) i (by omega) (by omega)) rfl (by decide) (fun _ _ => ?_)
  refine TL.pure (PV.addS (M := [32]) rfl rfl (by simp only [List.length_cons, List.length_nil]; omega)) rfl (by decide) ?_
  refine TL.pure (PV.move rfl) rfl (by decide) ?_
  refine TL.pure (PV.addS rfl rfl (by simp only [List.length_append, List.length_cons, List.length_nil]; omega)) rfl (by decide) ?_
  refine TL.pure (PV.addS (M := [10]) rfl rfl (by simp only [List.length_append, List.length_cons, List.length_nil]; omega)) rfl (by decide) ?_
  refine TL.pure (PV.assign rfl) rfl (by decide) ?_
  refine TL.nil ?_
  refine TQ.thenC ?_
  refine TC.ret ?_
  refine TQ.retE1 rfl rfl ?_
  exact ⟨(), rfl, trivial, List.nil_sublist _⟩

set_option maxRecDepth 100000 in
theorem bookOf_ok (w0 : World) (hW : WAt w0) (p : Option Addr) (c : Nat) (L : List (List UInt8)) (hL : StrsAt w0 p L) (h300 : L.length ≤ 300) (hs : ∀ j, (L.getD j []).length ≤ 400) :
    Calls Tryz.prog 68 #[.slice p L.length c] w0 (Post (X := Unit) (fun _ => str (bookL dI L).2) (fun _ => True) (fun _ => []) w0) := by
  have hs9 := hs
  clear hs
  refine calls Tryz.func68 rfl (n := 23) rfl (by simp) ?_
  refine TC.seq ?_
  refine TC.region ?_
  refine TL.pure (PV.assign rfl) rfl (by decide) ?_
  refine TL.nil ?_
  refine TQ.thenC ?_
  refine TC.seq ?_
  refine TC.region ?_
  refine TL.pure (PV.assign rfl) rfl (by decide) ?_
  refine TL.pure (PV.assign rfl) rfl (by decide) ?_
  refine TL.nil ?_
  refine TQ.thenC ?_
  refine TC.seq ?_
  refine TC.seq ?_
  refine TC.region ?_
  refine TL.pure (PV.move rfl) rfl (by decide) ?_
  refine TL.pure (PV.len rfl Tb.sl_43) rfl (by decide) ?_
  refine TL.pure (PV.move rfl) rfl (by decide) ?_
  refine TL.nil ?_
  refine TQ.thenC ?_
  refine TC.block ?_
  refine TC.loopK [2, 7, 8] (X := Nat) (fun k => k ≤ L.length ∧ (bookL dI (L.take k)).2.length ≤ 500 * k) (fun k => [(9, .int .i64 (k : Nat)), (4, .int .i64 (bookL dI (L.take k)).1), (3, str (bookL dI (L.take k)).2)]) (fun k => []) (fun k => L.length - k) 0 ⟨Nat.zero_le _, Nat.zero_le _⟩ (by exact ⟨rfl, rfl, rfl, trivial⟩) (by repeat (first | exact .slnil | exact List.nil_sublist _ | exact .refl _ | refine .cons_cons _ ?_ | refine .cons _ ?_ | refine .trans ?_ (List.sublist_append_right _ _))) ?_
  intro k hk
  have hk1 := hk.1
  refine TC.seq ?_
  refine TC.region ?_
  refine TL.pure (PV.lss rfl rfl) rfl (by decide) ?_
  refine TL.nil ?_
  refine TQ.thenC ?_
  refine TC.seq ?_
  first | refine TC.condD rfl (fun hlt => ?_) (fun hlt => ?_) | refine TC.cond rfl (fun hlt => ?_) (fun hlt => ?_)
  · refine TC.skip ?_
    refine TQ.thenC ?_
    refine TC.seq ?_
    refine TC.block ?_
    refine TC.seq ?_
    obtain ⟨q, qp, qv⟩ := hL k (by omega)
    refine TC.region ?_
    refine TL.pure (PV.indexA rfl qp rfl Tb.elm_43 rfl (by omega)) rfl (by decide) ?_
    refine TL.pure (PV.loadOld rfl Tb.one_9 qv) rfl (by decide) ?_
    refine TL.pure (PV.assign rfl) rfl (by decide) ?_
    refine TL.nil ?_
    refine TQ.thenC ?_
    refine TC.seq ?_
    refine TC.region ?_
    refine TL.pure (PV.move rfl) rfl (by decide) ?_
    refine TL.pure (PV.move rfl) rfl (by decide) ?_
    refine TL.call rfl Tb.gofn_46 (fun a w hs => Sum_ok w (bookL dI (L.take k)).1 (by have := bookL_bd (dg := dI) (L.take k); omega) (L.getD k []) (by have := hs9 k; omega)) rfl (by decide) (fun _ _ => ?_)
    refine TL.pure (PV.assign rfl) rfl (by decide) ?_
    refine TL.nil ?_
    refine TQ.thenC ?_
    refine TC.region ?_
    refine TL.pure (PV.move rfl) rfl (by decide) ?_
    refine TL.pure (PV.move rfl) rfl (by decide) ?_
    refine TL.pure (PV.move rfl) rfl (by decide) ?_
    refine TL.call rfl Tb.gofn_82 (fun a w hs => page_ok w (hW.new hs.new) _ (smV_bd _ _) (L.getD k []) (by have := hs9 k; omega)) rfl (by decide) (fun _ _ => ?_)
    refine TL.pure (PV.addS rfl rfl (by have h1 := hk.2; have h2 := dI_len (smV_bd (bookL dI (L.take k)).1 (L.getD k [])).1 (smV_bd _ _).2; have h3 := hs9 k; unfold pageL; simp only [List.length_append, List.length_cons, List.length_nil]; omega)) rfl (by decide) ?_
    refine TL.pure (PV.assign rfl) rfl (by decide) ?_
    refine TL.nil ?_
    refine TQ.blkN ?_
    refine TQ.thenC ?_
    have hnx := bookL_next (dg := dI) (show k < L.length by omega)
    refine TC.region ?_
    refine TL.pure (PV.add rfl rfl (by omega)) rfl (by decide) ?_
    refine TL.pure (PV.move rfl) rfl (by decide) ?_
    refine TL.nil ?_
    refine TQ.thenN ?_
    refine TQ.backK (k + 1) (by rw [hnx]; exact ⟨rfl, rfl, rfl, trivial⟩) (by repeat (first | exact True.intro | refine And.intro rfl ?_)) (by repeat (first | exact .slnil | exact List.nil_sublist _ | exact .refl _ | refine .cons_cons _ ?_ | refine .cons _ ?_ | refine .trans ?_ (List.sublist_append_right _ _))) ⟨by omega, by rw [hnx]; have h1 := hk.2; have h2 := dI_len (smV_bd (bookL dI (L.take k)).1 (L.getD k [])).1 (smV_bd _ _).2; have h3 := hs9 k; unfold bookF pageL; simp only [List.length_append, List.length_cons, List.length_nil]; omega⟩ (by omega)
  · refine TC.exit ?_
    refine TQ.thenE ?_
    refine TQ.thenE ?_
    refine TQ.blkS ?_
    refine TQ.thenC ?_
    refine TC.seq ?_
    have hke : k = L.length := by omega
    refine TC.region ?_
    refine TL.pure (PV.move rfl) rfl (by decide) ?_
    refine TL.pure (PV.assign rfl) rfl (by decide) ?_
    refine TL.nil ?_
    refine TQ.thenC ?_
    refine TC.ret ?_
    refine TQ.retE1 rfl rfl ?_
    exact ⟨(), by rw [hke, List.take_length], trivial, List.nil_sublist _⟩

end Go.Proofs.YtbnjmkidbfmomaaGreatDoor
