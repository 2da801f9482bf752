/- No bounds: what is done with an empty list: contracts. -/
import Derived.Test.YtenalmddoljhoaaVP
import Derived.Test.YtenalmddoljhoaaLay3
import Derived.Shelf.Small.Bits
set_option linter.unusedVariables false
set_option linter.unusedSimpArgs false
namespace Go.Proofs.Ytenalmddoljhoaa
open Go.Sx Go.RowKit

theorem bits_ok (w : World) : Calls Try.prog 100 #[.int .u64 0] w (Post (X := Int) (fun i => .int .i64 i) (fun _ => True) (fun _ => []) w) :=
  (Any.bits_Len Try.bitsLen 0 w (by omega) (by omega)).mono fun _ _ ⟨he, hw⟩ => ⟨_, he, trivial, by rw [hw]; exact New.refl w⟩
theorem PV.conv0 {n : Nat} {w0 : World} {E : Env} {G : Heap} {d : Option Nat} {ty : TypeId} {pos : String} {aft : Array Edge} {g : Option (Nat × Bool)} {x : Operand} (hx : evo E x = some (.int .i64 0)) : PV Try.prog n w0 E G ⟨d, .convert 3 118 x, ty, pos, aft, g⟩ (.int .u64 0) :=
  fun a w hs => by
    simp only [execOp, hs.ev hx]
    kernel_rfl


set_option maxRecDepth 100000 in
theorem ins_nil (w0 : World) :
    Calls Try.prog 103 #[.slice none 0 0, .int .i64 0, .int .i64 0, .func (.func 96) #[] #[]] w0 (Post (X := Unit) (fun _ => .tuple #[]) (fun _ => True) (fun _ => []) w0) := by
  refine calls Try.func103 rfl (n := 53) rfl (by simp) ?_
  refine TC.seq ?_
  refine TC.region ?_
  refine TL.pure (PV.move rfl) rfl (by decide) ?_
  refine TL.pure (PV.add rfl rfl (by omega)) rfl (by decide) ?_
  refine TL.pure (PV.assign rfl) rfl (by decide) ?_
  refine TL.nil ?_
  refine TQ.thenC ?_
  refine TC.block ?_
  refine TC.loopG [0, 1, 2, 3] (X := Nat) (fun k => k = 1) (fun k => [(8, .int .i64 k)]) (fun k => 0) 1 rfl (by repeat (first | exact True.intro | refine And.intro rfl ?_)) ?_
  intro k hk
  subst hk
  refine TC.seq ?_
  refine TC.seq ?_
  refine TC.region ?_
  refine TL.pure (PV.move rfl) rfl (by decide) ?_
  refine TL.pure (PV.move rfl) rfl (by decide) ?_
  refine TL.pure (PV.lss rfl rfl) rfl (by decide) ?_
  refine TL.nil ?_
  refine TQ.thenC ?_
  first | refine TC.condD rfl (fun hlt => ?_) (fun hlt => ?_) | refine TC.cond rfl (fun hlt => ?_) (fun hlt => ?_)
  · skip
    exact absurd hlt (by omega)
  · skip
    refine TC.exit ?_
    refine TQ.thenE ?_
    refine TQ.thenE ?_
    refine TQ.blkS ?_
    refine TQ.retN rfl (Res.nil) ?_
    simp only [tup]
    exact ⟨(), by first | rfl | trivial, trivial, List.nil_sublist _⟩

set_option maxRecDepth 100000 in
theorem pdq_nil (w0 : World) (i : Int) :
    Calls Try.prog 99 #[.slice none 0 0, .int .i64 0, .int .i64 0, .int .i64 i, .func (.func 96) #[] #[]] w0 (Post (X := Unit) (fun _ => .tuple #[]) (fun _ => True) (fun _ => []) w0) := by
  refine calls Try.func99 rfl (n := 148) rfl (by simp) ?_
  refine TC.seq ?_
  refine TC.region ?_
  refine TL.pure (PV.assign rfl) rfl (by decide) ?_
  refine TL.nil ?_
  refine TQ.thenC ?_
  refine TC.seq ?_
  refine TC.region ?_
  refine TL.pure (PV.assign rfl) rfl (by decide) ?_
  refine TL.nil ?_
  refine TQ.thenC ?_
  refine TC.block ?_
  refine TC.loopG [0, 4] (X := Nat) (fun k => True) (fun k => [(1, .int .i64 0), (2, .int .i64 0), (3, .int .i64 i), (10, .bool true), (11, .bool true)]) (fun k => 0) 0 trivial (by repeat (first | exact True.intro | refine And.intro rfl ?_)) ?_
  intro k hk
  refine TC.block ?_
  refine TC.seq ?_
  refine TC.region ?_
  refine TL.pure (PV.move rfl) rfl (by decide) ?_
  refine TL.pure (PV.move rfl) rfl (by decide) ?_
  refine TL.pure (PV.sub rfl rfl (by omega)) rfl (by decide) ?_
  refine TL.pure (PV.assign rfl) rfl (by decide) ?_
  refine TL.nil ?_
  refine TQ.thenC ?_
  refine TC.seq ?_
  refine TC.seq ?_
  refine TC.region ?_
  refine TL.pure (PV.move rfl) rfl (by decide) ?_
  refine TL.pure (PV.leq rfl rfl) rfl (by decide) ?_
  refine TL.nil ?_
  refine TQ.thenC ?_
  first | refine TC.condD rfl (fun hlt => ?_) (fun hlt => ?_) | refine TC.cond rfl (fun hlt => ?_) (fun hlt => ?_)
  · skip
    refine TC.seq ?_
    refine TC.region ?_
    refine TL.pure (PV.move rfl) rfl (by decide) ?_
    refine TL.pure (PV.move rfl) rfl (by decide) ?_
    refine TL.pure (PV.move rfl) rfl (by decide) ?_
    refine TL.pure (PV.move rfl) rfl (by decide) ?_
    refine TL.call rfl Tb.gofn_103 (fun a w hs => ins_nil w) rfl (by decide) (fun _ _ => ?_)
    refine TL.nil ?_
    refine TQ.thenC ?_
    refine TC.ret ?_
    refine TQ.thenR ?_
    refine TQ.blkR ?_
    refine TQ.thenR ?_
    refine TQ.blkR ?_
    refine TQ.retR rfl (Res.nil) ?_
    simp only [tup]
    exact ⟨(), by first | rfl | trivial, trivial, List.nil_sublist _⟩
  · skip
    exact absurd (show (0 : Int) - 0 ≤ 12 by decide) hlt

set_option maxRecDepth 100000 in
theorem sort_nil (w0 : World) :
    Calls Try.prog 95 #[.slice none 0 0, .func (.func 96) #[] #[]] w0 (Post (X := Unit) (fun _ => .tuple #[]) (fun _ => True) (fun _ => []) w0) := by
  refine calls Try.func95 rfl (n := 14) rfl (by simp) ?_
  refine TC.seq ?_
  refine TC.region ?_
  refine TL.pure (PV.move rfl) rfl (by decide) ?_
  refine TL.pure (PV.len rfl Tb.sl_74) rfl (by decide) ?_
  refine TL.pure (PV.assign rfl) rfl (by decide) ?_
  refine TL.nil ?_
  refine TQ.thenC ?_
  refine TC.region ?_
  refine TL.pure (PV.move rfl) rfl (by decide) ?_
  refine TL.pure (PV.move rfl) rfl (by decide) ?_
  refine TL.pure (PV.move rfl) rfl (by decide) ?_
  refine TL.pure (PV.conv0 rfl) rfl (by decide) ?_
  refine TL.call rfl Tb.gofn_100 (fun a w hs => bits_ok w) rfl (by decide) (fun i9 _ => ?_)
  refine TL.pure (PV.move rfl) rfl (by decide) ?_
  refine TL.call rfl Tb.gofn_99 (fun a w hs => pdq_nil w i9) rfl (by decide) (fun _ _ => ?_)
  refine TL.nil ?_
  refine TQ.retN rfl (Res.nil) ?_
  simp only [tup]
  exact ⟨(), by first | rfl | trivial, trivial, List.nil_sublist _⟩

set_option maxRecDepth 100000 in
theorem compact_nil (w0 : World) :
    Calls Try.prog 97 #[.slice none 0 0, .func (.func 88) #[] #[]] w0 (Post (X := Unit) (fun _ => .slice none 0 0) (fun _ => True) (fun _ => []) w0) := by
  refine calls Try.func97 rfl (n := 66) rfl (by simp) ?_
  refine TC.seq ?_
  refine TC.region ?_
  refine TL.pure (PV.assign rfl) rfl (by decide) ?_
  refine TL.nil ?_
  refine TQ.thenC ?_
  refine TC.seq ?_
  refine TC.seq ?_
  refine TC.region ?_
  refine TL.pure (PV.move rfl) rfl (by decide) ?_
  refine TL.pure (PV.len rfl Tb.sl_74) rfl (by decide) ?_
  refine TL.pure (PV.lss rfl rfl) rfl (by decide) ?_
  refine TL.nil ?_
  refine TQ.thenC ?_
  first | refine TC.condD rfl (fun hlt => ?_) (fun hlt => ?_) | refine TC.cond rfl (fun hlt => ?_) (fun hlt => ?_)
  · skip
    refine TC.seq ?_
    refine TC.region ?_
    refine TL.pure (PV.move rfl) rfl (by decide) ?_
    refine TL.pure (PV.assign rfl) rfl (by decide) ?_
    refine TL.nil ?_
    refine TQ.thenC ?_
    refine TC.ret ?_
    refine TQ.thenR ?_
    refine TQ.retE1 rfl rfl ?_
    exact ⟨(), rfl, trivial, List.nil_sublist _⟩
  · skip
    exact absurd (show ((0 : Nat) : Int) < 2 by decide) hlt

set_option maxRecDepth 100000 in
theorem tight_nil (w0 : World) :
    Calls Try.prog 91 #[.slice none 0 0] w0 (Post (X := Unit) (fun _ => .slice none 0 0) (fun _ => True) (fun _ => []) w0) := by
  refine calls Try.func91 rfl (n := 7) rfl (by simp) ?_
  refine TC.seq ?_
  refine TC.region ?_
  refine TL.pure (PV.assign rfl) rfl (by decide) ?_
  refine TL.nil ?_
  refine TQ.thenC ?_
  refine TC.seq ?_
  refine TC.region ?_
  refine TL.pure (PV.move rfl) rfl (by decide) ?_
  refine TL.call rfl Tb.gofn_95 (fun a w hs => sort_nil w) rfl (by decide) (fun _ _ => ?_)
  refine TL.nil ?_
  refine TQ.thenC ?_
  refine TC.seq ?_
  refine TC.region ?_
  refine TL.pure (PV.move rfl) rfl (by decide) ?_
  refine TL.call rfl Tb.gofn_97 (fun a w hs => compact_nil w) rfl (by decide) (fun _ _ => ?_)
  refine TL.pure (PV.assign rfl) rfl (by decide) ?_
  refine TL.nil ?_
  refine TQ.thenC ?_
  refine TC.ret ?_
  refine TQ.retE1 rfl rfl ?_
  exact ⟨(), rfl, trivial, List.nil_sublist _⟩

/-- The tightest bounds of any list, where it lies. -/
theorem tight_g {w0 w : World} {h : HD} {K : Nat} {l : List Bd} {R : Heap} (hn : New w0 w (gbB 88 h l ++ R)) (hK : l.length = K) (ho : goB h l) (hl : K ≤ 100000) :
    Calls Try.prog 91 #[gval h K] w fun e w' => ∃ h' : HD, e = .returned (gval h' (tight l).length) ∧ goB h' (tight l) ∧ New w0 w' (gbB 88 h' (tight l) ++ R) := by
  obtain _ | ⟨b, c, s⟩ := h
  · have h0 : l.length = 0 := ho.2
    have hl0 : l = [] := List.length_eq_zero_iff.1 h0
    subst hl0
    subst hK
    refine (tight_nil w).mono ?_
    rintro e w' ⟨_, he, _, hN⟩
    exact ⟨none, he, ⟨rfl, rfl⟩, hn.trans hN⟩
  · refine (tight_ok (R := R) hn hK ho hl).mono ?_
    rintro e w' ⟨s', he, h1, hN⟩
    exact ⟨some (b, c, s'), he, h1, hN⟩

end Go.Proofs.Ytenalmddoljhoaa
