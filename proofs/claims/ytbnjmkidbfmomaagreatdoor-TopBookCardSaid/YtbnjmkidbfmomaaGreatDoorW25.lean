/- Yi Yj -/
import Derived.Test.YtbnjmkidbfmomaaGreatDoorW06
import Derived.Test.YtbnjmkidbfmomaaGreatDoorW24
set_option linter.unusedVariables false
set_option linter.unusedSimpArgs false
set_option maxRecDepth 100000
namespace Go.Proofs.YtbnjmkidbfmomaaGreatDoor
open Go.Sx Go.RowKit Go.Bt Go.Lib Go.Sand
theorem ic_v {s : St} {c : Co} (hv : SV s) (hi : Inv s c) : H.icB s.K s.g c.tur = true ∧ H.givI s.K s.g [c.tur] = 0 := by
  refine ⟨?_, Decidable.not_not.1 (hi.giv hv)⟩
  rw [H.icB_0 (hi.giv hv)]
  exact H.calm_yes fun k hk => hi.tc k (by rw [← hi.tl]; exact hk)
end Go.Proofs.YtbnjmkidbfmomaaGreatDoor
namespace Go.Proofs.YtbnjmkidbfmomaaGreatDoor
open Go.Sx Go.RowKit Go.Bt Go.Lib Go.Sand
theorem read_c (w : World) (hW : WAt w) {s : St} {c : Co} (hi : Inv s c) :
    Calls Tryz.prog 43 #[str (bookL dI c.ords).2] w (Post (X := HD) (fun h => .tuple #[.slice (gp h) c.ords.length (gc h), str []]) (fun h => goR stR h c.ords) (fun h => gbR stR 9 h c.ords) w) := by
  have h := Read_ok w hW (bookL dI c.ords).2 hi.bl
  rw [hi.read] at h
  exact h
section
variable {n : Nat} {w0 : World} {E : Env} {G : Heap} {d : Option Nat} {ty : TypeId} {pos : String} {aft : Array Edge} {g : Option (Nat × Bool)}
end
section
variable {w0 w : World} {R : Heap} {s : St} {f : FV} {t : List UInt8}
abbrev fmA (s : St) (f : FV) : List Value := [.agg #[.slice f.p s.W.length f.cp], .agg #[.slice f.q s.K.length f.cq, .slice f.r s.g.length f.cr], .int .i64 s.need]
theorem rp_new (h : rpE s t = 0) : s.newI = 0 := by
  by_cases he : s.newI = 0
  · exact he
  · exact absurd ((rp_1 he).2.symm.trans h) he
theorem Replay_none (hN : New w0 w R) (hW : WAt w0) (hf : ∀ w9, New w0 w9 R → FmAt w9 s f) (hlg : s.large = false) (ht : t.length ≤ 1000000) (hne : rpE s t ≠ 0) :
    Calls Tryz.prog 40 (fmA s f ++ [str t]).toArray w (Post (X := Unit) (fun _ => .tuple #[.pointer none, .int .i64 (rpN s t : Nat), .int .i64 (rpE s t)]) (fun _ => True) (fun _ => R) w0) := by
  by_cases he : s.newI = 0
  · refine (Replay_y w0 w R hN hW s f hf hlg t ht he).mono fun _ _ ⟨x, e1, e2, e3⟩ => ?_
    cases x with
    | none => exact ⟨(), e1, trivial, e3⟩
    | some y => exact absurd e2.1 hne
  · exact Replay_e w0 w R hN hW s f hf hlg t ht he
theorem Replay_some (hN : New w0 w R) (hW : WAt w0) (hf : ∀ w9, New w0 w9 R → FmAt w9 s f) (hlg : s.large = false) (ht : t.length ≤ 1000000) (h0 : rpE s t = 0) :
    Calls Tryz.prog 40 (fmA s f ++ [str t]).toArray w (Post (X := Nat × CP) (fun y => .tuple #[pt y.1, .int .i64 ((readL t).1.length : Nat), .int .i64 0]) (fun y => CPk w0 s (stC s (readL t).1 (readL t).1.length) y.2) (fun y => hp0 s (stC s (readL t).1 (readL t).1.length) y.1 y.2 ++ R) w0) := by
  refine (Replay_y w0 w R hN hW s f hf hlg t ht (rp_new h0)).mono fun _ _ ⟨x, e1, e2, e3⟩ => ?_
  cases x with
  | none => exact absurd h0 e2
  | some y => exact ⟨y, e1, e2.2.2, e3⟩
end
end Go.Proofs.YtbnjmkidbfmomaaGreatDoor
