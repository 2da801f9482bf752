/- Laws of turned, widened and joined nets: contracts. -/
import Derived.Test.YtnlbngbbddhgeaaGx
import Derived.Test.YtnlbngbbddhgeaaOp
set_option linter.unusedVariables false
set_option linter.unusedSimpArgs false
namespace Go.Proofs.Ytnlbngbbddhgeaa
open Go.Sx Go.RowKit


theorem Most_nz {w : World} : Calls Try.prog 22 #[.agg #[.int .i64 0, .int .i64 0, .int .i64 0, .slice none 0 0]] w (Post (X := Unit) (fun _ => .tuple #[.int .i64 0, .int .i64 1]) (fun _ => True) (fun _ => []) w) :=
  Most_n w 0 0 0 none 0 [] bds0 (by decide)
theorem Reverse_nz {w : World} : Calls Try.prog 46 #[.agg #[.int .i64 0, .int .i64 0, .int .i64 0, .slice none 0 0]] w (Post (X := Unit) (fun _ => .tuple #[.agg #[.int .i64 0, .int .i64 0, .int .i64 0, .slice none 0 0], .int .i64 1]) (fun _ => True) (fun _ => []) w) :=
  Reverse_n w 0 0 0 none 0 [] bds0 (by decide)
theorem same_z {w : World} : Calls Try.prog 45 #[.agg #[.int .i64 0, .int .i64 0, .int .i64 0, .slice none 0 0], .agg #[.int .i64 0, .int .i64 0, .int .i64 0, .slice none 0 0]] w (Post (X := Unit) (fun _ => .bool true) (fun _ => True) (fun _ => []) w) := same_t IsN.zero IsN.zero (by decide)
theorem flip_mw {n s t : Nat} {rs : List Bd} (hv : Vd n s t rs) : Fl.mw t s (dr0 (rs.map flB)) = Fl.mw s t (dr0 rs) := by
  rw [dr0_flB]; exact Fl.mw_turn hv.w1.st hv.w1.nn
theorem Most_gen {w : World} {v : Value} {n s t : Int} {rs : List Bd} (h : IsN w v n s t rs) : ∃ m e : Int, (dI n s t rs = 0 → e = 0 ∧ m = Fl.mw s.toNat t.toNat (dr0 rs)) ∧
    Calls Try.prog 22 #[v] w (Post (X := Unit) (fun _ => .tuple #[.int .i64 m, .int .i64 e]) (fun _ => True) (fun _ => []) w) := by
  by_cases hd : dI n s t rs = 0
  · obtain ⟨n', s', t', rfl, rfl, rfl⟩ := nsplit hd
    exact ⟨_, _, fun _ => ⟨rfl, rfl⟩, Most_N h (dI_is hd)⟩
  · obtain ⟨p, c, rfl, hr⟩ := h
    exact ⟨_, _, fun h9 => absurd h9 hd, Most_n w n s t p c rs hr hd⟩


end Go.Proofs.Ytnlbngbbddhgeaa
