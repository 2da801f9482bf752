/- What is left keeps the same dates. -/
import Derived.Test.YtenalmddoljhoaaQCs
set_option linter.unusedVariables false
set_option linter.unusedSimpArgs false
namespace Go.Proofs.Ytenalmddoljhoaa
open Go.Sx Go.RowKit
theorem redK_len (N : Nat) (rs : List Bd) : ∀ j, (redK N rs j).length ≤ rs.length
  | 0 => Nat.le_refl _
  | j + 1 => by
    have ih := redK_len N rs j
    unfold redK
    split
    · unfold delB; simp only [List.length_append, List.length_take, List.length_drop]; omega
    · exact ih
theorem red_same {n : Int} {rs : List Bd} (h : pofI n rs [] = 0) : smI n (redK n.toNat rs rs.length) n rs = 0 ∧ smR n (redK n.toNat rs rs.length) n rs = true := by
  have hd := pof_dok h
  have hv : Valid n rs := (of_decide_eq_true hd).1
  have hk := redK_ok hv rs.length (Nat.le_refl _)
  have hv2 : validateI n (redK n.toNat rs rs.length) = 0 := hk.vd
  have hv1 : validateI n rs = 0 := hv
  have hp : pairI n (redK n.toNat rs rs.length) n rs = 0 := pairI_0 (by rw [hv2]; decide) (by rw [hv1]; decide) (by simp)
  obtain ⟨e1, e2⟩ := sm_3 (by rw [hp]; decide) (hk.dok hd) hd
  exact ⟨e1, e2.trans (decide_eq_true (hk.pl hd))⟩
theorem reduceS {w : World} {n : Int} {h : HD} {rs : List Bd} (ho : goB h rs) (hr : BdsAt w (gp h) rs) :
    Calls Try.prog 49 #[.agg #[.int .i64 n, gval h rs.length]] w (Post (X := Int × HD × List Bd) (fun x => .tuple #[.agg #[.int .i64 x.1, gval x.2.1 x.2.2.length], .int .i64 (pofI n rs [])]) (CF (pofI n rs []) n (redK n.toNat rs rs.length)) (fun x => gbB 42 x.2.1 x.2.2) w) := by
  have hc := Reduce_ok w n (gp h) (gc h) rs hr
  rw [gvB_eq ho rfl]
  exact hc
theorem sameS {w : World} {n1 n2 : Int} {h : HD} {r1 r2 : List Bd} {p : Option Addr} {cap : Nat} (ho : goB h r1) (hr : BdsAt w (gp h) r1) (hr2 : BdsAt w p r2) :
    Calls Try.prog 46 #[.agg #[.int .i64 n1, gval h r1.length], cv n2 p r2.length cap] w (Post (X := Unit) (fun _ => .tuple #[.bool (smR n1 r1 n2 r2), .int .i64 (smI n1 r1 n2 r2)]) (fun _ => True) (fun _ => []) w) := by
  have hc := Same_ok w n1 (gp h) (gc h) r1 hr n2 p cap r2 hr2
  rw [gvB_eq ho rfl]
  exact hc
end Go.Proofs.Ytenalmddoljhoaa
