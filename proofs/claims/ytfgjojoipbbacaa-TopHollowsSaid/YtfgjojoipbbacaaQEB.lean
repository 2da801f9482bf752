/- What a proof bounds: the law's contract. -/
import Derived.Test.YtfgjojoipbbacaaQEA
import Derived.Test.YtfgjojoipbbacaaQDG
set_option linter.unusedVariables false
set_option linter.unusedSimpArgs false
namespace Go.Proofs.Ytfgjojoipbbacaa
open Go.Sx Go.RowKit

end Go.Proofs.Ytfgjojoipbbacaa
namespace Go.Sx
/-- An operation whose guard's own operation was not wanted is not wanted. -/
def undoneB (ops : Array Oper) (E : Env) : Option (Nat × Bool) → Bool
  | none => false
  | some (j, _) => match (ops[j]?).bind (·.dst) with
    | none => false
    | some s => match Sx.look s E with
      | some (.tuple _) => true
      | _ => false
section
variable {P : Program} {n : Nat} {w0 : World} {E : Env} {G : Heap} {a : Act} {w : World} {ops : Array Oper} {Q : Exit → Act → World → Prop} {l : List Oper}
end

end Go.Sx
namespace Go.Proofs.Ytfgjojoipbbacaa
open Go.Sx Go.RowKit
theorem sumN_tk (col : List Int) : ∀ n, sumN col n = (col.take n).sum
  | 0 => by simp [sumN]
  | n + 1 => by
    rw [sumN, sumN_tk col n, List.take_add_one]
    by_cases h : n < col.length
    · rw [show col[n]? = some (col.getD n 0) by simp [List.getD, h]]; simp
    · simp [List.getD, h]
theorem worK_cons (r : List Int) (m : List (List Int)) (xs : List Int) : ∀ k, worK (r :: m) xs (k + 1) = (r.take (xs.getD 0 0).toNat).sum + worK m xs.tail k
  | 0 => by simp [worK, sumN_tk]
  | k + 1 => by
    have ih := worK_cons r m xs k
    rw [worK, ih, worK]
    have e : xs.tail.getD k 0 = xs.getD (k + 1) 0 := by cases xs <;> simp
    rw [e]
    simp only [List.getD_cons_succ]
    omega
theorem hoS_worK : ∀ (m : List (List Int)) (xs : List Int), hoS m xs = worK m xs m.length
  | [], xs => rfl
  | r :: m, xs => by rw [hoS, hoS_worK m xs.tail, List.length_cons, worK_cons]
theorem ho_bound {ls : List (List Int)} {ps : List Ps} {xs : List Int} (h : prI ls ps = 0) (ho : HO ls xs) : worH ls xs ≤ prV ls ps := by
  have h1 := proof_bounds (xs := xs) h (fun c t hc ht h2 h3 => by
    by_cases e1 : c = t
    · subst e1; omega
    · by_cases e2 : c = t + 1
      · subst e2; have := ho.stp t hc; omega
      · obtain rfl : t = c + 1 := by omega
        have := ho.stp c ht; omega)
  rw [hoS_worK] at h1
  unfold worH
  rw [ho.len]
  exact h1
end Go.Proofs.Ytfgjojoipbbacaa
