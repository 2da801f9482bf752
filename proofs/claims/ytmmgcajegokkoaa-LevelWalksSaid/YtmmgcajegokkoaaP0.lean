/- Known points, by the other way's steps. -/
import Derived.Test.YtmmgcajegokkoaaO1
set_option linter.unusedVariables false
set_option linter.unusedSimpArgs false
namespace Go.Proofs.Ytmmgcajegokkoaa
open Go.Sx Go.RowKit

def first1 (kn : List Bool) (r : Rd) : List Bool := if kn.getD r.fr.toNat false = true ∧ kn.getD r.to.toNat false = false then kn.set r.to.toNat true else kn
def second1 (kn : List Bool) (r : Rd) : List Bool := if kn.getD r.to.toNat false = true ∧ kn.getD r.fr.toNat false = false then kn.set r.fr.toNat true else kn
theorem first1_len (kn : List Bool) (r : Rd) : (first1 kn r).length = kn.length := by
  unfold first1
  split
  · simp
  · rfl
theorem second_first {kn : List Bool} {r : Rd} (h1 : r.fr.toNat < kn.length) (h2 : r.to.toNat < kn.length) (hne : r.fr.toNat ≠ r.to.toNat) : second1 (first1 kn r) r = kstep kn r := by
  unfold kstep kget
  cases hA : kn.getD r.fr.toNat false <;> cases hB : kn.getD r.to.toNat false
  · rw [first1, if_neg (by rw [hA]; simp), second1, if_neg (by rw [hB]; simp), if_neg (by simp), if_neg (by simp)]
  · rw [first1, if_neg (by rw [hA]; simp), second1, if_pos ⟨hB, hA⟩, if_neg (by simp), if_pos rfl]
  · have e1 : (kn.set r.to.toNat true).getD r.fr.toNat false = true := by
      simp only [List.getD, List.getElem?_set, if_neg (Ne.symm hne)] at hA ⊢
      exact hA
    rw [first1, if_pos ⟨hA, hB⟩, second1, if_neg (by rw [e1]; simp), if_pos rfl]
  · rw [first1, if_neg (by rw [hB]; simp), second1, if_neg (by rw [hA]; simp), if_pos rfl, kset_true hB]
theorem stepR {n : Int} {rs : List Rd} {kn : List Bool} {i : Nat} {L m e : List Bool} (h : i < (takenN n rs).length) (hL : L = kround n rs kn i) (hm : m = first1 L (rs.getD ((takenN n rs).getD i 0) default))
    (h1 : (rs.getD ((takenN n rs).getD i 0) default).fr.toNat < L.length) (h2 : (rs.getD ((takenN n rs).getD i 0) default).to.toNat < L.length) (hne : (rs.getD ((takenN n rs).getD i 0) default).fr.toNat ≠ (rs.getD ((takenN n rs).getD i 0) default).to.toNat)
    (he : e = second1 m (rs.getD ((takenN n rs).getD i 0) default)) : e = kround n rs kn (i + 1) := by
  rw [he, hm, second_first h1 h2 hne, kround_succ h, hL]
def resR (rs : List Rd) (den : Int) (nums : List Int) (j : Nat) : Int := (rs.getD j default).rise * den - (nums.getD (rs.getD j default).to.toNat 0 - nums.getD (rs.getD j default).fr.toNat 0)
def residL (rs : List Rd) (den : Int) (nums : List Int) : List Int := (List.range rs.length).map (resR rs den nums)
theorem residL_len (rs : List Rd) (den : Int) (nums : List Int) : (residL rs den nums).length = rs.length := by simp [residL]


end Go.Proofs.Ytmmgcajegokkoaa
