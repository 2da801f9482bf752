/- More readings never raise an error. -/
import Derived.Test.YtmmgcajegokkoaaRC
import Derived.Test.YtmmgcajegokkoaaMo
namespace Go.Proofs.Ytmmgcajegokkoaa
open Go.Sx Go.RowKit

theorem rsum_snoc (g : Rd → Int) (r : Rd) : ∀ rs : List Rd, rsum (rs ++ [r]) g = rsum rs g + g r
  | [] => by simp [rsum]
  | a :: rs => by rw [List.cons_append]; show g a + rsum (rs ++ [r]) g = (g a + rsum rs g) + g r; rw [rsum_snoc g r rs]; omega
theorem en_snoc (rs : List Rd) (r : Rd) (x y : Nat → Int) : en (rs ++ [r]) x y = en rs x y + r.wt * (dlt x r * dlt y r) := rsum_snoc _ r rs
theorem en_sq (a b : Int) (x y : Nat → Int) : ∀ rs : List Rd, en rs (fun p => a * x p - b * y p) (fun p => a * x p - b * y p) = a * a * en rs x x - 2 * (a * b * en rs x y) + b * b * en rs y y
  | [] => by simp [en, rsum]
  | r :: rs => by
    have ih := en_sq a b x y rs
    unfold en at ih ⊢
    show r.wt * (dlt _ r * dlt _ r) + rsum rs _ = a * a * (r.wt * (dlt x r * dlt x r) + rsum rs _) - 2 * (a * b * (r.wt * (dlt x r * dlt y r) + rsum rs _)) + b * b * (r.wt * (dlt y r * dlt y r) + rsum rs _)
    rw [ih]
    unfold dlt
    grind
theorem same_more {N : Nat} {rs : List Rd} {r : Rd} (hv : Valid (N : Int) rs) (hv' : Valid (N : Int) (rs ++ [r])) {i j : Nat} (hi : i < N) (hj : j < N) (h : rootOf N rs i = rootOf N rs j) : rootOf N (rs ++ [r]) i = rootOf N (rs ++ [r]) j := by
  have hx : ∀ q ∈ rs, ((rootOf N (rs ++ [r]) q.f : Nat) : Int) = ((rootOf N (rs ++ [r]) q.t : Nat) : Int) := fun q hq => by rw [root_ends hv' (List.mem_append_left _ hq)]
  have e1 := const_of hv (x := fun p => ((rootOf N (rs ++ [r]) p : Nat) : Int)) hx hi
  have e2 := const_of hv (x := fun p => ((rootOf N (rs ++ [r]) p : Nat) : Int)) hx hj
  rw [h] at e1
  omega
theorem RR_more {N : Nat} {rs : List Rd} {r : Rd} (hv : Valid (N : Int) rs) (hv' : Valid (N : Int) (rs ++ [r])) {i j : Nat} (hi : i < N) (hj : j < N) (h : rootOf N rs i = rootOf N rs j) :
    denO N rs * RR N (rs ++ [r]) i j ≤ denO N (rs ++ [r]) * RR N rs i j := by
  have h' := same_more hv hv' hi hj h
  have d := denO_pos hv
  have d' := denO_pos hv'
  have e1 := en_uu hv hi hj h (uu N rs i j)
  have e2 := en_uu hv hi hj h (uu N (rs ++ [r]) i j)
  have e3 := RR_en hv' hi hj h'
  rw [en_snoc] at e3
  have hw := hv'.wt r (List.mem_append_right _ (List.mem_singleton.2 rfl))
  have hs := Int.mul_nonneg (show 0 ≤ r.wt by omega) (sq_nonneg (dlt (uu N (rs ++ [r]) i j) r))
  have hn := en_nonneg hv.wt (fun p => denO N (rs ++ [r]) * uu N rs i j p - denO N rs * uu N (rs ++ [r]) i j p)
  rw [en_sq, e1, e2] at hn
  have k1 : uu N rs i j j - uu N rs i j i = RR N rs i j := rfl
  have k2 : uu N (rs ++ [r]) i j j - uu N (rs ++ [r]) i j i = RR N (rs ++ [r]) i j := rfl
  rw [k1, k2] at hn
  have h4 : denO N rs * denO N rs * en rs (uu N (rs ++ [r]) i j) (uu N (rs ++ [r]) i j) ≤ denO N rs * denO N rs * (denO N (rs ++ [r]) * RR N (rs ++ [r]) i j) :=
    Int.mul_le_mul_of_nonneg_left (by omega) (Int.mul_nonneg (by omega) (by omega))
  generalize denO N rs = D at *
  generalize denO N (rs ++ [r]) = D' at *
  generalize RR N rs i j = R at *
  generalize RR N (rs ++ [r]) i j = R' at *
  have h5 : 0 ≤ (D * D') * (D' * R - D * R') := by
    have : (D * D') * (D' * R - D * R') = D' * D' * (D * R) - 2 * (D' * D * (D * R')) + D * D * (D' * R') := by grind
    omega
  have hp : 0 < D * D' := Int.mul_pos (by omega) (by omega)
  rcases Int.lt_or_le (D' * R) (D * R') with hh | hh
  · have := Int.mul_neg_of_pos_of_neg hp (show D' * R - D * R' < 0 by omega)
    omega
  · exact hh
theorem errE_more {n : Int} {rs : List Rd} {r : Rd} {i j : Int} (hw : withE n rs r = 0) (h : errE n rs i j = 0) : errE n (rs ++ [r]) i j = 0 := by
  have ho := errE_ok h
  have hp := ho.valid.pts
  have hn : ((n.toNat : Nat) : Int) = n := by have := ho.pos; omega
  have h1 : validateI n rs = 0 := by have := ho.valid; rw [hn] at this; exact this
  have h2 : validateI n (rs ++ [r]) = 0 := by rw [withE, if_neg (by omega)] at hw; exact hw
  have hv' : Valid (n.toNat : Int) (rs ++ [r]) := by rw [hn]; exact h2
  have hs := same_more ho.valid hv' ho.iN ho.jN ho.same
  have e1 := root_le hv' ho.iN
  have e2 := root_le hv' ho.jN
  have h0 := ho.i0
  have h3 := ho.j0
  have h4 := ho.iN
  have h5 := ho.jN
  unfold errE
  rw [if_neg (not_not_intro h2), if_neg (not_not_intro ⟨⟨h0, by omega⟩, h3, by omega⟩), if_neg (not_not_intro ?_)]
  rw [hn] at e1 e2
  have g1 := e1.2
  have g2 := e2.2
  rw [← g1, ← g2, hs]
theorem err_more {n : Int} {rs : List Rd} {r : Rd} {i j : Int} (hw : withE n rs r = 0) (h : errE n rs i j = 0) :
    errN n (rs ++ [r]) i j * errD n rs i j ≤ errN n rs i j * errD n (rs ++ [r]) i j := by
  have ho := errE_ok h
  have h' := errE_more hw h
  have ho' := errE_ok h'
  obtain ⟨ga, a⟩ := errIs h
  obtain ⟨gb, b⟩ := errIs h'
  have ht := RR_more ho.valid ho'.valid ho.iN ho.jN ho.same
  rw [← a.num, ← b.num, ← a.den, ← b.den] at ht
  have key : (errN n (rs ++ [r]) i j * errD n rs i j) * (ga * gb) ≤ (errN n rs i j * errD n (rs ++ [r]) i j) * (ga * gb) := by
    have e1 : (errN n (rs ++ [r]) i j * errD n rs i j) * (ga * gb) = errD n rs i j * ga * (errN n (rs ++ [r]) i j * gb) := by grind
    have e2 : (errN n rs i j * errD n (rs ++ [r]) i j) * (ga * gb) = errD n (rs ++ [r]) i j * gb * (errN n rs i j * ga) := by grind
    rw [e1, e2]; exact ht
  exact Int.le_of_mul_le_mul_right key (Int.mul_pos a.pos b.pos)

end Go.Proofs.Ytmmgcajegokkoaa
