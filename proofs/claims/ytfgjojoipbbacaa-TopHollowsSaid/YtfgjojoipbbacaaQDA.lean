/- Hollows that are joined: mathematics. -/
import Derived.Test.YtfgjojoipbbacaaQMM
set_option linter.unusedVariables false
set_option linter.unusedSimpArgs false
namespace Go.Proofs.Ytfgjojoipbbacaa
open Go.Sx Go.RowKit

/-- A right hollow, as a list. -/
structure HO (ls : List (List Int)) (hs : List Int) : Prop extends NB ls hs where
  stp : ∀ k, k + 1 < ls.length → -1 ≤ hs.getD (k + 1) 0 - hs.getD k 0 ∧ hs.getD (k + 1) 0 - hs.getD k 0 ≤ 1
theorem ho_of {ls : List (List Int)} {hs : List Int} (h : ¬ holI ls hs ≠ 0) : HO ls hs := by
  obtain ⟨h1, h2⟩ := hol_nb h
  refine ⟨h1, fun k hk => ?_⟩
  have := List.all_eq_true.1 h2 k (List.mem_range.2 (by have := h1.len; omega))
  exact of_decide_eq_true this
theorem num_ok {ls : List (List Int)} {hs : List Int} (hv : ¬ validI ls ≠ 0) (h : NB ls hs) : numI ls hs = 0 :=
  num_0 hv ⟨h.len, all_yes (d := 0) fun k _ => decide_eq_true (h.at_ k)⟩
theorem ho_to {ls : List (List Int)} {hs : List Int} (hv : ¬ validI ls ≠ 0) (h : HO ls hs) : holI ls hs = 0 :=
  hol_0 (by rw [num_ok hv h.toNB]; decide) (right_yes fun k hk => decide_eq_true (h.stp k (by have := h.len; omega)))
theorem hol_val {ls : List (List Int)} {hs : List Int} (h : ¬ holI ls hs ≠ 0) : ¬ validI ls ≠ 0 := fun hv => by
  rw [hol_bad (by rw [num_bad hv]; exact hv), num_bad hv] at h
  exact h hv
theorem zip_at {J : Int → Int → Int} {xs ys : List Int} {k : Nat} (hx : k < xs.length) (hy : k < ys.length) : (List.zipWith J xs ys).getD k 0 = J (xs.getD k 0) (ys.getD k 0) := by
  simp [List.getD, List.getElem?_zipWith, hx, hy]
theorem zip_len {J : Int → Int → Int} {xs ys : List Int} {n : Nat} (hx : xs.length = n) (hy : ys.length = n) : (List.zipWith J xs ys).length = n := by
  rw [List.length_zipWith, hx, hy, Nat.min_self]
theorem zip_off {J : Int → Int → Int} {xs ys : List Int} {k : Nat} (hx : ¬ k < xs.length) : (List.zipWith J xs ys).getD k 0 = 0 := by
  have : (List.zipWith J xs ys).length ≤ xs.length := by rw [List.length_zipWith]; omega
  rw [List.getD_eq_getElem?_getD, List.getElem?_eq_none (by omega)]; rfl
theorem zip_pad {J : Int → Int → Int} {xs ys : List Int} {n : Nat} (hx : xs.length = n) (hy : ys.length = n) : (List.zipWith J (pad6 xs) (pad6 ys)).take n = List.zipWith J xs ys := by
  unfold pad6
  rw [List.zipWith_append (by omega)]
  exact List.take_left' (zip_len hx hy)
theorem HO.zip {J : Int → Int → Int} {ls : List (List Int)} {xs ys : List Int} (hJ : ∀ a b, J a b = min a b ∨ J a b = max a b) (hJ2 : (∀ a b, J a b = min a b) ∨ ∀ a b, J a b = max a b) (hx : HO ls xs) (hy : HO ls ys) : HO ls (List.zipWith J xs ys) := by
  have h1 := hx.len
  have h2 := hy.len
  refine ⟨⟨hx.vb, zip_len h1 h2, fun k => ?_⟩, fun k hk => ?_⟩
  · by_cases hk : k < xs.length
    · rw [zip_at hk (by omega)]
      have a := hx.at_ k
      have b := hy.at_ k
      rcases hJ (xs.getD k 0) (ys.getD k 0) with e | e <;> rw [e] <;> omega
    · rw [zip_off hk]; have := hx.at_ k; omega
  · rw [zip_at (by omega) (by omega), zip_at (by omega) (by omega)]
    have a := hx.stp k hk
    have b := hy.stp k hk
    rcases hJ2 with e | e <;> rw [e, e] <;> omega
theorem HO.both {ls : List (List Int)} {xs ys : List Int} (hx : HO ls xs) (hy : HO ls ys) : HO ls (List.zipWith min xs ys) := HO.zip (fun _ _ => .inl rfl) (.inl fun _ _ => rfl) hx hy
theorem HO.either {ls : List (List Int)} {xs ys : List Int} (hx : HO ls xs) (hy : HO ls ys) : HO ls (List.zipWith max xs ys) := HO.zip (fun _ _ => .inr rfl) (.inr fun _ _ => rfl) hx hy
theorem sum_mm (col : List Int) (a b : Int) : sumN col (min a b).toNat + sumN col (max a b).toNat = sumN col a.toNat + sumN col b.toNat := by
  by_cases h : a ≤ b
  · rw [Int.min_eq_left h, Int.max_eq_right h]
  · rw [Int.min_eq_right (by omega), Int.max_eq_left (by omega)]; omega
theorem wor_mm {ls : List (List Int)} {xs ys : List Int} {n : Nat} (hx : xs.length = n) (hy : ys.length = n) : ∀ k, k ≤ n → worK ls (List.zipWith min xs ys) k + worK ls (List.zipWith max xs ys) k = worK ls xs k + worK ls ys k
  | 0, _ => rfl
  | k + 1, h => by
    have ih := wor_mm (ls := ls) hx hy k (by omega)
    have h1 := sum_mm (ls.getD k []) (xs.getD k 0) (ys.getD k 0)
    show worK ls _ k + sumN _ ((List.zipWith min xs ys).getD k 0).toNat + (worK ls _ k + sumN _ ((List.zipWith max xs ys).getD k 0).toNat) = worK ls xs k + sumN _ _ + (worK ls ys k + sumN _ _)
    rw [zip_at (by omega) (by omega), zip_at (by omega) (by omega)]
    omega
/-- The worth of hollows is modular. -/
theorem wor_mod {ls : List (List Int)} {xs ys : List Int} {n : Nat} (hx : xs.length = n) (hy : ys.length = n) : worH ls (List.zipWith min xs ys) + worH ls (List.zipWith max xs ys) = worH ls xs + worH ls ys := by
  unfold worH
  rw [zip_len hx hy, zip_len hx hy, hx, hy]
  exact wor_mm hx hy n (Nat.le_refl _)
def twoI (ls : List (List Int)) (xs ys : List Int) : Int := if holI ls xs ≠ 0 then holI ls xs else holI ls ys
def jnL (J : Int → Int → Int) (ls : List (List Int)) (xs ys : List Int) : List Int := if twoI ls xs ys ≠ 0 then [] else List.zipWith J xs ys
theorem two_x {ls : List (List Int)} {xs ys : List Int} (h : holI ls xs ≠ 0) : twoI ls xs ys = holI ls xs := if_pos h
theorem two_y {ls : List (List Int)} {xs ys : List Int} (h : ¬ holI ls xs ≠ 0) : twoI ls xs ys = holI ls ys := if_neg h
theorem jn_bad {J : Int → Int → Int} {ls : List (List Int)} {xs ys : List Int} (h : twoI ls xs ys ≠ 0) : jnL J ls xs ys = [] := if_pos h
theorem jn_ok {J : Int → Int → Int} {ls : List (List Int)} {xs ys : List Int} (h : twoI ls xs ys = 0) : jnL J ls xs ys = List.zipWith J xs ys := if_neg (by rw [h]; decide)
theorem two_of {ls : List (List Int)} {xs ys : List Int} (h : ¬ twoI ls xs ys ≠ 0) : ¬ holI ls xs ≠ 0 ∧ ¬ holI ls ys ≠ 0 := by
  by_cases h1 : holI ls xs ≠ 0
  · rw [two_x h1] at h; exact absurd h1 h
  · rw [two_y h1] at h; exact ⟨h1, h⟩
theorem LsAt.two {w0 w : World} {G : Heap} {bO cl c2 : Nat} {e : TypeId} {pl p2 : Option Addr} {xs ys : List Int} (hn : New w0 w G) (hO : (bO, Obj.cells #[.slice pl xs.length cl, .slice p2 ys.length c2] e (0, 0)) ∈ G) (hx : IntsAt w pl xs) (hy : IntsAt w p2 ys) : LsAt w (some ⟨bO, 0, none⟩) [xs, ys] := by
  intro j hj
  have e : j = 0 ∨ j = 1 := by simp only [List.length_cons, List.length_nil] at hj; omega
  rcases e with rfl | rfl
  · refine ⟨_, rfl, pl, cl, ?_, hx⟩
    rw [add_off]
    exact hn.cell hO rfl
  · refine ⟨_, rfl, p2, c2, ?_, hy⟩
    rw [add_off]
    exact hn.cell hO rfl
theorem fill_oo (x y : Option Addr) (n c m d : Nat) : Instr.fill (fun i => some (i * 1, 1)) ((Array.range (2 * 1)).map ((Value.slice none 0 0).cells[· % (Value.slice none 0 0).cells.size]!)) [(0, .slice x n c), (1, .slice y m d)] = some #[.slice x n c, .slice y m d] := by kernel_rfl
theorem goI_nil : goI (none, []) := ⟨rfl, rfl⟩
section
variable {P : Program} {n : Nat} {w0 : World} {E : Env} {G : Heap} {ty : TypeId} {pos : String} {aft : Array Edge} {g : Option (Nat × Bool)} {ops : Array Oper} {Q : Exit → Act → World → Prop} {l : List Oper}
theorem TL.put1 {dd : Option Nat} {x y : Operand} {h : HD} {len : Nat} {ys ys' : List Value} {j t : Nat} {e : TypeId} {v : Value} {G' : Heap} (hx : evo E x = some (.pointer (some ⟨(h.map (·.1)).getD 0, j * 1, none⟩))) (hy : evo E y = some v)
    (hsz : cellsN P t = some 1) (hone : v.oneCell' = true) (hok : gok h len 1 ys) (hys : ys' = ys.set j v) (hT : PutH e h ys ys' G G') (hj : j < len) (hg : wants ops E g = some true) (hdd : dd = none)
    (hk : TL P n w0 ops Q l E G') : TL P n w0 ops Q (⟨dd, .store t x y, ty, pos, aft, g⟩ :: l) E G := by
  cases h with
  | none => exact absurd hok.2 (by simp only; omega)
  | some hh =>
    obtain ⟨b, cap, sp⟩ := hh
    subst hys
    have hl := hok.1
    have e9 : (ys ++ sp).toArray.setIfInBounds (j * 1) v = (ys.set j v ++ sp).toArray := by
      simp only [List.setIfInBounds_toArray, Nat.mul_one]
      rw [List.set_append_left _ _ (by omega)]
    exact TL.store (cs := (ys ++ sp).toArray) (b := b) (off := j * 1) (v := v) (e := e) hx hy hsz hone (by rw [e9]; exact hT.upd) (by simp; omega) hg hdd hk
end
/-! Lists that are joined, column by column. -/
def gxN (J : Int → Int → Int) (xs ys : List Int) (k : Nat) : List Int := (List.zipWith J xs ys).take k ++ xs.drop k
/-- The first rows, joined. -/
def fldJ (J : Int → Int → Int) (x0 : List Int) (xss : List (List Int)) (i : Nat) : List Int := (xss.take i).foldl (List.zipWith J) x0
theorem fld_succ {J : Int → Int → Int} {x0 : List Int} {xss : List (List Int)} {i : Nat} (hi : i < xss.length) : fldJ J x0 xss (i + 1) = List.zipWith J (fldJ J x0 xss i) (xss.getD i []) := by
  unfold fldJ
  rw [List.take_add_one, List.getElem?_eq_getElem hi, Option.toList_some, List.foldl_append, show xss.getD i [] = xss[i] by simp [List.getD, hi]]
  rfl
end Go.Proofs.Ytfgjojoipbbacaa
