/- Hollows that are joined: mathematics. -/
import Derived.Test.YtfgjojoipbbacaaQMM
set_option linter.unusedVariables false
set_option linter.unusedSimpArgs false
namespace Go.Proofs.Ytfgjojoipbbacaa
open Go.Sx Go.RowKit

/-- A right hollow, as a list. -/
structure HO (ls : List (List Int)) (hs : List Int) : Prop extends NB ls hs where
  stp : ∀ k, k + 1 < ls.length → -1 ≤ hs.getD (k + 1) 0 - hs.getD k 0 ∧ hs.getD (k + 1) 0 - hs.getD k 0 ≤ 1
theorem ho_of {ls : List (List Int)} {hs : List Int} (h : ¬ holI ls hs ≠ 0) : HO ls hs := by
  obtain ⟨h1, h2⟩ := hol_nb h
  refine ⟨h1, fun k hk => ?_⟩
  have := List.all_eq_true.1 h2 k (List.mem_range.2 (by have := h1.len; omega))
  exact of_decide_eq_true this
theorem num_ok {ls : List (List Int)} {hs : List Int} (hv : ¬ validI ls ≠ 0) (h : NB ls hs) : numI ls hs = 0 :=
  num_0 hv ⟨h.len, all_yes (d := 0) fun k _ => decide_eq_true (h.at_ k)⟩
theorem ho_to {ls : List (List Int)} {hs : List Int} (hv : ¬ validI ls ≠ 0) (h : HO ls hs) : holI ls hs = 0 :=
  hol_0 (by rw [num_ok hv h.toNB]; decide) (right_yes fun k hk => decide_eq_true (h.stp k (by have := h.len; omega)))
theorem hol_val {ls : List (List Int)} {hs : List Int} (h : ¬ holI ls hs ≠ 0) : ¬ validI ls ≠ 0 := fun hv => by
  rw [hol_bad (by rw [num_bad hv]; exact hv), num_bad hv] at h
  exact h hv
theorem zip_at {J : Int → Int → Int} {xs ys : List Int} {k : Nat} (hx : k < xs.length) (hy : k < ys.length) : (List.zipWith J xs ys).getD k 0 = J (xs.getD k 0) (ys.getD k 0) := by
  simp [List.getD, List.getElem?_zipWith, hx, hy]
theorem zip_len {J : Int → Int → Int} {xs ys : List Int} {n : Nat} (hx : xs.length = n) (hy : ys.length = n) : (List.zipWith J xs ys).length = n := by
  rw [List.length_zipWith, hx, hy, Nat.min_self]
theorem zip_off {J : Int → Int → Int} {xs ys : List Int} {k : Nat} (hx : ¬ k < xs.length) : (List.zipWith J xs ys).getD k 0 = 0 := by
  have : (List.zipWith J xs ys).length ≤ xs.length := by rw [List.length_zipWith]; omega
  rw [List.getD_eq_getElem?_getD, List.getElem?_eq_none (by omega)]; rfl
theorem HO.zip {J : Int → Int → Int} {ls : List (List Int)} {xs ys : List Int} (hJ : ∀ a b, J a b = min a b ∨ J a b = max a b) (hJ2 : (∀ a b, J a b = min a b) ∨ ∀ a b, J a b = max a b) (hx : HO ls xs) (hy : HO ls ys) : HO ls (List.zipWith J xs ys) := by
  have h1 := hx.len
  have h2 := hy.len
  refine ⟨⟨hx.vb, zip_len h1 h2, fun k => ?_⟩, fun k hk => ?_⟩
  · by_cases hk : k < xs.length
    · rw [zip_at hk (by omega)]
      have a := hx.at_ k
      have b := hy.at_ k
      rcases hJ (xs.getD k 0) (ys.getD k 0) with e | e <;> rw [e] <;> omega
    · rw [zip_off hk]; have := hx.at_ k; omega
  · rw [zip_at (by omega) (by omega), zip_at (by omega) (by omega)]
    have a := hx.stp k hk
    have b := hy.stp k hk
    rcases hJ2 with e | e <;> rw [e, e] <;> omega
theorem HO.both {ls : List (List Int)} {xs ys : List Int} (hx : HO ls xs) (hy : HO ls ys) : HO ls (List.zipWith min xs ys) := HO.zip (fun _ _ => .inl rfl) (.inl fun _ _ => rfl) hx hy
theorem HO.either {ls : List (List Int)} {xs ys : List Int} (hx : HO ls xs) (hy : HO ls ys) : HO ls (List.zipWith max xs ys) := HO.zip (fun _ _ => .inr rfl) (.inr fun _ _ => rfl) hx hy
theorem sum_mm (col : List Int) (a b : Int) : sumN col (min a b).toNat + sumN col (max a b).toNat = sumN col a.toNat + sumN col b.toNat := by
  by_cases h : a ≤ b
  · rw [Int.min_eq_left h, Int.max_eq_right h]
  · rw [Int.min_eq_right (by omega), Int.max_eq_left (by omega)]; omega
theorem wor_mm {ls : List (List Int)} {xs ys : List Int} {n : Nat} (hx : xs.length = n) (hy : ys.length = n) : ∀ k, k ≤ n → worK ls (List.zipWith min xs ys) k + worK ls (List.zipWith max xs ys) k = worK ls xs k + worK ls ys k
  | 0, _ => rfl
  | k + 1, h => by
    have ih := wor_mm (ls := ls) hx hy k (by omega)
    have h1 := sum_mm (ls.getD k []) (xs.getD k 0) (ys.getD k 0)
    show worK ls _ k + sumN _ ((List.zipWith min xs ys).getD k 0).toNat + (worK ls _ k + sumN _ ((List.zipWith max xs ys).getD k 0).toNat) = worK ls xs k + sumN _ _ + (worK ls ys k + sumN _ _)
    rw [zip_at (by omega) (by omega), zip_at (by omega) (by omega)]
    omega
/-- The worth of hollows is modular. -/
theorem wor_mod {ls : List (List Int)} {xs ys : List Int} {n : Nat} (hx : xs.length = n) (hy : ys.length = n) : worH ls (List.zipWith min xs ys) + worH ls (List.zipWith max xs ys) = worH ls xs + worH ls ys := by
  unfold worH
  rw [zip_len hx hy, zip_len hx hy, hx, hy]
  exact wor_mm hx hy n (Nat.le_refl _)
def twoI (ls : List (List Int)) (xs ys : List Int) : Int := if holI ls xs ≠ 0 then holI ls xs else holI ls ys
def jnL (J : Int → Int → Int) (ls : List (List Int)) (xs ys : List Int) : List Int := if twoI ls xs ys ≠ 0 then [] else List.zipWith J xs ys
theorem two_x {ls : List (List Int)} {xs ys : List Int} (h : holI ls xs ≠ 0) : twoI ls xs ys = holI ls xs := if_pos h
theorem two_y {ls : List (List Int)} {xs ys : List Int} (h : ¬ holI ls xs ≠ 0) : twoI ls xs ys = holI ls ys := if_neg h
theorem jn_ok {J : Int → Int → Int} {ls : List (List Int)} {xs ys : List Int} (h : twoI ls xs ys = 0) : jnL J ls xs ys = List.zipWith J xs ys := if_neg (by rw [h]; decide)
theorem two_of {ls : List (List Int)} {xs ys : List Int} (h : ¬ twoI ls xs ys ≠ 0) : ¬ holI ls xs ≠ 0 ∧ ¬ holI ls ys ≠ 0 := by
  by_cases h1 : holI ls xs ≠ 0
  · rw [two_x h1] at h; exact absurd h1 h
  · rw [two_y h1] at h; exact ⟨h1, h⟩
theorem goI_nil : goI (none, []) := ⟨rfl, rfl⟩
section
variable {P : Program} {n : Nat} {w0 : World} {E : Env} {G : Heap} {ty : TypeId} {pos : String} {aft : Array Edge} {g : Option (Nat × Bool)} {ops : Array Oper} {Q : Exit → Act → World → Prop} {l : List Oper}
theorem TL.put1 {dd : Option Nat} {x y : Operand} {h : HD} {len : Nat} {ys ys' : List Value} {j t : Nat} {e : TypeId} {v : Value} {G' : Heap} (hx : evo E x = some (.pointer (some ⟨(h.map (·.1)).getD 0, j * 1, none⟩))) (hy : evo E y = some v)
    (hsz : cellsN P t = some 1) (hone : v.oneCell' = true) (hok : gok h len 1 ys) (hys : ys' = ys.set j v) (hT : PutH e h ys ys' G G') (hj : j < len) (hg : wants ops E g = some true) (hdd : dd = none)
    (hk : TL P n w0 ops Q l E G') : TL P n w0 ops Q (⟨dd, .store t x y, ty, pos, aft, g⟩ :: l) E G := by
  cases h with
  | none => exact absurd hok.2 (by simp only; omega)
  | some hh =>
    obtain ⟨b, cap, sp⟩ := hh
    subst hys
    have hl := hok.1
    have e9 : (ys ++ sp).toArray.setIfInBounds (j * 1) v = (ys.set j v ++ sp).toArray := by
      simp only [List.setIfInBounds_toArray, Nat.mul_one]
      rw [List.set_append_left _ _ (by omega)]
    exact TL.store (cs := (ys ++ sp).toArray) (b := b) (off := j * 1) (v := v) (e := e) hx hy hsz hone (by rw [e9]; exact hT.upd) (by simp; omega) hg hdd hk
theorem TL.putI {dd : Option Nat} {x y : Operand} {h : HD} {xs xs' : List Int} {j t : Nat} {v : Int} {G' : Heap} (hx : evo E x = some (.pointer (some ⟨(h.map (·.1)).getD 0, j * 1, none⟩))) (hy : evo E y = some (.int .i64 v))
    (hsz : cellsN P t = some 1) (hok : goI (h, xs)) (hs : xs.set j v = xs') (hT : PutH 3 h (ival xs) (ival xs') G G') (hj : j < xs.length) (hg : wants ops E g = some true) (hdd : dd = none)
    (hk : TL P n w0 ops Q l E G') : TL P n w0 ops Q (⟨dd, .store t x y, ty, pos, aft, g⟩ :: l) E G :=
  TL.put1 (v := .int .i64 v) hx hy hsz rfl hok (by rw [← hs]; exact List.map_set) hT hj hg hdd hk
theorem src_g {tx e' e len : Nat} {h : HD} {ys : List Value} (hk : P.underlying tx = some (.slice e')) (hok : gok h len 1 ys) (hm : ∀ y ∈ gblk h e ys, y ∈ G) (h1 : ys.all Value.oneCell' = true) {w' : World} (hN : New w0 w' G) : Src P 1 tx (gval h len) len ys w' := by
  have hl := hok.1
  cases h with
  | none =>
    have h0 : len = 0 := hok.2
    subst h0
    have : ys = [] := by cases ys with
      | nil => rfl
      | cons _ _ => simp at hl
    subst this
    exact Src.ofNil w' hk 0
  | some hh =>
    obtain ⟨b, cap, sp⟩ := hh
    exact src_blk hk (hm _ (.head _)) (by omega) (fun j v hv => by
      have hj : j < ys.length := (List.getElem?_eq_some_iff.1 hv).1
      simp only [List.getElem?_toArray]
      rw [List.getElem?_append_left hj]; exact hv) h1 hN
end
theorem ival_one (l : List Int) : (ival l).all Value.oneCell' = true := by simp [Value.oneCell']
theorem ints_nil {w : World} {l : List Int} (h : IntsAt w none l) : l = [] := by
  cases l with
  | nil => rfl
  | cons x r => obtain ⟨q, hq, _⟩ := h 0 (by simp); cases hq
theorem ints_src {P : Program} {t e : TypeId} (ht : P.underlying t = some (.slice e)) {w : World} {p : Option Addr} {l : List Int} {c K : Nat} (hK : l.length = K) (h : IntsAt w p l) : Src P 1 t (.slice p K c) K (ival l) w := by
  subst hK
  cases p with
  | none =>
    have h0 := ints_nil h
    subst h0
    exact Src.ofNil w ht c
  | some q =>
    refine Src.ofSlice w ht q l.length c (ival l) (by simp) (fun j u hu => ?_) (fun v hv => by obtain ⟨i, _, rfl⟩ := List.mem_map.1 hv; rfl)
    have hj : j < l.length := by have := (List.getElem?_eq_some_iff.1 hu).1; simpa using this
    obtain ⟨q', hq', hc⟩ := h j hj
    cases hq'
    rw [Nat.mul_one] at hc
    rw [hc, ← hu, List.getElem?_map, List.getElem?_eq_getElem hj]
    simp [List.getD, hj]
theorem go_len {h : HD} {n : Nat} {xs l : List Int} (ho : gok h n 1 (ival xs)) (hl : l.length = n) : gok h n 1 (ival l) := by
  obtain ⟨h1, h2⟩ := ho
  refine ⟨by simp [hl], ?_⟩
  cases h with
  | none => exact h2
  | some hh =>
    obtain ⟨b, c, sp⟩ := hh
    simp only [List.length_map] at h1 h2 ⊢
    exact ⟨by omega, h2.2⟩
theorem go_lenI {h : HD} {n : Nat} {xs l : List Int} (ho : gok h n 1 (ival xs)) (hl : l.length = n) : goI (h, l) := by
  have := go_len ho hl
  subst hl
  exact this
/-! Lists that are joined, column by column. -/
def gxN (J : Int → Int → Int) (xs ys : List Int) (k : Nat) : List Int := (List.zipWith J xs ys).take k ++ xs.drop k
theorem gx_len {J : Int → Int → Int} {xs ys : List Int} {n : Nat} (hx : xs.length = n) (hy : ys.length = n) (k : Nat) : (gxN J xs ys k).length = n := by
  unfold gxN
  rw [List.length_append, List.length_take, List.length_drop, zip_len hx hy, hx]
  omega
theorem gx_at {J : Int → Int → Int} {xs ys : List Int} {n : Nat} (hx : xs.length = n) (hy : ys.length = n) {k : Nat} (hk : k < n) : (gxN J xs ys k).getD k 0 = xs.getD k 0 := by
  unfold gxN
  have h1 : ((List.zipWith J xs ys).take k).length = k := by rw [List.length_take, zip_len hx hy]; omega
  simp [List.getD, List.getElem?_append, h1]
theorem gx_set {J : Int → Int → Int} {xs ys : List Int} {n : Nat} (hx : xs.length = n) (hy : ys.length = n) {k : Nat} (hk : k < n) : (gxN J xs ys k).set k (J (xs.getD k 0) (ys.getD k 0)) = gxN J xs ys (k + 1) := by
  have hz := zip_len (J := J) hx hy
  refine ints_ext (by rw [List.length_set, gx_len hx hy, gx_len hx hy]) fun j hj => ?_
  rw [List.length_set, gx_len hx hy] at hj
  have h1 : ((List.zipWith J xs ys).take k).length = k := by rw [List.length_take, hz]; omega
  have h2 : ((List.zipWith J xs ys).take (k + 1)).length = k + 1 := by rw [List.length_take, hz]; omega
  have hl := gx_len (J := J) hx hy k
  by_cases e : k = j
  · subst e
    rw [set_at (by omega), if_pos rfl]
    unfold gxN
    simp only [List.getD_eq_getElem?_getD]
    rw [List.getElem?_append_left (by omega), List.getElem?_take_of_lt (by omega), List.getElem?_zipWith, List.getElem?_eq_getElem (by omega), List.getElem?_eq_getElem (by omega)]
    rfl
  · rw [set_at (by omega), if_neg e]
    unfold gxN
    simp only [List.getD_eq_getElem?_getD]
    by_cases h : j < k
    · rw [List.getElem?_append_left (by omega), List.getElem?_append_left (by omega), List.getElem?_take_of_lt h, List.getElem?_take_of_lt (by omega)]
    · rw [List.getElem?_append_right (by omega), List.getElem?_append_right (by omega), h1, h2, List.getElem?_drop, List.getElem?_drop]
      congr 2
      omega
theorem gx_zero (J : Int → Int → Int) (xs ys : List Int) : gxN J xs ys 0 = xs := by simp [gxN]
theorem gx_end {J : Int → Int → Int} {xs ys : List Int} {n k : Nat} (hx : xs.length = n) (hy : ys.length = n) (hk : n ≤ k) : gxN J xs ys k = List.zipWith J xs ys := by
  unfold gxN
  rw [List.take_of_length_le (by rw [zip_len hx hy]; exact hk), List.drop_eq_nil_of_le (by omega), List.append_nil]
/-- The first rows, joined. -/
def fldJ (J : Int → Int → Int) (x0 : List Int) (xss : List (List Int)) (i : Nat) : List Int := (xss.take i).foldl (List.zipWith J) x0
theorem fld_succ {J : Int → Int → Int} {x0 : List Int} {xss : List (List Int)} {i : Nat} (hi : i < xss.length) : fldJ J x0 xss (i + 1) = List.zipWith J (fldJ J x0 xss i) (xss.getD i []) := by
  unfold fldJ
  rw [List.take_add_one, List.getElem?_eq_getElem hi, Option.toList_some, List.foldl_append, show xss.getD i [] = xss[i] by simp [List.getD, hi]]
  rfl
theorem fld_len {J : Int → Int → Int} {x0 : List Int} {xss : List (List Int)} {m : Nat} (h0 : x0.length = m) (h : ∀ i, i < xss.length → (xss.getD i []).length = m) : ∀ i, i ≤ xss.length → (fldJ J x0 xss i).length = m
  | 0, _ => h0
  | i + 1, hi => by rw [fld_succ hi]; exact zip_len (fld_len h0 h i (by omega)) (h i (by omega))


set_option maxRecDepth 100000 in
set_option maxHeartbeats 1000000 in
theorem least_ok (w0 : World) (p3 : Option Addr) (c3 : Nat) (xss : List (List Int)) (hs3 : LsAt w0 p3 xss) (N3 : Nat) (hN3 : xss.length = N3) (h03 : 0 < N3) (hb3 : N3 ≤ 1000000) (m : Nat) (hm : ∀ i, i < xss.length → (xss.getD i []).length = m) (hm9 : m ≤ 1000) :
    Calls Try.prog 71 #[.slice p3 N3 c3] w0 (Post (X := HD) (fun h => gval h m) (fun h => gok h m 1 (ival (fldJ min (xss.getD 0 []) xss xss.length))) (fun h => gbI (h, fldJ min (xss.getD 0 []) xss xss.length)) w0) := by
  have h0m := hm 0 (by omega)
  have hfl := fld_len (J := min) h0m hm
  obtain ⟨q0, hq0p, p0, c0, hq0, hi0⟩ := hs3 0 (by omega)
  rw [h0m] at hq0
  refine calls Try.func71 rfl (n := 39) rfl (by simp) ?_
  refine TC.seq ?_
  refine TC.region ?_
  refine TL.pure (PV.assign rfl) rfl (by decide) ?_
  refine TL.nil ?_
  refine TQ.thenC ?_
  refine TC.seq ?_
  refine TC.region ?_
  refine TL.buildSlice0 Tb.sl_25 Tb.zi_3 rfl (by decide) (fun bA hbA => ?_)
  refine TL.pure (PV.move rfl) rfl (by decide) ?_
  refine TL.pure (PV.indexA (j := 0) rfl hq0p rfl Tb.elm_22 rfl (by omega)) rfl (by decide) ?_
  refine TL.pure (PV.loadOld rfl Tb.one_25 hq0) rfl (by decide) ?_
  refine TL.append0 (m := m) (news := ival (xss.getD 0 [])) (bA := bA) rfl rfl Tb.sl_25 Tb.zi_3 rfl (by repeat (first | exact Take.head _ | apply Take.tail | apply Take.appR)) (fun w' hN2 => ints_src Tb.sl_25 h0m (hi0.new hN2)) (by omega) (by omega) rfl (by decide) (fun h9 ho9 => ?_)
  refine TL.pure (PV.assign rfl) rfl (by decide) ?_
  refine TL.nil ?_
  refine TQ.thenC ?_
  refine TC.seq ?_
  refine TC.seq ?_
  refine TC.region ?_
  refine TL.pure (PV.assign rfl) rfl (by decide) ?_
  refine TL.nil ?_
  refine TQ.thenC ?_
  refine TC.block ?_
  refine TC.loopK [0, 2, 3] (X := Nat) (fun i => i ≤ xss.length) (fun i => [(4, .int .i64 i)]) (fun i => gbI (h9, (fldJ min (xss.getD 0 []) xss i)) ++ []) (fun i => xss.length - i) 0 (Nat.zero_le _) (by repeat (first | exact True.intro | refine And.intro rfl ?_)) (List.Sublist.refl _) ?_
  intro i hi
  refine TC.seq ?_
  refine TC.seq ?_
  refine TC.region ?_
  refine TL.pure (PV.move rfl) rfl (by decide) ?_
  refine TL.pure (PV.move rfl) rfl (by decide) ?_
  refine TL.pure (PV.len rfl Tb.sl_22) rfl (by decide) ?_
  refine TL.pure (PV.lss rfl rfl) rfl (by decide) ?_
  refine TL.nil ?_
  refine TQ.thenC ?_
  first | refine TC.condD rfl (fun hlt => ?_) (fun hlt => ?_) | refine TC.cond rfl (fun hlt => ?_) (fun hlt => ?_)
  · skip
    refine TC.skip ?_
    refine TQ.thenC ?_
    refine TC.seq ?_
    refine TC.block ?_
    refine TC.seq ?_
    refine TC.region ?_
    refine TL.pure (PV.assign rfl) rfl (by decide) ?_
    refine TL.nil ?_
    refine TQ.thenC ?_
    refine TC.block ?_
    refine TC.loopK [0, 2, 3, 4] (X := Nat) (fun c => c ≤ m) (fun c => [(5, .int .i64 c)]) (fun c => gbI (h9, (gxN min (fldJ min (xss.getD 0 []) xss i) (xss.getD i []) c)) ++ []) (fun c => m - c) 0 (Nat.zero_le _) (by repeat (first | exact True.intro | refine And.intro rfl ?_)) (by rw [gx_zero]; exact List.Sublist.refl _) ?_
    intro c hc
    refine TC.seq ?_
    refine TC.seq ?_
    refine TC.region ?_
    refine TL.pure (PV.move rfl) rfl (by decide) ?_
    refine TL.pure (PV.move rfl) rfl (by decide) ?_
    refine TL.pure (PV.lenG rfl ho9 Tb.sl_25) rfl (by decide) ?_
    refine TL.pure (PV.lss rfl rfl) rfl (by decide) ?_
    refine TL.nil ?_
    refine TQ.thenC ?_
    first | refine TC.condD rfl (fun hlt2 => ?_) (fun hlt2 => ?_) | refine TC.cond rfl (fun hlt2 => ?_) (fun hlt2 => ?_)
    · skip
      refine TC.skip ?_
      refine TQ.thenC ?_
      refine TC.seq ?_
      refine TC.block ?_
      obtain ⟨q1, hq1p, p1, c1, hq1, hi1⟩ := hs3 i (by omega)
      have hf1 := hfl i (by omega)
      have hf2 := hm i (by omega)
      rw [hf2] at hq1
      obtain ⟨q2, hq2p, hq2⟩ := hi1 c (by omega)
      have hgl := gx_len (J := min) hf1 hf2 c
      have hgo : goI (h9, (gxN min (fldJ min (xss.getD 0 []) xss i) (xss.getD i []) c)) := go_lenI ho9 hgl
      refine TC.draw 15 Tb.mixed (by kernel_rfl) ?_
      simp only [List.take_succ_cons, List.take_zero, List.drop_succ_cons, List.drop_zero]
      refine TS.pure (PV.move rfl) rfl (by decide) ?_
      refine TS.pure (PV.move rfl) rfl (by decide) ?_
      refine TS.pure (PV.move rfl) rfl (by decide) ?_
      refine TS.pure (PV.move rfl) rfl (by decide) ?_
      refine TS.pure (PV.indexG (j := c) rfl rfl ho9 Tb.elm_25 rfl (by omega)) rfl (by decide) ?_
      refine TS.pure (PV.loadGI (y := (h9, (gxN min (fldJ min (xss.getD 0 []) xss i) (xss.getD i []) c))) (j := c) (v := (fldJ min (xss.getD 0 []) xss i).getD c 0) rfl Tb.one_3 (fun yy hyy => by repeat (first | exact List.mem_append_left _ hyy | exact List.mem_append_left _ (List.mem_append_right _ hyy) | exact List.mem_append_left _ (List.mem_append_left _ hyy) | refine List.mem_append_right _ ?_ | refine List.Mem.tail _ ?_)) hgo (by show c < (gxN _ _ _ _).length; omega) (gx_at hf1 hf2 (by omega))) rfl (by decide) ?_
      refine TS.pure (PV.move rfl) rfl (by decide) ?_
      refine TS.pure (PV.move rfl) rfl (by decide) ?_
      refine TS.pure (PV.indexA (j := i) rfl hq1p rfl Tb.elm_22 rfl (by omega)) rfl (by decide) ?_
      refine TS.pure (PV.loadOld rfl Tb.one_25 hq1) rfl (by decide) ?_
      refine TS.pure (PV.move rfl) rfl (by decide) ?_
      refine TS.pure (PV.indexA rfl hq2p rfl Tb.elm_25 rfl (by omega)) rfl (by decide) ?_
      refine TS.pure (PV.loadOld rfl Tb.one_3 hq2) rfl (by decide) ?_
      refine TS.pure (PV.min rfl rfl Tb.int_3) rfl (by decide) ?_
      refine TS.pure (PV.indexG (j := c) rfl rfl ho9 Tb.elm_25 rfl (by omega)) rfl (by decide) ?_
      refine TS.nil ?_
      refine TL.putI (h := h9) (xs := (gxN min (fldJ min (xss.getD 0 []) xss i) (xss.getD i []) c)) (xs' := gxN min (fldJ min (xss.getD 0 []) xss i) (xss.getD i []) (c + 1)) (j := c) rfl rfl Tb.cells_3 hgo (gx_set hf1 hf2 (by omega)) (by repeat (first | exact PutH.here _ _ _ _ | apply PutH.tail | apply PutH.app)) (by omega) rfl rfl ?_
      refine TL.nil ?_
      refine TQ.blkN ?_
      refine TQ.thenC ?_
      refine TC.region ?_
      refine TL.pure (PV.move rfl) rfl (by decide) ?_
      refine TL.pure (PV.add rfl rfl (by omega)) rfl (by decide) ?_
      refine TL.pure (PV.assign rfl) rfl (by decide) ?_
      refine TL.nil ?_
      refine TQ.thenN ?_
      refine TQ.backK (c + 1) (by repeat (first | exact True.intro | refine And.intro rfl ?_)) (by repeat (first | exact True.intro | refine And.intro rfl ?_)) (List.Sublist.refl _) (by omega) (by omega)
    · skip
      refine TC.exit ?_
      refine TQ.thenE ?_
      refine TQ.thenE ?_
      refine TQ.blkS ?_
      refine TQ.blkN ?_
      refine TQ.thenC ?_
      refine TC.region ?_
      refine TL.pure (PV.move rfl) rfl (by decide) ?_
      refine TL.pure (PV.add rfl rfl (by omega)) rfl (by decide) ?_
      refine TL.pure (PV.assign rfl) rfl (by decide) ?_
      refine TL.nil ?_
      refine TQ.thenN ?_
      refine TQ.backK (i + 1) (by repeat (first | exact True.intro | refine And.intro rfl ?_)) (by repeat (first | exact True.intro | refine And.intro rfl ?_)) (by rw [fld_succ (by omega), gx_end (hfl i (by omega)) (hm i (by omega)) (show m ≤ c by omega)]; exact List.Sublist.refl _) (by omega) (by omega)
  · skip
    refine TC.exit ?_
    refine TQ.thenE ?_
    refine TQ.thenE ?_
    refine TQ.blkS ?_
    refine TQ.thenC ?_
    refine TC.seq ?_
    refine TC.region ?_
    refine TL.pure (PV.move rfl) rfl (by decide) ?_
    refine TL.pure (PV.assign rfl) rfl (by decide) ?_
    refine TL.nil ?_
    refine TQ.thenC ?_
    refine TC.ret ?_
    refine TQ.retE1 rfl rfl ?_
    exact ⟨h9, rfl, go_len ho9 (hfl _ (Nat.le_refl _)), by rw [show i = xss.length by omega, List.append_nil]; exact List.Sublist.refl _⟩

end Go.Proofs.Ytfgjojoipbbacaa
