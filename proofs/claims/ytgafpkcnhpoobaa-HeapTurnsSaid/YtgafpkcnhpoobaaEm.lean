/- Drop, CheckScript, CheckList, Total: contracts. -/
import Derived.Test.YtgafpkcnhpoobaaEl
set_option linter.unusedVariables false
set_option linter.unusedSimpArgs false
namespace Go.Proofs.Ytgafpkcnhpoobaa
open Go.Sx Go.RowKit Go.Sand

/-- What Drop says. -/
abbrev drL (xs : List Int) (i : Nat) : List Int := xs.set i (xs.getD i 0 + 1)
structure DroP (ls : List (List Int)) (gs xs : List Int) (i : Int) (c : List Int) (n : Int) : Prop where
  bad : vhI ls gs xs i ≠ 0 → c = [] ∧ n = 0
  ok : ¬ vhI ls gs xs i ≠ 0 → ∃ m, StbL ls gs (drL xs i.toNat) c m ∧ n = sm gs.length (gd m)
theorem DroP.unique {ls : List (List Int)} {gs xs c d : List Int} {i n k : Int} (h : DroP ls gs xs i c n) (h2 : DroP ls gs xs i d k) : c = d ∧ n = k := by
  by_cases h0 : vhI ls gs xs i ≠ 0
  · rw [(h.bad h0).1, (h2.bad h0).1, (h.bad h0).2, (h2.bad h0).2]; exact ⟨rfl, rfl⟩
  · obtain ⟨m, s1, e1⟩ := h.ok h0
    obtain ⟨m2, s2, e2⟩ := h2.ok h0
    obtain ⟨e3, e4⟩ := s1.unique s2
    exact ⟨e3, by rw [e1, e2, e4]⟩
theorem DroP.len {ls : List (List Int)} {gs xs c : List Int} {i n : Int} (h : DroP ls gs xs i c n) : c.length ≤ 1000000 := by
  by_cases h0 : vhI ls gs xs i ≠ 0
  · rw [(h.bad h0).1]; exact Nat.zero_le _
  · obtain ⟨m, s1, _⟩ := h.ok h0
    have := s1.1
    have := (giv_hb (vh_of h0).1).1.n
    omega
theorem drL_bd {xs : List Int} {i : Nat} (h : ∀ k, 0 ≤ xs.getD k 0 ∧ xs.getD k 0 ≤ 30) (k : Nat) : 0 ≤ (drL xs i).getD k 0 ∧ (drL xs i).getD k 0 ≤ 31 := by
  by_cases hi : i < xs.length
  · rw [set_at hi]
    have := h k
    have := h i
    split <;> omega
  · rw [drL, List.set_eq_of_length_le (by omega)]
    have := h k
    omega
theorem smk_bd {m : List Int} {n : Nat} (hm : ∀ j, j < n → 0 ≤ m.getD j 0 ∧ m.getD j 0 ≤ 25000) : ∀ k, k ≤ n → 0 ≤ sm k (gd m) ∧ sm k (gd m) ≤ 25000 * k
  | 0, _ => by simp [sm]
  | k + 1, h => by
    have h1 := smk_bd hm k (by omega)
    have h2 := hm k (by omega)
    have e : sm (k + 1) (gd m) = sm k (gd m) + m.getD k 0 := rfl
    omega
def scB (n : Nat) (zs : List Int) : Bool := decide (zs.length = n) && zs.all fun x => wiB x (-1000) 1000
theorem any_all2 : ∀ xs : List Int, (!xs.any fun x => decide (x < -1000) || decide (1000 < x)) = xs.all fun x => wiB x (-1000) 1000
  | [] => rfl
  | x :: xs => by
    rw [List.any_cons, List.all_cons, Bool.not_or, any_all2 xs]
    congr 1
    unfold wiB
    rw [Bool.eq_iff_iff]
    simp
theorem sc_at {n : Nat} {zs : List Int} (h : scB n zs = true) : zs.length = n ∧ ∀ k, -1000 ≤ zs.getD k 0 ∧ zs.getD k 0 ≤ 1000 := by
  unfold scB at h
  simp only [Bool.and_eq_true, decide_eq_true_eq] at h
  refine ⟨h.1, fun k => ?_⟩
  by_cases hk : k < zs.length
  · have h9 := all_at' (f := fun x => wiB x (-1000) 1000) (d := 0) h.2 hk
    exact of_decide_eq_true h9
  · have e : zs.getD k 0 = 0 := by simp [List.getD, hk]
    omega
theorem sc_len {n : Nat} {zs : List Int} (h : ¬ zs.length = n) : scB n zs = false := by unfold scB; rw [decide_eq_false h, Bool.false_and]
theorem sc_no {n : Nat} {zs : List Int} {k : Nat} (hk : k < zs.length) (h : ¬ (-1000 ≤ zs.getD k 0 ∧ zs.getD k 0 ≤ 1000)) : scB n zs = false := by
  unfold scB
  rw [all_no (k := k) (d := 0) hk (decide_eq_false h), Bool.and_false]
theorem sc_yes {n : Nat} {zs : List Int} (hl : zs.length = n) (h : ∀ k, k < zs.length → -1000 ≤ zs.getD k 0 ∧ zs.getD k 0 ≤ 1000) : scB n zs = true := by
  unfold scB
  rw [decide_eq_true hl, all_yes (f := fun x => wiB x (-1000) 1000) (d := 0) (fun k hk => decide_eq_true (h k hk))]
  rfl
/-- Behind the first topples of a script. -/
def tpS (ls : List (List Int)) (gs xs zs : List Int) : Nat → List Int
  | 0 => xs
  | k + 1 => tpN ls gs (tpS ls gs xs zs k) k (zs.getD k 0)
theorem tpS_len (ls : List (List Int)) (gs xs zs : List Int) : ∀ k, (tpS ls gs xs zs k).length = xs.length
  | 0 => rfl
  | k + 1 => by show (tpN _ _ _ _ _).length = _; rw [tp_len, tpS_len ls gs xs zs k]
theorem tpN_bd {ls : List (List Int)} {gs xs : List Int} (hB : HB ls gs) {i : Nat} (hi : i < gs.length) {t T B : Int} (ht : -T ≤ t ∧ t ≤ T) (h : ∀ k, -B ≤ xs.getD k 0 ∧ xs.getD k 0 ≤ B) (k : Nat) : -(B + T * 14) ≤ (tpN ls gs xs i t).getD k 0 ∧ (tpN ls gs xs i t).getD k 0 ≤ B + T * 14 := by
  have hT : 0 ≤ T := by omega
  have hB0 : 0 ≤ B := by have := h 0; omega
  refine at_bd (by omega) (fun j hj => ?_) k
  rw [tp_len] at hj
  have h1 := mul_bd ht (hB.ent i j)
  have h2 := mul_bd (a := limI ls gs i) (c := 12) ht ⟨by have := (hB.lim hi).1; omega, (hB.lim hi).2⟩
  have h3 := h j
  unfold tpN
  rw [mk_at _ hj]
  split <;> omega
theorem tpS_bd {ls : List (List Int)} {gs xs zs : List Int} (hB : HB ls gs) (hx : ∀ k, 0 ≤ xs.getD k 0 ∧ xs.getD k 0 ≤ 30) : ∀ n, n ≤ gs.length → (∀ j, j < n → -1000 ≤ zs.getD j 0 ∧ zs.getD j 0 ≤ 1000) → ∀ k, -(30 + 14000 * (n : Int)) ≤ (tpS ls gs xs zs n).getD k 0 ∧ (tpS ls gs xs zs n).getD k 0 ≤ 30 + 14000 * (n : Int)
  | 0, _, _ => fun k => by have := hx k; show _ ≤ xs.getD k 0 ∧ xs.getD k 0 ≤ _; omega
  | n + 1, hn, hz => fun k => by
    have ih := tpS_bd hB hx n (by omega) (fun j hj => hz j (by omega))
    have h1 := tpN_bd hB (i := n) (by omega) (T := 1000) (hz n (by omega)) ih k
    show _ ≤ (tpN _ _ _ _ _).getD k 0 ∧ (tpN _ _ _ _ _).getD k 0 ≤ _
    omega
theorem tpS_dl {ls : List (List Int)} {gs xs zs : List Int} (hB : HB ls gs) (hl : xs.length = gs.length) : ∀ n, n ≤ gs.length → ∀ j, j < gs.length → (tpS ls gs xs zs n).getD j 0 = xs.getD j 0 - dl gs.length (lk ls) (gd gs) (fun i => if i < n then zs.getD i 0 else 0) j
  | 0, _, j, hj => by
    rw [dl_congr (k := fun _ => 0) (fun i _ => if_neg (Nat.not_lt_zero i)) hj, dl_zero]
    show xs.getD j 0 = _
    omega
  | n + 1, hn, j, hj => by
    have ih := tpS_dl (xs := xs) (zs := zs) hB hl n (by omega) j hj
    have e : dl gs.length (lk ls) (gd gs) (fun i => if i < n + 1 then zs.getD i 0 else 0) j = dl gs.length (lk ls) (gd gs) (fun i => if i < n then zs.getD i 0 else 0) j + dl gs.length (lk ls) (gd gs) (fun q => if q = n then zs.getD n 0 else 0) j := by
      rw [← dl_add]
      refine dl_congr (fun i _ => ?_) hj
      by_cases h1 : i < n
      · rw [if_pos (by omega), if_pos h1, if_neg (by omega)]; omega
      · by_cases h2 : i = n
        · subst h2; rw [if_pos (by omega), if_neg h1, if_pos rfl]; omega
        · rw [if_neg (by omega), if_neg h1, if_neg h2]; rfl
    show (tpN ls gs (tpS ls gs xs zs n) n (zs.getD n 0)).getD j 0 = _
    unfold tpN
    rw [mk_at _ (by rw [tpS_len]; omega), ih, e, dl_pt _ (by omega)]
    have hs : getM ls n j = getM ls j n := hB.G.sy n j (by omega) hj
    show xs.getD j 0 - _ + zs.getD n 0 * getM ls n j - (if j = n then zs.getD n 0 * lim gs.length (lk ls) (gd gs) n else 0) = xs.getD j 0 - (_ + ((if j = n then lim gs.length (lk ls) (gd gs) n * zs.getD n 0 else 0) - getM ls j n * zs.getD n 0))
    rw [hs, Int.mul_comm (lim gs.length (lk ls) (gd gs) n), Int.mul_comm (getM ls j n)]
    omega
noncomputable def csI (ls : List (List Int)) (gs xs ys zs : List Int) : Int := open Classical in if givI ls gs [xs, ys] ≠ 0 then givI ls gs [xs, ys] else if scB gs.length zs = false then 1 else if tpS ls gs xs zs gs.length = ys then 0 else 7
theorem cs_bad {ls : List (List Int)} {gs xs ys zs : List Int} (h : givI ls gs [xs, ys] ≠ 0) : csI ls gs xs ys zs = givI ls gs [xs, ys] := if_pos h
theorem cs_1 {ls : List (List Int)} {gs xs ys zs : List Int} (h : ¬ givI ls gs [xs, ys] ≠ 0) (h2 : scB gs.length zs = false) : csI ls gs xs ys zs = 1 := by unfold csI; rw [if_neg h, if_pos h2]
theorem cs_7 {ls : List (List Int)} {gs xs ys zs : List Int} (h : ¬ givI ls gs [xs, ys] ≠ 0) (h2 : scB gs.length zs = true) (h3 : ¬ tpS ls gs xs zs gs.length = ys) : csI ls gs xs ys zs = 7 := by unfold csI; rw [if_neg h, if_neg (by rw [h2]; decide), if_neg h3]
theorem cs_0 {ls : List (List Int)} {gs xs ys zs : List Int} (h : ¬ givI ls gs [xs, ys] ≠ 0) (h2 : scB gs.length zs = true) (h3 : tpS ls gs xs zs gs.length = ys) : csI ls gs xs ys zs = 0 := by unfold csI; rw [if_neg h, if_neg (by rw [h2]; decide), if_pos h3]
/-! Lists of topples. -/
def tpL (ls : List (List Int)) (gs xs zs : List Int) : Nat → List Int
  | 0 => xs
  | k + 1 => tpN ls gs (tpL ls gs xs zs k) (zs.getD k 0).toNat 1
theorem tpL_len (ls : List (List Int)) (gs xs zs : List Int) : ∀ k, (tpL ls gs xs zs k).length = xs.length
  | 0 => rfl
  | k + 1 => by show (tpN _ _ _ _ _).length = _; rw [tp_len, tpL_len ls gs xs zs k]
theorem tpL_bd {ls : List (List Int)} {gs xs zs : List Int} (hB : HB ls gs) (hx : ∀ k, 0 ≤ xs.getD k 0 ∧ xs.getD k 0 ≤ 30) : ∀ n, (∀ j, j < n → 0 ≤ zs.getD j 0 ∧ zs.getD j 0 < gs.length) → ∀ k, -(30 + 14 * (n : Int)) ≤ (tpL ls gs xs zs n).getD k 0 ∧ (tpL ls gs xs zs n).getD k 0 ≤ 30 + 14 * (n : Int)
  | 0, _ => fun k => by have := hx k; show _ ≤ xs.getD k 0 ∧ xs.getD k 0 ≤ _; omega
  | n + 1, hz => fun k => by
    have ih := tpL_bd hB hx n (fun j hj => hz j (by omega))
    have h0 := hz n (by omega)
    have h1 := tpN_bd hB (i := (zs.getD n 0).toNat) (by omega) (T := 1) (t := 1) (by omega) ih k
    show _ ≤ (tpN _ _ _ _ _).getD k 0 ∧ (tpN _ _ _ _ _).getD k 0 ≤ _
    omega
def okA (ls : List (List Int)) (gs xs zs : List Int) (k : Nat) : Bool := decide (limI ls gs (zs.getD k 0).toNat ≤ (tpL ls gs xs zs k).getD (zs.getD k 0).toNat 0)
def fstN (ls : List (List Int)) (gs xs zs : List Int) : Option Nat := (List.range zs.length).find? fun k => !okA ls gs xs zs k
def heB (gs zs : List Int) : Bool := zs.all fun x => decide (0 ≤ x ∧ x < gs.length)
structure ClR where
  l : List Int
  n : Int
  e : Int
noncomputable def clR (ls : List (List Int)) (gs xs zs : List Int) : ClR := if givI ls gs [xs] ≠ 0 then ⟨[], 0, givI ls gs [xs]⟩ else if 200 < zs.length then ⟨[], 0, 3⟩ else if heB gs zs = false then ⟨[], 0, 4⟩ else
  match fstN ls gs xs zs with
  | some k => ⟨[], k, 6⟩
  | none => ⟨tpL ls gs xs zs zs.length, zs.length, 0⟩
theorem cl_bad {ls : List (List Int)} {gs xs zs : List Int} (h : givI ls gs [xs] ≠ 0) : clR ls gs xs zs = ⟨[], 0, givI ls gs [xs]⟩ := if_pos h
theorem cl_3 {ls : List (List Int)} {gs xs zs : List Int} (h : ¬ givI ls gs [xs] ≠ 0) (h2 : 200 < zs.length) : clR ls gs xs zs = ⟨[], 0, 3⟩ := by unfold clR; rw [if_neg h, if_pos h2]
theorem cl_4 {ls : List (List Int)} {gs xs zs : List Int} (h : ¬ givI ls gs [xs] ≠ 0) (h2 : ¬ 200 < zs.length) (h3 : heB gs zs = false) : clR ls gs xs zs = ⟨[], 0, 4⟩ := by unfold clR; rw [if_neg h, if_neg h2, if_pos h3]
theorem fst_some {ls : List (List Int)} {gs xs zs : List Int} {k : Nat} (hk : k < zs.length) (h : ∀ j, j < k → okA ls gs xs zs j = true) (h2 : okA ls gs xs zs k = false) : fstN ls gs xs zs = some k := by
  unfold fstN
  rw [List.find?_eq_some_iff_getElem]
  refine ⟨by rw [h2]; rfl, k, by simpa using hk, by simp, fun j hj => ?_⟩
  simp only [List.getElem_range, h j hj]
  rfl
theorem fst_none {ls : List (List Int)} {gs xs zs : List Int} (h : ∀ j, j < zs.length → okA ls gs xs zs j = true) : fstN ls gs xs zs = none := by
  unfold fstN
  rw [List.find?_eq_none]
  intro k hk
  rw [h k (List.mem_range.1 hk)]
  decide
theorem cl_6 {ls : List (List Int)} {gs xs zs : List Int} {k : Nat} (h : ¬ givI ls gs [xs] ≠ 0) (h2 : ¬ 200 < zs.length) (h3 : heB gs zs = true) (hk : k < zs.length) (h4 : ∀ j, j < k → okA ls gs xs zs j = true) (h5 : okA ls gs xs zs k = false) : clR ls gs xs zs = ⟨[], k, 6⟩ := by
  unfold clR
  rw [if_neg h, if_neg h2, if_neg (by rw [h3]; decide), fst_some hk h4 h5]
theorem cl_0 {ls : List (List Int)} {gs xs zs : List Int} (h : ¬ givI ls gs [xs] ≠ 0) (h2 : ¬ 200 < zs.length) (h3 : heB gs zs = true) (h4 : ∀ j, j < zs.length → okA ls gs xs zs j = true) : clR ls gs xs zs = ⟨tpL ls gs xs zs zs.length, zs.length, 0⟩ := by
  unfold clR
  rw [if_neg h, if_neg h2, if_neg (by rw [h3]; decide), fst_none h4]
/-- What it means that a list is accepted. -/
theorem cl_ok {ls : List (List Int)} {gs xs zs : List Int} (h : (clR ls gs xs zs).e = 0) : ¬ givI ls gs [xs] ≠ 0 ∧ zs.length ≤ 200 ∧ (∀ j, j < zs.length → 0 ≤ zs.getD j 0 ∧ zs.getD j 0 < gs.length) ∧ (∀ j, j < zs.length → okA ls gs xs zs j = true) ∧ (clR ls gs xs zs).l = tpL ls gs xs zs zs.length := by
  unfold clR at h ⊢
  by_cases h1 : givI ls gs [xs] ≠ 0
  · rw [if_pos h1] at h; exact absurd h h1
  · rw [if_neg h1] at h ⊢
    by_cases h2 : 200 < zs.length
    · rw [if_pos h2] at h; cases h
    · rw [if_neg h2] at h ⊢
      by_cases h3 : heB gs zs = false
      · rw [if_pos h3] at h; cases h
      · rw [if_neg h3] at h ⊢
        cases hf : fstN ls gs xs zs with
        | some k => rw [hf] at h; cases h
        | none =>
          refine ⟨h1, by omega, fun j hj => ?_, fun j hj => ?_, rfl⟩
          · have h4 : heB gs zs = true := by simpa using h3
            have h9 := all_at' (f := fun (x : Int) => decide (0 ≤ x ∧ x < gs.length)) (d := 0) h4 hj
            exact of_decide_eq_true h9
          · have := List.find?_eq_none.1 hf j (List.mem_range.2 hj)
            simpa using this
theorem he_no {gs zs : List Int} {k : Nat} (hk : k < zs.length) (h : ¬ (0 ≤ zs.getD k 0 ∧ zs.getD k 0 < gs.length)) : heB gs zs = false := by
  unfold heB
  rw [all_no (k := k) (d := 0) hk (decide_eq_false h)]
theorem he_yes {gs zs : List Int} (h : ∀ k, k < zs.length → 0 ≤ zs.getD k 0 ∧ zs.getD k 0 < gs.length) : heB gs zs = true :=
  all_yes (f := fun (x : Int) => decide (0 ≤ x ∧ x < gs.length)) (d := 0) fun k hk => decide_eq_true (h k hk)
theorem he_any (gs : List Int) : ∀ zs : List Int, (zs.any fun x => !decide (0 ≤ x ∧ x < gs.length)) = !heB gs zs
  | [] => rfl
  | x :: zs => by
    have ih := he_any gs zs
    unfold heB at ih ⊢
    rw [List.any_cons, List.all_cons, Bool.not_and, ih]
theorem cl_len {ls : List (List Int)} {gs xs zs : List Int} (hx : xs.length ≤ 1000000) : (clR ls gs xs zs).l.length ≤ 1000000 := by
  unfold clR
  split
  · exact Nat.zero_le _
  · split
    · exact Nat.zero_le _
    · split
      · exact Nat.zero_le _
      · split
        · exact Nat.zero_le _
        · show (tpL _ _ _ _ _).length ≤ _
          rw [tpL_len]; exact hx


set_option maxRecDepth 100000 in
theorem total_ok (w0 : World) (pl : Option Addr) (cl : Nat) (xs : List Int) (hx : IntsAt w0 pl xs) (N : Nat) (hN : xs.length = N) (hl : N ≤ 1000000) (hx9 : ∀ k, -1000000 ≤ xs.getD k 0 ∧ xs.getD k 0 ≤ 1000000) :
    Calls Try.prog 33 #[.slice pl N cl] w0 (Post (X := Unit) (fun _ => .int .i64 (sm N (gd xs))) (fun _ => True) (fun _ => []) w0) := by
  refine calls Try.func33 rfl (n := 18) rfl (by simp) ?_
  refine TC.seq ?_
  refine TC.region ?_
  refine TL.pure (PV.assign rfl) rfl (by decide) ?_
  refine TL.nil ?_
  refine TQ.thenC ?_
  refine TC.seq ?_
  refine TC.region ?_
  refine TL.pure (PV.assign rfl) rfl (by decide) ?_
  refine TL.nil ?_
  refine TQ.thenC ?_
  refine TC.seq ?_
  refine TC.seq ?_
  refine TC.region ?_
  refine TL.pure (PV.assign rfl) rfl (by decide) ?_
  refine TL.nil ?_
  refine TQ.thenC ?_
  refine TC.block ?_
  refine TC.loopG [0, 2] (X := Nat) (fun k => k ≤ N ∧ -1000000 * (k : Int) ≤ sm k (gd xs) ∧ sm k (gd xs) ≤ 1000000 * (k : Int)) (fun k => [(4, .int .i64 k), (3, .int .i64 (sm k (gd xs)))]) (fun k => N - k) 0 ⟨Nat.zero_le _, by simp [sm]⟩ (by repeat (first | exact True.intro | refine And.intro rfl ?_)) ?_
  intro k hk
  refine TC.seq ?_
  refine TC.seq ?_
  refine TC.region ?_
  refine TL.pure (PV.move rfl) rfl (by decide) ?_
  refine TL.pure (PV.move rfl) rfl (by decide) ?_
  refine TL.pure (PV.len rfl Tb.sl_23) rfl (by decide) ?_
  refine TL.pure (PV.lss rfl rfl) rfl (by decide) ?_
  refine TL.nil ?_
  refine TQ.thenC ?_
  first | refine TC.condD rfl (fun h0 => ?_) (fun h0 => ?_) | refine TC.cond rfl (fun h0 => ?_) (fun h0 => ?_)
  · skip
    refine TC.skip ?_
    refine TQ.thenC ?_
    refine TC.seq ?_
    refine TC.block ?_
    obtain ⟨q2, hq2p, hq2⟩ := hx k (by omega)
    have h9 := hx9 k
    refine TC.region ?_
    refine TL.pure (PV.move rfl) rfl (by decide) ?_
    refine TL.pure (PV.move rfl) rfl (by decide) ?_
    refine TL.pure (PV.move rfl) rfl (by decide) ?_
    refine TL.pure (PV.indexA rfl hq2p rfl Tb.elm_23 rfl (by omega)) rfl (by decide) ?_
    refine TL.pure (PV.loadOld rfl Tb.one_3 hq2) rfl (by decide) ?_
    refine TL.pure (PV.add rfl rfl (by omega)) rfl (by decide) ?_
    refine TL.pure (PV.assign rfl) rfl (by decide) ?_
    refine TL.nil ?_
    refine TQ.blkN ?_
    refine TQ.thenC ?_
    refine TC.region ?_
    refine TL.pure (PV.move rfl) rfl (by decide) ?_
    refine TL.pure (PV.add rfl rfl (by omega)) rfl (by decide) ?_
    refine TL.pure (PV.assign rfl) rfl (by decide) ?_
    refine TL.nil ?_
    refine TQ.thenN ?_
    refine TQ.backK (k + 1) (by repeat (first | exact True.intro | refine And.intro rfl ?_)) (by repeat (first | exact True.intro | refine And.intro rfl ?_)) (by repeat (first | exact List.Sublist.slnil | exact List.nil_sublist _ | exact List.Sublist.refl _ | refine List.Sublist.cons_cons _ ?_ | refine List.Sublist.cons _ ?_ | refine List.Sublist.trans ?_ (List.sublist_append_right _ _))) ⟨by omega, by have e : sm (k + 1) (gd xs) = sm k (gd xs) + xs.getD k 0 := rfl; have := hx9 k; omega⟩ (by omega)
  · skip
    refine TC.exit ?_
    refine TQ.thenE ?_
    refine TQ.thenE ?_
    refine TQ.blkS ?_
    refine TQ.thenC ?_
    refine TC.seq ?_
    refine TC.region ?_
    refine TL.pure (PV.move rfl) rfl (by decide) ?_
    refine TL.pure (PV.assign rfl) rfl (by decide) ?_
    refine TL.nil ?_
    refine TQ.thenC ?_
    refine TC.ret ?_
    refine TQ.retE1 rfl rfl ?_
    exact ⟨(), by rw [show k = N by omega], trivial, List.nil_sublist _⟩

set_option maxRecDepth 100000 in
set_option maxHeartbeats 1000000 in
theorem Drop_ok (w0 : World) (p : Option Addr) (cp : Nat) (ls : List (List Int)) (hr : LsAt w0 p ls) (q : Option Addr) (cq : Nat) (gs : List Int) (hg : IntsAt w0 q gs) (hlo : ∀ k, (ls.getD k []).length ≤ 1000000) (pl : Option Addr) (cl : Nat) (xs : List Int) (hx : IntsAt w0 pl xs) (hxo : xs.length ≤ 1000000) (i : Int) :
    Calls Try.prog 37 #[hv p ls.length cp q gs.length cq, .slice pl xs.length cl, .int .i64 i] w0 (Post (X := HD × List Int × Int) (fun y => .tuple #[gval y.1 y.2.1.length, .int .i64 y.2.2, .int .i64 (vhI ls gs xs i)]) (fun y => DroP ls gs xs i y.2.1 y.2.2 ∧ goI (y.1, y.2.1)) (fun y => gbI (y.1, y.2.1)) w0) := by
  refine calls Try.func37 rfl (n := 47) rfl (by simp) ?_
  refine TC.seq ?_
  refine TC.region ?_
  refine TL.box rfl rfl (by decide) (fun b0 hb0 => ?_)
  refine TL.pure (PV.assign rfl) rfl (by decide) ?_
  refine TL.pure (PV.assign rfl) rfl (by decide) ?_
  refine TL.pure (PV.assign rfl) rfl (by decide) ?_
  refine TL.nil ?_
  refine TQ.thenC ?_
  refine TC.seq ?_
  refine TC.seq ?_
  refine TC.region ?_
  refine TL.pure (PV.loadBox rfl Tb.agg_25 (by repeat (first | exact List.Mem.head _ | refine List.Mem.tail _ ?_ | refine List.mem_append_right _ ?_)) rfl) rfl (by decide) ?_
  refine TL.pure (PV.move rfl) rfl (by decide) ?_
  refine TL.pure (PV.move rfl) rfl (by decide) ?_
  refine TL.call rfl Tb.gofn_71 (fun a w hs => validateHeap_ok w _ _ _ (hr.new hs.new) _ _ _ (hg.new hs.new) hlo _ _ _ (hx.new hs.new) hxo _) rfl (by decide) (fun _ _ => ?_)
  refine TL.pure (PV.assign rfl) rfl (by decide) ?_
  refine TL.nil ?_
  refine TQ.thenC ?_
  refine TC.seq ?_
  refine TC.region ?_
  refine TL.pure (PV.move rfl) rfl (by decide) ?_
  refine TL.pure (PV.neq rfl rfl) rfl (by decide) ?_
  refine TL.nil ?_
  refine TQ.thenC ?_
  first | refine TC.condD rfl (fun hbad => ?_) (fun hbad => ?_) | refine TC.cond rfl (fun hbad => ?_) (fun hbad => ?_)
  · skip
    refine TC.seq ?_
    refine TC.region ?_
    refine TL.pure (PV.move rfl) rfl (by decide) ?_
    refine TL.pure (PV.assign rfl) rfl (by decide) ?_
    refine TL.pure (PV.assign rfl) rfl (by decide) ?_
    refine TL.pure (PV.assign rfl) rfl (by decide) ?_
    refine TL.nil ?_
    refine TQ.thenC ?_
    refine TC.ret ?_
    refine TQ.thenR ?_
    refine TQ.retE3 rfl rfl rfl rfl ?_
    exact ⟨(none, [], 0), rfl, ⟨⟨fun _ => ⟨rfl, rfl⟩, fun h2 => absurd hbad h2⟩, goI_nil⟩, List.nil_sublist _⟩
  · skip
    refine TC.skip ?_
    refine TQ.thenC ?_
    refine TC.seq ?_
    obtain ⟨hgv, hi1, hi2⟩ := vh_of hbad
    have hB := (giv_hb hgv).1
    have hn9 := hB.n
    obtain ⟨hxl, hx0⟩ := giv_ne hgv
    obtain ⟨u, rfl⟩ : ∃ u : Nat, i = u := ⟨i.toNat, by omega⟩
    refine TC.region ?_
    refine TL.pure (PV.move rfl) rfl (by decide) ?_
    refine TL.call rfl Tb.gofn_73 (fun a w hs => copied_ok w _ _ _ (hx.new hs.new) _ rfl hxo) rfl (by decide) (fun b1 _ => ?_)
    refine TL.pure (PV.assign rfl) rfl (by decide) ?_
    refine TL.nil ?_
    refine TQ.thenC ?_
    refine TC.seq ?_
    have h7 := hx0 u
    refine TC.region ?_
    refine TL.pure (PV.move rfl) rfl (by decide) ?_
    refine TL.pure (PV.move rfl) rfl (by decide) ?_
    refine TL.pure (PV.index1 (j := u) rfl rfl Tb.elm_23 rfl (by omega)) rfl (by decide) ?_
    refine TL.pure (PV.loadI rfl Tb.one_3 (by repeat (first | exact List.Mem.head _ | refine List.Mem.tail _ ?_ | refine List.mem_append_right _ ?_)) (by omega)) rfl (by decide) ?_
    refine TL.pure (PV.add rfl rfl (by omega)) rfl (by decide) ?_
    refine TL.pure (PV.index1 (j := u) rfl rfl Tb.elm_23 rfl (by omega)) rfl (by decide) ?_
    refine TL.storeIv (j := u) (xs' := drL xs u) rfl rfl Tb.cells_3 rfl (by repeat (first | exact Upd.head _ | apply Upd.tail | apply Upd.appR)) (by omega) rfl rfl ?_
    refine TL.nil ?_
    refine TQ.thenC ?_
    refine TC.seq ?_
    refine TC.region ?_
    refine TL.pure (PV.loadBox rfl Tb.agg_25 (by repeat (first | exact List.Mem.head _ | refine List.Mem.tail _ ?_ | refine List.mem_append_right _ ?_)) rfl) rfl (by decide) ?_
    refine TL.pure (PV.move rfl) rfl (by decide) ?_
    refine TL.call rfl Tb.gofn_76 (fun a w hs => settle_ok w _ _ _ (hr.new hs.new) _ _ _ (hg.new hs.new) hB _ _ (drL xs u) (IntsAt.arr hs.new (by repeat (first | exact List.Mem.head _ | refine List.Mem.tail _ ?_ | refine List.mem_append_right _ ?_))) _ (List.length_set ..) ((List.length_set ..).trans hxl) (fun k => by have := drL_bd (i := u) hx0 k; omega)) rfl (by decide) (fun y9 hy9 => ?_)
    refine TL.pure (PV.move rfl) rfl (by decide) ?_
    refine TL.pure (PV.extract rfl rfl) rfl (by decide) ?_
    refine TL.pure (PV.extract rfl rfl) rfl (by decide) ?_
    refine TL.pure (PV.assign rfl) rfl (by decide) ?_
    refine TL.pure (PV.assign rfl) rfl (by decide) ?_
    refine TL.nil ?_
    refine TQ.thenC ?_
    refine TC.seq ?_
    refine TC.seq ?_
    have hsm := (stb_m hB hy9 (fun k => by have := drL_bd (i := u) hx0 k; omega)).1
    have hml := hy9.2.1
    refine TC.region ?_
    refine TL.pure (PV.move rfl) rfl (by decide) ?_
    refine TL.pure (PV.len rfl Tb.sl_23) rfl (by decide) ?_
    refine TL.pure (PV.move rfl) rfl (by decide) ?_
    refine TL.nil ?_
    refine TQ.thenC ?_
    refine TC.block ?_
    refine TC.loopK [6, 8, 35, 36] (X := Nat) (fun k => k ≤ gs.length) (fun k => [(37, .int .i64 k), (7, .int .i64 (sm k (gd y9.2.2.2)))]) (fun k => [(y9.2.1, Obj.cells (intsA (y9.2.2.2)) 3 (0, 0)), (y9.1, Obj.cells (intsA (y9.2.2.1)) 3 (0, 0))]) (fun k => gs.length - k) 0 (Nat.zero_le _) (by repeat (first | exact True.intro | refine And.intro rfl ?_)) (by repeat (first | exact List.Sublist.slnil | exact List.nil_sublist _ | exact List.Sublist.refl _ | refine List.Sublist.cons_cons _ ?_ | refine List.Sublist.cons _ ?_ | refine List.Sublist.trans ?_ (List.sublist_append_right _ _))) ?_
    intro k hk
    refine TC.seq ?_
    refine TC.region ?_
    refine TL.pure (PV.lss rfl rfl) rfl (by decide) ?_
    refine TL.nil ?_
    refine TQ.thenC ?_
    refine TC.seq ?_
    first | refine TC.condD rfl (fun h1 => ?_) (fun h1 => ?_) | refine TC.cond rfl (fun h1 => ?_) (fun h1 => ?_)
    · skip
      refine TC.skip ?_
      refine TQ.thenC ?_
      refine TC.seq ?_
      refine TC.block ?_
      refine TC.seq ?_
      refine TC.region ?_
      refine TL.pure (PV.index1 (j := k) rfl rfl Tb.elm_23 rfl (by omega)) rfl (by decide) ?_
      refine TL.pure (PV.loadI rfl Tb.one_3 (by repeat (first | exact List.Mem.head _ | refine List.Mem.tail _ ?_ | refine List.mem_append_right _ ?_)) (by omega)) rfl (by decide) ?_
      refine TL.pure (PV.assign rfl) rfl (by decide) ?_
      refine TL.nil ?_
      refine TQ.thenC ?_
      have h5 := smk_bd hsm k (by omega)
      have h6 := hsm k (by omega)
      refine TC.region ?_
      refine TL.pure (PV.move rfl) rfl (by decide) ?_
      refine TL.pure (PV.move rfl) rfl (by decide) ?_
      refine TL.pure (PV.add rfl rfl (by omega)) rfl (by decide) ?_
      refine TL.pure (PV.assign rfl) rfl (by decide) ?_
      refine TL.nil ?_
      refine TQ.blkN ?_
      refine TQ.thenC ?_
      refine TC.region ?_
      refine TL.pure (PV.add rfl rfl (by omega)) rfl (by decide) ?_
      refine TL.pure (PV.move rfl) rfl (by decide) ?_
      refine TL.nil ?_
      refine TQ.thenN ?_
      refine TQ.backK (k + 1) (by repeat (first | exact True.intro | refine And.intro rfl ?_)) (by repeat (first | exact True.intro | refine And.intro rfl ?_)) (by repeat (first | exact List.Sublist.slnil | exact List.nil_sublist _ | exact List.Sublist.refl _ | refine List.Sublist.cons_cons _ ?_ | refine List.Sublist.cons _ ?_ | refine List.Sublist.trans ?_ (List.sublist_append_right _ _))) (by omega) (by omega)
    · skip
      refine TC.exit ?_
      refine TQ.thenE ?_
      refine TQ.thenE ?_
      refine TQ.blkS ?_
      refine TQ.thenC ?_
      refine TC.seq ?_
      refine TC.region ?_
      refine TL.pure (PV.move rfl) rfl (by decide) ?_
      refine TL.pure (PV.move rfl) rfl (by decide) ?_
      refine TL.pure (PV.assign rfl) rfl (by decide) ?_
      refine TL.pure (PV.assign rfl) rfl (by decide) ?_
      refine TL.pure (PV.assign rfl) rfl (by decide) ?_
      refine TL.nil ?_
      refine TQ.thenC ?_
      refine TC.ret ?_
      refine TQ.retE3 rfl rfl rfl rfl ?_
      exact ⟨(some (y9.1, gs.length, []), y9.2.2.1, sm k (gd y9.2.2.2)), by rw [Decidable.of_not_not hbad, hy9.1]; rfl, ⟨⟨fun h2 => absurd h2 hbad, fun _ => ⟨_, by rw [Int.toNat_natCast]; exact hy9, by rw [show k = gs.length by omega]⟩⟩, goI_arr hy9.1⟩, by rw [gbI_blk]; exact List.Sublist.cons _ (List.Sublist.cons_cons _ (List.nil_sublist _))⟩

set_option maxRecDepth 100000 in
set_option maxHeartbeats 1000000 in
theorem rDrop_ok (w0 : World) (p : Option Addr) (cp : Nat) (ls : List (List Int)) (hr : LsAt w0 p ls) (q : Option Addr) (cq : Nat) (gs : List Int) (hg : IntsAt w0 q gs) (hlo : ∀ k, (ls.getD k []).length ≤ 1000000) (pl : Option Addr) (cl : Nat) (xs : List Int) (hx : IntsAt w0 pl xs) (hxo : xs.length ≤ 1000000) (i : Int) :
    Calls Try.prog 38 #[hv p ls.length cp q gs.length cq, .slice pl xs.length cl, .int .i64 i] w0 (Post (X := HD × List Int × Int) (fun y => .tuple #[gval y.1 y.2.1.length, .int .i64 y.2.2, .int .i64 (vhI ls gs xs i)]) (fun y => DroP ls gs xs i y.2.1 y.2.2 ∧ goI (y.1, y.2.1)) (fun y => gbI (y.1, y.2.1)) w0) := by
  refine calls Try.func38 rfl (n := 59) rfl (by simp) ?_
  refine TC.seq ?_
  refine TC.region ?_
  refine TL.box rfl rfl (by decide) (fun b0 hb0 => ?_)
  refine TL.pure (PV.assign rfl) rfl (by decide) ?_
  refine TL.pure (PV.assign rfl) rfl (by decide) ?_
  refine TL.pure (PV.assign rfl) rfl (by decide) ?_
  refine TL.nil ?_
  refine TQ.thenC ?_
  refine TC.seq ?_
  refine TC.region ?_
  refine TL.pure (PV.loadBox rfl Tb.agg_25 (by repeat (first | exact List.Mem.head _ | refine List.Mem.tail _ ?_ | refine List.mem_append_right _ ?_)) rfl) rfl (by decide) ?_
  refine TL.pure (PV.move rfl) rfl (by decide) ?_
  refine TL.buildSlice (cs := #[.slice pl xs.length cl]) rfl Tb.sl_22 Tb.zi_23 (by decide) (fill_o _ _ _) (by decide) rfl (by decide) (fun bS hbS => ?_)
  refine TL.call rfl Tb.gofn_69 (fun a w hs => given_ok w _ _ _ (hr.new hs.new) _ _ _ (hg.new hs.new) hlo _ 1 [xs] (LsAt.one hs.new (by repeat (first | exact List.Mem.head _ | refine List.Mem.tail _ ?_ | refine List.mem_append_right _ ?_)) (hx.new hs.new)) (by simp) (one_len hxo)) rfl (by decide) (fun _ _ => ?_)
  refine TL.pure (PV.assign rfl) rfl (by decide) ?_
  refine TL.nil ?_
  refine TQ.thenC ?_
  refine TC.seq ?_
  refine TC.seq ?_
  refine TC.region ?_
  refine TL.pure (PV.move rfl) rfl (by decide) ?_
  refine TL.pure (PV.neq rfl rfl) rfl (by decide) ?_
  refine TL.nil ?_
  refine TQ.thenC ?_
  first | refine TC.condD rfl (fun hbad => ?_) (fun hbad => ?_) | refine TC.cond rfl (fun hbad => ?_) (fun hbad => ?_)
  · skip
    refine TC.seq ?_
    refine TC.region ?_
    refine TL.pure (PV.move rfl) rfl (by decide) ?_
    refine TL.pure (PV.assign rfl) rfl (by decide) ?_
    refine TL.pure (PV.assign rfl) rfl (by decide) ?_
    refine TL.pure (PV.assign rfl) rfl (by decide) ?_
    refine TL.nil ?_
    refine TQ.thenC ?_
    refine TC.ret ?_
    refine TQ.thenR ?_
    refine TQ.retE3 rfl rfl rfl rfl ?_
    have h7 := vh_bad (i := i) hbad
    exact ⟨(none, [], 0), by rw [h7]; rfl, ⟨⟨fun _ => ⟨rfl, rfl⟩, fun h2 => absurd (by rw [h7]; exact hbad) h2⟩, goI_nil⟩, List.nil_sublist _⟩
  · skip
    refine TC.skip ?_
    refine TQ.thenC ?_
    refine TC.seq ?_
    refine TC.seq ?_
    have hB := (giv_hb hbad).1
    have hn9 := hB.n
    obtain ⟨hxl, hx0⟩ := giv_ne hbad
    refine TC.region ?_
    refine TL.pure (PV.move rfl) rfl (by decide) ?_
    refine TL.pure (PV.move rfl) rfl (by decide) ?_
    refine TL.pure (PV.len rfl Tb.sl_23) rfl (by decide) ?_
    refine TL.pure (PV.sub rfl rfl (by omega)) rfl (by decide) ?_
    refine TL.call rfl Tb.gofn_62 (fun a w hs => within_ok w _ _ _) rfl (by decide) (fun _ _ => ?_)
    refine TL.pure ((by first | exact PV.notD rfl | exact PV.not rfl)) rfl (by decide) ?_
    refine TL.nil ?_
    refine TQ.thenC ?_
    first | refine TC.condD rfl (fun hne => ?_) (fun hne => ?_) | refine TC.cond rfl (fun hne => ?_) (fun hne => ?_)
    · skip
      refine TC.seq ?_
      refine TC.region ?_
      refine TL.pure (PV.assign rfl) rfl (by decide) ?_
      refine TL.pure (PV.assign rfl) rfl (by decide) ?_
      refine TL.pure (PV.assign rfl) rfl (by decide) ?_
      refine TL.nil ?_
      refine TQ.thenC ?_
      refine TC.ret ?_
      refine TQ.thenR ?_
      refine TQ.retE3 rfl rfl rfl rfl ?_
      have h7 := vh_4 (i := i) hbad (by omega)
      exact ⟨(none, [], 0), by rw [h7]; rfl, ⟨⟨fun _ => ⟨rfl, rfl⟩, fun h2 => absurd (by rw [h7]; decide) h2⟩, goI_nil⟩, List.nil_sublist _⟩
    · skip
      refine TC.skip ?_
      refine TQ.thenC ?_
      refine TC.seq ?_
      obtain ⟨u, rfl⟩ : ∃ u : Nat, i = u := ⟨i.toNat, by omega⟩
      have hvh := vh_0 (i := (u : Int)) hbad (by omega)
      refine TC.region ?_
      refine TL.buildSlice0 Tb.sl_23 Tb.zi_3 rfl (by decide) (fun bA hbA => ?_)
      refine TL.pure (PV.move rfl) rfl (by decide) ?_
      refine TL.append0 (m := xs.length) (news := ival xs) (bA := bA) rfl rfl Tb.sl_23 Tb.zi_3 rfl (by repeat (first | exact Take.head _ | apply Take.tail | apply Take.appR)) (fun w' hN2 => ints_src Tb.sl_23 rfl (hx.new hN2)) (by omega) (by omega) rfl (by decide) (fun h9 ho9 => ?_)
      refine TL.pure (PV.assign rfl) rfl (by decide) ?_
      refine TL.nil ?_
      refine TQ.thenC ?_
      refine TC.seq ?_
      have h7 := hx0 u
      refine TC.region ?_
      refine TL.pure (PV.move rfl) rfl (by decide) ?_
      refine TL.pure (PV.move rfl) rfl (by decide) ?_
      refine TL.pure (PV.indexG (j := u) rfl rfl ho9 Tb.elm_23 rfl (by omega)) rfl (by decide) ?_
      refine TL.pure (PV.loadGI (y := (h9, xs)) (v := xs.getD u 0) rfl Tb.one_3 (fun yy hyy => by repeat (first | exact List.mem_append_left _ hyy | exact List.mem_append_left _ (List.mem_append_right _ hyy) | exact List.mem_append_left _ (List.mem_append_left _ hyy) | refine List.mem_append_right _ ?_ | refine List.Mem.tail _ ?_)) (go_lenI ho9 rfl) (by show u < xs.length; omega) rfl) rfl (by decide) ?_
      refine TL.pure (PV.add rfl rfl (by omega)) rfl (by decide) ?_
      refine TL.pure (PV.indexG (j := u) rfl rfl ho9 Tb.elm_23 rfl (by omega)) rfl (by decide) ?_
      refine TL.putI (h := h9) (xs := xs) (xs' := drL xs u) (j := u) rfl rfl Tb.cells_3 (go_lenI ho9 rfl) rfl (by repeat (first | exact PutH.here _ _ _ _ | apply PutH.tail | apply PutH.app)) (by omega) rfl rfl ?_
      refine TL.nil ?_
      refine TQ.thenC ?_
      refine TC.seq ?_
      refine TC.region ?_
      refine TL.pure (PV.loadBox rfl Tb.agg_25 (by repeat (first | exact List.Mem.head _ | refine List.Mem.tail _ ?_ | refine List.mem_append_right _ ?_)) rfl) rfl (by decide) ?_
      refine TL.pure (PV.move rfl) rfl (by decide) ?_
      refine TL.call rfl Tb.gofn_77 (fun a w hs => (by rw [gval_eq ho9]; exact rsettle_ok w _ _ _ (hr.new hs.new) _ _ _ (hg.new hs.new) hB _ _ (drL xs u) (IntsAt.g (x := (h9, drL xs u)) hs.new (fun yy hyy => by repeat (first | exact List.mem_append_left _ hyy | exact List.mem_append_left _ (List.mem_append_right _ hyy) | exact List.mem_append_left _ (List.mem_append_left _ hyy) | refine List.mem_append_right _ ?_ | refine List.Mem.tail _ ?_)) (go_lenI ho9 (List.length_set ..))) _ (List.length_set ..) ((List.length_set ..).trans hxl) (fun k => by have := drL_bd (i := u) hx0 k; omega))) rfl (by decide) (fun y9 hy9 => ?_)
      refine TL.pure (PV.move rfl) rfl (by decide) ?_
      refine TL.pure (PV.extract rfl rfl) rfl (by decide) ?_
      refine TL.pure (PV.extract rfl rfl) rfl (by decide) ?_
      refine TL.pure (PV.extract rfl rfl) rfl (by decide) ?_
      refine TL.pure (PV.assign rfl) rfl (by decide) ?_
      refine TL.pure (PV.assign rfl) rfl (by decide) ?_
      refine TL.pure (PV.assign rfl) rfl (by decide) ?_
      refine TL.nil ?_
      refine TQ.thenC ?_
      refine TC.seq ?_
      have hsm := (stb_m hB hy9.1 (fun k => by have := drL_bd (i := u) hx0 k; omega)).1
      have hml := hy9.1.2.1
      refine TC.region ?_
      refine TL.pure (PV.assign rfl) rfl (by decide) ?_
      refine TL.nil ?_
      refine TQ.thenC ?_
      refine TC.seq ?_
      refine TC.seq ?_
      refine TC.region ?_
      refine TL.pure (PV.assign rfl) rfl (by decide) ?_
      refine TL.nil ?_
      refine TQ.thenC ?_
      refine TC.block ?_
      refine TC.loopK [6, 7, 8, 11, 12] (X := Nat) (fun k => k ≤ gs.length) (fun k => [(15, .int .i64 k), (14, .int .i64 (sm k (gd y9.2.2.2)))]) (fun k => gbI (y9.1, y9.2.2.1) ++ [(y9.2.1, Obj.cells (intsA (y9.2.2.2)) 3 (0, 0))]) (fun k => gs.length - k) 0 (Nat.zero_le _) (by repeat (first | exact True.intro | refine And.intro rfl ?_)) (List.sublist_append_left _ _) ?_
      intro k hk
      refine TC.seq ?_
      refine TC.seq ?_
      refine TC.region ?_
      refine TL.pure (PV.move rfl) rfl (by decide) ?_
      refine TL.pure (PV.move rfl) rfl (by decide) ?_
      refine TL.pure (PV.len rfl Tb.sl_23) rfl (by decide) ?_
      refine TL.pure (PV.lss rfl rfl) rfl (by decide) ?_
      refine TL.nil ?_
      refine TQ.thenC ?_
      first | refine TC.condD rfl (fun h2 => ?_) (fun h2 => ?_) | refine TC.cond rfl (fun h2 => ?_) (fun h2 => ?_)
      · skip
        refine TC.skip ?_
        refine TQ.thenC ?_
        refine TC.seq ?_
        refine TC.block ?_
        have h5 := smk_bd hsm k (by omega)
        have h6 := hsm k (by omega)
        refine TC.region ?_
        refine TL.pure (PV.move rfl) rfl (by decide) ?_
        refine TL.pure (PV.move rfl) rfl (by decide) ?_
        refine TL.pure (PV.move rfl) rfl (by decide) ?_
        refine TL.pure (PV.index1 (j := k) rfl rfl Tb.elm_23 rfl (by omega)) rfl (by decide) ?_
        refine TL.pure (PV.loadI rfl Tb.one_3 (by repeat (first | exact List.Mem.head _ | refine List.Mem.tail _ ?_ | refine List.mem_append_right _ ?_)) (by omega)) rfl (by decide) ?_
        refine TL.pure (PV.add rfl rfl (by omega)) rfl (by decide) ?_
        refine TL.pure (PV.assign rfl) rfl (by decide) ?_
        refine TL.nil ?_
        refine TQ.blkN ?_
        refine TQ.thenC ?_
        refine TC.region ?_
        refine TL.pure (PV.move rfl) rfl (by decide) ?_
        refine TL.pure (PV.add rfl rfl (by omega)) rfl (by decide) ?_
        refine TL.pure (PV.assign rfl) rfl (by decide) ?_
        refine TL.nil ?_
        refine TQ.thenN ?_
        refine TQ.backK (k + 1) (by repeat (first | exact True.intro | refine And.intro rfl ?_)) (by repeat (first | exact True.intro | refine And.intro rfl ?_)) (List.Sublist.refl _) (by omega) (by omega)
      · skip
        refine TC.exit ?_
        refine TQ.thenE ?_
        refine TQ.thenE ?_
        refine TQ.blkS ?_
        refine TQ.thenC ?_
        refine TC.seq ?_
        refine TC.region ?_
        refine TL.pure (PV.move rfl) rfl (by decide) ?_
        refine TL.pure (PV.move rfl) rfl (by decide) ?_
        refine TL.pure (PV.assign rfl) rfl (by decide) ?_
        refine TL.pure (PV.assign rfl) rfl (by decide) ?_
        refine TL.pure (PV.assign rfl) rfl (by decide) ?_
        refine TL.nil ?_
        refine TQ.thenC ?_
        refine TC.ret ?_
        refine TQ.retE3 rfl rfl rfl rfl ?_
        exact ⟨(y9.1, y9.2.2.1, sm k (gd y9.2.2.2)), by rw [hvh, hy9.1.1], ⟨⟨fun h2 => absurd hvh h2, fun _ => ⟨_, by rw [Int.toNat_natCast]; exact hy9.1, by rw [show k = gs.length by omega]⟩⟩, go_lenI hy9.2 hy9.1.1⟩, List.sublist_append_left _ _⟩

set_option maxRecDepth 100000 in
theorem isScriptF_ok (w0 : World) (x : Int) :
    Calls Try.prog 102 #[.int .i64 x] w0 (Post (X := Unit) (fun _ => .bool (decide (x < -1000) || decide (1000 < x))) (fun _ => True) (fun _ => []) w0) := by
  refine calls Try.func102 rfl (n := 9) rfl (by simp) ?_
  refine TC.seq ?_
  refine TC.region ?_
  refine TL.pure (PV.assign rfl) rfl (by decide) ?_
  refine TL.nil ?_
  refine TQ.thenC ?_
  refine TC.seq ?_
  refine TC.region ?_
  refine TL.pure (PV.move rfl) rfl (by decide) ?_
  refine TL.pure (PV.lss rfl rfl) rfl (by decide) ?_
  refine TL.pure (PV.move rfl) rfl (by decide) ?_
  first | refine TL.splitD 5 rfl (fun e1 => ?_) (fun e1 => ?_) | refine TL.split 5 rfl (fun e1 => ?_) (fun e1 => ?_)
  · skip
    refine TL.skip rfl (fun k hk => by cases hk; decide) ?_
    refine TL.skip rfl (fun k hk => by cases hk; decide) ?_
    refine TL.pure (PV.pickT rfl rfl) rfl (by decide) ?_
    refine TL.pure (PV.assign rfl) rfl (by decide) ?_
    refine TL.nil ?_
    refine TQ.thenC ?_
    refine TC.ret ?_
    refine TQ.retE1 rfl rfl ?_
    first | exact ⟨(), by rw [decide_eq_true e1]; rfl, trivial, List.nil_sublist _⟩ | exact ⟨(), by rw [decide_eq_false e1]; rfl, trivial, List.nil_sublist _⟩
  · skip
    refine TL.pure (PV.move rfl) rfl (by decide) ?_
    refine TL.pure (PV.gtr rfl rfl) rfl (by decide) ?_
    refine TL.pure (PV.pickF rfl rfl) rfl (by decide) ?_
    refine TL.pure (PV.assign rfl) rfl (by decide) ?_
    refine TL.nil ?_
    refine TQ.thenC ?_
    refine TC.ret ?_
    refine TQ.retE1 rfl rfl ?_
    first | exact ⟨(), by rw [decide_eq_true e1]; rfl, trivial, List.nil_sublist _⟩ | exact ⟨(), by rw [decide_eq_false e1]; rfl, trivial, List.nil_sublist _⟩

set_option maxRecDepth 100000 in
theorem isScript_ok (w0 : World) (p : Option Addr) (cp : Nat) (ls : List (List Int)) (hr : LsAt w0 p ls) (q : Option Addr) (cq : Nat) (gs : List Int) (hg : IntsAt w0 q gs) (p3 : Option Addr) (c3 : Nat) (zs : List Int) (hz : IntsAt w0 p3 zs) (hzo : zs.length ≤ 1000000) :
    Calls Try.prog 78 #[hv p ls.length cp q gs.length cq, .slice p3 zs.length c3] w0 (Post (X := Unit) (fun _ => .bool (scB gs.length zs)) (fun _ => True) (fun _ => []) w0) := by
  refine calls Try.func78 rfl (n := 16) rfl (by simp) ?_
  refine TC.seq ?_
  refine TC.region ?_
  refine TL.box rfl rfl (by decide) (fun b0 hb0 => ?_)
  refine TL.pure (PV.assign rfl) rfl (by decide) ?_
  refine TL.nil ?_
  refine TQ.thenC ?_
  refine TC.seq ?_
  refine TC.region ?_
  refine TL.pure (PV.move rfl) rfl (by decide) ?_
  refine TL.pure (PV.len rfl Tb.sl_23) rfl (by decide) ?_
  refine TL.pure (PV.fieldAddr rfl Tb.fo_25_1) rfl (by decide) ?_
  refine TL.pure (PV.load rfl Tb.one_23 (by repeat (first | exact List.Mem.head _ | refine List.Mem.tail _ ?_ | refine List.mem_append_right _ ?_)) rfl) rfl (by decide) ?_
  refine TL.pure (PV.len rfl Tb.sl_23) rfl (by decide) ?_
  refine TL.pure (PV.eql rfl rfl) rfl (by decide) ?_
  refine TL.pure (PV.move rfl) rfl (by decide) ?_
  first | refine TL.splitD 11 rfl (fun e1 => ?_) (fun e1 => ?_) | refine TL.split 11 rfl (fun e1 => ?_) (fun e1 => ?_)
  · skip
    refine TL.pure (PV.move rfl) rfl (by decide) ?_
    refine TL.call rfl Tb.gofn_80 (fun a w hs => containsFunc_ok w _ _ zs (hz.new hs.new) hzo 102 [] (fun x => decide (x < -1000) || decide (1000 < x)) Tb.gofn_102 (fun w2 G2 hn2 x => isScriptF_ok w2 x)) rfl (by decide) (fun _ _ => ?_)
    refine TL.pure ((by first | exact PV.notD rfl | exact PV.not rfl)) rfl (by decide) ?_
    refine TL.pure (PV.pickT rfl rfl) rfl (by decide) ?_
    refine TL.pure (PV.assign rfl) rfl (by decide) ?_
    refine TL.nil ?_
    refine TQ.thenC ?_
    refine TC.ret ?_
    refine TQ.retE1 rfl rfl ?_
    first | exact ⟨(), by unfold scB; rw [decide_eq_true (by omega), any_all2]; rfl, trivial, List.nil_sublist _⟩ | exact ⟨(), by rw [sc_len (by omega)], trivial, List.nil_sublist _⟩
  · skip
    refine TL.skip rfl (fun k hk => by cases hk; decide) ?_
    refine TL.skip rfl (fun k hk => by cases hk; decide) ?_
    refine TL.skip rfl (fun k hk => by cases hk; decide) ?_
    refine TL.pure (PV.pickF rfl rfl) rfl (by decide) ?_
    refine TL.pure (PV.assign rfl) rfl (by decide) ?_
    refine TL.nil ?_
    refine TQ.thenC ?_
    refine TC.ret ?_
    refine TQ.retE1 rfl rfl ?_
    first | exact ⟨(), by unfold scB; rw [decide_eq_true (by omega), any_all2]; rfl, trivial, List.nil_sublist _⟩ | exact ⟨(), by rw [sc_len (by omega)], trivial, List.nil_sublist _⟩

set_option maxRecDepth 100000 in
set_option maxHeartbeats 1000000 in
theorem CheckScript_ok (w0 : World) (p : Option Addr) (cp : Nat) (ls : List (List Int)) (hr : LsAt w0 p ls) (q : Option Addr) (cq : Nat) (gs : List Int) (hg : IntsAt w0 q gs) (hlo : ∀ k, (ls.getD k []).length ≤ 1000000) (pl : Option Addr) (cl : Nat) (xs : List Int) (hx : IntsAt w0 pl xs) (hxo : xs.length ≤ 1000000) (p2 : Option Addr) (c2 : Nat) (ys : List Int) (hy : IntsAt w0 p2 ys) (hyo : ys.length ≤ 1000000) (p3 : Option Addr) (c3 : Nat) (zs : List Int) (hz : IntsAt w0 p3 zs) (hzo : zs.length ≤ 1000000) :
    Calls Try.prog 34 #[hv p ls.length cp q gs.length cq, .slice pl xs.length cl, .slice p2 ys.length c2, .slice p3 zs.length c3] w0 (Post (X := Unit) (fun _ => .int .i64 (csI ls gs xs ys zs)) (fun _ => True) (fun _ => []) w0) := by
  refine calls Try.func34 rfl (n := 44) rfl (by simp) ?_
  refine TC.seq ?_
  refine TC.region ?_
  refine TL.box rfl rfl (by decide) (fun b0 hb0 => ?_)
  refine TL.pure (PV.assign rfl) rfl (by decide) ?_
  refine TL.nil ?_
  refine TQ.thenC ?_
  refine TC.seq ?_
  refine TC.seq ?_
  refine TC.region ?_
  refine TL.pure (PV.loadBox rfl Tb.agg_25 (by repeat (first | exact List.Mem.head _ | refine List.Mem.tail _ ?_ | refine List.mem_append_right _ ?_)) rfl) rfl (by decide) ?_
  refine TL.pure (PV.move rfl) rfl (by decide) ?_
  refine TL.pure (PV.move rfl) rfl (by decide) ?_
  refine TL.buildSlice (cs := #[.slice pl xs.length cl, .slice p2 ys.length c2]) rfl Tb.sl_22 Tb.zi_23 (by decide) (fill_oo _ _ _ _ _ _) (by decide) rfl (by decide) (fun bS hbS => ?_)
  refine TL.call rfl Tb.gofn_67 (fun a w hs => validateHeapings_ok w _ _ _ (hr.new hs.new) _ _ _ (hg.new hs.new) hlo _ 2 [xs, ys] (LsAt.two hs.new (by repeat (first | exact List.Mem.head _ | refine List.Mem.tail _ ?_ | refine List.mem_append_right _ ?_)) (hx.new hs.new) (hy.new hs.new)) (by simp) (two_len hxo hyo)) rfl (by decide) (fun _ _ => ?_)
  refine TL.pure (PV.assign rfl) rfl (by decide) ?_
  refine TL.nil ?_
  refine TQ.thenC ?_
  refine TC.seq ?_
  refine TC.region ?_
  refine TL.pure (PV.move rfl) rfl (by decide) ?_
  refine TL.pure (PV.neq rfl rfl) rfl (by decide) ?_
  refine TL.nil ?_
  refine TQ.thenC ?_
  first | refine TC.condD rfl (fun hbad => ?_) (fun hbad => ?_) | refine TC.cond rfl (fun hbad => ?_) (fun hbad => ?_)
  · skip
    refine TC.seq ?_
    refine TC.region ?_
    refine TL.pure (PV.move rfl) rfl (by decide) ?_
    refine TL.pure (PV.assign rfl) rfl (by decide) ?_
    refine TL.nil ?_
    refine TQ.thenC ?_
    refine TC.ret ?_
    refine TQ.thenR ?_
    refine TQ.retE1 rfl rfl ?_
    exact ⟨(), by rw [cs_bad hbad], trivial, List.nil_sublist _⟩
  · skip
    refine TC.skip ?_
    refine TQ.thenC ?_
    refine TC.seq ?_
    refine TC.seq ?_
    have hB := (giv_hb hbad).1
    have hn9 := hB.n
    obtain ⟨⟨hxl, hx0⟩, hyl, hy0⟩ := giv_two hbad
    refine TC.region ?_
    refine TL.pure (PV.loadBox rfl Tb.agg_25 (by repeat (first | exact List.Mem.head _ | refine List.Mem.tail _ ?_ | refine List.mem_append_right _ ?_)) rfl) rfl (by decide) ?_
    refine TL.pure (PV.move rfl) rfl (by decide) ?_
    refine TL.call rfl Tb.gofn_78 (fun a w hs => isScript_ok w _ _ _ (hr.new hs.new) _ _ _ (hg.new hs.new) _ _ _ (hz.new hs.new) hzo) rfl (by decide) (fun _ _ => ?_)
    refine TL.pure ((by first | exact PV.notD rfl | exact PV.not rfl)) rfl (by decide) ?_
    refine TL.nil ?_
    refine TQ.thenC ?_
    first | refine TC.condD rfl (fun hno => ?_) (fun hno => ?_) | refine TC.cond rfl (fun hno => ?_) (fun hno => ?_)
    · skip
      refine TC.seq ?_
      refine TC.region ?_
      refine TL.pure (PV.assign rfl) rfl (by decide) ?_
      refine TL.nil ?_
      refine TQ.thenC ?_
      refine TC.ret ?_
      refine TQ.thenR ?_
      refine TQ.retE1 rfl rfl ?_
      exact ⟨(), by rw [cs_1 hbad (by simpa using hno)], trivial, List.nil_sublist _⟩
    · skip
      refine TC.skip ?_
      refine TQ.thenC ?_
      refine TC.seq ?_
      obtain ⟨hzl, hz0⟩ := sc_at (show scB gs.length zs = true by simpa using hno)
      refine TC.region ?_
      refine TL.pure (PV.move rfl) rfl (by decide) ?_
      refine TL.call rfl Tb.gofn_73 (fun a w hs => copied_ok w _ _ _ (hx.new hs.new) _ rfl hxo) rfl (by decide) (fun b9 _ => ?_)
      refine TL.pure (PV.assign rfl) rfl (by decide) ?_
      refine TL.nil ?_
      refine TQ.thenC ?_
      refine TC.seq ?_
      refine TC.seq ?_
      refine TC.region ?_
      refine TL.pure (PV.move rfl) rfl (by decide) ?_
      refine TL.pure (PV.len rfl Tb.sl_23) rfl (by decide) ?_
      refine TL.pure (PV.move rfl) rfl (by decide) ?_
      refine TL.nil ?_
      refine TQ.thenC ?_
      refine TC.block ?_
      refine TC.loopK [2, 4, 8, 10, 27, 28] (X := Nat) (fun k => k ≤ gs.length) (fun k => [(29, .int .i64 k)]) (fun k => (b9, Obj.cells (intsA (tpS ls gs xs zs k)) 3 (0, 0)) :: [(b0, Obj.cells #[.slice p ls.length cp, .slice q gs.length cq] 25 (0, 0))]) (fun k => gs.length - k) 0 (Nat.zero_le _) (by repeat (first | exact True.intro | refine And.intro rfl ?_)) (List.Sublist.cons_cons _ (List.sublist_append_right [_] _)) ?_
      intro k hk
      refine TC.seq ?_
      refine TC.region ?_
      refine TL.pure (PV.lss rfl rfl) rfl (by decide) ?_
      refine TL.nil ?_
      refine TQ.thenC ?_
      refine TC.seq ?_
      first | refine TC.condD rfl (fun h2 => ?_) (fun h2 => ?_) | refine TC.cond rfl (fun h2 => ?_) (fun h2 => ?_)
      · skip
        refine TC.skip ?_
        refine TQ.thenC ?_
        refine TC.seq ?_
        refine TC.block ?_
        refine TC.seq ?_
        obtain ⟨q2, hq2p, hq2⟩ := hz k (by omega)
        refine TC.region ?_
        refine TL.pure (PV.move rfl) rfl (by decide) ?_
        refine TL.pure (PV.indexA rfl hq2p rfl Tb.elm_23 rfl (by omega)) rfl (by decide) ?_
        refine TL.pure (PV.loadOld rfl Tb.one_3 hq2) rfl (by decide) ?_
        refine TL.pure (PV.assign rfl) rfl (by decide) ?_
        refine TL.pure (PV.assign rfl) rfl (by decide) ?_
        refine TL.nil ?_
        refine TQ.thenC ?_
        have hzk := hz0 k
        have htb := tpS_bd (zs := zs) hB hx0 k (by omega) (fun j _ => hz0 j)
        refine TC.region ?_
        refine TL.pure (PV.loadBox rfl Tb.agg_25 (by repeat (first | exact List.Mem.head _ | refine List.Mem.tail _ ?_ | refine List.mem_append_right _ ?_)) rfl) rfl (by decide) ?_
        refine TL.pure (PV.move rfl) rfl (by decide) ?_
        refine TL.pure (PV.move rfl) rfl (by decide) ?_
        refine TL.pure (PV.move rfl) rfl (by decide) ?_
        refine TL.callW (X := Unit) (fun _ => .tuple #[]) (fun _ => True) (fun _ => (b9, Obj.cells (intsA (tpS ls gs xs zs (k + 1))) 3 (0, 0)) :: [(b0, Obj.cells #[.slice p ls.length cp, .slice q gs.length cq] 25 (0, 0))]) rfl Tb.gofn_74 (fun a w hs => topple_ok (R := [(b0, Obj.cells #[.slice p ls.length cp, .slice q gs.length cq] 25 (0, 0))]) hs.new p cp ls hr q cq gs hg hB _ (tpS_len _ _ _ _ _) ((tpS_len _ _ _ _ _).trans hxl) k (by omega) (zs.getD k 0) (by omega) (fun j => by have := htb j; omega)) rfl (by decide) (fun _ _ => ?_)
        refine TL.nil ?_
        refine TQ.blkN ?_
        refine TQ.thenC ?_
        refine TC.region ?_
        refine TL.pure (PV.add rfl rfl (by omega)) rfl (by decide) ?_
        refine TL.pure (PV.move rfl) rfl (by decide) ?_
        refine TL.nil ?_
        refine TQ.thenN ?_
        refine TQ.backK (k + 1) (by repeat (first | exact True.intro | refine And.intro rfl ?_)) (by repeat (first | exact True.intro | refine And.intro rfl ?_)) (List.Sublist.refl _) (by omega) (by omega)
      · skip
        refine TC.exit ?_
        refine TQ.thenE ?_
        refine TQ.thenE ?_
        refine TQ.blkS ?_
        refine TQ.thenC ?_
        refine TC.seq ?_
        refine TC.seq ?_
        obtain rfl : k = gs.length := by omega
        refine TC.region ?_
        refine TL.pure (PV.move rfl) rfl (by decide) ?_
        refine TL.pure (PV.move rfl) rfl (by decide) ?_
        refine TL.call rfl Tb.gofn_79 (fun a w hs => equal_ok w _ _ (tpS ls gs xs zs gs.length) (IntsAt.arr hs.new (by repeat (first | exact List.Mem.head _ | refine List.Mem.tail _ ?_ | refine List.mem_append_right _ ?_))) _ (tpS_len _ _ _ _ _) _ _ _ (hy.new hs.new) _ rfl (by omega) (by omega)) rfl (by decide) (fun _ _ => ?_)
        refine TL.pure ((by first | exact PV.notD rfl | exact PV.not rfl)) rfl (by decide) ?_
        refine TL.nil ?_
        refine TQ.thenC ?_
        first | refine TC.condD rfl (fun hne => ?_) (fun hne => ?_) | refine TC.cond rfl (fun hne => ?_) (fun hne => ?_)
        · skip
          refine TC.seq ?_
          refine TC.region ?_
          refine TL.pure (PV.assign rfl) rfl (by decide) ?_
          refine TL.nil ?_
          refine TQ.thenC ?_
          refine TC.ret ?_
          refine TQ.thenR ?_
          refine TQ.retE1 rfl rfl ?_
          exact ⟨(), by rw [cs_7 hbad (by simpa using hno) (by simpa using hne)], trivial, List.nil_sublist _⟩
        · skip
          refine TC.skip ?_
          refine TQ.thenC ?_
          refine TC.seq ?_
          refine TC.region ?_
          refine TL.pure (PV.assign rfl) rfl (by decide) ?_
          refine TL.nil ?_
          refine TQ.thenC ?_
          refine TC.ret ?_
          refine TQ.retE1 rfl rfl ?_
          exact ⟨(), by rw [cs_0 hbad (by simpa using hno) (by simpa using hne)], trivial, List.nil_sublist _⟩

set_option maxRecDepth 100000 in
set_option maxHeartbeats 1000000 in
theorem rCheckScript_ok (w0 : World) (p : Option Addr) (cp : Nat) (ls : List (List Int)) (hr : LsAt w0 p ls) (q : Option Addr) (cq : Nat) (gs : List Int) (hg : IntsAt w0 q gs) (hlo : ∀ k, (ls.getD k []).length ≤ 1000000) (pl : Option Addr) (cl : Nat) (xs : List Int) (hx : IntsAt w0 pl xs) (hxo : xs.length ≤ 1000000) (p2 : Option Addr) (c2 : Nat) (ys : List Int) (hy : IntsAt w0 p2 ys) (hyo : ys.length ≤ 1000000) (p3 : Option Addr) (c3 : Nat) (zs : List Int) (hz : IntsAt w0 p3 zs) (hzo : zs.length ≤ 1000000) :
    Calls Try.prog 58 #[hv p ls.length cp q gs.length cq, .slice pl xs.length cl, .slice p2 ys.length c2, .slice p3 zs.length c3] w0 (Post (X := Unit) (fun _ => .int .i64 (csI ls gs xs ys zs)) (fun _ => True) (fun _ => []) w0) := by
  refine calls Try.func58 rfl (n := 52) rfl (by simp) ?_
  refine TC.seq ?_
  refine TC.region ?_
  refine TL.box rfl rfl (by decide) (fun b0 hb0 => ?_)
  refine TL.pure (PV.assign rfl) rfl (by decide) ?_
  refine TL.nil ?_
  refine TQ.thenC ?_
  refine TC.seq ?_
  refine TC.region ?_
  refine TL.pure (PV.loadBox rfl Tb.agg_25 (by repeat (first | exact List.Mem.head _ | refine List.Mem.tail _ ?_ | refine List.mem_append_right _ ?_)) rfl) rfl (by decide) ?_
  refine TL.pure (PV.move rfl) rfl (by decide) ?_
  refine TL.pure (PV.move rfl) rfl (by decide) ?_
  refine TL.buildSlice (cs := #[.slice pl xs.length cl, .slice p2 ys.length c2]) rfl Tb.sl_22 Tb.zi_23 (by decide) (fill_oo _ _ _ _ _ _) (by decide) rfl (by decide) (fun bS hbS => ?_)
  refine TL.call rfl Tb.gofn_69 (fun a w hs => given_ok w _ _ _ (hr.new hs.new) _ _ _ (hg.new hs.new) hlo _ 2 [xs, ys] (LsAt.two hs.new (by repeat (first | exact List.Mem.head _ | refine List.Mem.tail _ ?_ | refine List.mem_append_right _ ?_)) (hx.new hs.new) (hy.new hs.new)) (by simp) (two_len hxo hyo)) rfl (by decide) (fun _ _ => ?_)
  refine TL.pure (PV.assign rfl) rfl (by decide) ?_
  refine TL.nil ?_
  refine TQ.thenC ?_
  refine TC.seq ?_
  refine TC.seq ?_
  refine TC.region ?_
  refine TL.pure (PV.move rfl) rfl (by decide) ?_
  refine TL.pure (PV.neq rfl rfl) rfl (by decide) ?_
  refine TL.nil ?_
  refine TQ.thenC ?_
  first | refine TC.condD rfl (fun hbad => ?_) (fun hbad => ?_) | refine TC.cond rfl (fun hbad => ?_) (fun hbad => ?_)
  · skip
    refine TC.seq ?_
    refine TC.region ?_
    refine TL.pure (PV.move rfl) rfl (by decide) ?_
    refine TL.pure (PV.assign rfl) rfl (by decide) ?_
    refine TL.nil ?_
    refine TQ.thenC ?_
    refine TC.ret ?_
    refine TQ.thenR ?_
    refine TQ.retE1 rfl rfl ?_
    exact ⟨(), by rw [cs_bad hbad], trivial, List.nil_sublist _⟩
  · skip
    refine TC.skip ?_
    refine TQ.thenC ?_
    refine TC.seq ?_
    refine TC.seq ?_
    have hB := (giv_hb hbad).1
    have hn9 := hB.n
    obtain ⟨⟨hxl, hx0⟩, hyl, hy0⟩ := giv_two hbad
    refine TC.region ?_
    refine TL.pure (PV.move rfl) rfl (by decide) ?_
    refine TL.pure (PV.len rfl Tb.sl_23) rfl (by decide) ?_
    refine TL.pure (PV.move rfl) rfl (by decide) ?_
    refine TL.pure (PV.len rfl Tb.sl_23) rfl (by decide) ?_
    refine TL.pure (PV.neq rfl rfl) rfl (by decide) ?_
    refine TL.nil ?_
    refine TQ.thenC ?_
    first | refine TC.condD rfl (fun hnl => ?_) (fun hnl => ?_) | refine TC.cond rfl (fun hnl => ?_) (fun hnl => ?_)
    · skip
      refine TC.seq ?_
      refine TC.region ?_
      refine TL.pure (PV.assign rfl) rfl (by decide) ?_
      refine TL.nil ?_
      refine TQ.thenC ?_
      refine TC.ret ?_
      refine TQ.thenR ?_
      refine TQ.retE1 rfl rfl ?_
      exact ⟨(), by rw [cs_1 hbad (sc_len (by omega))], trivial, List.nil_sublist _⟩
    · skip
      refine TC.skip ?_
      refine TQ.thenC ?_
      refine TC.seq ?_
      refine TC.region ?_
      refine TL.buildSlice0 Tb.sl_23 Tb.zi_3 rfl (by decide) (fun bA hbA => ?_)
      refine TL.pure (PV.move rfl) rfl (by decide) ?_
      refine TL.append0 (m := xs.length) (news := ival xs) (bA := bA) rfl rfl Tb.sl_23 Tb.zi_3 rfl (by repeat (first | exact Take.head _ | apply Take.tail | apply Take.appR)) (fun w' hN2 => ints_src Tb.sl_23 rfl (hx.new hN2)) (by omega) (by omega) rfl (by decide) (fun h9 ho9 => ?_)
      refine TL.pure (PV.assign rfl) rfl (by decide) ?_
      refine TL.nil ?_
      refine TQ.thenC ?_
      refine TC.seq ?_
      refine TC.seq ?_
      refine TC.region ?_
      refine TL.pure (PV.assign rfl) rfl (by decide) ?_
      refine TL.nil ?_
      refine TQ.thenC ?_
      refine TC.block ?_
      -- live and written in the loop, not told: [8]
      refine TC.loopK [2, 3, 4] (X := Nat × HD) (fun k => k.1 ≤ zs.length ∧ gok k.2 xs.length 1 (ival (tpS ls gs xs zs k.1)) ∧ ∀ j, j < k.1 → -1000 ≤ zs.getD j 0 ∧ zs.getD j 0 ≤ 1000) (fun k => [(11, .int .i64 k.1), (10, gval k.2 xs.length)]) (fun k => gbI (k.2, tpS ls gs xs zs k.1) ++ [(b0, Obj.cells #[.slice p ls.length cp, .slice q gs.length cq] 25 (0, 0))]) (fun k => zs.length - k.1) (0, h9) ⟨Nat.zero_le _, ho9, fun j hj => absurd hj (Nat.not_lt_zero _)⟩ (by repeat (first | exact True.intro | refine And.intro rfl ?_)) (List.Sublist.append_left (List.sublist_append_right [_] _) _) ?_
      intro k hk
      refine TC.seq ?_
      refine TC.seq ?_
      refine TC.region ?_
      refine TL.pure (PV.move rfl) rfl (by decide) ?_
      refine TL.pure (PV.move rfl) rfl (by decide) ?_
      refine TL.pure (PV.len rfl Tb.sl_23) rfl (by decide) ?_
      refine TL.pure (PV.lss rfl rfl) rfl (by decide) ?_
      refine TL.nil ?_
      refine TQ.thenC ?_
      first | refine TC.condD rfl (fun hlt => ?_) (fun hlt => ?_) | refine TC.cond rfl (fun hlt => ?_) (fun hlt => ?_)
      · skip
        refine TC.skip ?_
        refine TQ.thenC ?_
        refine TC.seq ?_
        refine TC.block ?_
        refine TC.seq ?_
        refine TC.seq ?_
        obtain ⟨q2, hq2p, hq2⟩ := hz k.1 (by omega)
        refine TC.region ?_
        refine TL.pure (PV.move rfl) rfl (by decide) ?_
        refine TL.pure (PV.move rfl) rfl (by decide) ?_
        refine TL.pure (PV.indexA rfl hq2p rfl Tb.elm_23 rfl (by omega)) rfl (by decide) ?_
        refine TL.pure (PV.loadOld rfl Tb.one_3 hq2) rfl (by decide) ?_
        refine TL.call rfl Tb.gofn_62 (fun a w hs => within_ok w _ _ _) rfl (by decide) (fun _ _ => ?_)
        refine TL.pure ((by first | exact PV.notD rfl | exact PV.not rfl)) rfl (by decide) ?_
        refine TL.nil ?_
        refine TQ.thenC ?_
        first | refine TC.condD rfl (fun hno => ?_) (fun hno => ?_) | refine TC.cond rfl (fun hno => ?_) (fun hno => ?_)
        · skip
          refine TC.seq ?_
          refine TC.region ?_
          refine TL.pure (PV.assign rfl) rfl (by decide) ?_
          refine TL.nil ?_
          refine TQ.thenC ?_
          refine TC.ret ?_
          refine TQ.thenR ?_
          refine TQ.blkR ?_
          refine TQ.thenR ?_
          refine TQ.thenR ?_
          refine TQ.blkR ?_
          refine TQ.thenR ?_
          refine TQ.retE1 rfl rfl ?_
          exact ⟨(), by rw [cs_1 hbad (sc_no (k := k.1) (by omega) (by omega))], trivial, List.nil_sublist _⟩
        · skip
          refine TC.skip ?_
          refine TQ.thenC ?_
          have htb := tpS_bd (zs := zs) hB hx0 k.1 (by omega) (fun j hj => hk.2.2 j hj)
          refine TC.mixE [true, false, true, true, true, true, true, false, false] _ 3 Tb.mixed rfl (by kernel_rfl) (by kernel_rfl) (by kernel_rfl) (by kernel_rfl) (List.Sublist.refl _) ?_
          refine TY.op (SOK.pure (PV.loadBox rfl Tb.agg_25 (by repeat (first | exact List.Mem.head _ | refine List.Mem.tail _ ?_ | refine List.mem_append_right _ ?_)) rfl) rfl) (by decide) ?_
          refine TY.no ?_
          refine TY.op (SOK.pure (PV.move rfl) rfl) (by decide) ?_
          refine TY.op (SOK.pure (PV.move rfl) rfl) (by decide) ?_
          refine TY.op (SOK.pure (PV.move rfl) rfl) (by decide) ?_
          refine TY.op (SOK.pure (PV.indexA rfl hq2p rfl Tb.elm_23 rfl (by omega)) rfl) (by decide) ?_
          refine TY.op (SOK.pure (PV.loadOld rfl Tb.one_3 hq2) rfl) (by decide) ?_
          refine TY.no ?_
          refine TY.no ?_
          refine TY.fin ?_
          refine TX.step [1] (by kernel_rfl) (by decide) ⟨⟨_, rfl, ?_⟩, trivial⟩
          refine TL.pure (PV.move rfl) rfl (by decide) ?_
          refine TL.nil ?_
          refine TX.next (.inl (by repeat (first | exact List.Sublist.slnil | exact List.nil_sublist _ | exact List.Sublist.refl _ | refine List.Sublist.cons_cons _ ?_ | refine List.Sublist.cons _ ?_ | refine List.Sublist.trans ?_ (List.sublist_append_right _ _)))) ?_
          refine TX.step [7] (by kernel_rfl) (by decide) ⟨⟨_, rfl, ?_⟩, trivial⟩
          refine TL.call rfl Tb.gofn_75 (fun a w hs => (by rw [gval_eq hk.2.1]; exact rtopple_ok w _ _ _ (hr.new hs.new) _ _ _ (hg.new hs.new) hB _ _ (tpS ls gs xs zs k.1) (IntsAt.g (x := (k.2, tpS ls gs xs zs k.1)) hs.new (fun yy hyy => by repeat (first | exact List.mem_append_left _ hyy | exact List.mem_append_left _ (List.mem_append_right _ hyy) | exact List.mem_append_left _ (List.mem_append_left _ hyy) | refine List.mem_append_right _ ?_ | refine List.Mem.tail _ ?_)) (go_lenI hk.2.1 (tpS_len _ _ _ _ _))) _ (tpS_len _ _ _ _ _) ((tpS_len _ _ _ _ _).trans hxl) k.1 (by omega) (zs.getD k.1 0) (by omega) (fun j => by have := htb j; omega))) rfl (by decide) (fun h8 hh8 => ?_)
          refine TL.nil ?_
          refine TX.next (.inl (by repeat (first | exact List.Sublist.slnil | exact List.nil_sublist _ | exact List.Sublist.refl _ | refine List.Sublist.cons_cons _ ?_ | refine List.Sublist.cons _ ?_ | refine List.Sublist.trans ?_ (List.sublist_append_right _ _)))) ?_
          refine TX.step [8] (by kernel_rfl) (by decide) ⟨⟨_, rfl, ?_⟩, trivial⟩
          refine TL.pure (PV.assign rfl) rfl (by decide) ?_
          refine TL.nil ?_
          refine TX.next (.inr (by kernel_rfl)) ?_
          refine TX.done (by kernel_rfl) ?_
          refine TQ.blkN ?_
          refine TQ.thenC ?_
          refine TC.region ?_
          refine TL.pure (PV.move rfl) rfl (by decide) ?_
          refine TL.pure (PV.add rfl rfl (by omega)) rfl (by decide) ?_
          refine TL.pure (PV.assign rfl) rfl (by decide) ?_
          refine TL.nil ?_
          refine TQ.thenN ?_
          refine TQ.backK (k.1 + 1, h8) (by repeat (first | exact True.intro | refine And.intro rfl ?_)) (by repeat (first | exact True.intro | refine And.intro rfl ?_)) (List.Sublist.append_left (List.sublist_append_right _ _) _) ⟨by simp only; omega, hh8, fun j hj => if e : j < k.1 then hk.2.2 j e else (show k.1 = j by simp only at hj; omega) ▸ (by omega)⟩ (by simp only; omega)
      · skip
        refine TC.exit ?_
        refine TQ.thenE ?_
        refine TQ.thenE ?_
        refine TQ.blkS ?_
        refine TQ.thenC ?_
        refine TC.seq ?_
        refine TC.seq ?_
        have hkn : k.1 = gs.length := by omega
        have hsc := sc_yes (n := gs.length) (zs := zs) (by omega) (fun j hj => hk.2.2 j (by omega))
        refine TC.region ?_
        refine TL.pure (PV.move rfl) rfl (by decide) ?_
        refine TL.pure (PV.move rfl) rfl (by decide) ?_
        refine TL.call rfl Tb.gofn_30 (fun a w hs => (by rw [gval_eq hk.2.1]; exact sameInts_ok w _ _ (tpS ls gs xs zs k.1) (IntsAt.g (x := (k.2, tpS ls gs xs zs k.1)) hs.new (fun yy hyy => by repeat (first | exact List.mem_append_left _ hyy | exact List.mem_append_left _ (List.mem_append_right _ hyy) | exact List.mem_append_left _ (List.mem_append_left _ hyy) | refine List.mem_append_right _ ?_ | refine List.Mem.tail _ ?_)) (go_lenI hk.2.1 (tpS_len _ _ _ _ _))) _ (tpS_len _ _ _ _ _) _ _ _ (hy.new hs.new) _ rfl (by omega) (by omega))) rfl (by decide) (fun _ _ => ?_)
        refine TL.pure ((by first | exact PV.notD rfl | exact PV.not rfl)) rfl (by decide) ?_
        refine TL.nil ?_
        refine TQ.thenC ?_
        first | refine TC.condD rfl (fun hne => ?_) (fun hne => ?_) | refine TC.cond rfl (fun hne => ?_) (fun hne => ?_)
        · skip
          refine TC.seq ?_
          refine TC.region ?_
          refine TL.pure (PV.assign rfl) rfl (by decide) ?_
          refine TL.nil ?_
          refine TQ.thenC ?_
          refine TC.ret ?_
          refine TQ.thenR ?_
          refine TQ.retE1 rfl rfl ?_
          exact ⟨(), by rw [cs_7 hbad hsc (by rw [← hkn]; simpa using hne)], trivial, List.nil_sublist _⟩
        · skip
          refine TC.skip ?_
          refine TQ.thenC ?_
          refine TC.seq ?_
          refine TC.region ?_
          refine TL.pure (PV.assign rfl) rfl (by decide) ?_
          refine TL.nil ?_
          refine TQ.thenC ?_
          refine TC.ret ?_
          refine TQ.retE1 rfl rfl ?_
          exact ⟨(), by rw [cs_0 hbad hsc (by rw [← hkn]; simpa using hne)], trivial, List.nil_sublist _⟩

end Go.Proofs.Ytgafpkcnhpoobaa
