/- Orders as texts, pages and books of orders, and what is read of them. Mathematics. -/
import Derived.Test.YtbnjmkidbfmomaaGreatDoorQPx
import Derived.Test.YtbnjmkidbfmomaaGreatDoorQBC
set_option linter.unusedVariables false
set_option linter.unusedSimpArgs false
namespace Go.Proofs.YtbnjmkidbfmomaaGreatDoor
open Go.Sx Go.RowKit Go.Bt Go.Lib

theorem right_of {s : List UInt8} (h : rightS s = true) : 1 ≤ s.length ∧ s.length ≤ 40 ∧ (10 : UInt8) ∉ s := of_decide_eq_true h
/-! Orders. -/
def dayB : List UInt8 := [100, 97, 121]
def cutB : List UInt8 := [99, 117, 116]
def loadB : List UInt8 := [108, 111, 97, 100]
def wetB : List UInt8 := [119, 101, 116]
def shutB : List UInt8 := [115, 104, 117, 116]
def numF (a : List UInt8) : Option Nat := (List.range 1000).find? fun n => decide (decDigits n = a)
theorem numF_some {a : List UInt8} {n : Nat} (h : numF a = some n) : n < 1000 ∧ a = decDigits n := by
  unfold numF at h
  have h1 := List.find?_some h
  have h2 := List.mem_of_find?_eq_some h
  exact ⟨List.mem_range.1 h2, (of_decide_eq_true h1).symm⟩
theorem numF_none {a : List UInt8} (h : numF a = none) : ∀ n, n < 1000 → decDigits n ≠ a := fun n hn e => by
  have := List.find?_eq_none.1 h n (List.mem_range.2 hn)
  simp [e] at this
theorem numF_dec {n : Nat} (hn : n < 1000) : numF (decDigits n) = some n := by
  cases h : numF (decDigits n) with
  | none => exact absurd rfl (numF_none h n hn)
  | some k => rw [dec_inj (numF_some h).2]
def isNum (a : List UInt8) : Bool := (numF a).isSome
def nv (a : List UInt8) : Int := ((numF a).getD 0 : Nat)
theorem nv_bd (a : List UInt8) : 0 ≤ nv a ∧ nv a ≤ 999 := by
  unfold nv
  cases h : numF a with
  | none => simp
  | some n => have := (numF_some h).1; simp; omega
structure Od where
  k : Nat
  ns : List Int
  deriving DecidableEq
def kdF (h : List UInt8) : Option (Nat × Nat) :=
  if h = dayB then some (0, 0) else if h = cutB then some (1, 1) else if h = loadB then some (2, 2) else if h = wetB then some (3, 2) else if h = shutB then some (4, 0) else none
def prsO (t : List UInt8) : Option Od :=
  match kdF ((spl 32 t).getD 0 []) with
  | none => none
  | some (k, c) => if (spl 32 t).length = 1 + c ∧ ((spl 32 t).drop 1).all isNum = true then some ⟨k, ((spl 32 t).drop 1).map nv⟩ else none
def jn (c : UInt8) : List (List UInt8) → List UInt8
  | [] => []
  | [w] => w
  | w :: ws => w ++ c :: jn c ws
theorem jn_spl (c : UInt8) : ∀ (n : Nat) (l : List UInt8), l.length ≤ n → jn c (spl c l) = l
  | n, l, hn => by
    rw [spl_brk]
    cases h : (brk c l).2 with
    | none => exact (brk_none h).symm
    | some r =>
      have hl := brk_le h
      cases n with
      | zero => omega
      | succ n =>
        have ih := jn_spl c n r (by omega)
        have hp := spl_pos c r
        cases hs : spl c r with
        | nil => rw [hs] at hp; simp at hp
        | cons w ws =>
          simp only
          rw [hs]
          simp only [jn]
          rw [← hs, ih]
          exact (brk_some h).symm
theorem kd_word {h : List UInt8} {k c : Nat} (e : kdF h = some (k, c)) : h.length ≤ 4 ∧ (10 : UInt8) ∉ h ∧ 1 ≤ h.length ∧ c ≤ 2 ∧ (k = 0 ∧ c = 0 ∨ k = 1 ∧ c = 1 ∨ k = 2 ∧ c = 2 ∨ k = 3 ∧ c = 2 ∨ k = 4 ∧ c = 0) := by
  unfold kdF at e
  have d1 : dayB.length ≤ 4 ∧ (10 : UInt8) ∉ dayB ∧ 1 ≤ dayB.length := by decide +kernel
  have d2 : cutB.length ≤ 4 ∧ (10 : UInt8) ∉ cutB ∧ 1 ≤ cutB.length := by decide +kernel
  have d3 : loadB.length ≤ 4 ∧ (10 : UInt8) ∉ loadB ∧ 1 ≤ loadB.length := by decide +kernel
  have d4 : wetB.length ≤ 4 ∧ (10 : UInt8) ∉ wetB ∧ 1 ≤ wetB.length := by decide +kernel
  have d5 : shutB.length ≤ 4 ∧ (10 : UInt8) ∉ shutB ∧ 1 ≤ shutB.length := by decide +kernel
  split at e
  · rename_i e1; injection e with e; injection e with e2 e3; subst e2 e3; rw [e1]; exact ⟨d1.1, d1.2.1, d1.2.2, by decide, by decide⟩
  split at e
  · rename_i e1; injection e with e; injection e with e2 e3; subst e2 e3; rw [e1]; exact ⟨d2.1, d2.2.1, d2.2.2, by decide, by decide⟩
  split at e
  · rename_i e1; injection e with e; injection e with e2 e3; subst e2 e3; rw [e1]; exact ⟨d3.1, d3.2.1, d3.2.2, by decide, by decide⟩
  split at e
  · rename_i e1; injection e with e; injection e with e2 e3; subst e2 e3; rw [e1]; exact ⟨d4.1, d4.2.1, d4.2.2, by decide, by decide⟩
  split at e
  · rename_i e1; injection e with e; injection e with e2 e3; subst e2 e3; rw [e1]; exact ⟨d5.1, d5.2.1, d5.2.2, by decide, by decide⟩
  · cases e
theorem num_word {a : List UInt8} (h : isNum a = true) : a.length ≤ 3 ∧ (10 : UInt8) ∉ a := by
  unfold isNum at h
  cases h2 : numF a with
  | none => rw [h2] at h; cases h
  | some n =>
    obtain ⟨h3, h4⟩ := numF_some h2
    subst h4
    exact ⟨dec_len 3 n (by decide) (by omega), dec_no (.inl (by decide))⟩
set_option maxRecDepth 4000 in
theorem prs_right {t : List UInt8} {o : Od} (h : prsO t = some o) : rightS t = true := by
  unfold prsO at h
  cases hk : kdF ((spl 32 t).getD 0 []) with
  | none => rw [hk] at h; cases h
  | some kc =>
    obtain ⟨k, c⟩ := kc
    rw [hk] at h
    simp only at h
    split at h
    · rename_i hc
      obtain ⟨hl, ha⟩ := hc
      obtain ⟨w1, w2, w3, w4, w5⟩ := kd_word hk
      have hj := jn_spl 32 t.length t (Nat.le_refl _)
      have ha' := List.all_eq_true.1 ha
      generalize spl 32 t = ws at *
      unfold rightS
      refine decide_eq_true ?_
      match ws, hl, w1, w2, w3, ha', hj with
      | [a], _, w1, w2, w3, _, hj =>
        simp only [jn] at hj
        subst hj
        exact ⟨w3, by simp at w1; omega, w2⟩
      | [a, b], _, w1, w2, w3, ha, hj =>
        simp only [jn] at hj
        subst hj
        have hb := num_word (ha b (by simp))
        simp at w1 w2 w3 ⊢
        refine ⟨by omega, by omega, w2, hb.2⟩
      | [a, b, d], _, w1, w2, w3, ha, hj =>
        simp only [jn] at hj
        subst hj
        have hb := num_word (ha b (by simp))
        have hd := num_word (ha d (by simp))
        simp at w1 w2 w3 ⊢
        refine ⟨by omega, by omega, w2, hb.2, hd.2⟩
      | a :: b :: d :: e :: r, hl, _, _, _, _, _ => simp at hl; omega
      | [], hl, _, _, _, _, _ => simp at hl; omega
    · cases h
theorem prs_ns {t : List UInt8} {o : Od} (h : prsO t = some o) : (o.k = 0 ∧ o.ns.length = 0 ∨ o.k = 1 ∧ o.ns.length = 1 ∨ o.k = 2 ∧ o.ns.length = 2 ∨ o.k = 3 ∧ o.ns.length = 2 ∨ o.k = 4 ∧ o.ns.length = 0) ∧ ∀ j, 0 ≤ o.ns.getD j 0 ∧ o.ns.getD j 0 ≤ 999 := by
  unfold prsO at h
  cases hk : kdF ((spl 32 t).getD 0 []) with
  | none => rw [hk] at h; cases h
  | some kc =>
    obtain ⟨k, c⟩ := kc
    rw [hk] at h
    simp only at h
    split at h
    · rename_i hc
      injection h with h
      obtain ⟨w1, w2, w3, w4, w5⟩ := kd_word hk
      subst h
      refine ⟨?_, fun j => ?_⟩
      · simp only [List.length_map, List.length_drop]
        omega
      · simp only
        by_cases hj : j < (((spl 32 t).drop 1).map nv).length
        · have e : (((spl 32 t).drop 1).map nv).getD j 0 = nv (((spl 32 t).drop 1)[j]'(by rw [List.length_map] at hj; exact hj)) := by rw [List.getD_eq_getElem?_getD, List.getElem?_eq_getElem hj, List.getElem_map]; rfl
          rw [e]; exact nv_bd _
        · have e : (((spl 32 t).drop 1).map nv).getD j 0 = 0 := by
            rw [List.getD_eq_getElem?_getD, List.getElem?_eq_none (by omega)]; rfl
          rw [e]; omega
    · cases h

/-! Pages and books. -/

def pgF (sum : Int) (t : List UInt8) : Option (List UInt8 × List UInt8) :=
  match (brk 10 t).2 with
  | none => none
  | some r => match (brk 32 (brk 10 t).1).2 with
    | none => none
    | some s => if rightS s = true ∧ itoa (smV sum s) = (brk 32 (brk 10 t).1).1 then some (s, r) else none
def PgR (sum : Int) (t s r : List UInt8) : Prop := rightS s = true ∧ t = pageL dI (smV sum s) s ++ r
theorem page_eq (i : Int) (s r : List UInt8) : pageL dI i s ++ r = (itoa i ++ 32 :: s) ++ 10 :: r := by
  unfold pageL; simp
theorem sm_pos (b : Int) (s : List UInt8) : 0 ≤ smV b s := (smV_bd b s).1
theorem line_no {b : Int} {s : List UInt8} (h : rightS s = true) : (10 : UInt8) ∉ itoa (smV b s) ++ 32 :: s := by
  have h1 := (right_of h).2.2
  have h2 := itoa_no (sm_pos b s) (c := 10) (.inl (by decide))
  simp [h1, h2]
theorem pg_of {sum : Int} {t s r : List UInt8} (h : PgR sum t s r) : pgF sum t = some (s, r) := by
  obtain ⟨h1, h2⟩ := h
  rw [page_eq] at h2
  have e1 := brk_hit (r := r) (line_no (b := sum) h1)
  rw [← h2] at e1
  have e2 := brk_hit (r := s) (itoa_no (sm_pos sum s) (c := 32) (.inl (by decide)))
  unfold pgF
  rw [e1]
  simp only
  rw [e2]
  simp [h1]
theorem pg_to {sum : Int} {t s r : List UInt8} (h : pgF sum t = some (s, r)) : PgR sum t s r := by
  unfold pgF at h
  cases h1 : (brk 10 t).2 with
  | none => rw [h1] at h; cases h
  | some r' =>
    rw [h1] at h
    simp only at h
    cases h2 : (brk 32 (brk 10 t).1).2 with
    | none => rw [h2] at h; cases h
    | some s' =>
      rw [h2] at h
      simp only at h
      split at h
      · rename_i hc
        injection h with h
        injection h with e1 e2
        subst e1 e2
        refine ⟨hc.1, ?_⟩
        rw [page_eq, hc.2, ← brk_some h2, ← brk_some h1]
      · cases h
/-- The orders of the longest beginning that is a book of at most so many pages, and the rest. -/
def rdN : Nat → Int → List UInt8 → List (List UInt8) × List UInt8
  | 0, _, t => ([], t)
  | n + 1, sum, t => match pgF sum t with
    | none => ([], t)
    | some (s, r) => (s :: (rdN n (smV sum s) r).1, (rdN n (smV sum s) r).2)
def bkN (sum : Int) : List (List UInt8) → List UInt8
  | [] => []
  | s :: L => pageL dI (smV sum s) s ++ bkN (smV sum s) L
theorem rd_sound : ∀ (n : Nat) (sum : Int) (t : List UInt8), t = bkN sum (rdN n sum t).1 ++ (rdN n sum t).2 ∧ (rdN n sum t).1.length ≤ n ∧ (rdN n sum t).1.all rightS = true ∧ ((rdN n sum t).1.length = n ∨ pgF (((rdN n sum t).1).foldl smV sum) (rdN n sum t).2 = none)
  | 0, sum, t => ⟨rfl, Nat.le_refl _, rfl, .inl rfl⟩
  | n + 1, sum, t => by
    cases h : pgF sum t with
    | none => 
      have e : rdN (n + 1) sum t = ([], t) := by unfold rdN; rw [h]
      rw [e]
      exact ⟨rfl, Nat.zero_le _, rfl, .inr h⟩
    | some sr =>
      obtain ⟨s, r⟩ := sr
      have e : rdN (n + 1) sum t = (s :: (rdN n (smV sum s) r).1, (rdN n (smV sum s) r).2) := by conv => lhs; unfold rdN; rw [h]
      obtain ⟨i1, i2, i3, i4⟩ := rd_sound n (smV sum s) r
      have hp := pg_to h
      rw [e]
      refine ⟨?_, by simp; omega, ?_, ?_⟩
      · simp only [bkN]
        rw [List.append_assoc, ← i1]
        exact hp.2
      · simp only [List.all_cons, i3, hp.1, Bool.and_self]
      · rcases i4 with i4 | i4
        · exact .inl (by simp [i4])
        · exact .inr i4
/-- What is read of a text. -/
def readL (t : List UInt8) : List (List UInt8) × List UInt8 := rdN 100 0 t
theorem rdN_none {n : Nat} {sum : Int} {t : List UInt8} (h : pgF sum t = none) : rdN n sum t = ([], t) := by
  cases n with
  | zero => rfl
  | succ n => unfold rdN; rw [h]
theorem rdN_some {n : Nat} {sum : Int} {t s r : List UInt8} (h : pgF sum t = some (s, r)) : rdN (n + 1) sum t = (s :: (rdN n (smV sum s) r).1, (rdN n (smV sum s) r).2) := by
  conv => lhs; unfold rdN; rw [h]
/-- The loops' state: what has been read, the sum, the rest. -/
structure RdS (t : List UInt8) (os : List (List UInt8)) (sum : Int) (r : List UInt8) : Prop where
  le : os.length ≤ 100
  eq : readL t = (os ++ (rdN (100 - os.length) sum r).1, (rdN (100 - os.length) sum r).2)
  len : r.length ≤ t.length
  sm : 0 ≤ sum ∧ sum < 1000003
  rt : os.all rightS = true
theorem RdS.zero (t : List UInt8) : RdS t [] 0 t := ⟨Nat.zero_le _, rfl, Nat.le_refl _, by decide, rfl⟩
theorem RdS.next {t r s r2 : List UInt8} {os : List (List UInt8)} {sum : Int} (h : RdS t os sum r) (hl : os.length < 100) (hp : PgR sum r s r2) : RdS t (os ++ [s]) (smV sum s) r2 := by
  have e1 := pg_of hp
  obtain ⟨k, hk⟩ : ∃ k, 100 - os.length = k + 1 := ⟨99 - os.length, by omega⟩
  refine ⟨by simp; omega, ?_, ?_, smV_bd _ _, by simp [h.rt, hp.1]⟩
  · have := h.eq
    rw [hk, rdN_some e1] at this
    rw [this, show 100 - (os ++ [s]).length = k by simp; omega]
    simp
  · have := congrArg List.length hp.2
    simp at this
    have := h.len
    omega
theorem RdS.stop {t r : List UInt8} {os : List (List UInt8)} {sum : Int} (h : RdS t os sum r) (hp : pgF sum r = none) : readL t = (os, r) := by
  rw [h.eq, rdN_none hp]; simp
theorem RdS.full {t r : List UInt8} {os : List (List UInt8)} {sum : Int} (h : RdS t os sum r) (hl : ¬ os.length < 100) : readL t = (os, r) := by
  have := h.le
  rw [h.eq, show 100 - os.length = 0 by omega]; simp [rdN]
/-- What the program looks for in a text: the line's order, and the page that it would be. -/
def lnO (r : List UInt8) : List UInt8 := ((brk 32 (brk 10 r).1).2).getD []
theorem pg_page {sum : Int} {r s r2 : List UInt8} (h : PgR sum r s r2) : lnO r = s := by
  obtain ⟨h1, h2⟩ := h
  rw [page_eq] at h2
  have e1 := brk_hit (r := r2) (line_no (b := sum) h1)
  rw [← h2] at e1
  have e2 := brk_hit (r := s) (itoa_no (sm_pos sum s) (c := 32) (.inl (by decide)))
  unfold lnO
  rw [e1]
  simp only
  rw [e2]; rfl
theorem pg_line {sum : Int} {r : List UInt8} (h : rightS (lnO r) = false) : pgF sum r = none := by
  cases h2 : pgF sum r with
  | none => rfl
  | some sr =>
    have := pg_to h2
    rw [pg_page this, this.1] at h; cases h
theorem pg_pre {sum : Int} {r : List UInt8} (h : ¬ (pageL dI (smV sum (lnO r)) (lnO r)).isPrefixOf r = true) : pgF sum r = none := by
  cases h2 : pgF sum r with
  | none => rfl
  | some sr =>
    have := pg_to h2
    exfalso
    apply h
    rw [pg_page this, List.isPrefixOf_iff_prefix]
    exact ⟨sr.2, this.2.symm⟩
theorem pg_yes {sum : Int} {r : List UInt8} (h0 : rightS (lnO r) = true) (h : (pageL dI (smV sum (lnO r)) (lnO r)).isPrefixOf r = true) : PgR sum r (lnO r) (r.drop (pageL dI (smV sum (lnO r)) (lnO r)).length) := by
  obtain ⟨x, hx⟩ := List.isPrefixOf_iff_prefix.1 h
  refine ⟨h0, ?_⟩
  generalize pageL dI (smV sum (lnO r)) (lnO r) = p at hx ⊢
  have e : r.drop p.length = x := by rw [← hx]; exact List.drop_left
  rw [e, hx]
end Go.Proofs.YtbnjmkidbfmomaaGreatDoor
