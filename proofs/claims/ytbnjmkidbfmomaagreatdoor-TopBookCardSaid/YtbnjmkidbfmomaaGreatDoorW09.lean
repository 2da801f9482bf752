/- BC Py Ca Cb Cq -/
import Derived.Test.YtbnjmkidbfmomaaGreatDoorW00
import Derived.Test.YtbnjmkidbfmomaaGreatDoorW06
import Derived.Test.YtbnjmkidbfmomaaGreatDoorW07
import Derived.Test.YtbnjmkidbfmomaaGreatDoorW08
set_option linter.unusedVariables false
set_option linter.unusedSimpArgs false
set_option maxRecDepth 100000
namespace Go.Proofs.YtbnjmkidbfmomaaGreatDoor
open Go.Sx Go.RowKit Go.Bt Go.Lib Go.Sand
def rightS (s : List UInt8) : Bool := decide (1 ≤ s.length ∧ s.length ≤ 40 ∧ (10 : UInt8) ∉ s)
theorem dI_len {i : Int} (h : 0 ≤ i) (h2 : i < 1000003) : (dI i).length ≤ 7 := itoa_len h h2
def pageL (dg : Int → List UInt8) (sum : Int) (s : List UInt8) : List UInt8 := dg sum ++ [32] ++ s ++ [10]
def bookF (dg : Int → List UInt8) (x : Int × List UInt8) (s : List UInt8) : Int × List UInt8 := (smV x.1 s, x.2 ++ pageL dg (smV x.1 s) s)
def bookL (dg : Int → List UInt8) (L : List (List UInt8)) : Int × List UInt8 := L.foldl (bookF dg) (0, [])
theorem bookL_next {dg : Int → List UInt8} {L : List (List UInt8)} {k : Nat} (hk : k < L.length) : bookL dg (L.take (k + 1)) = bookF dg (bookL dg (L.take k)) (L.getD k []) := by
  unfold bookL
  rw [List.take_succ_eq_append_getElem hk, List.foldl_append]
  simp [List.getD, hk]
theorem bookL_bd {dg : Int → List UInt8} (L : List (List UInt8)) : 0 ≤ (bookL dg L).1 ∧ (bookL dg L).1 < 1000003 := by
  rcases List.eq_nil_or_concat L with h | ⟨M, c, h⟩
  · subst h; exact ⟨Int.le_refl (0 : Int), show (0 : Int) < 1000003 by decide⟩
  · subst h
    unfold bookL
    rw [List.concat_eq_append, List.foldl_append]
    exact smV_bd _ _
section
variable {P : Program} {n : Nat} {w0 : World} {E : Env} {G : Heap} {d : Option Nat} {ty : TypeId} {pos : String} {aft : Array Edge} {g : Option (Nat × Bool)}
end
theorem page_ok (w0 : World) (hW : WAt w0) (i : Int) (hi : 0 ≤ i ∧ i < 1000003) (L : List UInt8) (hl : L.length ≤ 1000000) :
    Calls Tryz.prog 82 #[.int .i64 i, str L] w0 (Post (X := Unit) (fun _ => str (pageL dI i L)) (fun _ => True) (fun _ => []) w0) := by
  have hd := dI_len hi.1 hi.2
  refine calls Tryz.func82 rfl (n := 11) rfl (by simp) ?_
  refine zr (za rfl (zk (zm rfl (TL.call rfl Tb.gofn_78 (fun a w hs => itoa_ok w (hW.new hs.new) i om om) rfl dc (fun _ _ => ?_)))))
  refine zq (PV.addS (M := [32]) rfl rfl (by simp only [List.length_cons, List.length_nil]; omega)) rfl ?_
  refine zm rfl (zq (PV.addS rfl rfl (by simp only [List.length_append, List.length_cons, List.length_nil]; omega)) rfl ?_)
  refine zq (PV.addS (M := [10]) rfl rfl (by simp only [List.length_append, List.length_cons, List.length_nil]; omega)) rfl ?_
  refine za rfl (zt (TQ.retE1 rfl rfl ?_))
  exact ⟨(), rfl, trivial, nils⟩
theorem bookOf_ok (w0 : World) (hW : WAt w0) (p : Option Addr) (c : Nat) (L : List (List UInt8)) (hL : StrsAt w0 p L) (h300 : L.length ≤ 300) (hs : ∀ j, (L.getD j []).length ≤ 400) :
    Calls Tryz.prog 68 #[.slice p L.length c] w0 (Post (X := Unit) (fun _ => str (bookL dI L).2) (fun _ => True) (fun _ => []) w0) := by
  have hs9 := hs
  clear hs
  refine calls Tryz.func68 rfl (n := 23) rfl (by simp) ?_
  refine zr (za rfl (zk (za rfl (za rfl (zn (TC.seq (zr (zm rfl (zq (PV.len rfl Tb.sl_43) rfl (zm rfl (zn (TC.block (TC.loopK [2, 7, 8] (X := Nat) (fun k => k ≤ L.length ∧ (bookL dI (L.take k)).2.length ≤ 500 * k) (fun k => [(9, .int .i64 (k : Nat)), (4, .int .i64 (bookL dI (L.take k)).1), (3, str (bookL dI (L.take k)).2)]) (fun k => []) (fun k => L.length - k) 0 ⟨Nat.zero_le _, Nat.zero_le _⟩ (by exact ⟨rfl, rfl, rfl, trivial⟩) s9z ?_)))))))))))))
  intro k hk
  have hk1 := hk.1
  refine zr (zq (PV.lss rfl rfl) rfl (zn (TC.seq (TC.cd rfl (fun hlt => ?_) (fun hlt => ?_)))))
  refine TC.skip (TQ.thenC (TC.seq (TC.block (TC.seq ?_))))
  obtain ⟨q, qp, qv⟩ := hL k (by omega)
  refine TC.region (zq (PV.indexA rfl qp rfl Tb.elm_43 rfl om) rfl (zq (PV.loadOld rfl Tb.one_9 qv) rfl (za rfl (zk (zm rfl (zm rfl (TL.call rfl Tb.gofn_46 (fun a w hs => Sum_ok w (bookL dI (L.take k)).1 (by have := bookL_bd (dg := dI) (L.take k); omega) (L.getD k []) (by have := hs9 k; omega)) rfl dc (fun _ _ => ?_))))))))
  refine za rfl (zn (TC.region (zm rfl (zm rfl (zm rfl (TL.call rfl Tb.gofn_82 (fun a w hs => page_ok w (hW.new hs.new) _ (smV_bd _ _) (L.getD k []) (by have := hs9 k; omega)) rfl dc (fun _ _ => ?_)))))))
  refine zq (PV.addS rfl rfl (by have h1 := hk.2; have h2 := dI_len (smV_bd (bookL dI (L.take k)).1 (L.getD k [])).1 (smV_bd _ _).2; have h3 := hs9 k; unfold pageL; simp only [List.length_append, List.length_cons, List.length_nil]; omega)) rfl ?_
  refine za rfl (TL.nil (TQ.blkN (TQ.thenC ?_)))
  have hnx := bookL_next (dg := dI) (show k < L.length by omega)
  refine TC.region (zq (PV.add rfl rfl om) rfl (zm rfl (TL.nil (TQ.thenN (TQ.backK (k + 1) (by rw [hnx]; exact ⟨rfl, rfl, rfl, trivial⟩) l9z s9z ⟨by omega, by rw [hnx]; have h1 := hk.2; have h2 := dI_len (smV_bd (bookL dI (L.take k)).1 (L.getD k [])).1 (smV_bd _ _).2; have h3 := hs9 k; unfold bookF pageL; simp only [List.length_append, List.length_cons, List.length_nil]; omega⟩ om)))))
  refine TC.exit (TQ.thenE (TQ.thenE (TQ.blkS (TQ.thenC (TC.seq ?_)))))
  have hke : k = L.length := by omega
  refine TC.region (zm rfl (za rfl (zt (TQ.retE1 rfl rfl ?_))))
  exact ⟨(), by rw [hke, List.take_length], trivial, nils⟩
end Go.Proofs.YtbnjmkidbfmomaaGreatDoor
namespace Go.Proofs.YtbnjmkidbfmomaaGreatDoor
open Go.Sx Go.RowKit Go.Bt Go.Lib
theorem right_of {s : List UInt8} (h : rightS s = true) : 1 ≤ s.length ∧ s.length ≤ 40 ∧ (10 : UInt8) ∉ s := of_decide_eq_true h
/-! Orders. -/
def dayB : List UInt8 := [100, 97, 121]
def cutB : List UInt8 := [99, 117, 116]
def loadB : List UInt8 := [108, 111, 97, 100]
def wetB : List UInt8 := [119, 101, 116]
def shutB : List UInt8 := [115, 104, 117, 116]
def numF (a : List UInt8) : Option Nat := (List.range 1000).find? fun n => decide (decDigits n = a)
theorem numF_some {a : List UInt8} {n : Nat} (h : numF a = some n) : n < 1000 ∧ a = decDigits n := by
  unfold numF at h
  have h1 := List.find?_some h
  have h2 := List.mem_of_find?_eq_some h
  exact ⟨List.mem_range.1 h2, (of_decide_eq_true h1).symm⟩
theorem numF_none {a : List UInt8} (h : numF a = none) : ∀ n, n < 1000 → decDigits n ≠ a := fun n hn e => by
  have := List.find?_eq_none.1 h n (List.mem_range.2 hn)
  simp [e] at this
theorem numF_dec {n : Nat} (hn : n < 1000) : numF (decDigits n) = some n := by
  cases h : numF (decDigits n) with
  | none => exact absurd rfl (numF_none h n hn)
  | some k => rw [dec_inj (numF_some h).2]
def isNum (a : List UInt8) : Bool := (numF a).isSome
def nv (a : List UInt8) : Int := ((numF a).getD 0 : Nat)
theorem nv_bd (a : List UInt8) : 0 ≤ nv a ∧ nv a ≤ 999 := by
  unfold nv
  cases h : numF a with
  | none => simp
  | some n => have := (numF_some h).1; simp; omega
structure Od where
  k : Nat
  ns : List Int
  deriving DecidableEq
def kdF (h : List UInt8) : Option (Nat × Nat) :=
  if h = dayB then some (0, 0) else if h = cutB then some (1, 1) else if h = loadB then some (2, 2) else if h = wetB then some (3, 2) else if h = shutB then some (4, 0) else none
def prsO (t : List UInt8) : Option Od :=
  match kdF ((spl 32 t).getD 0 []) with
  | none => none
  | some (k, c) => if (spl 32 t).length = 1 + c ∧ ((spl 32 t).drop 1).all isNum = true then some ⟨k, ((spl 32 t).drop 1).map nv⟩ else none
def jn (c : UInt8) : List (List UInt8) → List UInt8
  | [] => []
  | [w] => w
  | w :: ws => w ++ c :: jn c ws
theorem jn_spl (c : UInt8) : ∀ (n : Nat) (l : List UInt8), l.length ≤ n → jn c (spl c l) = l
  | n, l, hn => by
    rw [spl_brk]
    cases h : (brk c l).2 with
    | none => exact (brk_none h).symm
    | some r =>
      have hl := brk_le h
      cases n with
      | zero => omega
      | succ n =>
        have ih := jn_spl c n r (by omega)
        have hp := spl_pos c r
        cases hs : spl c r with
        | nil => rw [hs] at hp; simp at hp
        | cons w ws =>
          simp only
          rw [hs]
          simp only [jn]
          rw [← hs, ih]
          exact (brk_some h).symm
theorem kd_word {h : List UInt8} {k c : Nat} (e : kdF h = some (k, c)) : h.length ≤ 4 ∧ (10 : UInt8) ∉ h ∧ 1 ≤ h.length ∧ c ≤ 2 ∧ (k = 0 ∧ c = 0 ∨ k = 1 ∧ c = 1 ∨ k = 2 ∧ c = 2 ∨ k = 3 ∧ c = 2 ∨ k = 4 ∧ c = 0) := by
  unfold kdF at e
  have d1 : dayB.length ≤ 4 ∧ (10 : UInt8) ∉ dayB ∧ 1 ≤ dayB.length := by decide +kernel
  have d2 : cutB.length ≤ 4 ∧ (10 : UInt8) ∉ cutB ∧ 1 ≤ cutB.length := by decide +kernel
  have d3 : loadB.length ≤ 4 ∧ (10 : UInt8) ∉ loadB ∧ 1 ≤ loadB.length := by decide +kernel
  have d4 : wetB.length ≤ 4 ∧ (10 : UInt8) ∉ wetB ∧ 1 ≤ wetB.length := by decide +kernel
  have d5 : shutB.length ≤ 4 ∧ (10 : UInt8) ∉ shutB ∧ 1 ≤ shutB.length := by decide +kernel
  split at e
  · rename_i e1; injection e with e; injection e with e2 e3; subst e2 e3; rw [e1]; exact ⟨d1.1, d1.2.1, d1.2.2, by decide, by decide⟩
  split at e
  · rename_i e1; injection e with e; injection e with e2 e3; subst e2 e3; rw [e1]; exact ⟨d2.1, d2.2.1, d2.2.2, by decide, by decide⟩
  split at e
  · rename_i e1; injection e with e; injection e with e2 e3; subst e2 e3; rw [e1]; exact ⟨d3.1, d3.2.1, d3.2.2, by decide, by decide⟩
  split at e
  · rename_i e1; injection e with e; injection e with e2 e3; subst e2 e3; rw [e1]; exact ⟨d4.1, d4.2.1, d4.2.2, by decide, by decide⟩
  split at e
  · rename_i e1; injection e with e; injection e with e2 e3; subst e2 e3; rw [e1]; exact ⟨d5.1, d5.2.1, d5.2.2, by decide, by decide⟩
  · cases e
theorem num_word {a : List UInt8} (h : isNum a = true) : a.length ≤ 3 ∧ (10 : UInt8) ∉ a := by
  unfold isNum at h
  cases h2 : numF a with
  | none => rw [h2] at h; cases h
  | some n =>
    obtain ⟨h3, h4⟩ := numF_some h2
    subst h4
    exact ⟨dec_len 3 n (by decide) (by omega), dec_no (.inl (by decide))⟩
set_option maxRecDepth 4000 in
theorem prs_right {t : List UInt8} {o : Od} (h : prsO t = some o) : rightS t = true := by
  unfold prsO at h
  cases hk : kdF ((spl 32 t).getD 0 []) with
  | none => rw [hk] at h; cases h
  | some kc =>
    obtain ⟨k, c⟩ := kc
    rw [hk] at h
    simp only at h
    split at h
    · rename_i hc
      obtain ⟨hl, ha⟩ := hc
      obtain ⟨w1, w2, w3, w4, w5⟩ := kd_word hk
      have hj := jn_spl 32 t.length t (Nat.le_refl _)
      have ha' := List.all_eq_true.1 ha
      generalize spl 32 t = ws at *
      unfold rightS
      refine decide_eq_true ?_
      match ws, hl, w1, w2, w3, ha', hj with
      | [a], _, w1, w2, w3, _, hj =>
        simp only [jn] at hj
        subst hj
        exact ⟨w3, by simp at w1; omega, w2⟩
      | [a, b], _, w1, w2, w3, ha, hj =>
        simp only [jn] at hj
        subst hj
        have hb := num_word (ha b (by simp))
        simp at w1 w2 w3 ⊢
        refine ⟨by omega, by omega, w2, hb.2⟩
      | [a, b, d], _, w1, w2, w3, ha, hj =>
        simp only [jn] at hj
        subst hj
        have hb := num_word (ha b (by simp))
        have hd := num_word (ha d (by simp))
        simp at w1 w2 w3 ⊢
        refine ⟨by omega, by omega, w2, hb.2, hd.2⟩
      | a :: b :: d :: e :: r, hl, _, _, _, _, _ => simp at hl; omega
      | [], hl, _, _, _, _, _ => simp at hl; omega
    · cases h
theorem prs_ns {t : List UInt8} {o : Od} (h : prsO t = some o) : (o.k = 0 ∧ o.ns.length = 0 ∨ o.k = 1 ∧ o.ns.length = 1 ∨ o.k = 2 ∧ o.ns.length = 2 ∨ o.k = 3 ∧ o.ns.length = 2 ∨ o.k = 4 ∧ o.ns.length = 0) ∧ ∀ j, 0 ≤ o.ns.getD j 0 ∧ o.ns.getD j 0 ≤ 999 := by
  unfold prsO at h
  cases hk : kdF ((spl 32 t).getD 0 []) with
  | none => rw [hk] at h; cases h
  | some kc =>
    obtain ⟨k, c⟩ := kc
    rw [hk] at h
    simp only at h
    split at h
    · rename_i hc
      injection h with h
      obtain ⟨w1, w2, w3, w4, w5⟩ := kd_word hk
      subst h
      refine ⟨?_, fun j => ?_⟩
      · simp only [List.length_map, List.length_drop]
        omega
      · simp only
        by_cases hj : j < (((spl 32 t).drop 1).map nv).length
        · have e : (((spl 32 t).drop 1).map nv).getD j 0 = nv (((spl 32 t).drop 1)[j]'(by rw [List.length_map] at hj; exact hj)) := by rw [List.getD_eq_getElem?_getD, List.getElem?_eq_getElem hj, List.getElem_map]; rfl
          rw [e]; exact nv_bd _
        · have e : (((spl 32 t).drop 1).map nv).getD j 0 = 0 := by
            rw [List.getD_eq_getElem?_getD, List.getElem?_eq_none (by omega)]; rfl
          rw [e]; omega
    · cases h
/-! Pages and books. -/
def pgF (sum : Int) (t : List UInt8) : Option (List UInt8 × List UInt8) :=
  match (brk 10 t).2 with
  | none => none
  | some r => match (brk 32 (brk 10 t).1).2 with
    | none => none
    | some s => if rightS s = true ∧ itoa (smV sum s) = (brk 32 (brk 10 t).1).1 then some (s, r) else none
def PgR (sum : Int) (t s r : List UInt8) : Prop := rightS s = true ∧ t = pageL dI (smV sum s) s ++ r
theorem page_eq (i : Int) (s r : List UInt8) : pageL dI i s ++ r = (itoa i ++ 32 :: s) ++ 10 :: r := by
  unfold pageL; simp
theorem sm_pos (b : Int) (s : List UInt8) : 0 ≤ smV b s := (smV_bd b s).1
theorem line_no {b : Int} {s : List UInt8} (h : rightS s = true) : (10 : UInt8) ∉ itoa (smV b s) ++ 32 :: s := by
  have h1 := (right_of h).2.2
  have h2 := itoa_no (sm_pos b s) (c := 10) (.inl (by decide))
  simp [h1, h2]
theorem pg_of {sum : Int} {t s r : List UInt8} (h : PgR sum t s r) : pgF sum t = some (s, r) := by
  obtain ⟨h1, h2⟩ := h
  rw [page_eq] at h2
  have e1 := brk_hit (r := r) (line_no (b := sum) h1)
  rw [← h2] at e1
  have e2 := brk_hit (r := s) (itoa_no (sm_pos sum s) (c := 32) (.inl (by decide)))
  unfold pgF
  rw [e1]
  simp only
  rw [e2]
  simp [h1]
theorem pg_to {sum : Int} {t s r : List UInt8} (h : pgF sum t = some (s, r)) : PgR sum t s r := by
  unfold pgF at h
  cases h1 : (brk 10 t).2 with
  | none => rw [h1] at h; cases h
  | some r' =>
    rw [h1] at h
    simp only at h
    cases h2 : (brk 32 (brk 10 t).1).2 with
    | none => rw [h2] at h; cases h
    | some s' =>
      rw [h2] at h
      simp only at h
      split at h
      · rename_i hc
        injection h with h
        injection h with e1 e2
        subst e1 e2
        refine ⟨hc.1, ?_⟩
        rw [page_eq, hc.2, ← brk_some h2, ← brk_some h1]
      · cases h
def rdN : Nat → Int → List UInt8 → List (List UInt8) × List UInt8
  | 0, _, t => ([], t)
  | n + 1, sum, t => match pgF sum t with
    | none => ([], t)
    | some (s, r) => (s :: (rdN n (smV sum s) r).1, (rdN n (smV sum s) r).2)
def bkN (sum : Int) : List (List UInt8) → List UInt8
  | [] => []
  | s :: L => pageL dI (smV sum s) s ++ bkN (smV sum s) L
theorem rd_sound : ∀ (n : Nat) (sum : Int) (t : List UInt8), t = bkN sum (rdN n sum t).1 ++ (rdN n sum t).2 ∧ (rdN n sum t).1.length ≤ n ∧ (rdN n sum t).1.all rightS = true ∧ ((rdN n sum t).1.length = n ∨ pgF (((rdN n sum t).1).foldl smV sum) (rdN n sum t).2 = none)
  | 0, sum, t => ⟨rfl, Nat.le_refl _, rfl, .inl rfl⟩
  | n + 1, sum, t => by
    cases h : pgF sum t with
    | none =>
      have e : rdN (n + 1) sum t = ([], t) := by unfold rdN; rw [h]
      rw [e]
      exact ⟨rfl, Nat.zero_le _, rfl, .inr h⟩
    | some sr =>
      obtain ⟨s, r⟩ := sr
      have e : rdN (n + 1) sum t = (s :: (rdN n (smV sum s) r).1, (rdN n (smV sum s) r).2) := by conv => lhs; unfold rdN; rw [h]
      obtain ⟨i1, i2, i3, i4⟩ := rd_sound n (smV sum s) r
      have hp := pg_to h
      rw [e]
      refine ⟨?_, by simp; omega, ?_, ?_⟩
      · simp only [bkN]
        rw [List.append_assoc, ← i1]
        exact hp.2
      · simp only [List.all_cons, i3, hp.1, Bool.and_self]
      · rcases i4 with i4 | i4
        · exact .inl (by simp [i4])
        · exact .inr i4
theorem rd_book : ∀ (L : List (List UInt8)) (n : Nat) (sum : Int), L.length ≤ n → L.all rightS = true → rdN n sum (bkN sum L) = (L, [])
  | [], 0, sum, _, _ => rfl
  | [], n + 1, sum, _, _ => by
    unfold rdN
    have : pgF sum (bkN sum []) = none := rfl
    rw [this]; rfl
  | s :: L, 0, sum, h, _ => by simp at h
  | s :: L, n + 1, sum, h, ha => by
    simp only [List.all_cons, Bool.and_eq_true] at ha
    have hp : pgF sum (bkN sum (s :: L)) = some (s, bkN (smV sum s) L) := pg_of ⟨ha.1, rfl⟩
    have ih := rd_book L n (smV sum s) (by simpa using h) ha.2
    conv => lhs; unfold rdN; rw [hp]
    simp only [ih]
theorem bk_fold {L : List (List UInt8)} : ∀ (sum : Int) (b : List UInt8), (L.foldl (bookF dI) (sum, b)).2 = b ++ bkN sum L := by
  induction L with
  | nil => intro sum b; simp [bkN]
  | cons s L ih =>
    intro sum b
    rw [List.foldl_cons]
    show (L.foldl (bookF dI) (smV sum s, b ++ pageL dI (smV sum s) s)).2 = _
    rw [ih, bkN, List.append_assoc]
theorem book_bk (L : List (List UInt8)) : (bookL dI L).2 = bkN 0 L := by
  unfold bookL; rw [bk_fold]; rfl
theorem rd_short {n : Nat} {sum : Int} {t : List UInt8} (h : (10 : UInt8) ∉ t) : rdN n sum t = ([], t) := by
  cases n with
  | zero => rfl
  | succ n =>
    unfold rdN
    have : pgF sum t = none := by unfold pgF; rw [brk_miss h]
    rw [this]
theorem rd_take : ∀ (L : List (List UInt8)) (n k : Nat) (sum : Int), L.length ≤ n → L.all rightS = true → ∃ j, j ≤ L.length ∧ (rdN n sum ((bkN sum L).take k)).1 = L.take j ∧ ((rdN n sum ((bkN sum L).take k)).2 = [] ∨ j < L.length)
  | [], n, k, sum, _, _ => ⟨0, Nat.le_refl _, by
      have e : (bkN sum []).take k = [] := by simp [bkN]
      rw [e, rd_short (by simp)]; exact ⟨rfl, .inl rfl⟩⟩
  | s :: L, n, k, sum, hn, ha => by
    simp only [List.all_cons, Bool.and_eq_true] at ha
    obtain ⟨m, rfl⟩ : ∃ m, n = m + 1 := ⟨n - 1, by simp at hn; omega⟩
    have hpl : pageL dI (smV sum s) s = (itoa (smV sum s) ++ 32 :: s) ++ [10] := by unfold pageL; simp
    by_cases hk : (pageL dI (smV sum s) s).length ≤ k
    · obtain ⟨k', rfl⟩ : ∃ k', k = (pageL dI (smV sum s) s).length + k' := ⟨k - (pageL dI (smV sum s) s).length, by omega⟩
      have e : (bkN sum (s :: L)).take ((pageL dI (smV sum s) s).length + k') = pageL dI (smV sum s) s ++ (bkN (smV sum s) L).take k' := by
        simp only [bkN]
        rw [List.take_append, List.take_of_length_le (by omega)]
        congr 2; omega
      obtain ⟨j, h1, h2, h3⟩ := rd_take L m k' (smV sum s) (by simpa using hn) ha.2
      have hp : pgF sum (pageL dI (smV sum s) s ++ (bkN (smV sum s) L).take k') = some (s, (bkN (smV sum s) L).take k') := pg_of ⟨ha.1, rfl⟩
      refine ⟨j + 1, by simp; omega, ?_, ?_⟩
      · rw [e]; conv => lhs; unfold rdN; rw [hp]
        simp only [h2, List.take_succ_cons]
      · rw [e]
        rcases h3 with h3 | h3
        · left; conv => lhs; unfold rdN; rw [hp]
          exact h3
        · right; simp; omega
    · refine ⟨0, Nat.zero_le _, ?_⟩
      have e : (bkN sum (s :: L)).take k = (itoa (smV sum s) ++ 32 :: s).take k := by
        simp only [bkN]
        rw [List.take_append_of_le_length (by omega), hpl, List.take_append_of_le_length (by rw [hpl] at hk; simp at hk ⊢; omega)]
      have hno : (10 : UInt8) ∉ (itoa (smV sum s) ++ 32 :: s).take k := fun h => line_no ha.1 (List.mem_of_mem_take h)
      rw [e, rd_short hno]
      exact ⟨rfl, .inr (by simp)⟩
def readL (t : List UInt8) : List (List UInt8) × List UInt8 := rdN 100 0 t
theorem rdN_none {n : Nat} {sum : Int} {t : List UInt8} (h : pgF sum t = none) : rdN n sum t = ([], t) := by
  cases n with
  | zero => rfl
  | succ n => unfold rdN; rw [h]
theorem rdN_some {n : Nat} {sum : Int} {t s r : List UInt8} (h : pgF sum t = some (s, r)) : rdN (n + 1) sum t = (s :: (rdN n (smV sum s) r).1, (rdN n (smV sum s) r).2) := by
  conv => lhs; unfold rdN; rw [h]
structure RdS (t : List UInt8) (os : List (List UInt8)) (sum : Int) (r : List UInt8) : Prop where
  le : os.length ≤ 100
  eq : readL t = (os ++ (rdN (100 - os.length) sum r).1, (rdN (100 - os.length) sum r).2)
  len : r.length ≤ t.length
  sm : 0 ≤ sum ∧ sum < 1000003
  rt : os.all rightS = true
theorem RdS.zero (t : List UInt8) : RdS t [] 0 t := ⟨Nat.zero_le _, rfl, Nat.le_refl _, by decide, rfl⟩
theorem RdS.next {t r s r2 : List UInt8} {os : List (List UInt8)} {sum : Int} (h : RdS t os sum r) (hl : os.length < 100) (hp : PgR sum r s r2) : RdS t (os ++ [s]) (smV sum s) r2 := by
  have e1 := pg_of hp
  obtain ⟨k, hk⟩ : ∃ k, 100 - os.length = k + 1 := ⟨99 - os.length, by omega⟩
  refine ⟨by simp; omega, ?_, ?_, smV_bd _ _, by simp [h.rt, hp.1]⟩
  · have := h.eq
    rw [hk, rdN_some e1] at this
    rw [this, show 100 - (os ++ [s]).length = k by simp; omega]
    simp
  · have := congrArg List.length hp.2
    simp at this
    have := h.len
    omega
theorem RdS.stop {t r : List UInt8} {os : List (List UInt8)} {sum : Int} (h : RdS t os sum r) (hp : pgF sum r = none) : readL t = (os, r) := by
  rw [h.eq, rdN_none hp]; simp
theorem RdS.full {t r : List UInt8} {os : List (List UInt8)} {sum : Int} (h : RdS t os sum r) (hl : ¬ os.length < 100) : readL t = (os, r) := by
  have := h.le
  rw [h.eq, show 100 - os.length = 0 by omega]; simp [rdN]
def lnO (r : List UInt8) : List UInt8 := ((brk 32 (brk 10 r).1).2).getD []
theorem pg_page {sum : Int} {r s r2 : List UInt8} (h : PgR sum r s r2) : lnO r = s := by
  obtain ⟨h1, h2⟩ := h
  rw [page_eq] at h2
  have e1 := brk_hit (r := r2) (line_no (b := sum) h1)
  rw [← h2] at e1
  have e2 := brk_hit (r := s) (itoa_no (sm_pos sum s) (c := 32) (.inl (by decide)))
  unfold lnO
  rw [e1]
  simp only
  rw [e2]; rfl
theorem pg_line {sum : Int} {r : List UInt8} (h : rightS (lnO r) = false) : pgF sum r = none := by
  cases h2 : pgF sum r with
  | none => rfl
  | some sr =>
    have := pg_to h2
    rw [pg_page this, this.1] at h; cases h
theorem pg_pre {sum : Int} {r : List UInt8} (h : ¬ (pageL dI (smV sum (lnO r)) (lnO r)).isPrefixOf r = true) : pgF sum r = none := by
  cases h2 : pgF sum r with
  | none => rfl
  | some sr =>
    have := pg_to h2
    exfalso
    apply h
    rw [pg_page this, List.isPrefixOf_iff_prefix]
    exact ⟨sr.2, this.2.symm⟩
theorem pg_yes {sum : Int} {r : List UInt8} (h0 : rightS (lnO r) = true) (h : (pageL dI (smV sum (lnO r)) (lnO r)).isPrefixOf r = true) : PgR sum r (lnO r) (r.drop (pageL dI (smV sum (lnO r)) (lnO r)).length) := by
  obtain ⟨x, hx⟩ := List.isPrefixOf_iff_prefix.1 h
  refine ⟨h0, ?_⟩
  generalize pageL dI (smV sum (lnO r)) (lnO r) = p at hx ⊢
  have e : r.drop p.length = x := by rw [← hx]; exact List.drop_left
  rw [e, hx]
end Go.Proofs.YtbnjmkidbfmomaaGreatDoor
namespace Go.Proofs.YtbnjmkidbfmomaaGreatDoor.C
open Go.Sx Go.RowKit
abbrev bv (p : Option Addr) (len cap : Nat) : Value := .agg #[.slice p len cap]
def wiB (a lo hi : Int) : Bool := decide (lo ≤ a ∧ a ≤ hi)
def dep (ls : List (List Int)) : Nat := (ls.getD 0 []).length
def colB (ls : List (List Int)) (c : List Int) : Bool := decide (c.length = dep ls) && c.all fun x => wiB x (-50) 50
def validI (ls : List (List Int)) : Int := if ls.length < 1 ∨ 6 < ls.length then 1 else if dep ls < 1 ∨ 4 < dep ls then 1 else if ls.all (colB ls) = true then 0 else 1
theorem valid_1 {ls : List (List Int)} (h : ls.length < 1 ∨ 6 < ls.length) : validI ls = 1 := if_pos h
theorem valid_2 {ls : List (List Int)} (h2 : dep ls < 1 ∨ 4 < dep ls) : validI ls = 1 := by
  unfold validI
  by_cases h1 : ls.length < 1 ∨ 6 < ls.length
  · rw [if_pos h1]
  · rw [if_neg h1, if_pos h2]
theorem all_no {α : Type} [Inhabited α] {l : List α} {f : α → Bool} {k : Nat} {d : α} (hk : k < l.length) (h : f (l.getD k d) = false) : l.all f = false := by
  rw [Bool.eq_false_iff]
  intro h1
  have := List.all_eq_true.1 h1 (l.getD k d) (by simp [List.getD, hk])
  rw [this] at h
  cases h
theorem all_yes {α : Type} {l : List α} {f : α → Bool} {d : α} (h : ∀ k, k < l.length → f (l.getD k d) = true) : l.all f = true := by
  refine List.all_eq_true.2 fun x hx => ?_
  obtain ⟨j, hj, rfl⟩ := List.getElem_of_mem hx
  have := h j hj
  simpa [List.getD, hj] using this
theorem valid_3 {ls : List (List Int)} {k : Nat} (hk : k < ls.length) (h : colB ls (ls.getD k []) = false) : validI ls = 1 := by
  unfold validI
  rw [if_neg (c := ls.all (colB ls) = true) (by rw [all_no hk h]; decide)]
  split
  · rfl
  · split <;> rfl
theorem valid_0 {ls : List (List Int)} (h1 : ¬ (ls.length < 1 ∨ 6 < ls.length)) (h2 : ¬ (dep ls < 1 ∨ 4 < dep ls)) (h3 : ∀ k, k < ls.length → colB ls (ls.getD k []) = true) : validI ls = 0 := by
  unfold validI
  rw [if_neg h1, if_neg h2, if_pos (all_yes h3)]
structure VB (ls : List (List Int)) : Prop where
  n : 1 ≤ ls.length ∧ ls.length ≤ 6
  d : 1 ≤ dep ls ∧ dep ls ≤ 4
  c : ∀ k, k < ls.length → (ls.getD k []).length = dep ls
  w : ∀ k j, -50 ≤ (ls.getD k []).getD j 0 ∧ (ls.getD k []).getD j 0 ≤ 50
theorem vb_of {ls : List (List Int)} (h : ¬ validI ls ≠ 0) : VB ls := by
  have h0 := Decidable.of_not_not h
  unfold validI at h0
  by_cases h1 : ls.length < 1 ∨ 6 < ls.length
  · rw [if_pos h1] at h0; cases h0
  · rw [if_neg h1] at h0
    by_cases h2 : dep ls < 1 ∨ 4 < dep ls
    · rw [if_pos h2] at h0; cases h0
    · rw [if_neg h2] at h0
      by_cases h3 : ls.all (colB ls) = true
      · have hc : ∀ k, k < ls.length → colB ls (ls.getD k []) = true := fun k hk => List.all_eq_true.1 h3 _ (by simp [List.getD, hk])
        refine ⟨by omega, by omega, fun k hk => ?_, fun k j => ?_⟩
        · have := hc k hk
          unfold colB at this
          simp only [Bool.and_eq_true, decide_eq_true_eq] at this
          exact this.1
        · by_cases hk : k < ls.length
          · have := hc k hk
            unfold colB at this
            simp only [Bool.and_eq_true, decide_eq_true_eq] at this
            by_cases hj : j < (ls.getD k []).length
            · have h5 := List.all_eq_true.1 this.2 ((ls.getD k []).getD j 0) (by
                have e : (ls.getD k []).getD j 0 = (ls.getD k [])[j] := by simp only [List.getD_eq_getElem?_getD]; rw [List.getElem?_eq_getElem (by simpa using hj)]; rfl
                rw [e]; exact List.getElem_mem _)
              exact of_decide_eq_true h5
            · have e : (ls.getD k []).getD j 0 = 0 := by rw [List.getD_eq_getElem?_getD (l := ls.getD k []), List.getElem?_eq_none (by omega)]; rfl
              rw [e]; omega
          · have e : ls.getD k [] = [] := by simp [List.getD, hk]
            rw [e]
            simp
      · rw [if_neg h3] at h0; cases h0
theorem col_len {ls : List (List Int)} {k : Nat} (h : ¬ (ls.getD k []).length = dep ls) : colB ls (ls.getD k []) = false := by
  unfold colB
  rw [decide_eq_false h, Bool.false_and]
theorem isWithin_ok (w0 : World) (a lo hi : Int) :
    Calls Tryz.prog 93 #[.int .i64 a, .int .i64 lo, .int .i64 hi] w0 (Post (X := Unit) (fun _ => .bool (wiB a lo hi)) (fun _ => True) (fun _ => []) w0) := by
  refine calls Tryz.func93 rfl (n := 15) rfl (by simp) ?_
  refine zr (za rfl (zk (zm rfl (zm rfl (zq (PV.geq rfl rfl) rfl (zm rfl (TL.sp 10 rfl (fun e1 => ?_) (fun e1 => ?_))))))))
  refine zm rfl (zm rfl (zq (PV.leq rfl rfl) rfl (zq (PV.pickT rfl rfl) rfl (za rfl (zt (TQ.retE1 rfl rfl ?_))))))
  exact ⟨(), by unfold wiB; congr 1; rw [decide_eq_decide]; simp_all, trivial, nils⟩
  refine zx rfl (zx rfl (zx rfl (zq (PV.pickF rfl rfl) rfl (za rfl (zt (TQ.retE1 rfl rfl ?_))))))
  exact ⟨(), by unfold wiB; rw [decide_eq_false (by omega)], trivial, nils⟩
theorem areWithin_ok (w0 : World) (pl : Option Addr) (cl : Nat) (xs : List Int) (hx : IntsAt w0 pl xs) (hl : xs.length ≤ 1000000) (lo hi : Int) :
    Calls Tryz.prog 131 #[.slice pl xs.length cl, .int .i64 lo, .int .i64 hi] w0 (Post (X := Unit) (fun _ => .bool (xs.all fun x => wiB x lo hi)) (fun _ => True) (fun _ => []) w0) := by
  refine calls Tryz.func131 rfl (n := 21) rfl (by simp) ?_
  refine zr (za rfl (zn (TC.seq (zr (zm rfl (zq (PV.len rfl Tb.sl_25) rfl (zm rfl (zn (TC.block (TC.loopG [1, 2, 9, 10] (X := Nat) (fun k => k ≤ xs.length ∧ ∀ j, j < k → wiB (xs.getD j 0) lo hi = true) (fun k => [(11, .int .i64 k)]) (fun k => xs.length - k) 0 ⟨Nat.zero_le _, fun j hj => absurd hj (Nat.not_lt_zero _)⟩ l9z ?_))))))))))
  intro k hk
  refine zr (zq (PV.lss rfl rfl) rfl (zn (TC.seq (TC.cd rfl (fun hlt => ?_) (fun hlt => ?_)))))
  refine TC.skip (TQ.thenC (TC.seq (TC.block (TC.seq ?_))))
  obtain ⟨q, hqp, hq⟩ := hx k (by omega)
  refine TC.region (zq (PV.indexA rfl hqp rfl Tb.elm_25 rfl om) rfl (zq (PV.loadOld rfl Tb.one_3 hq) rfl (za rfl (zk (zm rfl (zm rfl (zm rfl (TL.call rfl Tb.gofn_93 (fun a w hs => isWithin_ok w _ _ _) rfl dc (fun _ _ => ?_)))))))))
  refine zq ((by first | exact PV.notD rfl | exact PV.not rfl)) rfl ?_
  refine zn (TC.cd rfl (fun hno => ?_) (fun hno => ?_))
  refine zr (za rfl (zt (TQ.blkR (TQ.thenR (TQ.thenR (TQ.blkR (TQ.thenR (TQ.retE1 rfl rfl ?_))))))))
  exact ⟨(), by rw [all_no (k := k) (d := 0) (by omega) (by unfold wiB; exact decide_eq_false (by omega))], trivial, nils⟩
  refine TC.skip (TQ.blkN (TQ.thenC (TC.region (zq (PV.add rfl rfl om) rfl (zm rfl (TL.nil (TQ.thenN (TQ.backK (k + 1) l9z l9z s9z ⟨by omega, fun j hj => if e : j < k then hk.2 j e else (show k = j by omega) ▸ (by unfold wiB; exact decide_eq_true om)⟩ om))))))))
  refine TC.exit (TQ.thenE (TQ.thenE (TQ.blkS (TQ.thenC (zr (za rfl (zt (TQ.retE1 rfl rfl ?_))))))))
  exact ⟨(), by rw [all_yes (d := 0) (fun j hj => hk.2 j (by omega))], trivial, nils⟩
theorem depth_ok (w0 : World) (p : Option Addr) (cap : Nat) (ls : List (List Int)) (hr : LsAt w0 p ls) (hl : 0 < ls.length) :
    Calls Tryz.prog 132 #[bv p ls.length cap] w0 (Post (X := Unit) (fun _ => .int .i64 (dep ls)) (fun _ => True) (fun _ => []) w0) := by
  refine calls Tryz.func132 rfl (n := 8) rfl (by simp) ?_
  refine zr (TL.box rfl rfl dc (fun b0 hb0 => ?_))
  refine za rfl (zn (TC.seq ?_))
  obtain ⟨q0, hq0p, p0, c0, hq0, hi0⟩ := hr 0 (by omega)
  refine TC.region (zq (PV.fieldAddr rfl Tb.fo_24_0) rfl (zq (PV.load rfl Tb.one_22 m9z rfl) rfl ?_))
  refine zq (PV.indexA rfl hq0p rfl Tb.elm_22 rfl om) rfl (zq (PV.loadOld rfl Tb.one_25 hq0) rfl (zq (PV.len rfl Tb.sl_25) rfl (za rfl (zt (TQ.retE1 rfl rfl ?_)))))
  exact ⟨(), rfl, trivial, nils⟩
set_option maxHeartbeats 1000000 in
theorem validate_ok (w0 : World) (p : Option Addr) (cap : Nat) (ls : List (List Int)) (hr : LsAt w0 p ls) :
    Calls Tryz.prog 96 #[bv p ls.length cap] w0 (Post (X := Unit) (fun _ => .int .i64 (validI ls)) (fun _ => True) (fun _ => []) w0) := by
  refine calls Tryz.func96 rfl (n := 41) rfl (by simp) ?_
  refine zr (TL.box rfl rfl dc (fun b0 hb0 => ?_))
  refine za rfl (zn (TC.seq (zr (zq (PV.fieldAddr rfl Tb.fo_24_0) rfl (zq (PV.load rfl Tb.one_22 m9z rfl) rfl ?_)))))
  refine zq (PV.len rfl Tb.sl_22) rfl (zq (PV.lss rfl rfl) rfl (zm rfl (TL.sp 9 rfl (fun a1 => ?_) (fun a1 => ?_))))
  refine zx rfl (zx rfl (zx rfl (zx rfl (zq (PV.pickT rfl rfl) rfl (zn (TC.condT rfl (zr (za rfl (zt (TQ.thenR (TQ.retE1 rfl rfl ?_)))))))))))
  exact ⟨(), by rw [valid_1 (by omega)], trivial, nils⟩
  refine zq (PV.fieldAddr rfl Tb.fo_24_0) rfl (zq (PV.load rfl Tb.one_22 m9z rfl) rfl ?_)
  refine zq (PV.len rfl Tb.sl_22) rfl (zq (PV.gtr rfl rfl) rfl (zq (PV.pickF rfl rfl) rfl (zn (TC.cd rfl (fun a2 => ?_) (fun a2 => ?_)))))
  refine zr (za rfl (zt (TQ.thenR (TQ.retE1 rfl rfl ?_))))
  exact ⟨(), by rw [valid_1 (by omega)], trivial, nils⟩
  refine TC.skip (TQ.thenC (TC.seq (zr (zq (PV.loadBox rfl Tb.agg_24 m9z rfl) rfl ?_))))
  refine TL.call rfl Tb.gofn_132 (fun a w hs => depth_ok w _ _ _ (hr.new hs.new) om) rfl dc (fun _ _ => ?_)
  refine zq (PV.lss rfl rfl) rfl (zm rfl (TL.sp 18 rfl (fun b1 => ?_) (fun b1 => ?_)))
  refine zx rfl (zx rfl (zx rfl (zq (PV.pickT rfl rfl) rfl (zn (TC.condT rfl (zr (za rfl (zt (TQ.thenR (TQ.retE1 rfl rfl ?_))))))))))
  exact ⟨(), by rw [valid_2 (by omega)], trivial, nils⟩
  refine zq (PV.loadBox rfl Tb.agg_24 m9z rfl) rfl ?_
  refine TL.call rfl Tb.gofn_132 (fun a w hs => depth_ok w _ _ _ (hr.new hs.new) om) rfl dc (fun _ _ => ?_)
  refine zq (PV.gtr rfl rfl) rfl (zq (PV.pickF rfl rfl) rfl (zn (TC.cd rfl (fun b2 => ?_) (fun b2 => ?_))))
  refine zr (za rfl (zt (TQ.thenR (TQ.retE1 rfl rfl ?_))))
  exact ⟨(), by rw [valid_2 (by omega)], trivial, nils⟩
  refine TC.skip (TQ.thenC (TC.seq (zr (zq (PV.fieldAddr rfl Tb.fo_24_0) rfl (zq (PV.load rfl Tb.one_22 m9z rfl) rfl ?_)))))
  refine zq (PV.len rfl Tb.sl_22) rfl (zm rfl (zn (TC.block (TC.loopG [1, 24, 25] (X := Nat) (fun k => k ≤ ls.length ∧ ∀ j, j < k → colB ls (ls.getD j []) = true) (fun k => [(26, .int .i64 k)]) (fun k => ls.length - k) 0 ⟨Nat.zero_le _, fun j hj => absurd hj (Nat.not_lt_zero _)⟩ l9z ?_))))
  intro k hk
  refine zr (zq (PV.lss rfl rfl) rfl (zn (TC.seq (TC.cd rfl (fun hlt => ?_) (fun hlt => ?_)))))
  refine TC.skip (TQ.thenC (TC.seq (TC.block (TC.seq ?_))))
  obtain ⟨q, hqp, pj, cj, hq, hi⟩ := hr k (by omega)
  refine TC.region (zq (PV.indexA rfl hqp rfl Tb.elm_22 rfl om) rfl (zq (PV.loadOld rfl Tb.one_25 hq) rfl (za rfl (zk (zm rfl (zq (PV.len rfl Tb.sl_25) rfl (zq (PV.loadBox rfl Tb.agg_24 m9z rfl) rfl ?_)))))))
  refine TL.call rfl Tb.gofn_132 (fun a w hs => depth_ok w _ _ _ (hr.new hs.new) om) rfl dc (fun _ _ => ?_)
  refine zq (PV.neq rfl rfl) rfl (zm rfl (TL.sp 35 rfl (fun c1 => ?_) (fun c1 => ?_)))
  refine zx rfl (zx rfl (zx rfl (zq (PV.pickT rfl rfl) rfl (zn (TC.condT rfl (zr (za rfl (zt (TQ.blkR (TQ.thenR (TQ.thenR (TQ.blkR (TQ.thenR (TQ.retE1 rfl rfl ?_))))))))))))))
  exact ⟨(), by rw [valid_3 (k := k) (by omega) (col_len (by omega))], trivial, nils⟩
  refine zm rfl (TL.call rfl Tb.gofn_131 (fun a w hs => areWithin_ok w _ _ _ (hi.new hs.new) om _ _) rfl dc (fun _ _ => ?_))
  refine zq ((by first | exact PV.notD rfl | exact PV.not rfl)) rfl ?_
  refine zq (PV.pickF rfl rfl) rfl (zn (TC.cd rfl (fun c2 => ?_) (fun c2 => ?_)))
  refine zr (za rfl (zt (TQ.blkR (TQ.thenR (TQ.thenR (TQ.blkR (TQ.thenR (TQ.retE1 rfl rfl ?_))))))))
  exact ⟨(), by rw [valid_3 (k := k) (by omega) (by unfold colB; rw [show ((ls.getD k []).all fun x => wiB x (-50) 50) = false by simpa using c2, Bool.and_false])], trivial, nils⟩
  refine TC.skip (TQ.blkN (TQ.thenC (TC.region (zq (PV.add rfl rfl om) rfl (zm rfl (TL.nil (TQ.thenN (TQ.backK (k + 1) l9z l9z s9z ⟨by omega, fun j hj => if e : j < k then hk.2 j e else (show k = j by omega) ▸ (by unfold colB; rw [decide_eq_true om]; simpa using c2)⟩ om))))))))
  refine TC.exit (TQ.thenE (TQ.thenE (TQ.blkS (TQ.thenC (zr (za rfl (zt (TQ.retE1 rfl rfl ?_))))))))
  exact ⟨(), by rw [valid_0 (by omega) (by omega) (fun j hj => hk.2 j (by omega))], trivial, nils⟩
end Go.Proofs.YtbnjmkidbfmomaaGreatDoor.C
namespace Go.Proofs.YtbnjmkidbfmomaaGreatDoor.C
open Go.Sx Go.RowKit
def numI (ls : List (List Int)) (hs : List Int) : Int := if validI ls ≠ 0 then validI ls else if hs.length = ls.length ∧ (hs.all fun x => wiB x 0 (dep ls)) = true then 0 else 1
def stepB (hs : List Int) (c : Nat) : Bool := wiB (hs.getD (c + 1) 0 - hs.getD c 0) (-1) 1
def rightB (hs : List Int) : Bool := (List.range (hs.length - 1)).all (stepB hs)
def holI (ls : List (List Int)) (hs : List Int) : Int := if numI ls hs ≠ 0 then numI ls hs else if rightB hs = true then 0 else 6
def sumN (col : List Int) : Nat → Int
  | 0 => 0
  | n + 1 => sumN col n + col.getD n 0
def worK (ls : List (List Int)) (hs : List Int) : Nat → Int
  | 0 => 0
  | k + 1 => worK ls hs k + sumN (ls.getD k []) (hs.getD k 0).toNat
def worH (ls : List (List Int)) (hs : List Int) : Int := worK ls hs hs.length
structure NB (ls : List (List Int)) (hs : List Int) : Prop where
  vb : VB ls
  len : hs.length = ls.length
  at_ : ∀ k, 0 ≤ hs.getD k 0 ∧ hs.getD k 0 ≤ dep ls
theorem num_bad {ls : List (List Int)} {hs : List Int} (h : validI ls ≠ 0) : numI ls hs = validI ls := if_pos h
theorem num_1 {ls : List (List Int)} {hs : List Int} (h : ¬ validI ls ≠ 0) (h2 : ¬ (hs.length = ls.length ∧ (hs.all fun x => wiB x 0 (dep ls)) = true)) : numI ls hs = 1 := by unfold numI; rw [if_neg h, if_neg h2]
theorem num_0 {ls : List (List Int)} {hs : List Int} (h : ¬ validI ls ≠ 0) (h2 : hs.length = ls.length ∧ (hs.all fun x => wiB x 0 (dep ls)) = true) : numI ls hs = 0 := by unfold numI; rw [if_neg h, if_pos h2]
theorem nb_of {ls : List (List Int)} {hs : List Int} (h : ¬ numI ls hs ≠ 0) : NB ls hs := by
  have h0 := Decidable.of_not_not h
  by_cases h1 : validI ls ≠ 0
  · rw [num_bad h1] at h0; exact absurd h0 h1
  · by_cases h2 : hs.length = ls.length ∧ (hs.all fun x => wiB x 0 (dep ls)) = true
    · refine ⟨vb_of h1, h2.1, fun k => ?_⟩
      by_cases hk : k < hs.length
      · have := List.all_eq_true.1 h2.2 (hs.getD k 0) (by simp [List.getD, hk])
        exact of_decide_eq_true this
      · have e : hs.getD k 0 = 0 := by simp [List.getD, hk]
        rw [e]; omega
    · rw [num_1 h1 h2] at h0; cases h0
theorem hol_bad {ls : List (List Int)} {hs : List Int} (h : numI ls hs ≠ 0) : holI ls hs = numI ls hs := if_pos h
theorem hol_6 {ls : List (List Int)} {hs : List Int} (h : ¬ numI ls hs ≠ 0) (h2 : rightB hs = false) : holI ls hs = 6 := by unfold holI; rw [if_neg h, if_neg (by rw [h2]; decide)]
theorem hol_0 {ls : List (List Int)} {hs : List Int} (h : ¬ numI ls hs ≠ 0) (h2 : rightB hs = true) : holI ls hs = 0 := by unfold holI; rw [if_neg h, if_pos h2]
theorem hol_nb {ls : List (List Int)} {hs : List Int} (h : ¬ holI ls hs ≠ 0) : NB ls hs ∧ rightB hs = true := by
  have h0 := Decidable.of_not_not h
  by_cases h1 : numI ls hs ≠ 0
  · rw [hol_bad h1] at h0; exact absurd h0 h1
  · refine ⟨nb_of h1, ?_⟩
    cases h2 : rightB hs with
    | true => rfl
    | false => rw [hol_6 h1 h2] at h0; cases h0
theorem right_no {hs : List Int} {k : Nat} (hk : k + 1 < hs.length) (h : stepB hs k = false) : rightB hs = false := by
  rw [Bool.eq_false_iff]
  intro h1
  have := List.all_eq_true.1 h1 k (List.mem_range.2 (by omega))
  rw [this] at h; cases h
theorem right_yes {hs : List Int} (h : ∀ k, k + 1 < hs.length → stepB hs k = true) : rightB hs = true :=
  List.all_eq_true.2 fun k hk => h k (by have := List.mem_range.1 hk; omega)
theorem sum_bd {ls : List (List Int)} (hv : VB ls) (k : Nat) : ∀ n : Nat, -50 * (n : Int) ≤ sumN (ls.getD k []) n ∧ sumN (ls.getD k []) n ≤ 50 * (n : Int)
  | 0 => by simp [sumN]
  | n + 1 => by
    have h1 := sum_bd hv k n
    have h2 := hv.w k n
    have e : sumN (ls.getD k []) (n + 1) = sumN (ls.getD k []) n + (ls.getD k []).getD n 0 := rfl
    rw [e]
    omega
theorem wor_bd {ls : List (List Int)} {hs : List Int} (hb : NB ls hs) : ∀ k : Nat, -200 * (k : Int) ≤ worK ls hs k ∧ worK ls hs k ≤ 200 * (k : Int)
  | 0 => by simp [worK]
  | k + 1 => by
    have h1 := wor_bd hb k
    have h2 := sum_bd hb.vb k (hs.getD k 0).toNat
    have h3 := hb.at_ k
    have h4 := hb.vb.d
    have e : worK ls hs (k + 1) = worK ls hs k + sumN (ls.getD k []) (hs.getD k 0).toNat := rfl
    rw [e]
    omega
set_option maxHeartbeats 1000000 in
theorem vnum_ok (w0 : World) (p : Option Addr) (cap : Nat) (ls : List (List Int)) (hr : LsAt w0 p ls) (pl : Option Addr) (cl : Nat) (xs : List Int) (hx : IntsAt w0 pl xs) :
    Calls Tryz.prog 92 #[bv p ls.length cap, .slice pl xs.length cl] w0 (Post (X := Unit) (fun _ => .int .i64 (numI ls xs)) (fun _ => True) (fun _ => []) w0) := by
  refine calls Tryz.func92 rfl (n := 24) rfl (by simp) ?_
  refine zr (TL.box rfl rfl dc (fun b0 hb0 => ?_))
  refine za rfl (zn (TC.seq (zr (zq (PV.loadBox rfl Tb.agg_24 m9z rfl) rfl ?_))))
  refine TL.call rfl Tb.gofn_96 (fun a w hs => validate_ok w _ _ _ (hr.new hs.new)) rfl dc (fun _ _ => ?_)
  refine za rfl (zk (zm rfl (zq (PV.neq rfl rfl) rfl (zn (TC.cd rfl (fun hbad => ?_) (fun hbad => ?_))))))
  refine zr (zm rfl (za rfl (zt (TQ.thenR (TQ.retE1 rfl rfl ?_)))))
  exact ⟨(), by rw [num_bad hbad], trivial, nils⟩
  refine TC.skip (TQ.thenC (TC.seq (TC.seq ?_)))
  have hv := vb_of hbad
  have hn := hv.n
  refine TC.region (zm rfl (zq (PV.len rfl Tb.sl_25) rfl (zq (PV.fieldAddr rfl Tb.fo_24_0) rfl (zq (PV.load rfl Tb.one_22 m9z rfl) rfl ?_))))
  refine zq (PV.len rfl Tb.sl_22) rfl (zq (PV.neq rfl rfl) rfl (zm rfl (TL.sp 17 rfl (fun a1 => ?_) (fun a1 => ?_))))
  refine zx rfl (zx rfl (zx rfl (zx rfl (zx rfl (zq (PV.pickT rfl rfl) rfl (zn (TC.condT rfl (zr (za rfl (zt (TQ.thenR (TQ.retE1 rfl rfl ?_))))))))))))
  exact ⟨(), by rw [num_1 hbad (fun h => by omega)], trivial, nils⟩
  refine zm rfl (zq (PV.loadBox rfl Tb.agg_24 m9z rfl) rfl ?_)
  refine TL.call rfl Tb.gofn_132 (fun a w hs => depth_ok w _ _ _ (hr.new hs.new) om) rfl dc (fun _ _ => ?_)
  refine TL.call rfl Tb.gofn_131 (fun a w hs => areWithin_ok w _ _ _ (hx.new hs.new) om _ _) rfl dc (fun _ _ => ?_)
  refine zq ((by first | exact PV.notD rfl | exact PV.not rfl)) rfl ?_
  refine zq (PV.pickF rfl rfl) rfl (zn (TC.cd rfl (fun a2 => ?_) (fun a2 => ?_)))
  refine zr (za rfl (zt (TQ.thenR (TQ.retE1 rfl rfl ?_))))
  exact ⟨(), by rw [num_1 hbad (fun h => by simp_all)], trivial, nils⟩
  refine TC.skip (TQ.thenC (zr (za rfl (zt (TQ.retE1 rfl rfl ?_)))))
  exact ⟨(), by rw [num_0 hbad ⟨by omega, by simpa using a2⟩], trivial, nils⟩
set_option maxHeartbeats 1000000 in
theorem checkHollow_ok (w0 : World) (p : Option Addr) (cap : Nat) (ls : List (List Int)) (hr : LsAt w0 p ls) (pl : Option Addr) (cl : Nat) (xs : List Int) (hx : IntsAt w0 pl xs) :
    Calls Tryz.prog 55 #[bv p ls.length cap, .slice pl xs.length cl] w0 (Post (X := Unit) (fun _ => .int .i64 (holI ls xs)) (fun _ => True) (fun _ => []) w0) := by
  refine calls Tryz.func55 rfl (n := 32) rfl (by simp) ?_
  refine zr (TL.box rfl rfl dc (fun b0 hb0 => ?_))
  refine za rfl (zn (TC.seq (zr (zq (PV.loadBox rfl Tb.agg_24 m9z rfl) rfl ?_))))
  refine zm rfl (TL.call rfl Tb.gofn_92 (fun a w hs => vnum_ok w _ _ _ (hr.new hs.new) _ _ _ (hx.new hs.new)) rfl dc (fun _ _ => ?_))
  refine za rfl (zk (zm rfl (zq (PV.neq rfl rfl) rfl (zn (TC.cd rfl (fun hbad => ?_) (fun hbad => ?_))))))
  refine zr (zm rfl (za rfl (zt (TQ.thenR (TQ.retE1 rfl rfl ?_)))))
  exact ⟨(), by rw [hol_bad hbad], trivial, nils⟩
  refine TC.skip (TQ.thenC (TC.seq (TC.seq ?_)))
  have hb := nb_of hbad
  have hn := hb.vb.n
  have hd := hb.vb.d
  have hl9 := hb.len
  refine TC.region (zm rfl (zq (PV.len rfl Tb.sl_25) rfl (zq (PV.sub rfl rfl om) rfl (zm rfl (zn (TC.block (TC.loopG [1, 15] (X := Nat) (fun k => k + 1 ≤ xs.length ∧ ∀ j, j < k → stepB xs j = true) (fun k => [(16, .int .i64 k)]) (fun k => xs.length - k) 0 ⟨by omega, fun j hj => absurd hj (Nat.not_lt_zero _)⟩ l9z ?_)))))))
  intro k hk
  refine zr (zq (PV.lss rfl rfl) rfl (zn (TC.seq (TC.cd rfl (fun hlt => ?_) (fun hlt => ?_)))))
  refine TC.skip (TQ.thenC (TC.seq (TC.block (zr (zm rfl (za rfl (zn (TC.seq ?_))))))))
  obtain ⟨q, hqp, hq⟩ := hx k (by omega)
  obtain ⟨q2, hq2p, hq2⟩ := hx (k + 1) (by omega)
  have b1 := hb.at_ k
  have b2 := hb.at_ (k + 1)
  refine TC.any Tb.mixed rfl rfl ?_
  refine TA.op (OpOK.pure (PV.move rfl) rfl dc) dc ?_
  refine TA.op (OpOK.pure (PV.move rfl) rfl dc) dc ?_
  refine TA.op (OpOK.pure (PV.add rfl rfl om) rfl dc) dc ?_
  refine TA.op (OpOK.pure (PV.indexA (j := k + 1) rfl hq2p rfl Tb.elm_25 om om) rfl dc) dc ?_
  refine TA.op (OpOK.pure (PV.loadOld rfl Tb.one_3 hq2) rfl dc) dc ?_
  refine TA.op (OpOK.pure (PV.move rfl) rfl dc) dc ?_
  refine TA.op (OpOK.pure (PV.move rfl) rfl dc) dc ?_
  refine TA.op (OpOK.pure (PV.indexA (j := k) rfl hqp rfl Tb.elm_25 rfl om) rfl dc) dc ?_
  refine TA.op (OpOK.pure (PV.loadOld rfl Tb.one_3 hq) rfl dc) dc ?_
  refine TA.op (OpOK.pure (PV.sub rfl rfl om) rfl dc) dc ?_
  refine TA.op (OpOK.call rfl Tb.gofn_93 (fun a w hs => isWithin_ok w _ _ _) rfl dc) dc ?_
  refine TA.op (OpOK.pure ((by first | exact PV.notD rfl | exact PV.not rfl)) rfl (by decide)) (by decide) ?_
  show TQ _ _ _ _ _
  refine TQ.thenC (TC.cd rfl (fun hno => ?_) (fun hno => ?_))
  refine zr (za rfl (zt (TQ.blkR (TQ.thenR (TQ.thenR (TQ.blkR (TQ.thenR (TQ.retE1 rfl rfl ?_))))))))
  exact ⟨(), by rw [hol_6 hbad (right_no (k := k) (by omega) (by unfold stepB wiB; exact decide_eq_false (by omega)))], trivial, nils⟩
  refine TC.skip (TQ.blkN (TQ.thenC (TC.region (zq (PV.add rfl rfl om) rfl (zm rfl (TL.nil (TQ.thenN (TQ.backK (k + 1) l9z l9z s9z ⟨by omega, fun j hj => if e : j < k then hk.2 j e else (show k = j by omega) ▸ (by unfold stepB wiB; exact decide_eq_true om)⟩ om))))))))
  refine TC.exit (TQ.thenE (TQ.thenE (TQ.blkS (TQ.thenC (zr (za rfl (zt (TQ.retE1 rfl rfl ?_))))))))
  exact ⟨(), by rw [hol_0 hbad (right_yes (fun j hj => hk.2 j (by omega)))], trivial, nils⟩
end Go.Proofs.YtbnjmkidbfmomaaGreatDoor.C
namespace Go.Proofs.YtbnjmkidbfmomaaGreatDoor.C
open Go.Sx Go.RowKit
theorem cutA_0 (p : Option Addr) (cap s : Nat) : cutA p cap 0 s = p := by
  unfold cutA
  split
  · rfl
  · cases p with
    | none => rfl
    | some q => simp [Addr.add]
def CapsAt (w : World) (p : Option Addr) (ls : List (List Int)) : Prop := ∀ j, j < ls.length → ∀ q pj cj (l : Nat), p = some q → w.cell? (q.add (j * 1)) = some (.slice pj l cj) → l ≤ cj
set_option maxHeartbeats 1000000 in
theorem Worth_ok (w0 : World) (p : Option Addr) (cap : Nat) (ls : List (List Int)) (hr : LsAt w0 p ls) (pl : Option Addr) (cl : Nat) (xs : List Int) (hx : IntsAt w0 pl xs) (hcap : CapsAt w0 p ls) :
    Calls Tryz.prog 77 #[bv p ls.length cap, .slice pl xs.length cl] w0 (Post (X := Unit) (fun _ => .tuple #[.int .i64 (if holI ls xs = 0 then worH ls xs else 0), .int .i64 (holI ls xs)]) (fun _ => True) (fun _ => []) w0) := by
  refine calls Tryz.func77 rfl (n := 43) rfl (by simp) ?_
  refine zr (TL.box rfl rfl dc (fun b0 hb0 => ?_))
  refine za rfl (za rfl (zn (TC.seq (zr (zq (PV.loadBox rfl Tb.agg_24 m9z rfl) rfl ?_)))))
  refine zm rfl (TL.call rfl Tb.gofn_55 (fun a w hs => checkHollow_ok w _ _ _ (hr.new hs.new) _ _ _ (hx.new hs.new)) rfl dc (fun _ _ => ?_))
  refine za rfl (zk (zm rfl (zq (PV.neq rfl rfl) rfl (zn (TC.cd rfl (fun hbad => ?_) (fun hbad => ?_))))))
  refine zr (zm rfl (za rfl (za rfl (zt (TQ.thenR (TQ.retE2 rfl rfl rfl ?_))))))
  exact ⟨(), by rw [if_neg hbad], trivial, nils⟩
  refine TC.skip (TQ.thenC (TC.seq ?_))
  have hb := (hol_nb hbad).1
  have hn := hb.vb.n
  have hd := hb.vb.d
  have hl9 := hb.len
  refine TC.region (za rfl (zn (TC.seq (zr (zm rfl (zq (PV.len rfl Tb.sl_25) rfl (zm rfl (zn (TC.block (TC.lit [(2, _), (4, _), (5, _), (7, _), (18, _), (19, _), (20, _)] l9z ?_))))))))))
  refine TC.loopG [2, 4, 5, 18, 19] (X := Nat × Unit) (fun k => k.1 ≤ xs.length) (fun k => [(20, .int .i64 k.1), (7, .int .i64 (worK ls xs k.1))]) (fun k => xs.length - k.1) (0, ()) (Nat.zero_le _) l9z ?_
  intro k hk
  refine TC.lit [(2, _), (4, _), (5, _), (7, _), (18, _), (19, _), (20, _)] l9z ?_
  refine zr (zq (PV.lss rfl rfl) rfl (zn (TC.seq (TC.cd rfl (fun hlt => ?_) (fun hlt => ?_)))))
  refine TC.skip (TQ.thenC (TC.seq (TC.block (TC.seq ?_))))
  obtain ⟨q2, hq2p, hq2⟩ := hx k.1 (by omega)
  refine TC.region (zm rfl (zq (PV.indexA rfl hq2p rfl Tb.elm_25 rfl om) rfl (zq (PV.loadOld rfl Tb.one_3 hq2) rfl (za rfl (za rfl (zn (TC.seq ?_)))))))
  obtain ⟨q, hqp, pj, cj, hq, hi⟩ := hr k.1 (by omega)
  have c1 := hb.vb.c k.1 (by omega)
  have a1 := hb.at_ k.1
  have hcj := hcap k.1 (by omega) _ _ _ _ hqp hq
  refine TC.region (zq (PV.fieldAddr rfl Tb.fo_24_0) rfl (zq (PV.load rfl Tb.one_22 m9z rfl) rfl ?_))
  refine zm rfl (zq (PV.indexA rfl hqp rfl Tb.elm_22 rfl om) rfl (zq (PV.loadOld rfl Tb.one_25 hq) rfl (zm rfl (zq (PV.sliceH (h := (xs.getD k.1 0).toNat) rfl rfl Tb.elm_25 om om) rfl (zq (PV.len rfl Tb.sl_25) rfl (zm rfl (zn (TC.block (TC.lit [(2, _), (4, _), (5, _), (7, _), (18, _), (19, _), (20, _), (31, _), (32, _), (33, _)] l9z ?_)))))))))
  refine TC.loopG [2, 4, 5, 18, 19, 20, 31, 32] (X := Nat × Unit) (fun u => (u.1 : Int) ≤ xs.getD k.1 0) (fun u => [(33, .int .i64 u.1), (7, .int .i64 (worK ls xs k.1 + sumN (ls.getD k.1 []) u.1))]) (fun u => (xs.getD k.1 0).toNat - u.1) (0, ()) (by have := hb.at_ k.1; simp only; omega) (by refine And.intro rfl (And.intro ?_ True.intro); show some _ = some _; congr 2; show _ = _ + 0; rw [Int.add_zero]) ?_
  intro u hu
  refine TC.lit [(2, _), (4, _), (5, _), (7, _), (18, _), (19, _), (20, _), (31, _), (32, _), (33, _)] l9z ?_
  refine zr (zq (PV.lss rfl rfl) rfl (zn (TC.seq (TC.cd rfl (fun hlt2 => ?_) (fun hlt2 => ?_)))))
  refine TC.skip (TQ.thenC (TC.seq (TC.block (TC.seq ?_))))
  obtain ⟨q3, hq3p, hq3⟩ := hi u.1 (by omega)
  have b1 := wor_bd hb k.1
  have b2 := sum_bd hb.vb k.1 u.1
  have b3 := hb.vb.w k.1 u.1
  refine TC.region (zq (PV.indexA (j := u.1) rfl ((cutA_0 _ _ _).trans hq3p) rfl Tb.elm_25 rfl om) rfl ?_)
  refine zq (PV.loadOld rfl Tb.one_3 hq3) rfl (za rfl (zn (TC.region (zm rfl (zm rfl (zq (PV.add rfl rfl om) rfl (za rfl (TL.nil (TQ.blkN (TQ.thenC (TC.region (zq (PV.add rfl rfl om) rfl (zm rfl (TL.nil (TQ.thenN (TQ.backK (u.1 + 1, ()) (by refine And.intro rfl (And.intro ?_ True.intro); show some _ = some _; congr 2; exact Int.add_assoc _ _ _) l9z s9z (by simp only; omega) (by simp only; omega)))))))))))))))))
  refine TC.exit (TQ.thenE (TQ.thenE (TQ.blkS (TQ.blkN (TQ.thenC ?_)))))
  have a1 := hb.at_ k.1
  have e8 : worK ls xs (k.1 + 1) = worK ls xs k.1 + sumN (ls.getD k.1 []) u.1 := by show _ + sumN _ (xs.getD k.1 0).toNat = _; rw [show (xs.getD k.1 0).toNat = u.1 by omega]
  refine TC.region (zq (PV.add rfl rfl om) rfl (zm rfl (TL.nil (TQ.thenN (TQ.backK (k.1 + 1, ()) (by rw [← e8]; refine And.intro rfl (And.intro rfl True.intro)) l9z s9z (by simp only; omega) (by simp only; omega))))))
  refine TC.exit (TQ.thenE (TQ.thenE (TQ.blkS (TQ.thenC (zr (zm rfl (za rfl (za rfl (zt (TQ.retE2 rfl rfl rfl ?_))))))))))
  have e9 : k.1 = xs.length := by omega
  exact ⟨(), by rw [if_pos (Decidable.of_not_not hbad), Decidable.of_not_not hbad]; unfold worH; rw [e9], trivial, nils⟩
end Go.Proofs.YtbnjmkidbfmomaaGreatDoor.C
