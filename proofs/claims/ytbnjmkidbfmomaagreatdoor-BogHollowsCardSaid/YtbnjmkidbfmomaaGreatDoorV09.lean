/- Ca Cb Cq -/
import Derived.Test.YtbnjmkidbfmomaaGreatDoorV06
import Derived.Test.YtbnjmkidbfmomaaGreatDoorV07
set_option linter.unusedVariables false
set_option linter.unusedSimpArgs false
set_option maxRecDepth 100000
namespace Go.Proofs.YtbnjmkidbfmomaaGreatDoor.C
open Go.Sx Go.RowKit
abbrev bv (p : Option Addr) (len cap : Nat) : Value := .agg #[.slice p len cap]
def wiB (a lo hi : Int) : Bool := decide (lo ≤ a ∧ a ≤ hi)
def dep (ls : List (List Int)) : Nat := (ls.getD 0 []).length
def colB (ls : List (List Int)) (c : List Int) : Bool := decide (c.length = dep ls) && c.all fun x => wiB x (-50) 50
def validI (ls : List (List Int)) : Int := if ls.length < 1 ∨ 6 < ls.length then 1 else if dep ls < 1 ∨ 4 < dep ls then 1 else if ls.all (colB ls) = true then 0 else 1
theorem valid_1 {ls : List (List Int)} (h : ls.length < 1 ∨ 6 < ls.length) : validI ls = 1 := if_pos h
theorem valid_2 {ls : List (List Int)} (h2 : dep ls < 1 ∨ 4 < dep ls) : validI ls = 1 := by
  unfold validI
  by_cases h1 : ls.length < 1 ∨ 6 < ls.length
  · rw [if_pos h1]
  · rw [if_neg h1, if_pos h2]
theorem all_no {α : Type} [Inhabited α] {l : List α} {f : α → Bool} {k : Nat} {d : α} (hk : k < l.length) (h : f (l.getD k d) = false) : l.all f = false := by
  rw [Bool.eq_false_iff]
  intro h1
  have := List.all_eq_true.1 h1 (l.getD k d) (by simp [List.getD, hk])
  rw [this] at h
  cases h
theorem all_yes {α : Type} {l : List α} {f : α → Bool} {d : α} (h : ∀ k, k < l.length → f (l.getD k d) = true) : l.all f = true := by
  refine List.all_eq_true.2 fun x hx => ?_
  obtain ⟨j, hj, rfl⟩ := List.getElem_of_mem hx
  have := h j hj
  simpa [List.getD, hj] using this
theorem valid_3 {ls : List (List Int)} {k : Nat} (hk : k < ls.length) (h : colB ls (ls.getD k []) = false) : validI ls = 1 := by
  unfold validI
  rw [if_neg (c := ls.all (colB ls) = true) (by rw [all_no hk h]; decide)]
  split
  · rfl
  · split <;> rfl
theorem valid_0 {ls : List (List Int)} (h1 : ¬ (ls.length < 1 ∨ 6 < ls.length)) (h2 : ¬ (dep ls < 1 ∨ 4 < dep ls)) (h3 : ∀ k, k < ls.length → colB ls (ls.getD k []) = true) : validI ls = 0 := by
  unfold validI
  rw [if_neg h1, if_neg h2, if_pos (all_yes h3)]
structure VB (ls : List (List Int)) : Prop where
  n : 1 ≤ ls.length ∧ ls.length ≤ 6
  d : 1 ≤ dep ls ∧ dep ls ≤ 4
  c : ∀ k, k < ls.length → (ls.getD k []).length = dep ls
  w : ∀ k j, -50 ≤ (ls.getD k []).getD j 0 ∧ (ls.getD k []).getD j 0 ≤ 50
theorem vb_of {ls : List (List Int)} (h : ¬ validI ls ≠ 0) : VB ls := by
  have h0 := Decidable.of_not_not h
  unfold validI at h0
  by_cases h1 : ls.length < 1 ∨ 6 < ls.length
  · rw [if_pos h1] at h0; cases h0
  · rw [if_neg h1] at h0
    by_cases h2 : dep ls < 1 ∨ 4 < dep ls
    · rw [if_pos h2] at h0; cases h0
    · rw [if_neg h2] at h0
      by_cases h3 : ls.all (colB ls) = true
      · have hc : ∀ k, k < ls.length → colB ls (ls.getD k []) = true := fun k hk => List.all_eq_true.1 h3 _ (by simp [List.getD, hk])
        refine ⟨by omega, by omega, fun k hk => ?_, fun k j => ?_⟩
        · have := hc k hk
          unfold colB at this
          simp only [Bool.and_eq_true, decide_eq_true_eq] at this
          exact this.1
        · by_cases hk : k < ls.length
          · have := hc k hk
            unfold colB at this
            simp only [Bool.and_eq_true, decide_eq_true_eq] at this
            by_cases hj : j < (ls.getD k []).length
            · have h5 := List.all_eq_true.1 this.2 ((ls.getD k []).getD j 0) (by
                have e : (ls.getD k []).getD j 0 = (ls.getD k [])[j] := by simp only [List.getD_eq_getElem?_getD]; rw [List.getElem?_eq_getElem (by simpa using hj)]; rfl
                rw [e]; exact List.getElem_mem _)
              exact of_decide_eq_true h5
            · have e : (ls.getD k []).getD j 0 = 0 := by rw [List.getD_eq_getElem?_getD (l := ls.getD k []), List.getElem?_eq_none (by omega)]; rfl
              rw [e]; omega
          · have e : ls.getD k [] = [] := by simp [List.getD, hk]
            rw [e]
            simp
      · rw [if_neg h3] at h0; cases h0
theorem col_no {ls : List (List Int)} {k j : Nat} (hj : j < (ls.getD k []).length) (h : wiB ((ls.getD k []).getD j 0) (-50) 50 = false) : colB ls (ls.getD k []) = false := by
  unfold colB
  rw [all_no (f := fun x => wiB x (-50) 50) hj h, Bool.and_false]
theorem col_len {ls : List (List Int)} {k : Nat} (h : ¬ (ls.getD k []).length = dep ls) : colB ls (ls.getD k []) = false := by
  unfold colB
  rw [decide_eq_false h, Bool.false_and]
theorem isWithin_ok (w0 : World) (a lo hi : Int) :
    Calls Tryz.prog 93 #[.int .i64 a, .int .i64 lo, .int .i64 hi] w0 (Post (X := Unit) (fun _ => .bool (wiB a lo hi)) (fun _ => True) (fun _ => []) w0) := by
  refine calls Tryz.func93 rfl (n := 15) rfl (by simp) ?_
  refine zr (za rfl (zk (zm rfl (zm rfl (zq (PV.geq rfl rfl) rfl (zm rfl (TL.sp 10 rfl (fun e1 => ?_) (fun e1 => ?_))))))))
  refine zm rfl (zm rfl (zq (PV.leq rfl rfl) rfl (zq (PV.pickT rfl rfl) rfl (za rfl (zt (TQ.retE1 rfl rfl ?_))))))
  exact ⟨(), by unfold wiB; congr 1; rw [decide_eq_decide]; simp_all, trivial, nils⟩
  refine zx rfl (zx rfl (zx rfl (zq (PV.pickF rfl rfl) rfl (za rfl (zt (TQ.retE1 rfl rfl ?_))))))
  exact ⟨(), by unfold wiB; rw [decide_eq_false (by omega)], trivial, nils⟩
theorem areWithin_ok (w0 : World) (pl : Option Addr) (cl : Nat) (xs : List Int) (hx : IntsAt w0 pl xs) (hl : xs.length ≤ 1000000) (lo hi : Int) :
    Calls Tryz.prog 131 #[.slice pl xs.length cl, .int .i64 lo, .int .i64 hi] w0 (Post (X := Unit) (fun _ => .bool (xs.all fun x => wiB x lo hi)) (fun _ => True) (fun _ => []) w0) := by
  refine calls Tryz.func131 rfl (n := 21) rfl (by simp) ?_
  refine zr (za rfl (zn (TC.seq (zr (zm rfl (zq (PV.len rfl Tb.sl_25) rfl (zm rfl (zn (TC.block (TC.loopG [1, 2, 9, 10] (X := Nat) (fun k => k ≤ xs.length ∧ ∀ j, j < k → wiB (xs.getD j 0) lo hi = true) (fun k => [(11, .int .i64 k)]) (fun k => xs.length - k) 0 ⟨Nat.zero_le _, fun j hj => absurd hj (Nat.not_lt_zero _)⟩ l9z ?_))))))))))
  intro k hk
  refine zr (zq (PV.lss rfl rfl) rfl (zn (TC.seq (TC.cd rfl (fun hlt => ?_) (fun hlt => ?_)))))
  refine TC.skip (TQ.thenC (TC.seq (TC.block (TC.seq ?_))))
  obtain ⟨q, hqp, hq⟩ := hx k (by omega)
  refine TC.region (zq (PV.indexA rfl hqp rfl Tb.elm_25 rfl om) rfl (zq (PV.loadOld rfl Tb.one_3 hq) rfl (za rfl (zk (zm rfl (zm rfl (zm rfl (TL.call rfl Tb.gofn_93 (fun a w hs => isWithin_ok w _ _ _) rfl dc (fun _ _ => ?_)))))))))
  refine zq ((by first | exact PV.notD rfl | exact PV.not rfl)) rfl ?_
  refine zn (TC.cd rfl (fun hno => ?_) (fun hno => ?_))
  refine zr (za rfl (zt (TQ.blkR (TQ.thenR (TQ.thenR (TQ.blkR (TQ.thenR (TQ.retE1 rfl rfl ?_))))))))
  exact ⟨(), by rw [all_no (k := k) (d := 0) (by omega) (by unfold wiB; exact decide_eq_false (by omega))], trivial, nils⟩
  refine TC.skip (TQ.blkN (TQ.thenC (TC.region (zq (PV.add rfl rfl om) rfl (zm rfl (TL.nil (TQ.thenN (TQ.backK (k + 1) l9z l9z s9z ⟨by omega, fun j hj => if e : j < k then hk.2 j e else (show k = j by omega) ▸ (by unfold wiB; exact decide_eq_true om)⟩ om))))))))
  refine TC.exit (TQ.thenE (TQ.thenE (TQ.blkS (TQ.thenC (zr (za rfl (zt (TQ.retE1 rfl rfl ?_))))))))
  exact ⟨(), by rw [all_yes (d := 0) (fun j hj => hk.2 j (by omega))], trivial, nils⟩
theorem depth_ok (w0 : World) (p : Option Addr) (cap : Nat) (ls : List (List Int)) (hr : LsAt w0 p ls) (hl : 0 < ls.length) :
    Calls Tryz.prog 132 #[bv p ls.length cap] w0 (Post (X := Unit) (fun _ => .int .i64 (dep ls)) (fun _ => True) (fun _ => []) w0) := by
  refine calls Tryz.func132 rfl (n := 8) rfl (by simp) ?_
  refine zr (TL.box rfl rfl dc (fun b0 hb0 => ?_))
  refine za rfl (zn (TC.seq ?_))
  obtain ⟨q0, hq0p, p0, c0, hq0, hi0⟩ := hr 0 (by omega)
  refine TC.region (zq (PV.fieldAddr rfl Tb.fo_24_0) rfl (zq (PV.load rfl Tb.one_22 m9z rfl) rfl ?_))
  refine zq (PV.indexA rfl hq0p rfl Tb.elm_22 rfl om) rfl (zq (PV.loadOld rfl Tb.one_25 hq0) rfl (zq (PV.len rfl Tb.sl_25) rfl (za rfl (zt (TQ.retE1 rfl rfl ?_)))))
  exact ⟨(), rfl, trivial, nils⟩
theorem rdepth_ok (w0 : World) (p : Option Addr) (cap : Nat) (ls : List (List Int)) (hr : LsAt w0 p ls) (hl : 0 < ls.length) :
    Calls Tryz.prog 169 #[bv p ls.length cap] w0 (Post (X := Unit) (fun _ => .int .i64 (dep ls)) (fun _ => True) (fun _ => []) w0) := by
  refine calls Tryz.func169 rfl (n := 8) rfl (by simp) ?_
  refine zr (TL.box rfl rfl dc (fun b0 hb0 => ?_))
  refine za rfl (zn (TC.seq ?_))
  obtain ⟨q0, hq0p, p0, c0, hq0, hi0⟩ := hr 0 (by omega)
  refine TC.region (zq (PV.fieldAddr rfl Tb.fo_24_0) rfl (zq (PV.load rfl Tb.one_22 m9z rfl) rfl ?_))
  refine zq (PV.indexA rfl hq0p rfl Tb.elm_22 rfl om) rfl (zq (PV.loadOld rfl Tb.one_25 hq0) rfl (zq (PV.len rfl Tb.sl_25) rfl (za rfl (zt (TQ.retE1 rfl rfl ?_)))))
  exact ⟨(), rfl, trivial, nils⟩
set_option maxHeartbeats 1000000 in
theorem validate_ok (w0 : World) (p : Option Addr) (cap : Nat) (ls : List (List Int)) (hr : LsAt w0 p ls) :
    Calls Tryz.prog 96 #[bv p ls.length cap] w0 (Post (X := Unit) (fun _ => .int .i64 (validI ls)) (fun _ => True) (fun _ => []) w0) := by
  refine calls Tryz.func96 rfl (n := 41) rfl (by simp) ?_
  refine zr (TL.box rfl rfl dc (fun b0 hb0 => ?_))
  refine za rfl (zn (TC.seq (zr (zq (PV.fieldAddr rfl Tb.fo_24_0) rfl (zq (PV.load rfl Tb.one_22 m9z rfl) rfl ?_)))))
  refine zq (PV.len rfl Tb.sl_22) rfl (zq (PV.lss rfl rfl) rfl (zm rfl (TL.sp 9 rfl (fun a1 => ?_) (fun a1 => ?_))))
  refine zx rfl (zx rfl (zx rfl (zx rfl (zq (PV.pickT rfl rfl) rfl (zn (TC.condT rfl (zr (za rfl (zt (TQ.thenR (TQ.retE1 rfl rfl ?_)))))))))))
  exact ⟨(), by rw [valid_1 (by omega)], trivial, nils⟩
  refine zq (PV.fieldAddr rfl Tb.fo_24_0) rfl (zq (PV.load rfl Tb.one_22 m9z rfl) rfl ?_)
  refine zq (PV.len rfl Tb.sl_22) rfl (zq (PV.gtr rfl rfl) rfl (zq (PV.pickF rfl rfl) rfl (zn (TC.cd rfl (fun a2 => ?_) (fun a2 => ?_)))))
  refine zr (za rfl (zt (TQ.thenR (TQ.retE1 rfl rfl ?_))))
  exact ⟨(), by rw [valid_1 (by omega)], trivial, nils⟩
  refine TC.skip (TQ.thenC (TC.seq (zr (zq (PV.loadBox rfl Tb.agg_24 m9z rfl) rfl ?_))))
  refine TL.call rfl Tb.gofn_132 (fun a w hs => depth_ok w _ _ _ (hr.new hs.new) om) rfl dc (fun _ _ => ?_)
  refine zq (PV.lss rfl rfl) rfl (zm rfl (TL.sp 18 rfl (fun b1 => ?_) (fun b1 => ?_)))
  refine zx rfl (zx rfl (zx rfl (zq (PV.pickT rfl rfl) rfl (zn (TC.condT rfl (zr (za rfl (zt (TQ.thenR (TQ.retE1 rfl rfl ?_))))))))))
  exact ⟨(), by rw [valid_2 (by omega)], trivial, nils⟩
  refine zq (PV.loadBox rfl Tb.agg_24 m9z rfl) rfl ?_
  refine TL.call rfl Tb.gofn_132 (fun a w hs => depth_ok w _ _ _ (hr.new hs.new) om) rfl dc (fun _ _ => ?_)
  refine zq (PV.gtr rfl rfl) rfl (zq (PV.pickF rfl rfl) rfl (zn (TC.cd rfl (fun b2 => ?_) (fun b2 => ?_))))
  refine zr (za rfl (zt (TQ.thenR (TQ.retE1 rfl rfl ?_))))
  exact ⟨(), by rw [valid_2 (by omega)], trivial, nils⟩
  refine TC.skip (TQ.thenC (TC.seq (zr (zq (PV.fieldAddr rfl Tb.fo_24_0) rfl (zq (PV.load rfl Tb.one_22 m9z rfl) rfl ?_)))))
  refine zq (PV.len rfl Tb.sl_22) rfl (zm rfl (zn (TC.block (TC.loopG [1, 24, 25] (X := Nat) (fun k => k ≤ ls.length ∧ ∀ j, j < k → colB ls (ls.getD j []) = true) (fun k => [(26, .int .i64 k)]) (fun k => ls.length - k) 0 ⟨Nat.zero_le _, fun j hj => absurd hj (Nat.not_lt_zero _)⟩ l9z ?_))))
  intro k hk
  refine zr (zq (PV.lss rfl rfl) rfl (zn (TC.seq (TC.cd rfl (fun hlt => ?_) (fun hlt => ?_)))))
  refine TC.skip (TQ.thenC (TC.seq (TC.block (TC.seq ?_))))
  obtain ⟨q, hqp, pj, cj, hq, hi⟩ := hr k (by omega)
  refine TC.region (zq (PV.indexA rfl hqp rfl Tb.elm_22 rfl om) rfl (zq (PV.loadOld rfl Tb.one_25 hq) rfl (za rfl (zk (zm rfl (zq (PV.len rfl Tb.sl_25) rfl (zq (PV.loadBox rfl Tb.agg_24 m9z rfl) rfl ?_)))))))
  refine TL.call rfl Tb.gofn_132 (fun a w hs => depth_ok w _ _ _ (hr.new hs.new) om) rfl dc (fun _ _ => ?_)
  refine zq (PV.neq rfl rfl) rfl (zm rfl (TL.sp 35 rfl (fun c1 => ?_) (fun c1 => ?_)))
  refine zx rfl (zx rfl (zx rfl (zq (PV.pickT rfl rfl) rfl (zn (TC.condT rfl (zr (za rfl (zt (TQ.blkR (TQ.thenR (TQ.thenR (TQ.blkR (TQ.thenR (TQ.retE1 rfl rfl ?_))))))))))))))
  exact ⟨(), by rw [valid_3 (k := k) (by omega) (col_len (by omega))], trivial, nils⟩
  refine zm rfl (TL.call rfl Tb.gofn_131 (fun a w hs => areWithin_ok w _ _ _ (hi.new hs.new) om _ _) rfl dc (fun _ _ => ?_))
  refine zq ((by first | exact PV.notD rfl | exact PV.not rfl)) rfl ?_
  refine zq (PV.pickF rfl rfl) rfl (zn (TC.cd rfl (fun c2 => ?_) (fun c2 => ?_)))
  refine zr (za rfl (zt (TQ.blkR (TQ.thenR (TQ.thenR (TQ.blkR (TQ.thenR (TQ.retE1 rfl rfl ?_))))))))
  exact ⟨(), by rw [valid_3 (k := k) (by omega) (by unfold colB; rw [show ((ls.getD k []).all fun x => wiB x (-50) 50) = false by simpa using c2, Bool.and_false])], trivial, nils⟩
  refine TC.skip (TQ.blkN (TQ.thenC (TC.region (zq (PV.add rfl rfl om) rfl (zm rfl (TL.nil (TQ.thenN (TQ.backK (k + 1) l9z l9z s9z ⟨by omega, fun j hj => if e : j < k then hk.2 j e else (show k = j by omega) ▸ (by unfold colB; rw [decide_eq_true om]; simpa using c2)⟩ om))))))))
  refine TC.exit (TQ.thenE (TQ.thenE (TQ.blkS (TQ.thenC (zr (za rfl (zt (TQ.retE1 rfl rfl ?_))))))))
  exact ⟨(), by rw [valid_0 (by omega) (by omega) (fun j hj => hk.2 j (by omega))], trivial, nils⟩
end Go.Proofs.YtbnjmkidbfmomaaGreatDoor.C
namespace Go.Proofs.YtbnjmkidbfmomaaGreatDoor.C
open Go.Sx Go.RowKit
def numI (ls : List (List Int)) (hs : List Int) : Int := if validI ls ≠ 0 then validI ls else if hs.length = ls.length ∧ (hs.all fun x => wiB x 0 (dep ls)) = true then 0 else 1
def stepB (hs : List Int) (c : Nat) : Bool := wiB (hs.getD (c + 1) 0 - hs.getD c 0) (-1) 1
def rightB (hs : List Int) : Bool := (List.range (hs.length - 1)).all (stepB hs)
def holI (ls : List (List Int)) (hs : List Int) : Int := if numI ls hs ≠ 0 then numI ls hs else if rightB hs = true then 0 else 6
def sumN (col : List Int) : Nat → Int
  | 0 => 0
  | n + 1 => sumN col n + col.getD n 0
def worK (ls : List (List Int)) (hs : List Int) : Nat → Int
  | 0 => 0
  | k + 1 => worK ls hs k + sumN (ls.getD k []) (hs.getD k 0).toNat
def worH (ls : List (List Int)) (hs : List Int) : Int := worK ls hs hs.length
structure NB (ls : List (List Int)) (hs : List Int) : Prop where
  vb : VB ls
  len : hs.length = ls.length
  at_ : ∀ k, 0 ≤ hs.getD k 0 ∧ hs.getD k 0 ≤ dep ls
theorem ls_first {w : World} {p : Option Addr} {ls : List (List Int)} (hr : LsAt w p ls) : ∃ q p0 c0, 0 < ls.length → (p = some q ∧ w.cell? (q.add (0 * 1)) = some (.slice p0 (ls.getD 0 []).length c0)) := by
  by_cases h : 0 < ls.length
  · obtain ⟨q, e, p0, c0, h1, _⟩ := hr 0 h
    exact ⟨q, p0, c0, fun _ => ⟨e, h1⟩⟩
  · exact ⟨⟨0, 0, none⟩, none, 0, fun h2 => absurd h2 h⟩
theorem num_bad {ls : List (List Int)} {hs : List Int} (h : validI ls ≠ 0) : numI ls hs = validI ls := if_pos h
theorem num_1 {ls : List (List Int)} {hs : List Int} (h : ¬ validI ls ≠ 0) (h2 : ¬ (hs.length = ls.length ∧ (hs.all fun x => wiB x 0 (dep ls)) = true)) : numI ls hs = 1 := by unfold numI; rw [if_neg h, if_neg h2]
theorem num_0 {ls : List (List Int)} {hs : List Int} (h : ¬ validI ls ≠ 0) (h2 : hs.length = ls.length ∧ (hs.all fun x => wiB x 0 (dep ls)) = true) : numI ls hs = 0 := by unfold numI; rw [if_neg h, if_pos h2]
theorem nb_of {ls : List (List Int)} {hs : List Int} (h : ¬ numI ls hs ≠ 0) : NB ls hs := by
  have h0 := Decidable.of_not_not h
  by_cases h1 : validI ls ≠ 0
  · rw [num_bad h1] at h0; exact absurd h0 h1
  · by_cases h2 : hs.length = ls.length ∧ (hs.all fun x => wiB x 0 (dep ls)) = true
    · refine ⟨vb_of h1, h2.1, fun k => ?_⟩
      by_cases hk : k < hs.length
      · have := List.all_eq_true.1 h2.2 (hs.getD k 0) (by simp [List.getD, hk])
        exact of_decide_eq_true this
      · have e : hs.getD k 0 = 0 := by simp [List.getD, hk]
        rw [e]; omega
    · rw [num_1 h1 h2] at h0; cases h0
theorem hol_bad {ls : List (List Int)} {hs : List Int} (h : numI ls hs ≠ 0) : holI ls hs = numI ls hs := if_pos h
theorem hol_6 {ls : List (List Int)} {hs : List Int} (h : ¬ numI ls hs ≠ 0) (h2 : rightB hs = false) : holI ls hs = 6 := by unfold holI; rw [if_neg h, if_neg (by rw [h2]; decide)]
theorem hol_0 {ls : List (List Int)} {hs : List Int} (h : ¬ numI ls hs ≠ 0) (h2 : rightB hs = true) : holI ls hs = 0 := by unfold holI; rw [if_neg h, if_pos h2]
theorem hol_nb {ls : List (List Int)} {hs : List Int} (h : ¬ holI ls hs ≠ 0) : NB ls hs ∧ rightB hs = true := by
  have h0 := Decidable.of_not_not h
  by_cases h1 : numI ls hs ≠ 0
  · rw [hol_bad h1] at h0; exact absurd h0 h1
  · refine ⟨nb_of h1, ?_⟩
    cases h2 : rightB hs with
    | true => rfl
    | false => rw [hol_6 h1 h2] at h0; cases h0
theorem right_no {hs : List Int} {k : Nat} (hk : k + 1 < hs.length) (h : stepB hs k = false) : rightB hs = false := by
  rw [Bool.eq_false_iff]
  intro h1
  have := List.all_eq_true.1 h1 k (List.mem_range.2 (by omega))
  rw [this] at h; cases h
theorem right_yes {hs : List Int} (h : ∀ k, k + 1 < hs.length → stepB hs k = true) : rightB hs = true :=
  List.all_eq_true.2 fun k hk => h k (by have := List.mem_range.1 hk; omega)
theorem sum_bd {ls : List (List Int)} (hv : VB ls) (k : Nat) : ∀ n : Nat, -50 * (n : Int) ≤ sumN (ls.getD k []) n ∧ sumN (ls.getD k []) n ≤ 50 * (n : Int)
  | 0 => by simp [sumN]
  | n + 1 => by
    have h1 := sum_bd hv k n
    have h2 := hv.w k n
    have e : sumN (ls.getD k []) (n + 1) = sumN (ls.getD k []) n + (ls.getD k []).getD n 0 := rfl
    rw [e]
    omega
theorem wor_bd {ls : List (List Int)} {hs : List Int} (hb : NB ls hs) : ∀ k : Nat, -200 * (k : Int) ≤ worK ls hs k ∧ worK ls hs k ≤ 200 * (k : Int)
  | 0 => by simp [worK]
  | k + 1 => by
    have h1 := wor_bd hb k
    have h2 := sum_bd hb.vb k (hs.getD k 0).toNat
    have h3 := hb.at_ k
    have h4 := hb.vb.d
    have e : worK ls hs (k + 1) = worK ls hs k + sumN (ls.getD k []) (hs.getD k 0).toNat := rfl
    rw [e]
    omega
set_option maxHeartbeats 2000000 in
theorem rvalidate_ok (w0 : World) (p : Option Addr) (cap : Nat) (ls : List (List Int)) (hr : LsAt w0 p ls) :
    Calls Tryz.prog 86 #[bv p ls.length cap] w0 (Post (X := Unit) (fun _ => .int .i64 (validI ls)) (fun _ => True) (fun _ => []) w0) := by
  refine calls Tryz.func86 rfl (n := 78) rfl (by simp) ?_
  refine zr (TL.box rfl rfl dc (fun b0 hb0 => ?_))
  refine za rfl (zk (zq (PV.fieldAddr rfl Tb.fo_24_0) rfl (zq (PV.load rfl Tb.one_22 m9z rfl) rfl ?_)))
  refine zq (PV.len rfl Tb.sl_22) rfl (za rfl (zn (TC.seq (TC.seq ?_))))
  obtain ⟨q0, p0, c0, h00⟩ := ls_first hr
  refine TC.region (zm rfl (zq (PV.lss rfl rfl) rfl (zm rfl (TL.sp 11 rfl (fun a1 => ?_) (fun a1 => ?_)))))
  refine zx rfl (zx rfl (zq (PV.pickT rfl rfl) rfl (zm rfl (zx rfl (zx rfl (zx rfl (zx rfl (zx rfl (zx rfl (zq (PV.pickT rfl rfl) rfl (zm rfl (zx rfl (zx rfl (zx rfl (zx rfl (zx rfl (zx rfl (zq (PV.pickT rfl rfl) rfl (zn (TC.condT rfl (zr (za rfl (zt (TQ.thenR (TQ.retE1 rfl rfl ?_)))))))))))))))))))))))))
  exact ⟨(), by rw [valid_1 (by omega)], trivial, nils⟩
  refine zm rfl (zq (PV.gtr rfl rfl) rfl (zq (PV.pickF rfl rfl) rfl (zm rfl (TL.sp 15 rfl (fun a2 => ?_) (fun a2 => ?_)))))
  refine zx rfl (zx rfl (zx rfl (zx rfl (zx rfl (zx rfl (zq (PV.pickT rfl rfl) rfl (zm rfl (zx rfl (zx rfl (zx rfl (zx rfl (zx rfl (zx rfl (zq (PV.pickT rfl rfl) rfl (zn (TC.condT rfl (zr (za rfl (zt (TQ.thenR (TQ.retE1 rfl rfl ?_)))))))))))))))))))))
  exact ⟨(), by rw [valid_1 (by omega)], trivial, nils⟩
  refine zq (PV.fieldAddr rfl Tb.fo_24_0) rfl (zq (PV.load rfl Tb.one_22 m9z rfl) rfl ?_)
  refine zq (PV.indexA (j := 0) rfl (h00 om).1 rfl Tb.elm_22 rfl om) rfl (zq (PV.loadOld rfl Tb.one_25 (h00 om).2) rfl (zq (PV.len rfl Tb.sl_25) rfl (zq (PV.lss rfl rfl) rfl (zq (PV.pickF rfl rfl) rfl (zm rfl (TL.sp 23 rfl (fun a3 => ?_) (fun a3 => ?_)))))))
  refine zx rfl (zx rfl (zx rfl (zx rfl (zx rfl (zx rfl (zq (PV.pickT rfl rfl) rfl (zn (TC.condT rfl (zr (za rfl (zt (TQ.thenR (TQ.retE1 rfl rfl ?_)))))))))))))
  exact ⟨(), by rw [valid_2 (by unfold dep; omega)], trivial, nils⟩
  refine zq (PV.fieldAddr rfl Tb.fo_24_0) rfl (zq (PV.load rfl Tb.one_22 m9z rfl) rfl ?_)
  refine zq (PV.indexA (j := 0) rfl (h00 om).1 rfl Tb.elm_22 rfl om) rfl (zq (PV.loadOld rfl Tb.one_25 (h00 om).2) rfl (zq (PV.len rfl Tb.sl_25) rfl (zq (PV.gtr rfl rfl) rfl (zq (PV.pickF rfl rfl) rfl (zn (TC.cd rfl (fun a4 => ?_) (fun a4 => ?_)))))))
  refine zr (za rfl (zt (TQ.thenR (TQ.retE1 rfl rfl ?_))))
  exact ⟨(), by rw [valid_2 (by unfold dep; omega)], trivial, nils⟩
  refine TC.skip (TQ.thenC (TC.seq (TC.seq ?_)))
  have ed : (ls.getD 0 []).length = dep ls := rfl
  refine TC.region (za rfl (zn (TC.block (TC.lit [(1, _), (3, _), (4, _)] l9z ?_))))
  refine TC.loopG [1, 3] (X := Nat × Unit) (fun k => k.1 ≤ ls.length ∧ ∀ j, j < k.1 → colB ls (ls.getD j []) = true) (fun k => [(4, .int .i64 k.1)]) (fun k => ls.length - k.1) (0, ()) ⟨Nat.zero_le _, fun j hj => absurd hj (Nat.not_lt_zero _)⟩ l9z ?_
  intro k hk
  refine TC.lit [(1, _), (3, _), (4, _)] l9z ?_
  refine TC.seq (zr (zm rfl (zm rfl (zq (PV.lss rfl rfl) rfl (zn (TC.cd rfl (fun hlt => ?_) (fun hlt => ?_)))))))
  refine TC.skip (TQ.thenC (TC.seq (TC.block (TC.seq (TC.seq ?_)))))
  obtain ⟨q, hqp, pj, cj, hq, hi⟩ := hr k.1 (by omega)
  refine TC.any Tb.mixed rfl rfl ?_
  refine TA.op (OpOK.pure (PV.fieldAddr rfl Tb.fo_24_0) rfl dc) dc ?_
  refine TA.op (OpOK.pure (PV.load rfl Tb.one_22 m9z rfl) rfl dc) dc ?_
  refine TA.op (OpOK.pure (PV.move rfl) rfl dc) dc ?_
  refine TA.op (OpOK.pure (PV.indexA rfl hqp rfl Tb.elm_22 rfl om) rfl dc) dc ?_
  refine TA.op (OpOK.pure (PV.loadOld rfl Tb.one_25 hq) rfl dc) dc ?_
  refine TA.op (OpOK.pure (PV.len rfl Tb.sl_25) rfl dc) dc ?_
  refine TA.op (OpOK.pure (PV.fieldAddr rfl Tb.fo_24_0) rfl dc) dc ?_
  refine TA.op (OpOK.pure (PV.load rfl Tb.one_22 m9z rfl) rfl dc) dc ?_
  refine TA.op (OpOK.pure (PV.indexA (j := 0) rfl (h00 om).1 rfl Tb.elm_22 rfl om) rfl dc) dc ?_
  refine TA.op (OpOK.pure (PV.loadOld rfl Tb.one_25 (h00 om).2) rfl dc) dc ?_
  refine TA.op (OpOK.pure (PV.len rfl Tb.sl_25) rfl dc) dc ?_
  refine TA.op (OpOK.pure (PV.neq rfl rfl) rfl dc) dc ?_
  show TQ _ _ _ _ _
  refine TQ.thenC (TC.cd rfl (fun hne => ?_) (fun hne => ?_))
  refine zr (za rfl (zt (TQ.thenR (TQ.blkR (TQ.thenR (TQ.thenR (TQ.blkR (TQ.thenR (TQ.retE1 rfl rfl ?_)))))))))
  exact ⟨(), by rw [valid_3 (k := k.1) (by omega) (col_len (by unfold dep; omega))], trivial, nils⟩
  refine TC.skip (TQ.thenC (zr (za rfl (zn (TC.block (TC.lit [(1, _), (3, _), (4, _), (5, _)] l9z ?_))))))
  refine TC.loopG [1, 3, 4] (X := Nat × Unit) (fun u => u.1 ≤ (ls.getD k.1 []).length ∧ ∀ j, j < u.1 → wiB ((ls.getD k.1 []).getD j 0) (-50) 50 = true) (fun u => [(5, .int .i64 u.1)]) (fun u => (ls.getD k.1 []).length - u.1) (0, ()) ⟨Nat.zero_le _, fun j hj => absurd hj (Nat.not_lt_zero _)⟩ l9z ?_
  intro u hu
  refine TC.lit [(1, _), (3, _), (4, _), (5, _)] l9z ?_
  refine TC.seq (TC.seq ?_)
  obtain ⟨q, hqp, pj, cj, hq, hi⟩ := hr k.1 (by omega)
  refine TC.region (zm rfl (zq (PV.fieldAddr rfl Tb.fo_24_0) rfl (zq (PV.load rfl Tb.one_22 m9z rfl) rfl ?_)))
  refine zm rfl (zq (PV.indexA rfl hqp rfl Tb.elm_22 rfl om) rfl (zq (PV.loadOld rfl Tb.one_25 hq) rfl (zq (PV.len rfl Tb.sl_25) rfl (zq (PV.lss rfl rfl) rfl (zn (TC.cd rfl (fun hlt2 => ?_) (fun hlt2 => ?_)))))))
  refine TC.skip (TQ.thenC (TC.seq (TC.block (TC.seq ?_))))
  obtain ⟨q, hqp, pj, cj, hq, hi⟩ := hr k.1 (by omega)
  obtain ⟨q2, hq2p, hq2⟩ := hi u.1 (by omega)
  refine TC.region (zq (PV.fieldAddr rfl Tb.fo_24_0) rfl (zq (PV.load rfl Tb.one_22 m9z rfl) rfl ?_))
  refine zm rfl (zq (PV.indexA rfl hqp rfl Tb.elm_22 rfl om) rfl (zq (PV.loadOld rfl Tb.one_25 hq) rfl (zm rfl (zq (PV.indexA rfl hq2p rfl Tb.elm_25 rfl om) rfl (zq (PV.loadOld rfl Tb.one_3 hq2) rfl (zq (PV.gtr rfl rfl) rfl (zm rfl (TL.sp 67 rfl (fun b1 => ?_) (fun b1 => ?_)))))))))
  refine zx rfl (zx rfl (zx rfl (zx rfl (zx rfl (zx rfl (zx rfl (zx rfl (zx rfl (zq (PV.pickT rfl rfl) rfl (zn (TC.condT rfl (zr (za rfl (zt (TQ.blkR (TQ.thenR (TQ.thenR (TQ.blkR (TQ.blkR (TQ.thenR (TQ.thenR (TQ.blkR (TQ.thenR (TQ.retE1 rfl rfl ?_))))))))))))))))))))))))
  exact ⟨(), by rw [valid_3 (k := k.1) (by omega) (col_no (j := u.1) (by omega) (by unfold wiB; exact decide_eq_false (by omega)))], trivial, nils⟩
  refine zq (PV.fieldAddr rfl Tb.fo_24_0) rfl (zq (PV.load rfl Tb.one_22 m9z rfl) rfl ?_)
  refine zm rfl (zq (PV.indexA rfl hqp rfl Tb.elm_22 rfl om) rfl (zq (PV.loadOld rfl Tb.one_25 hq) rfl (zm rfl (zq (PV.indexA rfl hq2p rfl Tb.elm_25 rfl om) rfl (zq (PV.loadOld rfl Tb.one_3 hq2) rfl (zq (PV.lss rfl rfl) rfl (zq (PV.pickF rfl rfl) rfl (zn (TC.cd rfl (fun b2 => ?_) (fun b2 => ?_))))))))))
  refine zr (za rfl (zt (TQ.blkR (TQ.thenR (TQ.thenR (TQ.blkR (TQ.blkR (TQ.thenR (TQ.thenR (TQ.blkR (TQ.thenR (TQ.retE1 rfl rfl ?_))))))))))))
  exact ⟨(), by rw [valid_3 (k := k.1) (by omega) (col_no (j := u.1) (by omega) (by unfold wiB; exact decide_eq_false (by omega)))], trivial, nils⟩
  refine TC.skip (TQ.blkN (TQ.thenC (TC.region (zm rfl (zq (PV.add rfl rfl om) rfl (za rfl (TL.nil (TQ.thenN (TQ.backK (u.1 + 1, ()) l9z l9z s9z ⟨by simp only; omega, fun j hj => if e : j < u.1 then hu.2 j e else (show u.1 = j by simp only at hj; omega) ▸ (by unfold wiB; exact decide_eq_true om)⟩ (by simp only; omega))))))))))
  refine TC.exit (TQ.thenE (TQ.thenE (TQ.blkS (TQ.blkN (TQ.thenC (TC.region (zm rfl (zq (PV.add rfl rfl om) rfl (za rfl (TL.nil (TQ.thenN (TQ.backK (k.1 + 1, ()) l9z l9z s9z ⟨by simp only; omega, fun j hj => if e : j < k.1 then hk.2 j e else (show k.1 = j by simp only at hj; omega) ▸ (by unfold colB; rw [decide_eq_true om, all_yes (d := 0) (f := fun x => wiB x (-50) 50) (fun j hj => hu.2 j om)]; rfl)⟩ (by simp only; omega)))))))))))))
  refine TC.exit (TQ.thenE (TQ.thenE (TQ.blkS (TQ.thenC (zr (za rfl (zt (TQ.retE1 rfl rfl ?_))))))))
  exact ⟨(), by rw [valid_0 (by omega) (by unfold dep; omega) (fun j hj => hk.2 j (by omega))], trivial, nils⟩
set_option maxHeartbeats 1000000 in
theorem vnum_ok (w0 : World) (p : Option Addr) (cap : Nat) (ls : List (List Int)) (hr : LsAt w0 p ls) (pl : Option Addr) (cl : Nat) (xs : List Int) (hx : IntsAt w0 pl xs) :
    Calls Tryz.prog 92 #[bv p ls.length cap, .slice pl xs.length cl] w0 (Post (X := Unit) (fun _ => .int .i64 (numI ls xs)) (fun _ => True) (fun _ => []) w0) := by
  refine calls Tryz.func92 rfl (n := 24) rfl (by simp) ?_
  refine zr (TL.box rfl rfl dc (fun b0 hb0 => ?_))
  refine za rfl (zn (TC.seq (zr (zq (PV.loadBox rfl Tb.agg_24 m9z rfl) rfl ?_))))
  refine TL.call rfl Tb.gofn_96 (fun a w hs => validate_ok w _ _ _ (hr.new hs.new)) rfl dc (fun _ _ => ?_)
  refine za rfl (zk (zm rfl (zq (PV.neq rfl rfl) rfl (zn (TC.cd rfl (fun hbad => ?_) (fun hbad => ?_))))))
  refine zr (zm rfl (za rfl (zt (TQ.thenR (TQ.retE1 rfl rfl ?_)))))
  exact ⟨(), by rw [num_bad hbad], trivial, nils⟩
  refine TC.skip (TQ.thenC (TC.seq (TC.seq ?_)))
  have hv := vb_of hbad
  have hn := hv.n
  refine TC.region (zm rfl (zq (PV.len rfl Tb.sl_25) rfl (zq (PV.fieldAddr rfl Tb.fo_24_0) rfl (zq (PV.load rfl Tb.one_22 m9z rfl) rfl ?_))))
  refine zq (PV.len rfl Tb.sl_22) rfl (zq (PV.neq rfl rfl) rfl (zm rfl (TL.sp 17 rfl (fun a1 => ?_) (fun a1 => ?_))))
  refine zx rfl (zx rfl (zx rfl (zx rfl (zx rfl (zq (PV.pickT rfl rfl) rfl (zn (TC.condT rfl (zr (za rfl (zt (TQ.thenR (TQ.retE1 rfl rfl ?_))))))))))))
  exact ⟨(), by rw [num_1 hbad (fun h => by omega)], trivial, nils⟩
  refine zm rfl (zq (PV.loadBox rfl Tb.agg_24 m9z rfl) rfl ?_)
  refine TL.call rfl Tb.gofn_132 (fun a w hs => depth_ok w _ _ _ (hr.new hs.new) om) rfl dc (fun _ _ => ?_)
  refine TL.call rfl Tb.gofn_131 (fun a w hs => areWithin_ok w _ _ _ (hx.new hs.new) om _ _) rfl dc (fun _ _ => ?_)
  refine zq ((by first | exact PV.notD rfl | exact PV.not rfl)) rfl ?_
  refine zq (PV.pickF rfl rfl) rfl (zn (TC.cd rfl (fun a2 => ?_) (fun a2 => ?_)))
  refine zr (za rfl (zt (TQ.thenR (TQ.retE1 rfl rfl ?_))))
  exact ⟨(), by rw [num_1 hbad (fun h => by simp_all)], trivial, nils⟩
  refine TC.skip (TQ.thenC (zr (za rfl (zt (TQ.retE1 rfl rfl ?_)))))
  exact ⟨(), by rw [num_0 hbad ⟨by omega, by simpa using a2⟩], trivial, nils⟩
set_option maxHeartbeats 1000000 in
theorem checkHollow_ok (w0 : World) (p : Option Addr) (cap : Nat) (ls : List (List Int)) (hr : LsAt w0 p ls) (pl : Option Addr) (cl : Nat) (xs : List Int) (hx : IntsAt w0 pl xs) :
    Calls Tryz.prog 55 #[bv p ls.length cap, .slice pl xs.length cl] w0 (Post (X := Unit) (fun _ => .int .i64 (holI ls xs)) (fun _ => True) (fun _ => []) w0) := by
  refine calls Tryz.func55 rfl (n := 32) rfl (by simp) ?_
  refine zr (TL.box rfl rfl dc (fun b0 hb0 => ?_))
  refine za rfl (zn (TC.seq (zr (zq (PV.loadBox rfl Tb.agg_24 m9z rfl) rfl ?_))))
  refine zm rfl (TL.call rfl Tb.gofn_92 (fun a w hs => vnum_ok w _ _ _ (hr.new hs.new) _ _ _ (hx.new hs.new)) rfl dc (fun _ _ => ?_))
  refine za rfl (zk (zm rfl (zq (PV.neq rfl rfl) rfl (zn (TC.cd rfl (fun hbad => ?_) (fun hbad => ?_))))))
  refine zr (zm rfl (za rfl (zt (TQ.thenR (TQ.retE1 rfl rfl ?_)))))
  exact ⟨(), by rw [hol_bad hbad], trivial, nils⟩
  refine TC.skip (TQ.thenC (TC.seq (TC.seq ?_)))
  have hb := nb_of hbad
  have hn := hb.vb.n
  have hd := hb.vb.d
  have hl9 := hb.len
  refine TC.region (zm rfl (zq (PV.len rfl Tb.sl_25) rfl (zq (PV.sub rfl rfl om) rfl (zm rfl (zn (TC.block (TC.loopG [1, 15] (X := Nat) (fun k => k + 1 ≤ xs.length ∧ ∀ j, j < k → stepB xs j = true) (fun k => [(16, .int .i64 k)]) (fun k => xs.length - k) 0 ⟨by omega, fun j hj => absurd hj (Nat.not_lt_zero _)⟩ l9z ?_)))))))
  intro k hk
  refine zr (zq (PV.lss rfl rfl) rfl (zn (TC.seq (TC.cd rfl (fun hlt => ?_) (fun hlt => ?_)))))
  refine TC.skip (TQ.thenC (TC.seq (TC.block (zr (zm rfl (za rfl (zn (TC.seq ?_))))))))
  obtain ⟨q, hqp, hq⟩ := hx k (by omega)
  obtain ⟨q2, hq2p, hq2⟩ := hx (k + 1) (by omega)
  have b1 := hb.at_ k
  have b2 := hb.at_ (k + 1)
  refine TC.any Tb.mixed rfl rfl ?_
  refine TA.op (OpOK.pure (PV.move rfl) rfl dc) dc ?_
  refine TA.op (OpOK.pure (PV.move rfl) rfl dc) dc ?_
  refine TA.op (OpOK.pure (PV.add rfl rfl om) rfl dc) dc ?_
  refine TA.op (OpOK.pure (PV.indexA (j := k + 1) rfl hq2p rfl Tb.elm_25 om om) rfl dc) dc ?_
  refine TA.op (OpOK.pure (PV.loadOld rfl Tb.one_3 hq2) rfl dc) dc ?_
  refine TA.op (OpOK.pure (PV.move rfl) rfl dc) dc ?_
  refine TA.op (OpOK.pure (PV.move rfl) rfl dc) dc ?_
  refine TA.op (OpOK.pure (PV.indexA (j := k) rfl hqp rfl Tb.elm_25 rfl om) rfl dc) dc ?_
  refine TA.op (OpOK.pure (PV.loadOld rfl Tb.one_3 hq) rfl dc) dc ?_
  refine TA.op (OpOK.pure (PV.sub rfl rfl om) rfl dc) dc ?_
  refine TA.op (OpOK.call rfl Tb.gofn_93 (fun a w hs => isWithin_ok w _ _ _) rfl dc) dc ?_
  refine TA.op (OpOK.pure ((by first | exact PV.notD rfl | exact PV.not rfl)) rfl (by decide)) (by decide) ?_
  show TQ _ _ _ _ _
  refine TQ.thenC (TC.cd rfl (fun hno => ?_) (fun hno => ?_))
  refine zr (za rfl (zt (TQ.blkR (TQ.thenR (TQ.thenR (TQ.blkR (TQ.thenR (TQ.retE1 rfl rfl ?_))))))))
  exact ⟨(), by rw [hol_6 hbad (right_no (k := k) (by omega) (by unfold stepB wiB; exact decide_eq_false (by omega)))], trivial, nils⟩
  refine TC.skip (TQ.blkN (TQ.thenC (TC.region (zq (PV.add rfl rfl om) rfl (zm rfl (TL.nil (TQ.thenN (TQ.backK (k + 1) l9z l9z s9z ⟨by omega, fun j hj => if e : j < k then hk.2 j e else (show k = j by omega) ▸ (by unfold stepB wiB; exact decide_eq_true om)⟩ om))))))))
  refine TC.exit (TQ.thenE (TQ.thenE (TQ.blkS (TQ.thenC (zr (za rfl (zt (TQ.retE1 rfl rfl ?_))))))))
  exact ⟨(), by rw [hol_0 hbad (right_yes (fun j hj => hk.2 j (by omega)))], trivial, nils⟩
set_option maxHeartbeats 1000000 in
theorem rnum_ok (w0 : World) (p : Option Addr) (cap : Nat) (ls : List (List Int)) (hr : LsAt w0 p ls) (pl : Option Addr) (cl : Nat) (xs : List Int) (hx : IntsAt w0 pl xs) :
    Calls Tryz.prog 133 #[bv p ls.length cap, .slice pl xs.length cl] w0 (Post (X := Unit) (fun _ => .int .i64 (numI ls xs)) (fun _ => True) (fun _ => []) w0) := by
  refine calls Tryz.func133 rfl (n := 38) rfl (by simp) ?_
  refine zr (TL.box rfl rfl dc (fun b0 hb0 => ?_))
  refine za rfl (zk (zq (PV.loadBox rfl Tb.agg_24 m9z rfl) rfl ?_))
  refine TL.call rfl Tb.gofn_86 (fun a w hs => rvalidate_ok w _ _ _ (hr.new hs.new)) rfl dc (fun _ _ => ?_)
  refine za rfl (zn (TC.seq (zr (zm rfl (zq (PV.neq rfl rfl) rfl (zn (TC.cd rfl (fun hbad => ?_) (fun hbad => ?_))))))))
  refine zr (zm rfl (za rfl (zt (TQ.thenR (TQ.retE1 rfl rfl ?_)))))
  exact ⟨(), by rw [num_bad hbad], trivial, nils⟩
  refine TC.skip (TQ.thenC (TC.seq (TC.seq ?_)))
  have hv := vb_of hbad
  have hn := hv.n
  refine TC.region (zm rfl (zq (PV.len rfl Tb.sl_25) rfl (zq (PV.fieldAddr rfl Tb.fo_24_0) rfl (zq (PV.load rfl Tb.one_22 m9z rfl) rfl ?_))))
  refine zq (PV.len rfl Tb.sl_22) rfl (zq (PV.neq rfl rfl) rfl (zn (TC.cd rfl (fun hne => ?_) (fun hne => ?_))))
  refine zr (za rfl (zt (TQ.thenR (TQ.retE1 rfl rfl ?_))))
  exact ⟨(), by rw [num_1 hbad (fun h => by omega)], trivial, nils⟩
  refine TC.skip (TQ.thenC (TC.seq (zr (za rfl (zn (TC.block (TC.loopG [1, 2] (X := Nat) (fun k => k ≤ xs.length ∧ ∀ j, j < k → wiB (xs.getD j 0) 0 (dep ls) = true) (fun k => [(6, .int .i64 k)]) (fun k => xs.length - k) 0 ⟨Nat.zero_le _, fun j hj => absurd hj (Nat.not_lt_zero _)⟩ l9z ?_)))))))
  intro k hk
  refine TC.seq (zr (zm rfl (zm rfl (zq (PV.len rfl Tb.sl_25) rfl (zq (PV.lss rfl rfl) rfl (zn (TC.cd rfl (fun hlt => ?_) (fun hlt => ?_))))))))
  refine TC.skip (TQ.thenC (TC.seq (TC.block (TC.seq ?_))))
  obtain ⟨q, hqp, hq⟩ := hx k (by omega)
  refine TC.any Tb.mixed rfl rfl ?_
  refine TA.op (OpOK.pure (PV.move rfl) rfl dc) dc ?_
  refine TA.op (OpOK.pure (PV.move rfl) rfl dc) dc ?_
  refine TA.op (OpOK.pure (PV.indexA rfl hqp rfl Tb.elm_25 rfl om) rfl dc) dc ?_
  refine TA.op (OpOK.pure (PV.loadOld rfl Tb.one_3 hq) rfl dc) dc ?_
  refine TA.op (OpOK.pure (PV.lss rfl rfl) rfl dc) dc ?_
  refine TA.op (OpOK.pure (PV.move rfl) rfl dc) dc ?_
  first | refine TA.splitD 29 rfl (fun a1 => ?_) (fun a1 => ?_) | refine TA.split 29 rfl (fun a1 => ?_) (fun a1 => ?_)
  refine TA.op (OpOK.skip rfl) dc ?_
  refine TA.op (OpOK.skip rfl) dc ?_
  refine TA.op (OpOK.skip rfl) dc ?_
  refine TA.op (OpOK.skip rfl) dc ?_
  refine TA.op (OpOK.skip rfl) dc ?_
  refine TA.op (OpOK.skip rfl) dc ?_
  refine TA.op (OpOK.skip rfl) dc ?_
  refine TA.op (OpOK.pure (PV.pickT rfl rfl) rfl dc) dc ?_
  show TQ _ _ _ _ _
  refine TQ.thenC (TC.condT rfl (zr (za rfl (zt (TQ.blkR (TQ.thenR (TQ.thenR (TQ.blkR (TQ.thenR (TQ.retE1 rfl rfl ?_))))))))))
  exact ⟨(), by rw [num_1 hbad (fun h => by rw [all_no (k := k) (d := 0) (by omega) (by unfold wiB; exact decide_eq_false (by omega))] at h; exact absurd h.2 (by decide))], trivial, nils⟩
  refine TA.op (OpOK.pure (PV.move rfl) rfl dc) dc ?_
  refine TA.op (OpOK.pure (PV.move rfl) rfl dc) dc ?_
  refine TA.op (OpOK.pure (PV.indexA rfl hqp rfl Tb.elm_25 rfl om) rfl dc) dc ?_
  refine TA.op (OpOK.pure (PV.loadOld rfl Tb.one_3 hq) rfl dc) dc ?_
  refine TA.op (OpOK.pure (PV.loadBox rfl Tb.agg_24 m9z rfl) rfl dc) dc ?_
  refine TA.op (OpOK.call rfl Tb.gofn_169 (fun a w hs => rdepth_ok w _ _ _ (hr.new hs.new) om) rfl dc) dc ?_
  refine TA.op (OpOK.pure (PV.gtr rfl rfl) rfl dc) dc ?_
  refine TA.op (OpOK.pure (PV.pickF rfl rfl) rfl dc) dc ?_
  show TQ _ _ _ _ _
  refine TQ.thenC (TC.cd rfl (fun a2 => ?_) (fun a2 => ?_))
  refine zr (za rfl (zt (TQ.blkR (TQ.thenR (TQ.thenR (TQ.blkR (TQ.thenR (TQ.retE1 rfl rfl ?_))))))))
  exact ⟨(), by rw [num_1 hbad (fun h => by rw [all_no (k := k) (d := 0) (by omega) (by unfold wiB; exact decide_eq_false (by omega))] at h; exact absurd h.2 (by decide))], trivial, nils⟩
  refine TC.skip (TQ.blkN (TQ.thenC (TC.region (zm rfl (zq (PV.add rfl rfl om) rfl (za rfl (TL.nil (TQ.thenN (TQ.backK (k + 1) l9z l9z s9z ⟨by omega, fun j hj => if e : j < k then hk.2 j e else (show k = j by omega) ▸ (by unfold wiB; exact decide_eq_true om)⟩ om)))))))))
  refine TC.exit (TQ.thenE (TQ.thenE (TQ.blkS (TQ.thenC (zr (za rfl (zt (TQ.retE1 rfl rfl ?_))))))))
  exact ⟨(), by rw [num_0 hbad ⟨by omega, all_yes (d := 0) (fun j hj => hk.2 j (by omega))⟩], trivial, nils⟩
set_option maxHeartbeats 1000000 in
theorem right_ok (w0 : World) (pl : Option Addr) (cl : Nat) (xs : List Int) (hx : IntsAt w0 pl xs) (hl : xs.length ≤ 1000000) (hb : ∀ k, -1000000 ≤ xs.getD k 0 ∧ xs.getD k 0 ≤ 1000000) :
    Calls Tryz.prog 134 #[.slice pl xs.length cl] w0 (Post (X := Unit) (fun _ => .bool (rightB xs)) (fun _ => True) (fun _ => []) w0) := by
  refine calls Tryz.func134 rfl (n := 34) rfl (by simp) ?_
  refine zr (za rfl (zn (TC.seq (zr (za rfl (zn (TC.block (TC.loopG [0] (X := Nat) (fun k => (k = 0 ∨ k + 1 ≤ xs.length) ∧ ∀ j, j < k → stepB xs j = true) (fun k => [(3, .int .i64 ((k + 1 : Nat) : Int))]) (fun k => xs.length - k) 0 ⟨.inl rfl, fun j hj => absurd hj (Nat.not_lt_zero _)⟩ l9z ?_))))))))
  intro k hk
  refine TC.seq (zr (zm rfl (zm rfl (zq (PV.len rfl Tb.sl_25) rfl (zq (PV.lss rfl rfl) rfl (zn (TC.cd rfl (fun hlt => ?_) (fun hlt => ?_))))))))
  refine TC.skip (TQ.thenC (TC.seq (TC.block (TC.seq ?_))))
  obtain ⟨q, hqp, hq⟩ := hx (k + 1) (by omega)
  obtain ⟨q2, hq2p, hq2⟩ := hx k (by omega)
  have b1 := hb k
  have b2 := hb (k + 1)
  refine TC.any Tb.mixed rfl rfl ?_
  refine TA.op (OpOK.pure (PV.move rfl) rfl dc) dc ?_
  refine TA.op (OpOK.pure (PV.move rfl) rfl dc) dc ?_
  refine TA.op (OpOK.pure (PV.indexA (j := k + 1) rfl hqp rfl Tb.elm_25 rfl om) rfl dc) dc ?_
  refine TA.op (OpOK.pure (PV.loadOld rfl Tb.one_3 hq) rfl dc) dc ?_
  refine TA.op (OpOK.pure (PV.move rfl) rfl dc) dc ?_
  refine TA.op (OpOK.pure (PV.move rfl) rfl dc) dc ?_
  refine TA.op (OpOK.pure (PV.sub rfl rfl om) rfl dc) dc ?_
  refine TA.op (OpOK.pure (PV.indexA (j := k) rfl hq2p rfl Tb.elm_25 om om) rfl dc) dc ?_
  refine TA.op (OpOK.pure (PV.loadOld rfl Tb.one_3 hq2) rfl dc) dc ?_
  refine TA.op (OpOK.pure (PV.sub rfl rfl om) rfl dc) dc ?_
  refine TA.op (OpOK.pure (PV.gtr rfl rfl) rfl dc) dc ?_
  refine TA.op (OpOK.pure (PV.move rfl) rfl dc) dc ?_
  first | refine TA.splitD 21 rfl (fun a1 => ?_) (fun a1 => ?_) | refine TA.split 21 rfl (fun a1 => ?_) (fun a1 => ?_)
  refine TA.op (OpOK.skip rfl) dc ?_
  refine TA.op (OpOK.skip rfl) dc ?_
  refine TA.op (OpOK.skip rfl) dc ?_
  refine TA.op (OpOK.skip rfl) dc ?_
  refine TA.op (OpOK.skip rfl) dc ?_
  refine TA.op (OpOK.skip rfl) dc ?_
  refine TA.op (OpOK.skip rfl) dc ?_
  refine TA.op (OpOK.skip rfl) dc ?_
  refine TA.op (OpOK.skip rfl) dc ?_
  refine TA.op (OpOK.skip rfl) dc ?_
  refine TA.op (OpOK.skip rfl) dc ?_
  refine TA.op (OpOK.pure (PV.pickT rfl rfl) rfl dc) dc ?_
  show TQ _ _ _ _ _
  refine TQ.thenC (TC.condT rfl (zr (za rfl (zt (TQ.blkR (TQ.thenR (TQ.thenR (TQ.blkR (TQ.thenR (TQ.retE1 rfl rfl ?_))))))))))
  exact ⟨(), by rw [right_no (k := k) (by omega) (by unfold stepB wiB; exact decide_eq_false (by omega))], trivial, nils⟩
  refine TA.op (OpOK.pure (PV.move rfl) rfl dc) dc ?_
  refine TA.op (OpOK.pure (PV.move rfl) rfl dc) dc ?_
  refine TA.op (OpOK.pure (PV.sub rfl rfl om) rfl dc) dc ?_
  refine TA.op (OpOK.pure (PV.indexA (j := k) rfl hq2p rfl Tb.elm_25 om om) rfl dc) dc ?_
  refine TA.op (OpOK.pure (PV.loadOld rfl Tb.one_3 hq2) rfl dc) dc ?_
  refine TA.op (OpOK.pure (PV.move rfl) rfl dc) dc ?_
  refine TA.op (OpOK.pure (PV.move rfl) rfl dc) dc ?_
  refine TA.op (OpOK.pure (PV.indexA (j := k + 1) rfl hqp rfl Tb.elm_25 rfl om) rfl dc) dc ?_
  refine TA.op (OpOK.pure (PV.loadOld rfl Tb.one_3 hq) rfl dc) dc ?_
  refine TA.op (OpOK.pure (PV.sub rfl rfl om) rfl dc) dc ?_
  refine TA.op (OpOK.pure (PV.gtr rfl rfl) rfl dc) dc ?_
  refine TA.op (OpOK.pure (PV.pickF rfl rfl) rfl dc) dc ?_
  show TQ _ _ _ _ _
  refine TQ.thenC (TC.cd rfl (fun a2 => ?_) (fun a2 => ?_))
  refine zr (za rfl (zt (TQ.blkR (TQ.thenR (TQ.thenR (TQ.blkR (TQ.thenR (TQ.retE1 rfl rfl ?_))))))))
  exact ⟨(), by rw [right_no (k := k) (by omega) (by unfold stepB wiB; exact decide_eq_false (by omega))], trivial, nils⟩
  refine TC.skip (TQ.blkN (TQ.thenC (TC.region (zm rfl (zq (PV.add rfl rfl om) rfl (za rfl (TL.nil (TQ.thenN (TQ.backK (k + 1) l9z l9z s9z ⟨by omega, fun j hj => if e : j < k then hk.2 j e else (show k = j by omega) ▸ (by unfold stepB wiB; exact decide_eq_true om)⟩ om)))))))))
  refine TC.exit (TQ.thenE (TQ.thenE (TQ.blkS (TQ.thenC (zr (za rfl (zt (TQ.retE1 rfl rfl ?_))))))))
  exact ⟨(), by rw [right_yes (fun j hj => hk.2 j (by omega))], trivial, nils⟩
end Go.Proofs.YtbnjmkidbfmomaaGreatDoor.C
namespace Go.Proofs.YtbnjmkidbfmomaaGreatDoor.C
open Go.Sx Go.RowKit
theorem cutA_0 (p : Option Addr) (cap s : Nat) : cutA p cap 0 s = p := by
  unfold cutA
  split
  · rfl
  · cases p with
    | none => rfl
    | some q => simp [Addr.add]
def CapsAt (w : World) (p : Option Addr) (ls : List (List Int)) : Prop := ∀ j, j < ls.length → ∀ q pj cj (l : Nat), p = some q → w.cell? (q.add (j * 1)) = some (.slice pj l cj) → l ≤ cj
set_option maxHeartbeats 1000000 in
theorem rcheckHollow_ok (w0 : World) (p : Option Addr) (cap : Nat) (ls : List (List Int)) (hr : LsAt w0 p ls) (pl : Option Addr) (cl : Nat) (xs : List Int) (hx : IntsAt w0 pl xs) :
    Calls Tryz.prog 94 #[bv p ls.length cap, .slice pl xs.length cl] w0 (Post (X := Unit) (fun _ => .int .i64 (holI ls xs)) (fun _ => True) (fun _ => []) w0) := by
  refine calls Tryz.func94 rfl (n := 15) rfl (by simp) ?_
  refine zr (TL.box rfl rfl dc (fun b0 hb0 => ?_))
  refine za rfl (zk (zq (PV.loadBox rfl Tb.agg_24 m9z rfl) rfl ?_))
  refine zm rfl (TL.call rfl Tb.gofn_133 (fun a w hs => rnum_ok w _ _ _ (hr.new hs.new) _ _ _ (hx.new hs.new)) rfl dc (fun _ _ => ?_))
  refine za rfl (zn (TC.seq (zr (zm rfl (zq (PV.neq rfl rfl) rfl (zn (TC.cd rfl (fun hbad => ?_) (fun hbad => ?_))))))))
  refine zr (zm rfl (za rfl (zt (TQ.thenR (TQ.retE1 rfl rfl ?_)))))
  exact ⟨(), by rw [hol_bad hbad], trivial, nils⟩
  refine TC.skip (TQ.thenC (TC.seq (TC.seq ?_)))
  have hb := nb_of hbad
  have hn := hb.vb.n
  have hd := hb.vb.d
  have hl9 := hb.len
  refine TC.region (zm rfl (TL.call rfl Tb.gofn_134 (fun a w hs => right_ok w _ _ _ (hx.new hs.new) om (fun k => by have := hb.at_ k; omega)) rfl dc (fun _ _ => ?_)))
  refine zq ((by first | exact PV.notD rfl | exact PV.not rfl)) rfl ?_
  refine zn (TC.cd rfl (fun hno => ?_) (fun hno => ?_))
  refine zr (za rfl (zt (TQ.thenR (TQ.retE1 rfl rfl ?_))))
  exact ⟨(), by rw [hol_6 hbad (by simpa using hno)], trivial, nils⟩
  refine TC.skip (TQ.thenC (zr (za rfl (zt (TQ.retE1 rfl rfl ?_)))))
  exact ⟨(), by rw [hol_0 hbad (by simpa using hno)], trivial, nils⟩
set_option maxHeartbeats 1000000 in
theorem Worth_ok (w0 : World) (p : Option Addr) (cap : Nat) (ls : List (List Int)) (hr : LsAt w0 p ls) (pl : Option Addr) (cl : Nat) (xs : List Int) (hx : IntsAt w0 pl xs) (hcap : CapsAt w0 p ls) :
    Calls Tryz.prog 77 #[bv p ls.length cap, .slice pl xs.length cl] w0 (Post (X := Unit) (fun _ => .tuple #[.int .i64 (if holI ls xs = 0 then worH ls xs else 0), .int .i64 (holI ls xs)]) (fun _ => True) (fun _ => []) w0) := by
  refine calls Tryz.func77 rfl (n := 43) rfl (by simp) ?_
  refine zr (TL.box rfl rfl dc (fun b0 hb0 => ?_))
  refine za rfl (za rfl (zn (TC.seq (zr (zq (PV.loadBox rfl Tb.agg_24 m9z rfl) rfl ?_)))))
  refine zm rfl (TL.call rfl Tb.gofn_55 (fun a w hs => checkHollow_ok w _ _ _ (hr.new hs.new) _ _ _ (hx.new hs.new)) rfl dc (fun _ _ => ?_))
  refine za rfl (zk (zm rfl (zq (PV.neq rfl rfl) rfl (zn (TC.cd rfl (fun hbad => ?_) (fun hbad => ?_))))))
  refine zr (zm rfl (za rfl (za rfl (zt (TQ.thenR (TQ.retE2 rfl rfl rfl ?_))))))
  exact ⟨(), by rw [if_neg hbad], trivial, nils⟩
  refine TC.skip (TQ.thenC (TC.seq ?_))
  have hb := (hol_nb hbad).1
  have hn := hb.vb.n
  have hd := hb.vb.d
  have hl9 := hb.len
  refine TC.region (za rfl (zn (TC.seq (zr (zm rfl (zq (PV.len rfl Tb.sl_25) rfl (zm rfl (zn (TC.block (TC.lit [(2, _), (4, _), (5, _), (7, _), (18, _), (19, _), (20, _)] l9z ?_))))))))))
  refine TC.loopG [2, 4, 5, 18, 19] (X := Nat × Unit) (fun k => k.1 ≤ xs.length) (fun k => [(20, .int .i64 k.1), (7, .int .i64 (worK ls xs k.1))]) (fun k => xs.length - k.1) (0, ()) (Nat.zero_le _) l9z ?_
  intro k hk
  refine TC.lit [(2, _), (4, _), (5, _), (7, _), (18, _), (19, _), (20, _)] l9z ?_
  refine zr (zq (PV.lss rfl rfl) rfl (zn (TC.seq (TC.cd rfl (fun hlt => ?_) (fun hlt => ?_)))))
  refine TC.skip (TQ.thenC (TC.seq (TC.block (TC.seq ?_))))
  obtain ⟨q2, hq2p, hq2⟩ := hx k.1 (by omega)
  refine TC.region (zm rfl (zq (PV.indexA rfl hq2p rfl Tb.elm_25 rfl om) rfl (zq (PV.loadOld rfl Tb.one_3 hq2) rfl (za rfl (za rfl (zn (TC.seq ?_)))))))
  obtain ⟨q, hqp, pj, cj, hq, hi⟩ := hr k.1 (by omega)
  have c1 := hb.vb.c k.1 (by omega)
  have a1 := hb.at_ k.1
  have hcj := hcap k.1 (by omega) _ _ _ _ hqp hq
  refine TC.region (zq (PV.fieldAddr rfl Tb.fo_24_0) rfl (zq (PV.load rfl Tb.one_22 m9z rfl) rfl ?_))
  refine zm rfl (zq (PV.indexA rfl hqp rfl Tb.elm_22 rfl om) rfl (zq (PV.loadOld rfl Tb.one_25 hq) rfl (zm rfl (zq (PV.sliceH (h := (xs.getD k.1 0).toNat) rfl rfl Tb.elm_25 om om) rfl (zq (PV.len rfl Tb.sl_25) rfl (zm rfl (zn (TC.block (TC.lit [(2, _), (4, _), (5, _), (7, _), (18, _), (19, _), (20, _), (31, _), (32, _), (33, _)] l9z ?_)))))))))
  refine TC.loopG [2, 4, 5, 18, 19, 20, 31, 32] (X := Nat × Unit) (fun u => (u.1 : Int) ≤ xs.getD k.1 0) (fun u => [(33, .int .i64 u.1), (7, .int .i64 (worK ls xs k.1 + sumN (ls.getD k.1 []) u.1))]) (fun u => (xs.getD k.1 0).toNat - u.1) (0, ()) (by have := hb.at_ k.1; simp only; omega) (by refine And.intro rfl (And.intro ?_ True.intro); show some _ = some _; congr 2; show _ = _ + 0; rw [Int.add_zero]) ?_
  intro u hu
  refine TC.lit [(2, _), (4, _), (5, _), (7, _), (18, _), (19, _), (20, _), (31, _), (32, _), (33, _)] l9z ?_
  refine zr (zq (PV.lss rfl rfl) rfl (zn (TC.seq (TC.cd rfl (fun hlt2 => ?_) (fun hlt2 => ?_)))))
  refine TC.skip (TQ.thenC (TC.seq (TC.block (TC.seq ?_))))
  obtain ⟨q3, hq3p, hq3⟩ := hi u.1 (by omega)
  have b1 := wor_bd hb k.1
  have b2 := sum_bd hb.vb k.1 u.1
  have b3 := hb.vb.w k.1 u.1
  refine TC.region (zq (PV.indexA (j := u.1) rfl ((cutA_0 _ _ _).trans hq3p) rfl Tb.elm_25 rfl om) rfl ?_)
  refine zq (PV.loadOld rfl Tb.one_3 hq3) rfl (za rfl (zn (TC.region (zm rfl (zm rfl (zq (PV.add rfl rfl om) rfl (za rfl (TL.nil (TQ.blkN (TQ.thenC (TC.region (zq (PV.add rfl rfl om) rfl (zm rfl (TL.nil (TQ.thenN (TQ.backK (u.1 + 1, ()) (by refine And.intro rfl (And.intro ?_ True.intro); show some _ = some _; congr 2; exact Int.add_assoc _ _ _) l9z s9z (by simp only; omega) (by simp only; omega)))))))))))))))))
  refine TC.exit (TQ.thenE (TQ.thenE (TQ.blkS (TQ.blkN (TQ.thenC ?_)))))
  have a1 := hb.at_ k.1
  have e8 : worK ls xs (k.1 + 1) = worK ls xs k.1 + sumN (ls.getD k.1 []) u.1 := by show _ + sumN _ (xs.getD k.1 0).toNat = _; rw [show (xs.getD k.1 0).toNat = u.1 by omega]
  refine TC.region (zq (PV.add rfl rfl om) rfl (zm rfl (TL.nil (TQ.thenN (TQ.backK (k.1 + 1, ()) (by rw [← e8]; refine And.intro rfl (And.intro rfl True.intro)) l9z s9z (by simp only; omega) (by simp only; omega))))))
  refine TC.exit (TQ.thenE (TQ.thenE (TQ.blkS (TQ.thenC (zr (zm rfl (za rfl (za rfl (zt (TQ.retE2 rfl rfl rfl ?_))))))))))
  have e9 : k.1 = xs.length := by omega
  exact ⟨(), by rw [if_pos (Decidable.of_not_not hbad), Decidable.of_not_not hbad]; unfold worH; rw [e9], trivial, nils⟩
end Go.Proofs.YtbnjmkidbfmomaaGreatDoor.C
