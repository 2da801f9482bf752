/- Ck Cj Cc Ha -/
import Derived.Test.YtbnjmkidbfmomaaGreatDoorW05
import Derived.Test.YtbnjmkidbfmomaaGreatDoorW06
import Derived.Test.YtbnjmkidbfmomaaGreatDoorW07
import Derived.Test.YtbnjmkidbfmomaaGreatDoorW08
import Derived.Test.YtbnjmkidbfmomaaGreatDoorW10
set_option linter.unusedVariables false
set_option linter.unusedSimpArgs false
set_option maxRecDepth 100000
namespace Go.Proofs.YtbnjmkidbfmomaaGreatDoor.C
open Go.Sx Go.RowKit
theorem op_ne {ls : List (List Int)} {xs : List Int} {c : Nat} (h : opB ls xs c = true) : ¬ xs.getD c 0 = (dep ls : Int) := fun e => by rw [op_full e] at h; cases h
theorem op_near {ls : List (List Int)} {xs : List Int} {c d : Nat} (h : opB ls xs c = true) (hd : d < ls.length) (hn : (d : Int) = c - 1 ∨ (d : Int) = c + 1) : xs.getD c 0 ≤ xs.getD d 0 := by
  unfold opB at h
  rw [Bool.and_eq_true] at h
  have h1 : (d : Int) ∈ nearL ls c := by
    unfold nearL
    rw [List.mem_filter]
    refine ⟨by rcases hn with e | e <;> simp [e], ?_⟩
    unfold nrB wiB
    exact decide_eq_true (by omega)
  have := of_decide_eq_true (List.all_eq_true.1 h.2 _ h1)
  simpa using this
theorem set_at {xs : List Int} {c d : Nat} {v : Int} (hc : c < xs.length) : (xs.set c v).getD d 0 = if c = d then v else xs.getD d 0 := by
  simp only [List.getD_eq_getElem?_getD, List.getElem?_set]
  by_cases h : c = d
  · subst h
    simp [hc]
  · simp [h]
theorem worK_set {ls : List (List Int)} {k : List Int} {c : Nat} (hk : c < k.length) (h0 : 0 ≤ k.getD c 0) : ∀ n, worK ls (k.set c (k.getD c 0 + 1)) n = worK ls k n + if c < n then (ls.getD c []).getD (k.getD c 0).toNat 0 else 0
  | 0 => by simp [worK]
  | n + 1 => by
    have ih := worK_set hk h0 n (ls := ls)
    show worK ls (k.set c (k.getD c 0 + 1)) n + sumN (ls.getD n []) ((k.set c (k.getD c 0 + 1)).getD n 0).toNat = worK ls k n + sumN (ls.getD n []) (k.getD n 0).toNat + _
    rw [ih, set_at hk]
    by_cases e : c = n
    · subst e
      rw [if_pos rfl, if_neg (Nat.lt_irrefl _), if_pos (by omega), show (k.getD c 0 + 1).toNat = (k.getD c 0).toNat + 1 by omega]
      show _ + (sumN (ls.getD c []) _ + (ls.getD c []).getD _ 0) = _
      omega
    · rw [if_neg e]
      by_cases h : c < n
      · rw [if_pos h, if_pos (by omega)]
        omega
      · rw [if_neg h, if_neg (by omega)]
        omega
theorem op_get {ls : List (List Int)} {xs : List Int} : ∀ {n u : Nat}, u < (opN ls xs n).length → ∃ c : Nat, c < n ∧ (opN ls xs n).getD u 0 = c ∧ opB ls xs c = true
  | 0, u, h => by simp [opN] at h
  | n + 1, u, h => by
    unfold opN at h ⊢
    by_cases hb : opB ls xs n = true
    · rw [if_pos hb] at h ⊢
      rw [List.length_append, List.length_singleton] at h
      by_cases hu : u < (opN ls xs n).length
      · obtain ⟨c, h1, h2, h3⟩ := op_get hu
        exact ⟨c, by omega, by rw [← h2, List.getD_eq_getElem?_getD, List.getElem?_append_left hu, List.getD_eq_getElem?_getD], h3⟩
      · refine ⟨n, by omega, ?_, hb⟩
        rw [List.getD_eq_getElem?_getD, List.getElem?_append_right (by omega), show u - (opN ls xs n).length = 0 by omega]
        rfl
    · rw [if_neg hb] at h ⊢
      obtain ⟨c, h1, h2, h3⟩ := op_get h
      exact ⟨c, by omega, h2, h3⟩
theorem op_idx {ls : List (List Int)} {xs : List Int} {c : Nat} (hb : opB ls xs c = true) : ∀ {n : Nat}, c < n → ∃ u, u < (opN ls xs n).length ∧ (opN ls xs n).getD u 0 = c
  | 0, h => by omega
  | n + 1, h => by
    unfold opN
    by_cases e : c = n
    · subst e
      rw [if_pos hb]
      refine ⟨(opN ls xs c).length, by simp, ?_⟩
      rw [List.getD_eq_getElem?_getD, List.getElem?_append_right (Nat.le_refl _), Nat.sub_self]
      rfl
    · obtain ⟨u, h1, h2⟩ := op_idx hb (n := n) (by omega)
      split
      · exact ⟨u, by rw [List.length_append]; omega, by rw [← h2, List.getD_eq_getElem?_getD, List.getElem?_append_left h1, List.getD_eq_getElem?_getD]⟩
      · exact ⟨u, h1, h2⟩
end Go.Proofs.YtbnjmkidbfmomaaGreatDoor.C
namespace Go.Proofs.YtbnjmkidbfmomaaGreatDoor.C
open Go.Sx Go.RowKit
abbrev upL (xs : List Int) (c : Nat) : List Int := xs.set c (xs.getD c 0 + 1)
theorem pad_at {xs : List Int} (c : Nat) : (pad6 xs).getD c 0 = xs.getD c 0 := by
  unfold pad6
  simp only [List.getD_eq_getElem?_getD]
  by_cases h : c < xs.length
  · rw [List.getElem?_append_left h]
  · rw [List.getElem?_append_right (by omega), List.getElem?_eq_none (l := xs) (by omega), List.getElem?_replicate]
    split <;> rfl
theorem up_at {xs : List Int} {c k : Nat} (hc : c < xs.length) : (upL xs c).getD k 0 = if c = k then xs.getD c 0 + 1 else xs.getD k 0 := set_at hc
theorem HO.up {ls : List (List Int)} {xs : List Int} {c : Nat} (h : HO ls xs) (hc : c < ls.length) (ho : opB ls (pad6 xs) c = true) : HO ls (upL xs c) := by
  have hl := h.len
  have hn := op_ne ho
  rw [pad_at] at hn
  have hnear : ∀ d : Nat, d < ls.length → ((d : Int) = c - 1 ∨ (d : Int) = c + 1) → xs.getD c 0 ≤ xs.getD d 0 := fun d hd he => by
    have := op_near ho hd he
    rwa [pad_at, pad_at] at this
  have ha := h.at_ c
  refine ⟨⟨h.vb, by rw [List.length_set]; exact hl, fun k => ?_⟩, fun k hk => ?_⟩
  · rw [up_at (by omega)]
    have := h.at_ k
    split <;> omega
  · rw [up_at (by omega), up_at (by omega)]
    have hs := h.stp k hk
    by_cases e1 : c = k + 1
    · subst e1
      rw [if_pos rfl, if_neg (by omega)]
      have := hnear k (by omega) (.inl (by omega))
      omega
    · by_cases e2 : c = k
      · subst e2
        rw [if_neg (by omega), if_pos rfl]
        have := hnear (c + 1) hk (.inr (by omega))
        omega
      · rw [if_neg e1, if_neg e2]; exact hs
theorem opn_ok {ls : List (List Int)} {xs : List Int} (h : ¬ holI ls xs ≠ 0) : opnI ls xs = opN ls (pad6 xs) ls.length := if_pos (Decidable.of_not_not h)
end Go.Proofs.YtbnjmkidbfmomaaGreatDoor.C
namespace Go.Proofs.YtbnjmkidbfmomaaGreatDoor.C
open Go.Sx Go.RowKit
theorem mem_getD {xs : List Int} {v : Int} : v ∈ xs ↔ ∃ k, k < xs.length ∧ xs.getD k 0 = v := by
  constructor
  · intro h
    obtain ⟨j, hj, rfl⟩ := List.getElem_of_mem h
    exact ⟨j, hj, by simp [List.getD, hj]⟩
  · rintro ⟨k, hk, rfl⟩
    simp [List.getD, hk]
theorem mem_op {ls : List (List Int)} {xs : List Int} {n : Nat} {v : Int} (h0 : 0 ≤ v) (hn : v < n) : v ∈ opN ls xs n ↔ opB ls xs v.toNat = true := by
  rw [mem_getD]
  constructor
  · rintro ⟨k, hk, e⟩
    obtain ⟨c, h1, h2, h3⟩ := op_get hk
    obtain rfl : v = c := by rw [← e, h2]
    rwa [Int.toNat_natCast]
  · intro h
    obtain ⟨u, h1, h2⟩ := op_idx h (n := n) (by omega)
    exact ⟨u, h1, by omega⟩
theorem rep_at (n k : Nat) : (List.replicate n (0 : Int)).getD k 0 = 0 := by
  by_cases hk : k < n <;> simp [List.getD, hk]
theorem ho_zero {ls : List (List Int)} (hv : VB ls) : HO ls (List.replicate ls.length 0) :=
  ⟨⟨hv, by simp, fun k => by rw [rep_at]; omega⟩, fun k _ => by rw [rep_at, rep_at]; omega⟩
theorem indexI_ok (w0 : World) (pl : Option Addr) (cl : Nat) (xs : List Int) (hx : IntsAt w0 pl xs) (hl : xs.length ≤ 1000000) (v : Int) :
    Calls Tryz.prog 215 #[.slice pl xs.length cl, .int .i64 v] w0 (Post (X := Int) (fun i => .int .i64 i) (fun i => (i = -1 ∧ ∀ j, j < xs.length → ¬ v = xs.getD j 0) ∨ (0 ≤ i ∧ ∃ k, k < xs.length ∧ v = xs.getD k 0)) (fun _ => []) w0) := by
  refine calls Tryz.func215 rfl (n := 19) rfl (by simp) ?_
  refine zr (za rfl (zn (TC.seq (zr (zm rfl (zq (PV.len rfl Tb.sl_25) rfl (zm rfl (zn (TC.block (TC.loopG [0, 1, 7] (X := Nat) (fun k => k ≤ xs.length ∧ ∀ j, j < k → ¬ v = xs.getD j 0) (fun k => [(8, .int .i64 k)]) (fun k => xs.length - k) 0 ⟨Nat.zero_le _, fun j hj => absurd hj (Nat.not_lt_zero _)⟩ l9z ?_))))))))))
  intro k hk
  refine zr (zq (PV.lss rfl rfl) rfl (zn (TC.seq (TC.cd rfl (fun hlt => ?_) (fun hlt => ?_)))))
  refine TC.skip (TQ.thenC (TC.seq (TC.block (zr (zm rfl (za rfl (zn (TC.seq ?_))))))))
  obtain ⟨q2, hq2p, hq2⟩ := hx k (by omega)
  refine TC.region (zm rfl (zm rfl (zm rfl (zq (PV.indexA rfl hq2p rfl Tb.elm_25 rfl om) rfl (zq (PV.loadOld rfl Tb.one_3 hq2) rfl (zq (PV.eql rfl rfl) rfl (zn (TC.cd rfl (fun hno => ?_) (fun hno => ?_)))))))))
  refine zr (zm rfl (za rfl (zt (TQ.blkR (TQ.thenR (TQ.thenR (TQ.blkR (TQ.thenR (TQ.retE1 rfl rfl ?_)))))))))
  first | exact ⟨k, rfl, .inr ⟨by omega, k, by omega, hno⟩, nils⟩ | exact ⟨-1, rfl, .inl ⟨rfl, fun j hj => hk.2 j (by omega)⟩, nils⟩
  refine TC.skip (TQ.blkN (TQ.thenC (TC.region (zq (PV.add rfl rfl om) rfl (zm rfl (TL.nil (TQ.thenN (TQ.backK (k + 1) l9z l9z s9z ⟨by omega, fun j hj => if e : j < k then hk.2 j e else (show k = j by omega) ▸ hno⟩ om))))))))
  refine TC.exit (TQ.thenE (TQ.thenE (TQ.blkS (TQ.thenC (zr (za rfl (zt (TQ.retE1 rfl rfl ?_))))))))
  first | exact ⟨k, rfl, .inr ⟨by omega, k, by omega, hno⟩, nils⟩ | exact ⟨-1, rfl, .inl ⟨rfl, fun j hj => hk.2 j (by omega)⟩, nils⟩
theorem containsI_ok (w0 : World) (pl : Option Addr) (cl : Nat) (xs : List Int) (hx : IntsAt w0 pl xs) (hl : xs.length ≤ 1000000) (v : Int) :
    Calls Tryz.prog 185 #[.slice pl xs.length cl, .int .i64 v] w0 (Post (X := Unit) (fun _ => .bool (decide (v ∈ xs))) (fun _ => True) (fun _ => []) w0) := by
  refine calls Tryz.func185 rfl (n := 9) rfl (by simp) ?_
  refine zr (za rfl (zk (zm rfl (zm rfl (TL.call rfl Tb.gofn_215 (fun a w hs => indexI_ok w _ _ xs (hx.new hs.new) hl v) rfl dc (fun i9 hi9 => ?_))))))
  refine zq (PV.geq rfl rfl) rfl (za rfl (zt (TQ.retE1 rfl rfl ?_)))
  refine ⟨(), ?_, trivial, nils⟩
  congr 1
  rw [decide_eq_decide, mem_getD]
  rcases hi9 with ⟨rfl, h9⟩ | ⟨h9, k, hk, hk2⟩
  exact ⟨fun h => absurd h (by decide), fun ⟨k, hk, h⟩ => absurd h.symm (h9 k hk)⟩
  exact ⟨fun _ => ⟨k, hk, hk2.symm⟩, fun _ => h9⟩
end Go.Proofs.YtbnjmkidbfmomaaGreatDoor.C
namespace Go.Proofs.YtbnjmkidbfmomaaGreatDoor.H
open Go.Sx Go.RowKit Go.Sand
abbrev hv (p : Option Addr) (n c : Nat) (q : Option Addr) (k d : Nat) : Value := .agg #[.slice p n c, .slice q k d]
def wiB (a lo hi : Int) : Bool := decide (lo ≤ a ∧ a ≤ hi)
theorem all_no {α : Type} {l : List α} {f : α → Bool} {k : Nat} {d : α} (hk : k < l.length) (h : f (l.getD k d) = false) : l.all f = false := by
  rw [Bool.eq_false_iff]
  intro h1
  have := List.all_eq_true.1 h1 (l.getD k d) (by simp [List.getD, hk])
  rw [this] at h
  cases h
theorem all_yes {α : Type} {l : List α} {f : α → Bool} {d : α} (h : ∀ k, k < l.length → f (l.getD k d) = true) : l.all f = true := by
  refine List.all_eq_true.2 fun x hx => ?_
  obtain ⟨j, hj, rfl⟩ := List.getElem_of_mem hx
  have := h j hj
  simpa [List.getD, hj] using this
theorem all_at' {α : Type} {l : List α} {f : α → Bool} {k : Nat} {d : α} (h : l.all f = true) (hk : k < l.length) : f (l.getD k d) = true := by
  rw [List.all_eq_true] at h
  exact h _ (by simp [List.getD, hk])
def numB (n most : Int) (xs : List Int) : Bool := decide ((xs.length : Int) = n) && xs.all fun x => wiB x 0 most
abbrev lk (ls : List (List Int)) : Nat → Nat → Int := fun i j => getM ls i j
abbrev gd (gs : List Int) : Nat → Int := fun i => gs.getD i 0
def MutP (ls : List (List Int)) (n : Nat) : Prop := ∀ i j, i < n → j < n → getM ls i j = getM ls j i ∧ (i = j → getM ls i j = 0)
structure Shp (ls : List (List Int)) (gs : List Int) : Prop where
  n : 1 ≤ gs.length ∧ gs.length ≤ 5
  len : ls.length = gs.length
  row : ∀ k, k < ls.length → numB gs.length 2 (ls.getD k []) = true
  gr : numB gs.length 2 gs = true
  mu : MutP ls gs.length
def JoiP (ls : List (List Int)) (gs : List Int) : Prop := ∀ i, i < gs.length → Rch gs.length (lk ls) (gd gs) i
open Classical in
noncomputable def validI (ls : List (List Int)) (gs : List Int) : Int := if Shp ls gs then if JoiP ls gs then 0 else 9 else 1
theorem valid_1 {ls : List (List Int)} {gs : List Int} (h : ¬ Shp ls gs) : validI ls gs = 1 := if_neg h
theorem valid_9 {ls : List (List Int)} {gs : List Int} (h : Shp ls gs) (h2 : ¬ JoiP ls gs) : validI ls gs = 9 := by unfold validI; rw [if_pos h, if_neg h2]
theorem valid_0 {ls : List (List Int)} {gs : List Int} (h : Shp ls gs) (h2 : JoiP ls gs) : validI ls gs = 0 := by unfold validI; rw [if_pos h, if_pos h2]
theorem num_len {n most : Int} {xs : List Int} (h : numB n most xs = true) : (xs.length : Int) = n := by
  unfold numB at h
  simp only [Bool.and_eq_true, decide_eq_true_eq] at h
  exact h.1
theorem num_at {n most : Int} {xs : List Int} (h : numB n most xs = true) (h0 : 0 ≤ most) (k : Nat) : 0 ≤ xs.getD k 0 ∧ xs.getD k 0 ≤ most := by
  unfold numB at h
  simp only [Bool.and_eq_true, decide_eq_true_eq] at h
  by_cases hk : k < xs.length
  · have := all_at' (d := 0) h.2 hk
    exact of_decide_eq_true this
  · have e : xs.getD k 0 = 0 := by simp [List.getD, hk]
    omega
theorem num_1 {n most : Int} {xs : List Int} (h : ¬ (xs.length : Int) = n) : numB n most xs = false := by unfold numB; rw [decide_eq_false h, Bool.false_and]
theorem Shp.rowl {ls : List (List Int)} {gs : List Int} (h : Shp ls gs) {k : Nat} (hk : k < ls.length) : (ls.getD k []).length = gs.length := by
  have := num_len (h.row k hk)
  omega
theorem Shp.ent {ls : List (List Int)} {gs : List Int} (h : Shp ls gs) (i j : Nat) : 0 ≤ getM ls i j ∧ getM ls i j ≤ 2 := by
  by_cases hi : i < ls.length
  · exact num_at (h.row i hi) (by decide) j
  · have e : ls.getD i [] = [] := by simp [List.getD, hi]
    unfold getM
    rw [e]
    exact ⟨by simp, by simp⟩
theorem Shp.gat {ls : List (List Int)} {gs : List Int} (h : Shp ls gs) (i : Nat) : 0 ≤ gs.getD i 0 ∧ gs.getD i 0 ≤ 2 := num_at h.gr (by decide) i
structure HB (ls : List (List Int)) (gs : List Int) : Prop extends Shp ls gs where
  G : Gr gs.length (lk ls) (gd gs)
theorem hb_of {ls : List (List Int)} {gs : List Int} (h : ¬ validI ls gs ≠ 0) : HB ls gs := by
  have h0 := Decidable.of_not_not h
  by_cases h1 : Shp ls gs
  · by_cases h2 : JoiP ls gs
    · exact ⟨h1, ⟨fun i j _ _ => (h1.ent i j).1, fun i j hi hj => (h1.mu i j hi hj).1, fun i _ => (h1.gat i).1, h2⟩⟩
    · rw [valid_9 h1 h2] at h0; cases h0
  · rw [valid_1 h1] at h0; cases h0
def Fst (φ : Int → Bool) (xs : List Int) (i : Int) : Prop := (i = -1 ∧ ∀ j, j < xs.length → φ (xs.getD j 0) = false) ∨ ∃ k : Nat, i = k ∧ k < xs.length ∧ φ (xs.getD k 0) = true
theorem fst_any {φ : Int → Bool} {xs : List Int} {i : Int} (h : Fst φ xs i) : xs.any φ = decide (0 ≤ i) := by
  rcases h with ⟨rfl, h⟩ | ⟨k, rfl, hk, h⟩
  · rw [decide_eq_false (by decide), List.any_eq_false]
    intro x hx
    obtain ⟨j, hj, rfl⟩ := List.getElem_of_mem hx
    have := h j hj
    simpa [List.getD, hj] using this
  · rw [decide_eq_true (by omega), List.any_eq_true]
    exact ⟨xs.getD k 0, by simp [List.getD, hk], h⟩
theorem any_all (most : Int) : ∀ xs : List Int, (!xs.any fun x => decide (x < 0) || decide (most < x)) = xs.all fun x => wiB x 0 most
  | [] => rfl
  | x :: xs => by
    rw [List.any_cons, List.all_cons, Bool.not_or, any_all most xs]
    congr 1
    unfold wiB
    rw [Bool.eq_iff_iff]
    simp
theorem indexFunc_ok (w0 : World) (pl : Option Addr) (cl : Nat) (xs : List Int) (hx : IntsAt w0 pl xs) (hl : xs.length ≤ 1000000) (f : FuncId) (caps : List Value) (φ : Int → Bool) (hfn : goFn Tryz.prog f = true) (hcb : ∀ w G, New w0 w G → ∀ x : Int, Calls Tryz.prog f (Value.int .i64 x :: caps).toArray w (Post (X := Unit) (fun _ => .bool (φ x)) (fun _ => True) (fun _ => []) w)) :
    Calls Tryz.prog 202 #[.slice pl xs.length cl, .func (.func f) #[] caps.toArray] w0 (Post (X := Int) (fun i => .int .i64 i) (fun i => Fst φ xs i) (fun _ => []) w0) := by
  refine calls Tryz.func202 rfl (n := 19) rfl (by simp) ?_
  refine zr (za rfl (zn (TC.seq (zr (zm rfl (zq (PV.len rfl Tb.sl_25) rfl (zm rfl (zn (TC.block (TC.loopG [0, 1, 7] (X := Nat) (fun k => k ≤ xs.length ∧ ∀ j, j < k → φ (xs.getD j 0) = false) (fun k => [(8, .int .i64 k)]) (fun k => xs.length - k) 0 ⟨Nat.zero_le _, fun j hj => absurd hj (Nat.not_lt_zero _)⟩ l9z ?_))))))))))
  intro k hk
  refine zr (zq (PV.lss rfl rfl) rfl (zn (TC.seq (TC.cd rfl (fun hlt => ?_) (fun hlt => ?_)))))
  refine TC.skip (TQ.thenC (TC.seq (TC.block (zr (zm rfl (za rfl (zn (TC.seq ?_))))))))
  obtain ⟨q2, hq2p, hq2⟩ := hx k (by omega)
  refine TC.region (zm rfl (zm rfl (zm rfl (zq (PV.indexA rfl hq2p rfl Tb.elm_25 rfl om) rfl (zq (PV.loadOld rfl Tb.one_3 hq2) rfl (TL.callF (f := f) (caps := caps) (X := Unit) (fun _ => .bool (φ (xs.getD k 0))) (fun _ => True) (fun _ => []) rfl rfl hfn (fun a w hs => (hcb w _ hs.new (xs.getD k 0)).mono fun e w' ⟨x9, h1, h2, h3⟩ => ⟨x9, h1, h2, hs.new.trans h3⟩) rfl dc (fun _ _ => ?_)))))))
  refine zn (TC.cd rfl (fun hno => ?_) (fun hno => ?_))
  refine zr (zm rfl (za rfl (zt (TQ.blkR (TQ.thenR (TQ.thenR (TQ.blkR (TQ.thenR (TQ.retE1 rfl rfl ?_)))))))))
  first | exact ⟨k, rfl, .inr ⟨k, rfl, by omega, by simpa using hno⟩, nils⟩ | exact ⟨-1, rfl, .inl ⟨rfl, fun j hj => hk.2 j (by omega)⟩, nils⟩
  refine TC.skip (TQ.blkN (TQ.thenC (TC.region (zq (PV.add rfl rfl om) rfl (zm rfl (TL.nil (TQ.thenN (TQ.backK (k + 1) l9z l9z s9z ⟨by omega, fun j hj => if e : j < k then hk.2 j e else (show k = j by omega) ▸ (by simpa using hno)⟩ om))))))))
  refine TC.exit (TQ.thenE (TQ.thenE (TQ.blkS (TQ.thenC (zr (za rfl (zt (TQ.retE1 rfl rfl ?_))))))))
  first | exact ⟨k, rfl, .inr ⟨k, rfl, by omega, by simpa using hno⟩, nils⟩ | exact ⟨-1, rfl, .inl ⟨rfl, fun j hj => hk.2 j (by omega)⟩, nils⟩
theorem containsFunc_ok (w0 : World) (pl : Option Addr) (cl : Nat) (xs : List Int) (hx : IntsAt w0 pl xs) (hl : xs.length ≤ 1000000) (f : FuncId) (caps : List Value) (φ : Int → Bool) (hfn : goFn Tryz.prog f = true) (hcb : ∀ w G, New w0 w G → ∀ x : Int, Calls Tryz.prog f (Value.int .i64 x :: caps).toArray w (Post (X := Unit) (fun _ => .bool (φ x)) (fun _ => True) (fun _ => []) w)) :
    Calls Tryz.prog 170 #[.slice pl xs.length cl, .func (.func f) #[] caps.toArray] w0 (Post (X := Unit) (fun _ => .bool (xs.any φ)) (fun _ => True) (fun _ => []) w0) := by
  refine calls Tryz.func170 rfl (n := 9) rfl (by simp) ?_
  refine zr (za rfl (zk (zm rfl (zm rfl (TL.call rfl Tb.gofn_202 (fun a w hs => indexFunc_ok w _ _ xs (hx.new hs.new) hl f caps φ hfn (fun w2 G2 hn2 x => hcb w2 _ (hs.new.trans hn2) x)) rfl dc (fun i9 hi9 => ?_))))))
  refine zq (PV.geq rfl rfl) rfl (za rfl (zt (TQ.retE1 rfl rfl ?_)))
  exact ⟨(), by rw [fst_any hi9], trivial, nils⟩
theorem areNumbersF_ok (w0 : World) (x most : Int) (a : Addr) (ha : w0.cell? a = some (.int .i64 most)) :
    Calls Tryz.prog 171 #[.int .i64 x, .pointer (some a)] w0 (Post (X := Unit) (fun _ => .bool (decide (x < 0) || decide (most < x))) (fun _ => True) (fun _ => []) w0) := by
  refine calls Tryz.func171 rfl (n := 11) rfl (by simp) ?_
  refine zr (za rfl (zk (zm rfl (zq (PV.lss rfl rfl) rfl (zm rfl (TL.sp 6 rfl (fun e1 => ?_) (fun e1 => ?_)))))))
  refine zx rfl (zx rfl (zx rfl (zq (PV.pickT rfl rfl) rfl (za rfl (zt (TQ.retE1 rfl rfl ?_))))))
  first | exact ⟨(), by rw [decide_eq_true e1]; rfl, trivial, nils⟩ | exact ⟨(), by rw [decide_eq_false e1]; rfl, trivial, nils⟩
  refine zm rfl (zq (PV.loadOld rfl Tb.one_3 (ha)) rfl (zq (PV.gtr rfl rfl) rfl (zq (PV.pickF rfl rfl) rfl (za rfl (zt (TQ.retE1 rfl rfl ?_))))))
  first | exact ⟨(), by rw [decide_eq_true e1]; rfl, trivial, nils⟩ | exact ⟨(), by rw [decide_eq_false e1]; rfl, trivial, nils⟩
theorem areNumbers_ok (w0 : World) (pl : Option Addr) (cl : Nat) (xs : List Int) (hx : IntsAt w0 pl xs) (hl : xs.length ≤ 1000000) (n most : Int) :
    Calls Tryz.prog 135 #[.slice pl xs.length cl, .int .i64 n, .int .i64 most] w0 (Post (X := Unit) (fun _ => .bool (numB n most xs)) (fun _ => True) (fun _ => []) w0) := by
  refine calls Tryz.func135 rfl (n := 17) rfl (by simp) ?_
  refine zr (TL.box rfl rfl dc (fun b0 hb0 => ?_))
  refine za rfl (zk (zm rfl (zq (PV.len rfl Tb.sl_25) rfl (zm rfl (zq (PV.eql rfl rfl) rfl (zm rfl (TL.sp 11 rfl (fun e1 => ?_) (fun e1 => ?_))))))))
  refine zm rfl (zq (PV.makeFunc rfl) rfl (TL.call rfl Tb.gofn_170 (fun a w hs => containsFunc_ok w _ _ xs (hx.new hs.new) hl 171 [.pointer (some ⟨b0, 0, none⟩)] (fun x => decide (x < 0) || decide (most < x)) Tb.gofn_171 (fun w2 G2 hn2 x => areNumbersF_ok w2 x most ⟨b0, 0, none⟩ ((hs.new.trans hn2).cell m9z rfl))) rfl dc (fun _ _ => ?_)))
  refine zq ((by first | exact PV.notD rfl | exact PV.not rfl)) rfl ?_
  refine zq (PV.pickT rfl rfl) rfl (za rfl (zt (TQ.retE1 rfl rfl ?_)))
  first | exact ⟨(), by unfold numB; rw [decide_eq_true e1, any_all]; rfl, trivial, nils⟩ | exact ⟨(), by rw [num_1 e1], trivial, nils⟩
  refine zx rfl (zx rfl (zx rfl (zx rfl (zq (PV.pickF rfl rfl) rfl (za rfl (zt (TQ.retE1 rfl rfl ?_)))))))
  first | exact ⟨(), by unfold numB; rw [decide_eq_true e1, any_all]; rfl, trivial, nils⟩ | exact ⟨(), by rw [num_1 e1], trivial, nils⟩
end Go.Proofs.YtbnjmkidbfmomaaGreatDoor.H
