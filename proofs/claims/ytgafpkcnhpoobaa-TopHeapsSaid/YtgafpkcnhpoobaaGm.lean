/- How many heapings last, the group of them, Back, Turns, Lasting, Script: the mathematics of the laws. -/
import Derived.Test.YtgafpkcnhpoobaaGf
set_option linter.unusedVariables false
set_option linter.unusedSimpArgs false
namespace Go.Proofs.Ytgafpkcnhpoobaa
open Go.Sx Go.RowKit Go.Sand

theorem ZerP.unique {ls : List (List Int)} {gs c d : List Int} (h : ZerP ls gs c) (k : ZerP ls gs d) : c = d := by
  by_cases h0 : validI ls gs ≠ 0
  · rw [h.bad h0, k.bad h0]
  · exact (h.ok h0).unique (hb_of h0) (k.ok h0)
theorem ZerP.len {ls : List (List Int)} {gs c : List Int} (h : ZerP ls gs c) : c.length ≤ 1000000 := by
  by_cases h0 : validI ls gs ≠ 0
  · rw [h.bad h0]; exact Nat.zero_le _
  · have := (h.ok h0).1.1
    have := (hb_of h0).n
    omega
theorem ScrP.len {ls : List (List Int)} {gs xs ys s : List Int} {b : Bool} (h : ScrP ls gs xs ys s b) : s.length ≤ 1000000 := by
  by_cases h0 : givI ls gs [xs, ys] ≠ 0
  · rw [(h.bad h0).1]; exact Nat.zero_le _
  · cases b with
    | true =>
      have := (h.yes h0 rfl).1
      have := (giv_hb h0).1.n
      omega
    | false => rw [(h.no h0 rfl).1]; exact Nat.zero_le _
theorem turns_dvd {ls : List (List Int)} {gs xs : List Int} {n : Int} (h : TurP ls gs xs n) (h0 : ¬ vlI ls gs xs ≠ 0) : 1 ≤ n ∧ (couI ls gs).tmod n = 0 := by
  have hB := (giv_hb (vl_of h0).1).1
  have h1 := h.ok h0
  have h2 := det_1 hB
  refine ⟨h1.pos, ?_⟩
  rw [cou_ok (giv_val (vl_of h0).1)]
  exact h1.dvd (by omega) (det_alk hB xs)
theorem cou_bd (ls : List (List Int)) (gs : List Int) : 0 ≤ couI ls gs ∧ couI ls gs ≤ 2916000000 := by
  by_cases h : validI ls gs ≠ 0
  · rw [cou_bad h]; decide
  · rw [cou_ok h]
    have := det_1 (hb_of h)
    have := det_hi (hb_of h)
    omega
theorem lst_giv {ls : List (List Int)} {gs c : List Int} (hB : HB ls gs) (hv : ¬ validI ls gs ≠ 0) (h : LstL ls gs c) : c.length = gs.length ∧ ∀ k, 0 ≤ c.getD k 0 ∧ c.getD k 0 ≤ 30 := ⟨h.1, fun k => by have := lst_c hB h k; omega⟩
theorem lastings {ls : List (List Int)} {gs xs l s a : List Int} {b c : Bool} (hg : ¬ givI ls gs [xs] ≠ 0) (h : LagP ls gs xs l) (hb : LtP ls gs l b) (hs : ScrP ls gs xs l s c) (ha : LagP ls gs l a) : givI ls gs [l] = 0 ∧ b = true ∧ givI ls gs [xs, l] = 0 ∧ c = true ∧ a = l := by
  have hB := (giv_hb hg).1
  have h1 := h.ok hg
  have g0 := giv_ne hg
  have g1 : givI ls gs [l] = 0 := giv_yes (giv_val hg) fun x hx => by
    obtain rfl : x = l := by simpa using hx
    exact lst_giv hB (giv_val hg) h1.1
  have g2 : givI ls gs [xs, l] = 0 := giv_yes (giv_val hg) fun x hx => by
    rcases List.mem_cons.1 hx with rfl | hx
    · exact g0
    · obtain rfl : x = l := by simpa using hx
      exact lst_giv hB (giv_val hg) h1.1
  refine ⟨g1, (hb.ok (by rw [g1]; decide)).2 h1.1.2, g2, ?_, ?_⟩
  · cases c with
    | true => rfl
    | false => exact absurd h1.2 (hs.no (by rw [g2]; decide) rfl).2
  · exact (ha.ok (by rw [g1]; decide)).unique hB ⟨h1.1, Alk.refl _⟩
theorem scripts {ls : List (List Int)} {gs xs ys s l m : List Int} {b : Bool} (hg : ¬ givI ls gs [xs, ys] ≠ 0) (hs : ScrP ls gs xs ys s b) (hl : LagP ls gs xs l) (hm : LagP ls gs ys m) : givI ls gs [xs] = 0 ∧ givI ls gs [ys] = 0 ∧ decide (l = m) = b := by
  have hB := (giv_hb hg).1
  obtain ⟨g1, g2⟩ := giv_two hg
  have e1 : givI ls gs [xs] = 0 := giv_yes (giv_val hg) fun x hx => by
    obtain rfl : x = xs := by simpa using hx
    exact g1
  have e2 : givI ls gs [ys] = 0 := giv_yes (giv_val hg) fun x hx => by
    obtain rfl : x = ys := by simpa using hx
    exact g2
  have h1 := hl.ok (by rw [e1]; decide)
  have h2 := hm.ok (by rw [e2]; decide)
  refine ⟨e1, e2, ?_⟩
  cases b with
  | true =>
    obtain ⟨h3, h4⟩ := hs.yes hg rfl
    exact decide_eq_true (h1.unique hB ⟨h2.1, Alk.trans ⟨gd s, h4⟩ h2.2⟩)
  | false =>
    refine decide_eq_false fun e => (hs.no hg rfl).2 ?_
    exact h1.2.trans (by rw [e]; exact h2.2.symm)
theorem groups {ls : List (List Int)} {gs A B x y z sum same back none undone : List Int} {b : Bool} (h1 : ¬ givI ls gs [A] ≠ 0) (h2 : ¬ givI ls gs [B] ≠ 0) (hx : LagP ls gs A x) (hy : LagP ls gs B y) (hz : ZerP ls gs z) (hs : AddP ls gs x y sum) (hb : LtP ls gs sum b) (hsa : AddP ls gs x z same) (hk : BagP ls gs x back) (hn : AddP ls gs x back none) (hu : AddP ls gs sum back undone) :
    givI ls gs [x, y] = 0 ∧ givI ls gs [sum] = 0 ∧ b = true ∧ givI ls gs [x, z] = 0 ∧ same = x ∧ vlI ls gs x = 0 ∧ givI ls gs [x, back] = 0 ∧ none = z ∧ givI ls gs [sum, back] = 0 ∧ undone = y := by
  have hB := (giv_hb h1).1
  have hv := giv_val h1
  have lx := hx.ok h1
  have ly := hy.ok h2
  have lz := hz.ok hv
  have gg : ∀ {c d : List Int}, LstL ls gs c → LstL ls gs d → givI ls gs [c, d] = 0 := fun {c d} hc hd => giv_yes hv fun x hx => by
    rcases List.mem_cons.1 hx with rfl | hx
    · exact lst_giv hB hv hc
    · obtain rfl : x = d := by simpa using hx
      exact lst_giv hB hv hd
  have g1 : ∀ {c : List Int}, LstL ls gs c → givI ls gs [c] = 0 := fun {c} hc => giv_yes hv fun x hx => by
    obtain rfl : x = c := by simpa using hx
    exact lst_giv hB hv hc
  have n0 : ∀ {c : List Int}, LstL ls gs c → ∀ k, 0 ≤ c.getD k 0 := fun hc k => (lst_c hB hc k).1
  have e1 := gg lx.1 ly.1
  obtain ⟨m1, s1⟩ := hs.ok (by rw [e1]; decide)
  have lsum : LstL ls gs sum := las_add hB lx.1 (n0 ly.1) s1
  have e3 := gg lx.1 lz.1
  obtain ⟨m2, s2⟩ := hsa.ok (by rw [e3]; decide)
  have lsame : LstL ls gs same := las_add hB lx.1 (n0 lz.1) s2
  have ev : vlI ls gs x = 0 := vl_0 (by rw [g1 lx.1]; decide) lx.1.2
  have lback := hk.ok (by rw [ev]; decide)
  have e5 := gg lx.1 lback.1
  obtain ⟨m3, s3⟩ := hn.ok (by rw [e5]; decide)
  have lnone : LstL ls gs none := las_add hB lx.1 (n0 lback.1) s3
  have e6 := gg lsum lback.1
  obtain ⟨m4, s4⟩ := hu.ok (by rw [e6]; decide)
  have lund : LstL ls gs undone := las_add hB lsum (n0 lback.1) s4
  have z0 : alk ls gs (fun _ => 0) (gd z) := lz.2.congr (fun i _ => (rep_at _ _).symm) (fun _ _ => rfl)
  have bk : alk ls gs (gd back) (fun i => -1 * gd x i) := lback.2.symm
  have una : ∀ {c d : List Int}, LstL ls gs c → LstL ls gs d → alk ls gs (gd c) (gd d) → d = c := fun {c d} hc hd ha => ints_ext (by rw [hc.1, hd.1]) fun j hj => hc.2.unique hB.G hd.2 ha j (by rw [← hd.1]; exact hj)
  refine ⟨e1, g1 lsum, (hb.ok (by rw [g1 lsum]; decide)).2 lsum.2, e3, ?_, ev, e5, ?_, e6, ?_⟩
  · refine una lx.1 lsame ?_
    exact (((Alk.refl (n := gs.length) (l := lk ls) (g := gd gs) (gd x)).add z0).congr (a' := gd x) (fun i _ => by omega) (fun _ _ => rfl)).trans (alk_add lx.1.1 s2)
  · refine una lz.1 lnone ?_
    have h3 := ((Alk.refl (n := gs.length) (l := lk ls) (g := gd gs) (gd x)).add lback.2).congr (a' := fun _ => 0) (fun i _ => by omega) (fun _ _ => rfl)
    exact z0.symm.trans (h3.trans (alk_add lx.1.1 s3))
  · refine una ly.1 lund ?_
    have h4 := (alk_add lx.1.1 s1).add lback.2
    have h5 := h4.congr (a' := gd y) (fun i _ => by omega) (fun _ _ => rfl)
    exact h5.trans (alk_add lsum.1 s4)
theorem tmod_hi {a : Int} (h : 0 ≤ a ∧ a ≤ 2916000000) (b : Int) : 0 ≤ a.tmod b ∧ a.tmod b ≤ 2916000000 := by
  refine ⟨Int.tmod_nonneg b h.1, ?_⟩
  obtain ⟨n, rfl⟩ := Int.eq_ofNat_of_zero_le h.1
  cases b with
  | ofNat m =>
    have := Nat.mod_le n m
    show ((n % m : Nat) : Int) ≤ _
    omega
  | negSucc m =>
    have := Nat.mod_le n (m + 1)
    show ((n % (m + 1) : Nat) : Int) ≤ _
    omega


end Go.Proofs.Ytgafpkcnhpoobaa
