/- Lasting heapings, added to; heapings taken several times; orders. -/
import Derived.Test.YtgafpkcnhpoobaaGb
set_option linter.unusedVariables false
set_option linter.unusedSimpArgs false
namespace Go.Proofs.Ytgafpkcnhpoobaa
open Go.Sx Go.RowKit Go.Sand

theorem dl_smul {n : Nat} {l : Nat → Nat → Int} {g : Nat → Int} (k : Int) (m : Nat → Int) (i : Nat) : dl n l g (fun j => k * m j) i = k * dl n l g m i := by
  unfold dl
  rw [show (fun j => l i j * (k * m j)) = fun j => k * (l i j * m j) by funext j; grind, sm_mul]
  grind
theorem Alk.smul {n : Nat} {l : Nat → Nat → Int} {g : Nat → Int} {a b : Nat → Int} (k : Int) (h : Alk n l g a b) : Alk n l g (fun i => k * a i) (fun i => k * b i) := by
  obtain ⟨s, h⟩ := h
  exact ⟨fun j => k * s j, fun i hi => by
    show k * b i = k * a i - _
    rw [dl_smul, h i hi]; grind⟩
/-- What lasts still does so when turves are added. -/
theorem lst_add {n : Nat} {l : Nat → Nat → Int} {g : Nat → Int} (G : Gr n l g) (hd : ∀ i, i < n → l i i = 0) {c0 r c m : Nat → Int} (h0 : Lst n l g c0) (hr : ∀ i, i < n → 0 ≤ r i) (h : Stb n l g (fun i => c0 i + r i) c m) : Lst n l g c := by
  have hl : ∀ i, i < n → 1 ≤ lim n l g i := fun i hi => lim_pos G hi
  obtain ⟨low, ml, hlow⟩ := stb_ex G hd (t := fun i => 2 * lim n l g i) (fun i hi => by have := hl i hi; omega)
  have ha : ∀ i, i < n → lim n l g i ≤ 2 * lim n l g i - low i := fun i hi => by have := hlow.calm i hi; omega
  have hak : Alk n l g (fun _ => 0) (fun i => 2 * lim n l g i - low i) := by
    have h1 := hlow.toRun.alk.sub (Alk.refl (n := n) (l := l) (g := g) low)
    have h2 := h1.symm
    exact h2.congr (fun i _ => by omega) (fun i _ => rfl)
  obtain ⟨d, k, hs⟩ := stb_ex G hd (t := fun i => c0 i + (2 * lim n l g i - low i)) (fun i hi => by have := h0.c0 i hi; have := ha i hi; have := hl i hi; omega)
  have hdl : Lst n l g d := hs.lst G fun i hi => by have := h0.c0 i hi; have := ha i hi; omega
  have hck : Alk n l g c0 d := by
    have h1 := ((Alk.refl (n := n) (l := l) (g := g) c0).add hak).congr (a' := c0) (fun i _ => by omega) (fun i _ => rfl)
    exact h1.trans hs.toRun.alk
  have he : ∀ i, i < n → d i = c0 i := h0.unique G hdl hck
  have h3 := hs.toRun.comp (r := r) hr (h.congr (t' := fun i => d i + r i) (fun i hi => by rw [he i hi]) (fun _ _ => rfl) (fun _ _ => rfl))
  exact h3.lst G fun i hi => by have := h0.c0 i hi; have := ha i hi; have := hr i hi; omega
theorem lst_top {n : Nat} {l : Nat → Nat → Int} {g : Nat → Int} (G : Gr n l g) (hd : ∀ i, i < n → l i i = 0) {t c m : Nat → Int} (ht : ∀ i, i < n → lim n l g i - 1 ≤ t i) (h : Stb n l g t c m) : Lst n l g c := by
  refine lst_add G hd (c0 := fun i => lim n l g i - 1) (r := fun i => t i - (lim n l g i - 1)) ⟨fun i hi => by have := lim_pos G hi; omega, fun i _ => by omega, nf_top G⟩ (fun i hi => by have := ht i hi; omega) (m := m) ?_
  exact h.congr (fun i _ => by omega) (fun _ _ => rfl) (fun _ _ => rfl)
theorem las_add {ls : List (List Int)} {gs c0 r c m : List Int} (hB : HB ls gs) (h0 : LstL ls gs c0) (hr : ∀ k, 0 ≤ r.getD k 0) (h : StbL ls gs (adN c0 r 1) c m) : LstL ls gs c :=
  ⟨h.1, lst_add hB.G (fun i hi => hB.diag hi) h0.2 (r := gd r) (fun i _ => hr i) (h.2.2.congr (fun i hi => by
    show c0.getD i 0 + r.getD i 0 = (adN c0 r 1).getD i 0
    rw [ad_at (by rw [h0.1]; exact hi)]; omega) (fun _ _ => rfl) (fun _ _ => rfl))⟩
theorem alk_add {ls : List (List Int)} {gs a b c m : List Int} (hl : a.length = gs.length) (h : StbL ls gs (adN a b 1) c m) : Alk gs.length (lk ls) (gd gs) (fun i => gd a i + gd b i) (gd c) :=
  h.2.2.toRun.alk.congr (fun i hi => by
    show a.getD i 0 + b.getD i 0 = (adN a b 1).getD i 0
    rw [ad_at (by omega)]; omega) (fun _ _ => rfl)
abbrev alk (ls : List (List Int)) (gs : List Int) (a b : Nat → Int) : Prop := Alk gs.length (lk ls) (gd gs) a b
/-- What lasts and is alike to so many times a heaping. -/
def TimP (ls : List (List Int)) (gs xs : List Int) (n : Int) (c : List Int) : Prop := LstL ls gs c ∧ alk ls gs (fun i => n * gd xs i) (gd c)
theorem TimP.unique {ls : List (List Int)} {gs xs c d : List Int} {n : Int} (hB : HB ls gs) (h : TimP ls gs xs n c) (k : TimP ls gs xs n d) : c = d :=
  ints_ext (by rw [h.1.1, k.1.1]) fun j hj => (h.1.2.unique hB.G k.1.2 (h.2.symm.trans k.2) j (by rw [← h.1.1]; exact hj)).symm
theorem tim_las {ls : List (List Int)} {gs xs c : List Int} (h : LasP ls gs xs c) : TimP ls gs xs 1 c := ⟨h.1, h.2.congr (fun i _ => by show 1 * gd xs i = gd xs i; omega) (fun _ _ => rfl)⟩
theorem las_tim {ls : List (List Int)} {gs xs c : List Int} (h : TimP ls gs xs 1 c) : LasP ls gs xs c := ⟨h.1, h.2.congr (fun i _ => by show gd xs i = 1 * gd xs i; omega) (fun _ _ => rfl)⟩
theorem zer_tim {ls : List (List Int)} {gs c : List Int} (xs : List Int) (h : LasP ls gs (List.replicate gs.length 0) c) : TimP ls gs xs 0 c := ⟨h.1, h.2.congr (fun i _ => by show 0 * gd xs i = (List.replicate gs.length (0 : Int)).getD i 0; rw [rep_at]; omega) (fun _ _ => rfl)⟩
theorem tim_add {ls : List (List Int)} {gs xs a b c m : List Int} {n : Int} (hB : HB ls gs) (h : TimP ls gs xs n a) (hb : alk ls gs (gd xs) (gd b)) (hb0 : ∀ k, 0 ≤ b.getD k 0) (hs : StbL ls gs (adN a b 1) c m) : TimP ls gs xs (n + 1) c :=
  ⟨las_add hB h.1 hb0 hs, ((h.2.add hb).congr (a' := fun i => (n + 1) * gd xs i) (fun i _ => by rw [Int.add_mul, Int.one_mul]) (fun _ _ => rfl)).trans (alk_add h.1.1 hs)⟩
/-- All heapings come back after as many times as there are ones that last. -/
theorem det_alk {ls : List (List Int)} {gs : List Int} (hB : HB ls gs) (xs : List Int) : alk ls gs (fun _ => 0) (fun i => detF gs.length (mF ls gs) * gd xs i) :=
  ⟨fun k => - detF gs.length (repF (mF ls gs) k (gd xs)), fun i hi => by
    show detF gs.length (mat gs.length (lk ls) (gd gs)) * gd xs i = 0 - _
    rw [dl_neg (fun k => detF gs.length (repF (mF ls gs) k (gd xs))), det_script hB.n.2 _ hi]; omega⟩
theorem det_1 {ls : List (List Int)} {gs : List Int} (hB : HB ls gs) : 1 ≤ detF gs.length (mF ls gs) := by
  have h : 0 < detF gs.length (mF ls gs) := det_pos hB.n.2 hB.G
  omega
theorem det_hi {ls : List (List Int)} {gs : List Int} (hB : HB ls gs) : detF gs.length (mF ls gs) ≤ 2916000000 := (det_bn hB.n.2 (fun a b ha _ => mF_bd hB ha b)).2.2
theorem tab_safe {ls : List (List Int)} {gs : List Int} (hB : HB ls gs) : DSafe gs.length (getM (tabM gs.length (mF ls gs))) :=
  ((det_bn hB.n.2 (fun a b ha _ => mF_bd hB ha b)).1).congr fun a b ha hb => (getM_tab ha hb).symm
theorem tab_det {ls : List (List Int)} {gs : List Int} : detF gs.length (getM (tabM gs.length (mF ls gs))) = detF gs.length (mF ls gs) := detF_congr _ fun a b ha hb => getM_tab ha hb
/-- How often a heaping must be taken to come back. -/
structure OrdP (ls : List (List Int)) (gs xs : List Int) (n : Int) : Prop where
  pos : 1 ≤ n
  ret : alk ls gs (fun _ => 0) (fun i => n * gd xs i)
  min : ∀ j : Int, 1 ≤ j → j < n → ¬ alk ls gs (fun _ => 0) (fun i => j * gd xs i)
theorem OrdP.unique {ls : List (List Int)} {gs xs : List Int} {n k : Int} (h : OrdP ls gs xs n) (h2 : OrdP ls gs xs k) : n = k := by
  have h3 := h.pos
  have h4 := h2.pos
  rcases Int.lt_trichotomy n k with h5 | h5 | h5
  · exact absurd h.ret (h2.min n h3 h5)
  · exact h5
  · exact absurd h2.ret (h.min k h4 h5)
theorem ret_mod {ls : List (List Int)} {gs xs : List Int} {n k : Int} (h : alk ls gs (fun _ => 0) (fun i => n * gd xs i)) (h2 : alk ls gs (fun _ => 0) (fun i => k * gd xs i)) : alk ls gs (fun _ => 0) (fun i => k.tmod n * gd xs i) := by
  have h3 := h2.sub (Alk.smul (k.tdiv n) h)
  refine h3.congr (fun i _ => by omega) (fun i _ => ?_)
  have e := Int.tmod_def k n
  rw [e, Int.sub_mul]
  grind
theorem OrdP.dvd {ls : List (List Int)} {gs xs : List Int} {n k : Int} (h : OrdP ls gs xs n) (hk : 0 ≤ k) (h2 : alk ls gs (fun _ => 0) (fun i => k * gd xs i)) : k.tmod n = 0 := by
  have h3 := ret_mod h.ret h2
  have h4 := Int.tmod_nonneg n hk
  have h5 := Int.tmod_lt_of_pos k (show 0 < n by have := h.pos; omega)
  refine Classical.byContradiction fun h6 => ?_
  exact h.min _ (by omega) h5 h3
/-- A heaping that comes back so often is Zero then. -/
theorem zero_iff {ls : List (List Int)} {gs xs c z : List Int} {n : Int} (hB : HB ls gs) (hz : LasP ls gs (List.replicate gs.length 0) z) (h : TimP ls gs xs n c) : c = z ↔ alk ls gs (fun _ => 0) (fun i => n * gd xs i) := by
  have h0 : alk ls gs (fun _ => 0) (gd z) := hz.2.congr (fun i _ => (rep_at _ _).symm) (fun _ _ => rfl)
  constructor
  · rintro rfl
    exact h0.trans h.2.symm
  · intro h2
    exact (h.unique hB ⟨hz.1, h2.symm.trans h0⟩ )
/-- The heaping that undoes another one. -/
def BacP (ls : List (List Int)) (gs xs c : List Int) : Prop := TimP ls gs xs (-1) c
theorem bac_tim {ls : List (List Int)} {gs xs c : List Int} (hB : HB ls gs) (h : TimP ls gs xs (detF gs.length (mF ls gs) - 1) c) : BacP ls gs xs c :=
  ⟨h.1, ((det_alk hB xs).add (Alk.refl (n := gs.length) (l := lk ls) (g := gd gs) (fun i => -1 * gd xs i))).congr (a' := fun i => -1 * gd xs i) (b' := fun i => (detF gs.length (mF ls gs) - 1) * gd xs i) (fun i _ => by omega) (fun i _ => by rw [Int.sub_mul]; omega) |>.trans h.2⟩
/-- The state of taking a heaping several times. -/
structure TmI (ls : List (List Int)) (gs xs : List Int) (N : Int) (n : Int) (o ys : List Int) : Prop where
  n0 : 0 ≤ n
  nN : n ≤ N
  ol : LstL ls gs o
  yl : ys.length = gs.length
  y0 : ∀ k, 0 ≤ ys.getD k 0 ∧ ys.getD k 0 ≤ 30
  k : alk ls gs (fun i => N * gd xs i) (fun i => gd o i + n * gd ys i)
theorem TmI.start {ls : List (List Int)} {gs xs z : List Int} {N : Int} (hN : 0 ≤ N) (hz : LasP ls gs (List.replicate gs.length 0) z) (hl : xs.length = gs.length) (h0 : ∀ k, 0 ≤ xs.getD k 0 ∧ xs.getD k 0 ≤ 30) : TmI ls gs xs N N z xs :=
  ⟨hN, Int.le_refl _, hz.1, hl, h0, (hz.2.add (Alk.refl (n := gs.length) (l := lk ls) (g := gd gs) (fun i => N * gd xs i))).congr (fun i _ => by show N * gd xs i = (List.replicate gs.length (0 : Int)).getD i 0 + N * gd xs i; rw [rep_at]; omega) (fun _ _ => rfl)⟩
theorem TmI.odd {ls : List (List Int)} {gs xs o ys c m d k : List Int} {N n : Int} (hB : HB ls gs) (h : TmI ls gs xs N n o ys) (ho : n.tmod 2 = 1) (h1 : StbL ls gs (adN o ys 1) c m) (h2 : StbL ls gs (adN ys ys 1) d k) : TmI ls gs xs N (n.tdiv 2) c d := by
  have e := Int.tmod_def n 2
  have e2 : n = 2 * n.tdiv 2 + 1 := by omega
  have hn := h.n0
  have hq : 0 ≤ n.tdiv 2 := by omega
  refine ⟨hq, by have := h.nN; omega, las_add hB h.ol (fun k => (h.y0 k).1) h1, h2.1, fun k => by have := stb_c hB h2 k; omega, ?_⟩
  have h3 := (alk_add h.ol.1 h1).add (Alk.smul (n.tdiv 2) (alk_add h.yl h2))
  refine h.k.trans (h3.congr (fun i _ => ?_) (fun _ _ => rfl))
  conv => lhs; rw [e2]
  grind
theorem TmI.even {ls : List (List Int)} {gs xs o ys d k : List Int} {N n : Int} (hB : HB ls gs) (h : TmI ls gs xs N n o ys) (ho : ¬ n.tmod 2 = 1) (h2 : StbL ls gs (adN ys ys 1) d k) : TmI ls gs xs N (n.tdiv 2) o d := by
  have e := Int.tmod_def n 2
  have hn := h.n0
  have h5 := Int.tmod_lt_of_pos n (show (0 : Int) < 2 by omega)
  have h6 := Int.tmod_nonneg 2 hn
  have e2 : n = 2 * n.tdiv 2 := by omega
  have hq : 0 ≤ n.tdiv 2 := by omega
  refine ⟨hq, by have := h.nN; omega, h.ol, h2.1, fun k => by have := stb_c hB h2 k; omega, ?_⟩
  have h3 := (Alk.refl (n := gs.length) (l := lk ls) (g := gd gs) (gd o)).add (Alk.smul (n.tdiv 2) (alk_add h.yl h2))
  refine h.k.trans (h3.congr (fun i _ => ?_) (fun _ _ => rfl))
  conv => lhs; rw [e2]
  grind
theorem TmI.fin {ls : List (List Int)} {gs xs o ys : List Int} {N n : Int} (h : TmI ls gs xs N n o ys) (hn : ¬ 0 < n) : TimP ls gs xs N o := by
  have h0 := h.n0
  obtain rfl : n = 0 := by omega
  exact ⟨h.ol, h.k.congr (fun _ _ => rfl) (fun i _ => by omega)⟩


end Go.Proofs.Ytgafpkcnhpoobaa
