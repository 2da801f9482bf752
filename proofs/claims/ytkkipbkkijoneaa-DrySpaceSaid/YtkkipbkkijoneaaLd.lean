/- The rank by elimination without fractions: contract. -/
import Derived.Test.YtkkipbkkijoneaaLc
set_option linter.unusedVariables false
set_option linter.unusedSimpArgs false
namespace Go.Proofs.Ytkkipbkkijoneaa
open Go.Sx Go.RowKit Go.Sand

theorem dt_bd : ∀ (k : Nat) (l : List Row), (∀ r ∈ l, ∀ q, (r q).natAbs ≤ 3) → (dt k l).natAbs ≤ Nat.rec (motive := fun _ => Nat) 1 (fun m v => (m + 1) * (3 * v)) k
  | 0, l, _ => Nat.le_refl _
  | k + 1, [], _ => Nat.zero_le _
  | k + 1, r :: rs, h => by
    have key : ∀ (B : Nat) (f : Nat → Int) (m : Nat), (∀ j, j < m → (f j).natAbs ≤ B) → (sm m f).natAbs ≤ m * B := fun B f m => by
      induction m with
      | zero => intro _; exact Nat.zero_le _
      | succ m ih =>
        intro hf
        show (sm m f + f m).natAbs ≤ _
        have h1 := ih fun j hj => hf j (by omega)
        have h2 := hf m (by omega)
        have h3 := Int.natAbs_add_le (sm m f) (f m)
        rw [Nat.add_mul, Nat.one_mul]
        omega
    rw [dt_cons]
    refine key _ _ _ fun j hj => ?_
    have h1 := dt_bd k (rs.map (del j)) fun x hx q => by
      obtain ⟨y, hy, rfl⟩ := List.mem_map.1 hx
      exact h y (List.mem_cons_of_mem _ hy) _
    have h2 := h r List.mem_cons_self j
    have h3 : (sg j).natAbs = 1 := by unfold sg; split <;> rfl
    rw [Int.natAbs_mul, Int.natAbs_mul, h3, Nat.one_mul]
    exact Nat.mul_le_mul h2 h1
theorem Ab_bd {M : Nat → Row} (hM : ∀ i j, -3 ≤ M i j ∧ M i j ≤ 3) {R C : List Nat} (h : R.length < 6) (i j : Nat) : -1000000 ≤ Ab M R C i j ∧ Ab M R C i j ≤ 1000000 := by
  have h1 := dt_bd (R.length + 1) (sub M (i :: R) (j :: C)) fun x hx q => by
    obtain ⟨y, hy, rfl⟩ := List.mem_map.1 hx
    have := hM y ((j :: C).getD q 0)
    show (M y ((j :: C).getD q 0)).natAbs ≤ 3
    omega
  have h2 : ∀ k, k < 7 → (Nat.rec (motive := fun _ => Nat) 1 (fun m v => (m + 1) * (3 * v)) k : Nat) ≤ 1000000 := by decide
  have h3 := h2 (R.length + 1) (by omega)
  unfold Ab
  omega
/-- Two elements changed. -/
def swp (P : List Nat) (a b : Nat) : List Nat := (P.set a (P.getD b 0)).set b (P.getD a 0)
theorem swp_len (P : List Nat) (a b : Nat) : (swp P a b).length = P.length := by simp [swp]
theorem swp_at {P : List Nat} {a b : Nat} (ha : a < P.length) (hb : b < P.length) (t : Nat) : (swp P a b).getD t 0 = if t = b then P.getD a 0 else if t = a then P.getD b 0 else P.getD t 0 := by
  unfold swp
  rw [List.getD_eq_getElem?_getD, List.getElem?_set]
  by_cases h1 : b = t
  · subst h1; simp [hb]
  · rw [if_neg h1, if_neg (fun h => h1 h.symm), List.getElem?_set]
    by_cases h2 : a = t
    · subst h2; simp [ha]
    · rw [if_neg h2, if_neg (fun h => h2 h.symm), ← List.getD_eq_getElem?_getD]
theorem mem_drop {P : List Nat} {r x : Nat} : x ∈ P.drop r ↔ ∃ u, r ≤ u ∧ u < P.length ∧ P.getD u 0 = x := by
  constructor
  · intro h
    obtain ⟨j, hj, e⟩ := List.getElem_of_mem h
    rw [List.length_drop] at hj
    refine ⟨r + j, by omega, by omega, ?_⟩
    rw [← e, List.getElem_drop, List.getD_eq_getElem?_getD, List.getElem?_eq_getElem (by omega)]
    rfl
  · rintro ⟨u, h1, h2, rfl⟩
    have : P.getD u 0 = (P.drop r)[u - r]'(by rw [List.length_drop]; omega) := by
      rw [List.getElem_drop, List.getD_eq_getElem?_getD, List.getElem?_eq_getElem h2]
      simp [show r + (u - r) = u by omega]
    rw [this]
    exact List.getElem_mem _
/-- The outer slice: which row stands where; the rows' memory stays. -/
def rwI (hs : Nat → HD) (N : Nat) : Rec Nat where
  cells i := [gval (hs i) N]
  sz := 1
  len := fun _ => rfl
  one := fun r v hv => by rw [List.mem_singleton.1 hv]; exact gval_one _ _
  pos := by decide
def blk (hs : Nat → HD) (L : Nat → List Int) (l : List Nat) : Heap := l.flatMap fun i => gbI (hs i, L i)
theorem fm_congr {l : List Nat} {f g : Nat → Heap} (h : ∀ x ∈ l, f x = g x) : l.flatMap f = l.flatMap g := by
  induction l with
  | nil => rfl
  | cons x l ih => rw [List.flatMap_cons, List.flatMap_cons, h x List.mem_cons_self, ih fun y hy => h y (List.mem_cons_of_mem _ hy)]
theorem blk_mem {hs : Nat → HD} {L : Nat → List Int} {l : List Nat} {i : Nat} (h : i ∈ l) : ∀ y ∈ gbI (hs i, L i), y ∈ blk hs L l := fun y hy => List.mem_flatMap.2 ⟨i, h, hy⟩
def upL (L : Nat → List Int) (i : Nat) (v : List Int) : Nat → List Int := fun j => if j = i then v else L j
def preI (i : Nat) : List Nat := List.range i
def posI (S i : Nat) : List Nat := List.range' (i + 1) (S - (i + 1))
theorem split_I {S i : Nat} (h : i < S) : List.range S = preI i ++ i :: posI S i := by
  unfold preI posI
  rw [List.range_eq_range', List.range_eq_range']
  have h1 : List.range' 0 S = List.range' 0 (i + (S - i)) := by rw [show i + (S - i) = S by omega]
  rw [h1, ← List.range'_append_1, show 0 + i = i by omega]
  congr 1
  rw [show S - i = (S - (i + 1)) + 1 by omega, List.range'_succ]
theorem blk_at {hs : Nat → HD} {L : Nat → List Int} {S i : Nat} (h : i < S) (v : List Int) (T : Heap) :
    blk hs (upL L i v) (List.range S) ++ T = blk hs L (preI i) ++ (gbI (hs i, v) ++ (blk hs L (posI S i) ++ T)) := by
  have e1 : blk hs (upL L i v) (preI i) = blk hs L (preI i) := by
    unfold blk
    refine fm_congr fun j hj => ?_
    have : j < i := List.mem_range.1 hj
    show gbI (hs j, if j = i then v else L j) = _
    rw [if_neg (by omega)]
  have e2 : blk hs (upL L i v) (posI S i) = blk hs L (posI S i) := by
    unfold blk
    refine fm_congr fun j hj => ?_
    have : i + 1 ≤ j := (List.mem_range'_1.1 hj).1
    show gbI (hs j, if j = i then v else L j) = _
    rw [if_neg (by omega)]
  rw [split_I h]
  unfold blk at e1 e2 ⊢
  rw [List.flatMap_append, List.flatMap_cons, e1, e2]
  show _ ++ (gbI (hs i, if i = i then v else L i) ++ _) ++ T = _
  rw [if_pos rfl]
  simp only [List.append_assoc]
theorem upL_self {L : Nat → List Int} {i : Nat} : upL L i (L i) = L := funext fun j => by unfold upL; split <;> simp_all
structure RX9 where
  c : Nat
  R : List Nat
  C : List Nat
  P : List Nat
  L : Nat → List Int
structure RK (M : Nat → Row) (S N : Nat) (hX : HD) (hs : Nat → HD) (x : RX9) : Prop where
  el : El M x.R x.C (x.P.drop x.R.length) x.c
  pl : x.P.length = S
  pb : ∀ t, t < S → x.P.getD t 0 < S
  pi : ∀ t u, t < S → u < S → x.P.getD t 0 = x.P.getD u 0 → t = u
  ps : ∀ i, i < S → ∃ t, t < S ∧ x.P.getD t 0 = i
  pr : ∀ t, t < x.R.length → x.P.getD t 0 ∈ x.R
  rb : ∀ y ∈ x.R, y < S
  go : goR (rwI hs N) hX x.P
  ok : ∀ i, i < S → goI (hs i, x.L i) ∧ (x.L i).length = N
  lv : ∀ t, x.R.length ≤ t → t < S → x.L (x.P.getD t 0) = mk N (Ab M x.R x.C (x.P.getD t 0))
  rl : x.R.length ≤ S
theorem RK.skip {M : Nat → Row} {S N : Nat} {hX : HD} {hs : Nat → HD} {x : RX9} (h : RK M S N hX hs x) (h0 : ∀ t, x.R.length ≤ t → t < S → Ab M x.R x.C (x.P.getD t 0) x.c = 0) : RK M S N hX hs ⟨x.c + 1, x.R, x.C, x.P, x.L⟩ :=
  ⟨h.el.skip fun i hi => by
    obtain ⟨u, h1, h2, rfl⟩ := mem_drop.1 hi
    exact h0 u h1 (by rw [← h.pl]; exact h2), h.pl, h.pb, h.pi, h.ps, h.pr, h.rb, h.go, h.ok, h.lv, h.rl⟩
structure MD (M : Nat → Row) (S N : Nat) (hs : Nat → HD) (x : RX9) (P : List Nat) (t : Nat) (L : Nat → List Int) : Prop where
  ok : ∀ i, i < S → goI (hs i, L i) ∧ (L i).length = N
  hp : L (P.getD x.R.length 0) = mk N (Ab M x.R x.C (P.getD x.R.length 0))
  dn : ∀ u, x.R.length + 1 ≤ u → u < x.R.length + 1 + t → u < S → L (P.getD u 0) = mk N (Ab M (P.getD x.R.length 0 :: x.R) (x.c :: x.C) (P.getD u 0))
  td : ∀ u, x.R.length + 1 + t ≤ u → u < S → L (P.getD u 0) = mk N (Ab M x.R x.C (P.getD u 0))
structure SW (S : Nat) (x : RX9) (k : Nat) (P : List Nat) : Prop where
  pl : P.length = S
  pb : ∀ t, t < S → P.getD t 0 < S
  pi : ∀ t u, t < S → u < S → P.getD t 0 = P.getD u 0 → t = u
  ps : ∀ i, i < S → ∃ t, t < S ∧ P.getD t 0 = i
  p0 : P.getD x.R.length 0 = x.P.getD (x.R.length + k) 0
  pt : ∀ t, t < x.R.length → P.getD t 0 = x.P.getD t 0
  pv : ∀ u, x.R.length ≤ u → u < S → ∃ v, x.R.length ≤ v ∧ v < S ∧ P.getD u 0 = x.P.getD v 0
theorem RK.sw {M : Nat → Row} {S N : Nat} {hX : HD} {hs : Nat → HD} {x : RX9} (h : RK M S N hX hs x) {k : Nat} (hk : x.R.length + k < S) : SW S x k (swp x.P x.R.length (x.R.length + k)) := by
  have hpl := h.pl
  have hat := fun t => swp_at (P := x.P) (a := x.R.length) (b := x.R.length + k) (by omega) (by omega) t
  refine ⟨by rw [swp_len]; exact hpl, fun t ht => ?_, fun t u ht hu e => ?_, fun i hi => ?_, ?_, fun t ht => ?_, fun u h1 h2 => ?_⟩
  · rw [hat]
    split
    · exact h.pb _ (by omega)
    · split
      · exact h.pb _ (by omega)
      · exact h.pb _ ht
  · rw [hat, hat] at e
    have a1 := h.pi t u ht hu
    have a2 := h.pi x.R.length u (by omega) hu
    have a3 := h.pi (x.R.length + k) u (by omega) hu
    have a4 := h.pi t x.R.length ht (by omega)
    have a5 := h.pi t (x.R.length + k) ht (by omega)
    have a6 := h.pi x.R.length (x.R.length + k) (by omega) (by omega)
    have a7 := h.pi (x.R.length + k) x.R.length (by omega) (by omega)
    split at e <;> split at e <;> (try split at e) <;> (try split at e) <;> first | omega | (have := a1 e; omega) | (have := a2 e; omega) | (have := a3 e; omega) | (have := a4 e; omega) | (have := a5 e; omega) | (have := a6 e; omega) | (have := a7 e; omega)
  · obtain ⟨t, ht, e⟩ := h.ps i hi
    by_cases h1 : t = x.R.length
    · exact ⟨x.R.length + k, hk, by rw [hat, if_pos rfl, ← e, h1]⟩
    · by_cases h2 : t = x.R.length + k
      · exact ⟨x.R.length, by omega, by rw [hat, if_neg (by omega), if_pos rfl, ← e, h2]⟩
      · exact ⟨t, ht, by rw [hat, if_neg h2, if_neg h1]; exact e⟩
  · rw [hat]
    by_cases h1 : x.R.length = x.R.length + k
    · rw [if_pos h1, ← h1]
    · rw [if_neg h1, if_pos rfl]
  · rw [hat, if_neg (by omega), if_neg (by omega)]
  · rw [hat]
    split
    · exact ⟨x.R.length, Nat.le_refl _, by omega, rfl⟩
    · split
      · exact ⟨x.R.length + k, by omega, hk, rfl⟩
      · exact ⟨u, h1, h2, rfl⟩
theorem MD.zero {M : Nat → Row} {S N : Nat} {hX : HD} {hs : Nat → HD} {x : RX9} (h : RK M S N hX hs x) {k : Nat} {P : List Nat} (hs' : SW S x k P) (hr : x.R.length < S) : MD M S N hs x P 0 x.L := by
  refine ⟨h.ok, ?_, fun u h1 h2 => by omega, fun u h1 h2 => ?_⟩
  · obtain ⟨v, h1, h2, e⟩ := hs'.pv x.R.length (Nat.le_refl _) hr
    rw [e]; exact h.lv v h1 h2
  · obtain ⟨v, h3, h4, e⟩ := hs'.pv u (by omega) h2
    rw [e]; exact h.lv v h3 h4
theorem md_step {M : Nat → Row} {S N : Nat} {hs : Nat → HD} {x : RX9} {k : Nat} {P : List Nat} {t : Nat} {L : Nat → List Int} (h : MD M S N hs x P t L) (hs' : SW S x k P) (ht : x.R.length + 1 + t < S) {v : List Int}
    (hv : v = mk N (Ab M (P.getD x.R.length 0 :: x.R) (x.c :: x.C) (P.getD (x.R.length + 1 + t) 0))) : MD M S N hs x P (t + 1) (upL L (P.getD (x.R.length + 1 + t) 0) v) := by
  have hne : ∀ u, u < S → u ≠ x.R.length + 1 + t → upL L (P.getD (x.R.length + 1 + t) 0) v (P.getD u 0) = L (P.getD u 0) := fun u hu hne => if_neg fun e => hne (hs'.pi u _ hu ht e)
  have hi := hs'.pb _ ht
  refine ⟨fun i hi2 => ?_, ?_, fun u h1 h2 h3 => ?_, fun u h1 h2 => ?_⟩
  · unfold upL
    by_cases e : i = P.getD (x.R.length + 1 + t) 0
    · rw [if_pos e]
      have := h.ok i hi2
      have hvl : v.length = N := by rw [hv, mk_len]
      exact ⟨go_lenI this.1 (by rw [this.2, hvl]), hvl⟩
    · rw [if_neg e]; exact h.ok i hi2
  · rw [hne _ (by omega) (by omega)]; exact h.hp
  · by_cases e : u = x.R.length + 1 + t
    · subst e
      show (if _ then v else _) = _
      rw [if_pos rfl, hv]
    · rw [hne u h3 e]; exact h.dn u h1 (by omega) h3
  · rw [hne u h2 (by omega)]; exact h.td u (by omega) h2
theorem RK.next {M : Nat → Row} {S N : Nat} {hX : HD} {hs : Nat → HD} {x : RX9} (h : RK M S N hX hs x) {k : Nat} {P : List Nat} (hs' : SW S x k P) (hr : x.R.length < S) (hpc : Ab M x.R x.C (P.getD x.R.length 0) x.c ≠ 0) (hg : goR (rwI hs N) hX P)
    {t : Nat} {L : Nat → List Int} (hm : MD M S N hs x P t L) (ht : x.R.length + 1 + t = S) : RK M S N hX hs ⟨x.c + 1, P.getD x.R.length 0 :: x.R, x.c :: x.C, P, L⟩ where
  el := h.el.step (mem_drop.2 (by obtain ⟨v, h1, h2, e⟩ := hs'.pv x.R.length (Nat.le_refl _) hr; exact ⟨v, h1, by rw [h.pl]; exact h2, e.symm⟩)) hpc (fun i hi => by
    obtain ⟨u, h1, h2, rfl⟩ := mem_drop.1 hi
    rw [List.length_cons] at h1
    rw [hs'.pl] at h2
    obtain ⟨v, h3, h4, e⟩ := hs'.pv u (by omega) h2
    exact mem_drop.2 ⟨v, h3, by rw [h.pl]; exact h4, e.symm⟩)
  pl := hs'.pl
  pb := hs'.pb
  pi := hs'.pi
  ps := hs'.ps
  pr := fun u hu => by
    rw [List.length_cons] at hu
    by_cases e : u = x.R.length
    · subst e; exact List.mem_cons_self
    · rw [hs'.pt u (by omega)]; exact List.mem_cons_of_mem _ (h.pr u (by omega))
  rb := fun y hy => by
    rcases List.mem_cons.1 hy with rfl | hy
    · exact hs'.pb _ hr
    · exact h.rb y hy
  go := hg
  ok := hm.ok
  lv := fun u h1 h2 => hm.dn u h1 (by omega) h2
  rl := by rw [List.length_cons]; omega
theorem RK.rank {M : Nat → Row} {S N : Nat} {hX : HD} {hs : Nat → HD} {x : RX9} (h : RK M S N hX hs x) (hc : x.c = N) : IsRk M S N x.R.length where
  yes := by
    have hd := h.el.d
    have hlen := h.el.len
    refine ⟨x.R, x.C, rfl, hlen, ?_, h.el.cd.imp fun h => by omega, h.rb, fun y hy => by rw [← hc]; exact h.el.cl y hy, hd⟩
    refine Decidable.byContradiction fun hn => ?_
    obtain ⟨a, y, b, c, e⟩ := not_nodup hn
    refine hd ?_
    unfold Dn
    rw [e]
    unfold sub
    simp only [List.map_append, List.map_cons]
    exact dt_rep _ _ _ _ _ (by simp; omega)
  no := fun I J hI hJ hi hj => by
    have hel := h.el
    rw [hc] at hel
    have := hel.dep (S := S) (fun i hi => by
      obtain ⟨t, ht, rfl⟩ := h.ps i hi
      by_cases hr : t < x.R.length
      · exact .inl (h.pr t hr)
      · exact .inr (mem_drop.2 ⟨t, by omega, by rw [h.pl]; exact ht, rfl⟩)) J hJ hj I [] hi (fun y hy => by cases hy) (by simpa using hI)
    simpa using this


end Go.Proofs.Ytkkipbkkijoneaa
