/- Which trades and plans are right, and what a plan costs: the reference, and the laws' first contract. -/
import Derived.Test.YtghlkndanpegbaaBa
set_option linter.unusedVariables false
set_option linter.unusedSimpArgs false
namespace Go.Proofs.Ytghlkndanpegbaa
open Go.Sx Go.RowKit Go.Sand

/-- A row in new memory. -/
structure RW where
  h : HD
  l : List Int
  deriving Inhabited
def rwR : Rec RW where
  cells r := [gval r.h r.l.length]
  sz := 1
  len := fun _ => rfl
  one := fun r v hv => by rw [List.mem_singleton.1 hv]; exact gval_one _ _
  pos := by decide
def rwB (rs : List RW) : Heap := rs.flatMap fun r => gbI (r.h, r.l)
def rwOk (rs : List RW) : Prop := ∀ r ∈ rs, goI (r.h, r.l)
theorem rwB_mem {rs : List RW} {r : RW} (h : r ∈ rs) : ∀ y ∈ gbI (r.h, r.l), y ∈ rwB rs := fun y hy => List.mem_flatMap.2 ⟨r, h, hy⟩
theorem rw_at {rs : List RW} {j : Nat} (hj : j < rs.length) : rs.getD j default ∈ rs := by simp [List.getD, hj]
theorem LsAt.rw {w0 w : World} {G : Heap} {h : HD} {rs : List RW} (hn : New w0 w G) (hm : ∀ y ∈ gbR rwR 22 h rs, y ∈ G) (hm2 : ∀ y ∈ rwB rs, y ∈ G) (ho : goR rwR h rs) (hok : rwOk rs) : LsAt w (gp h) (rs.map RW.l) := by
  have hr := RecsAt.s (R := rwR) hn hm ho
  intro j hj
  rw [List.length_map] at hj
  obtain ⟨q, hq, hc⟩ := hr j hj
  have hmem := rw_at hj
  have e : (rs.map RW.l).getD j [] = (rs.getD j default).l := by simp [List.getD, hj]
  have h1 := hok _ hmem
  have c0 := hc 0 _ rfl
  rw [gval_eq h1, addr_add_add] at c0
  rw [e]
  exact ⟨q, hq, _, _, c0, IntsAt.g (x := ((rs.getD j default).h, (rs.getD j default).l)) hn (fun y hy => hm2 y (rwB_mem hmem y hy)) h1⟩
def mx (f g : Nat → Int) (j q : Nat) : Int := if q < j then f q else g q
theorem mx_zero {N : Nat} {f g : Nat → Int} : mk N (mx f g 0) = mk N g := mk_congr fun q _ => if_neg (Nat.not_lt_zero _)
theorem mx_all {N j : Nat} {f g : Nat → Int} (h : N ≤ j) : mk N (mx f g j) = mk N f := mk_congr fun q hq => if_pos (by omega)
theorem mx_set {N j : Nat} {f g : Nat → Int} {v : Int} (hj : j < N) (hv : v = f j) : (mk N (mx f g j)).set j v = mk N (mx f g (j + 1)) :=
  mk_set hj (by rw [hv]; exact (if_pos (by omega)).symm) fun q _ hq => by
    unfold mx
    by_cases h : q < j
    · rw [if_pos h, if_pos (by omega)]
    · rw [if_neg h, if_neg (by omega)]
/-- The outer slice: which row stands where; the rows' memory stays. -/
def rwI (hs : Nat → HD) (N : Nat) : Rec Nat where
  cells i := [gval (hs i) N]
  sz := 1
  len := fun _ => rfl
  one := fun r v hv => by rw [List.mem_singleton.1 hv]; exact gval_one _ _
  pos := by decide
def blk (hs : Nat → HD) (L : Nat → List Int) (l : List Nat) : Heap := l.flatMap fun i => gbI (hs i, L i)
theorem fm_congr {l : List Nat} {f g : Nat → Heap} (h : ∀ x ∈ l, f x = g x) : l.flatMap f = l.flatMap g := by
  induction l with
  | nil => rfl
  | cons x l ih => rw [List.flatMap_cons, List.flatMap_cons, h x List.mem_cons_self, ih fun y hy => h y (List.mem_cons_of_mem _ hy)]
theorem blk_mem {hs : Nat → HD} {L : Nat → List Int} {l : List Nat} {i : Nat} (h : i ∈ l) : ∀ y ∈ gbI (hs i, L i), y ∈ blk hs L l := fun y hy => List.mem_flatMap.2 ⟨i, h, hy⟩
def upL (L : Nat → List Int) (i : Nat) (v : List Int) : Nat → List Int := fun j => if j = i then v else L j
def preI (i : Nat) : List Nat := List.range i
def posI (S i : Nat) : List Nat := List.range' (i + 1) (S - (i + 1))
theorem split_I {S i : Nat} (h : i < S) : List.range S = preI i ++ i :: posI S i := by
  unfold preI posI
  rw [List.range_eq_range', List.range_eq_range']
  have h1 : List.range' 0 S = List.range' 0 (i + (S - i)) := by rw [show i + (S - i) = S by omega]
  rw [h1, ← List.range'_append_1, show 0 + i = i by omega]
  congr 1
  rw [show S - i = (S - (i + 1)) + 1 by omega, List.range'_succ]
theorem blk_at {hs : Nat → HD} {L : Nat → List Int} {S i : Nat} (h : i < S) (v : List Int) (T : Heap) :
    blk hs (upL L i v) (List.range S) ++ T = blk hs L (preI i) ++ (gbI (hs i, v) ++ (blk hs L (posI S i) ++ T)) := by
  have e1 : blk hs (upL L i v) (preI i) = blk hs L (preI i) := by
    unfold blk
    refine fm_congr fun j hj => ?_
    have : j < i := List.mem_range.1 hj
    show gbI (hs j, if j = i then v else L j) = _
    rw [if_neg (by omega)]
  have e2 : blk hs (upL L i v) (posI S i) = blk hs L (posI S i) := by
    unfold blk
    refine fm_congr fun j hj => ?_
    have : i + 1 ≤ j := (List.mem_range'_1.1 hj).1
    show gbI (hs j, if j = i then v else L j) = _
    rw [if_neg (by omega)]
  rw [split_I h]
  unfold blk at e1 e2 ⊢
  rw [List.flatMap_append, List.flatMap_cons, e1, e2]
  show _ ++ (gbI (hs i, if i = i then v else L i) ++ _) ++ T = _
  rw [if_pos rfl]
  simp only [List.append_assoc]
theorem upL_self {L : Nat → List Int} {i : Nat} : upL L i (L i) = L := funext fun j => by unfold upL; split <;> simp_all
theorem go_len {h : HD} {n : Nat} {xs l : List Int} (ho : gok h n 1 (ival xs)) (hl : l.length = n) : gok h n 1 (ival l) := by
  obtain ⟨h1, h2⟩ := ho
  refine ⟨by simp [hl], ?_⟩
  cases h with
  | none => exact h2
  | some hh =>
    obtain ⟨b, c, sp⟩ := hh
    simp only [List.length_map] at h1 h2 ⊢
    exact ⟨by omega, h2.2⟩
theorem go_lenI {h : HD} {n : Nat} {xs l : List Int} (ho : gok h n 1 (ival xs)) (hl : l.length = n) : goI (h, l) := by
  have := go_len ho hl
  subst hl
  exact this

theorem perm_of {A B : Heap} (h : ∀ c : (Nat × Obj) → Nat, (A.map c).sum = (B.map c).sum) : List.Perm A B := by
  classical
  rw [List.perm_iff_count]
  intro a
  have hc : ∀ l : Heap, (l.map fun x => if x = a then 1 else 0).sum = l.count a := fun l => by
    induction l with
    | nil => rfl
    | cons x l ih =>
      rw [List.map_cons, List.sum_cons, ih, List.count_cons]
      by_cases e : x = a
      · subst e; simp; omega
      · simp [e]
  rw [← hc A, ← hc B]
  exact h _

/-- A table in new memory: its value, its blocks. -/
def RdG (m : List (List Int)) (x : Value × Heap) : Prop := ∃ p c, x.1 = .slice p m.length c ∧ ∀ (w0 w : World) (G : Heap), New w0 w G → (∀ y ∈ x.2, y ∈ G) → LsAt w p m
theorem RdG.at {m : List (List Int)} {x : Value × Heap} (h : RdG m x) {w0 w : World} {G : Heap} (hn : New w0 w G) (hm : ∀ y ∈ x.2, y ∈ G) : IsG w x.1 m := by
  obtain ⟨p, c, e, h⟩ := h
  exact ⟨p, c, e, h w0 w G hn hm⟩
theorem RdG.nil : RdG [] (.slice none 0 0, []) := ⟨none, 0, rfl, fun _ _ _ _ _ j hj => absurd hj (Nat.not_lt_zero _)⟩
theorem RdG.rw {h : HD} {rs : List RW} {m : List (List Int)} (ho : goR rwR h rs) (hok : rwOk rs) (e : rs.map RW.l = m) : RdG m (gval h m.length, gbR rwR 22 h rs ++ rwB rs) := by
  subst e
  have h1 : goR rwR h rs := ho
  refine ⟨gp h, gc h, ?_, fun w0 w G hn hm => LsAt.rw hn (fun y hy => hm y (List.mem_append_left _ hy)) (fun y hy => hm y (List.mem_append_right _ hy)) ho hok⟩
  rw [List.length_map]
  exact gval_eq ho
theorem RdG.ri {h : HD} {kh : Nat → HD} {L : Nat → List Int} {n k : Nat} {m : List (List Int)} (ho : goR (rwI kh k) h (List.range n)) (hok : ∀ i, i < n → goI (kh i, L i) ∧ (L i).length = k) (e : (List.range n).map L = m) : RdG m (gval h n, gbR (rwI kh k) 22 h (List.range n) ++ blk kh L (List.range n)) := by
  subst e
  refine ⟨gp h, gc h, ?_, fun w0 w G hn hm j hj => ?_⟩
  · rw [List.length_map, List.length_range]
    have := gval_eq ho
    rwa [List.length_range] at this
  · rw [List.length_map, List.length_range] at hj
    obtain ⟨q, hq, hc⟩ := RecsAt.s (R := rwI kh k) hn (fun y hy => hm y (List.mem_append_left _ hy)) ho j (by rw [List.length_range]; exact hj)
    have ej : (List.range n).getD j default = j := by simp [List.getD, hj]
    have e1 : ((List.range n).map L).getD j [] = L j := by simp [List.getD, hj]
    have h1 := hok j hj
    have c0 := hc 0 (gval (kh j) k) (by rw [ej]; rfl)
    rw [← h1.2, gval_eq h1.1, addr_add_add] at c0
    rw [e1]
    exact ⟨q, hq, _, _, c0, IntsAt.g (x := (kh j, L j)) hn (fun y hy => hm y (List.mem_append_right _ (blk_mem (List.mem_range.2 hj) y hy))) h1.1⟩
theorem rwB_app (a b : List RW) : rwB (a ++ b) = rwB a ++ rwB b := by simp [rwB]
theorem rwB_at {rs : List RW} {k : Nat} (hk : k < rs.length) (R : Heap) : rwB rs ++ R = rwB (rs.take k) ++ (gbI ((rs.getD k default).h, (rs.getD k default).l) ++ (rwB (rs.drop (k + 1)) ++ R)) := by
  have e : rs = rs.take k ++ rs.getD k default :: rs.drop (k + 1) := by
    have := List.take_append_drop k rs
    rw [List.drop_eq_getElem_cons hk] at this
    rw [show rs.getD k default = rs[k] by simp [List.getD, hk]]
    exact this.symm
  conv => lhs; rw [e]
  rw [rwB_app, show rwB (rs.getD k default :: rs.drop (k + 1)) = gbI ((rs.getD k default).h, (rs.getD k default).l) ++ rwB (rs.drop (k + 1)) from rfl]
  simp only [List.append_assoc]
theorem rwB_set {rs : List RW} {k : Nat} (hk : k < rs.length) (r : RW) (R : Heap) : rwB (rs.set k r) ++ R = rwB (rs.take k) ++ (gbI (r.h, r.l) ++ (rwB (rs.drop (k + 1)) ++ R)) := by
  have h1 : k < (rs.set k r).length := by simpa using hk
  rw [rwB_at h1 R]
  have e1 : (rs.set k r).getD k default = r := by simp [List.getD, hk]
  have e2 : (rs.set k r).take k = rs.take k := by rw [List.take_set]; exact List.set_eq_of_length_le (by rw [List.length_take]; omega)
  have e3 : (rs.set k r).drop (k + 1) = rs.drop (k + 1) := by rw [List.drop_set]; simp
  rw [e1, e2, e3]
theorem rw_ok0 (n : Nat) : rwOk (List.replicate n ⟨none, []⟩) := fun r hr => by rw [List.eq_of_mem_replicate hr]; exact ⟨rfl, rfl⟩
theorem rw_go0 (b n : Nat) : goR rwR (some (b, n, [])) (List.replicate n ⟨none, []⟩) := by
  refine ⟨rcs_len _, ?_⟩
  show n * 1 = (rcs rwR _).length + 0 ∧ _
  rw [rcs_len, List.length_replicate]
  exact ⟨by show n * 1 = n * 1 + 0; omega, Nat.le_refl _⟩
theorem rw_blk0 (b n : Nat) : (b, Obj.cells (List.replicate n (Value.slice none 0 0)).toArray 22 (0, 0)) :: rwB (List.replicate n ⟨none, []⟩) = gbR rwR 22 (some (b, n, [])) (List.replicate n ⟨none, []⟩) ++ rwB (List.replicate n ⟨none, []⟩) := by
  have : rcs rwR (List.replicate n ⟨none, []⟩) = List.replicate n (Value.slice none 0 0) := by
    induction n with
    | zero => rfl
    | succ n ih => rw [List.replicate_succ, List.replicate_succ, ← ih]; rfl
  show _ = [(b, Obj.cells (rcs rwR _ ++ []).toArray 22 (0, 0))] ++ _
  rw [this, List.append_nil]
  rfl
theorem rwB_none (n : Nat) : rwB (List.replicate n ⟨none, []⟩) = [] := by
  induction n with
  | zero => rfl
  | succ n ih => rw [List.replicate_succ]; show [] ++ rwB _ = []; rw [ih]; rfl
/-- Columns, as far as they are read. -/
structure TrS (m : List (List Int)) (n i q : Nat) (h : HD) (rs : List RW) : Prop where
  len : rs.length = n
  go : goR rwR h rs
  ok : rwOk rs
  l : ∀ j, j < n → (rs.getD j default).l = mk (if j < q then i + 1 else i) fun r => getM m r j
theorem TrS.zero {m : List (List Int)} {n b : Nat} : TrS m n 0 0 (some (b, n, [])) (List.replicate n ⟨none, []⟩) := by
  refine ⟨List.length_replicate, rw_go0 b n, rw_ok0 n, fun j hj => ?_⟩
  rw [if_neg (Nat.not_lt_zero _), show (List.replicate n (⟨none, []⟩ : RW)).getD j default = ⟨none, []⟩ by simp [List.getD, hj]]
  rfl
theorem mk_snoc (n : Nat) (f : Nat → Int) : mk n f ++ [f n] = mk (n + 1) f := by
  unfold mk
  rw [List.range_succ, List.map_append]
  rfl
theorem rwOk.set {rs : List RW} (h : rwOk rs) {r : RW} (hr : goI (r.h, r.l)) (k : Nat) : rwOk (rs.set k r) := fun x hx => by
  rcases List.mem_or_eq_of_mem_set hx with h1 | h1
  · exact h x h1
  · rw [h1]; exact hr
theorem TrS.step {m : List (List Int)} {n i q : Nat} {h h' : HD} {rs : List RW} (s : TrS m n i q h rs) (hq : q < n) (ho : goI (h', (rs.getD q default).l ++ [getM m i q])) : TrS m n i (q + 1) h (rs.set q ⟨h', (rs.getD q default).l ++ [getM m i q]⟩) := by
  have hl := s.len
  refine ⟨by rw [List.length_set]; exact hl, goR_len s.go (by simp), s.ok.set ho q, fun j hj => ?_⟩
  have h1 := s.l j hj
  rw [List.getD_eq_getElem?_getD, List.getElem?_set]
  by_cases e : q = j
  · subst e
    rw [if_pos rfl, if_pos (by omega), if_pos (Nat.lt_succ_self _)]
    show (rs.getD q default).l ++ [getM m i q] = _
    rw [h1, if_neg (Nat.lt_irrefl _)]
    exact mk_snoc i fun r => getM m r q
  · rw [if_neg e, ← List.getD_eq_getElem?_getD, h1]
    by_cases e2 : j < q
    · rw [if_pos e2, if_pos (by omega)]
    · rw [if_neg e2, if_neg (by omega)]
theorem TrS.next {m : List (List Int)} {n i q : Nat} {h : HD} {rs : List RW} (s : TrS m n i q h rs) (hq : n ≤ q) : TrS m n (i + 1) 0 h rs := by
  refine ⟨s.len, s.go, s.ok, fun j hj => ?_⟩
  rw [s.l j hj, if_pos (by omega), if_neg (Nat.not_lt_zero _)]
theorem TrS.fin {m : List (List Int)} {n i : Nat} {h : HD} {rs : List RW} (s : TrS m n i 0 h rs) (hi : i = m.length) (hn : n = (m.getD 0 []).length) : rs.map RW.l = trnL m := by
  subst hi
  have hl := s.len
  refine List.ext_getElem (by rw [List.length_map, trn_len]; omega) fun j h1 h2 => ?_
  rw [List.length_map] at h1
  have h3 := s.l j (by omega)
  rw [if_neg (Nat.not_lt_zero _)] at h3
  have h4 := trn_row (m := m) (j := j) (by omega)
  rw [List.getElem_map]
  have e1 : rs.getD j default = rs[j] := by simp [List.getD, h1]
  have e2 : (trnL m).getD j [] = (trnL m)[j] := by simp [List.getD, h2]
  rw [← e1, ← e2, h3, h4]
theorem mul_bdA {a b A B : Int} (ha : -A ≤ a ∧ a ≤ A) (hb : -B ≤ b ∧ b ≤ B) (hA : 0 ≤ A) (hB : 0 ≤ B) : -(A * B) ≤ a * b ∧ a * b ≤ A * B := by
  have h1 : (a * b).natAbs ≤ A.natAbs * B.natAbs := by
    rw [Int.natAbs_mul]
    exact Nat.mul_le_mul (by omega) (by omega)
  have h2 : ((A.natAbs * B.natAbs : Nat) : Int) = A * B := by
    rw [Int.natCast_mul, Int.natAbs_of_nonneg hA, Int.natAbs_of_nonneg hB]
  omega
def Sm3 (xs : List Int) : Prop := ∀ j, j < xs.length → -1000 ≤ xs.getD j 0 ∧ xs.getD j 0 ≤ 1000
def prodI (xs ys : List Int) : Int := sm xs.length fun j => xs.getD j 0 * ys.getD j 0
theorem prod_bd {xs ys : List Int} (h1 : Sm3 xs) (h2 : Sm3 ys) (hl : xs.length ≤ ys.length) {k : Nat} (hk : k ≤ xs.length) : -(1000000 * (k : Int)) ≤ sm k (fun j => xs.getD j 0 * ys.getD j 0) ∧ sm k (fun j => xs.getD j 0 * ys.getD j 0) ≤ 1000000 * (k : Int) :=
  sm_bd (by decide) fun j hj => mul_bdA (A := 1000) (B := 1000) (h1 j (by omega)) (h2 j (by omega)) (by decide) (by decide)
theorem Gr.sm3 {n k : Nat} {most : Int} {m : List (List Int)} (h : Gr n k most m) (hm : most ≤ 1000) {i : Nat} (hi : i < n) : Sm3 (m.getD i []) := fun j hj => by
  have h1 := h.row i hi
  have := h.bd i j hi (by omega)
  unfold getM at this
  omega
theorem cost_bd {n k : Nat} {A B : Int} {m c : List (List Int)} (hm : Gr n k A m) (hc : Gr n k B c) (hA : A ≤ 1000) (hB : B ≤ 1000) (hk : k ≤ 4) {i : Nat} (hi : i ≤ n) : -(4000000 * (i : Int)) ≤ sm i (fun i => prodI (m.getD i []) (c.getD i [])) ∧ sm i (fun i => prodI (m.getD i []) (c.getD i [])) ≤ 4000000 * (i : Int) :=
  sm_bd (by decide) fun j hj => by
    have h1 := hm.row j (by omega)
    have h2 := hc.row j (by omega)
    have := prod_bd (hm.sm3 hA (i := j) (by omega)) (hc.sm3 hB (i := j) (by omega)) (by omega) (Nat.le_refl _)
    unfold prodI
    omega
/-- Too long for a statement. -/
def lgG (m : List (List Int)) : Bool := (m.any fun r => decide (50 < r.length)) || decide (50 < m.length)
theorem lgG_0 {m : List (List Int)} (h : lgG m = false) : SmG m := by
  unfold lgG at h
  rw [Bool.or_eq_false_iff, decide_eq_false_iff_not] at h
  refine ⟨by omega, fun k => ?_⟩
  by_cases hk : k < m.length
  · have h2 := List.any_eq_false.1 h.1 (m.getD k []) (by simp [List.getD, hk])
    simp only [decide_eq_true_eq] at h2
    omega
  · rw [List.getD_eq_getElem?_getD, List.getElem?_eq_none (by omega)]
    exact Nat.zero_le _
def lgT (t : Td) (ms : List (List (List Int))) : Bool := ms.any lgG || (decide (50 < t.s.length) || (decide (50 < t.d.length) || lgG t.c))
theorem lgT_0 {t : Td} {ms : List (List (List Int))} (h : lgT t ms = false) : SmT t ∧ ∀ m ∈ ms, SmG m := by
  unfold lgT at h
  simp only [Bool.or_eq_false_iff, decide_eq_false_iff_not] at h
  exact ⟨⟨by omega, by omega, lgG_0 h.2.2.2⟩, fun m hm => lgG_0 (by have := List.any_eq_false.1 h.1 m hm; simpa using this)⟩
/-- Tables of tables. -/
def LsG (w : World) (p : Option Addr) (ms : List (List (List Int))) : Prop := ∀ j, j < ms.length → ∃ q, p = some q ∧ ∃ pj cj, w.cell? (q.add (j * 1)) = some (.slice pj (ms.getD j []).length cj) ∧ LsAt w pj (ms.getD j [])
theorem LsG.new {w0 w : World} {G : Heap} {p : Option Addr} {ms : List (List (List Int))} (h : LsG w0 p ms) (hn : New w0 w G) : LsG w p ms := fun j hj =>
  let ⟨q, hq, pj, cj, h1, h2⟩ := h j hj
  ⟨q, hq, pj, cj, hn.old h1, h2.new hn⟩
theorem LsG.nil (w : World) : LsG w none [] := fun j hj => absurd hj (Nat.not_lt_zero _)
theorem LsG.one {w0 w : World} {G : Heap} {bO cl : Nat} {e : TypeId} {pl : Option Addr} {m : List (List Int)} (hn : New w0 w G) (hO : (bO, Obj.cells #[.slice pl m.length cl] e (0, 0)) ∈ G) (hx : LsAt w pl m) : LsG w (some ⟨bO, 0, none⟩) [m] := by
  intro j hj
  have e : j = 0 := by simp only [List.length_cons, List.length_nil] at hj; omega
  subst e
  refine ⟨_, rfl, pl, cl, ?_, hx⟩
  rw [add_off]
  exact hn.cell hO rfl


set_option maxRecDepth 100000 in
set_option maxHeartbeats 1000000 in
theorem rtable_ok (w0 : World) (vt : Value) (t : Td) (ht : IsT w0 vt t) (vg : Value) (m : List (List Int)) (hg : IsG w0 vg m) (hM : SmG m) (most : Int) :
    Calls Try.prog 62 #[vt, vg, .int .i64 most] w0 (Post (X := Unit) (fun _ => .bool (grB t.s.length t.d.length most m)) (fun _ => True) (fun _ => []) w0) := by
  obtain ⟨p1, c1, p2, c2, p3, c3, rfl, t1, t2, t3⟩ := ht
  obtain ⟨pg, cg, rfl, g1⟩ := hg
  refine calls Try.func62 rfl (n := 49) rfl (by simp) ?_
  refine TC.seq ?_
  refine TC.region ?_
  refine TL.box rfl rfl (by decide) (fun b0 hb0 => ?_)
  refine TL.pure (PV.assign rfl) rfl (by decide) ?_
  refine TL.nil ?_
  refine TQ.thenC ?_
  refine TC.seq ?_
  refine TC.seq ?_
  refine TC.region ?_
  refine TL.pure (PV.move rfl) rfl (by decide) ?_
  refine TL.pure (PV.len rfl Tb.sl_23) rfl (by decide) ?_
  refine TL.pure (PV.fieldAddr rfl Tb.fo_25_0) rfl (by decide) ?_
  refine TL.pure (PV.load rfl Tb.one_22 (by repeat (first | exact List.Mem.head _ | refine List.Mem.tail _ ?_ | refine List.mem_append_right _ ?_)) rfl) rfl (by decide) ?_
  refine TL.pure (PV.len rfl Tb.sl_22) rfl (by decide) ?_
  refine TL.pure (PV.neq rfl rfl) rfl (by decide) ?_
  refine TL.nil ?_
  refine TQ.thenC ?_
  first | refine TC.condD rfl (fun hne => ?_) (fun hne => ?_) | refine TC.cond rfl (fun hne => ?_) (fun hne => ?_)
  · skip
    refine TC.seq ?_
    refine TC.region ?_
    refine TL.pure (PV.assign rfl) rfl (by decide) ?_
    refine TL.nil ?_
    refine TQ.thenC ?_
    refine TC.ret ?_
    refine TQ.thenR ?_
    refine TQ.retE1 rfl rfl ?_
    exact ⟨(), by unfold grB; rw [decide_eq_false (by omega), Bool.false_and], trivial, List.nil_sublist _⟩
  · skip
    refine TC.skip ?_
    refine TQ.thenC ?_
    refine TC.seq ?_
    refine TC.seq ?_
    refine TC.region ?_
    refine TL.pure (PV.assign rfl) rfl (by decide) ?_
    refine TL.nil ?_
    refine TQ.thenC ?_
    refine TC.block ?_
    -- live and written in the loop, not told: [6]
    refine TC.loopG [1, 2, 3] (X := Nat) (fun k => k ≤ m.length ∧ ∀ j, j < k → numB t.d.length 0 most (m.getD j []) = true) (fun k => [(7, .int .i64 k)]) (fun k => m.length - k) 0 ⟨Nat.zero_le _, fun j hj => absurd hj (Nat.not_lt_zero _)⟩ (by repeat (first | exact True.intro | refine And.intro rfl ?_)) ?_
    intro k hk
    refine TC.seq ?_
    refine TC.seq ?_
    refine TC.region ?_
    refine TL.pure (PV.move rfl) rfl (by decide) ?_
    refine TL.pure (PV.move rfl) rfl (by decide) ?_
    refine TL.pure (PV.len rfl Tb.sl_23) rfl (by decide) ?_
    refine TL.pure (PV.lss rfl rfl) rfl (by decide) ?_
    refine TL.nil ?_
    refine TQ.thenC ?_
    first | refine TC.condD rfl (fun hlt => ?_) (fun hlt => ?_) | refine TC.cond rfl (fun hlt => ?_) (fun hlt => ?_)
    · skip
      refine TC.skip ?_
      refine TQ.thenC ?_
      refine TC.seq ?_
      refine TC.block ?_
      refine TC.seq ?_
      refine TC.seq ?_
      have hMk := hM.2 k
      have hM1 := hM.1
      obtain ⟨q1, hq1p, q1p, q1c, hq1, hq1r⟩ := g1 k (by omega)
      refine TC.any Tb.mixed rfl rfl ?_
      refine TA.op (OpOK.pure (PV.move rfl) rfl (by decide)) (by decide) ?_
      refine TA.op (OpOK.pure (PV.move rfl) rfl (by decide)) (by decide) ?_
      refine TA.op (OpOK.pure (PV.indexA rfl hq1p rfl Tb.elm_23 rfl (by omega)) rfl (by decide)) (by decide) ?_
      refine TA.op (OpOK.pure (PV.loadOld rfl Tb.one_22 hq1) rfl (by decide)) (by decide) ?_
      refine TA.op (OpOK.pure (PV.len rfl Tb.sl_22) rfl (by decide)) (by decide) ?_
      refine TA.op (OpOK.pure (PV.fieldAddr rfl Tb.fo_25_1) rfl (by decide)) (by decide) ?_
      refine TA.op (OpOK.pure (PV.load rfl Tb.one_22 (by repeat (first | exact List.Mem.head _ | refine List.Mem.tail _ ?_ | refine List.mem_append_right _ ?_)) rfl) rfl (by decide)) (by decide) ?_
      refine TA.op (OpOK.pure (PV.len rfl Tb.sl_22) rfl (by decide)) (by decide) ?_
      refine TA.op (OpOK.pure (PV.neq rfl rfl) rfl (by decide)) (by decide) ?_
      show TQ _ _ _ _ _
      refine TQ.thenC ?_
      first | refine TC.condD rfl (fun hn2 => ?_) (fun hn2 => ?_) | refine TC.cond rfl (fun hn2 => ?_) (fun hn2 => ?_)
      · skip
        refine TC.seq ?_
        refine TC.region ?_
        refine TL.pure (PV.assign rfl) rfl (by decide) ?_
        refine TL.nil ?_
        refine TQ.thenC ?_
        refine TC.ret ?_
        refine TQ.thenR ?_
        refine TQ.blkR ?_
        refine TQ.thenR ?_
        refine TQ.thenR ?_
        refine TQ.blkR ?_
        refine TQ.thenR ?_
        refine TQ.retE1 rfl rfl ?_
        exact ⟨(), by unfold grB; rw [all_no (k := k) (d := []) (by omega) (num_1 (by omega)), Bool.and_false], trivial, List.nil_sublist _⟩
      · skip
        refine TC.skip ?_
        refine TQ.thenC ?_
        refine TC.seq ?_
        refine TC.region ?_
        refine TL.pure (PV.assign rfl) rfl (by decide) ?_
        refine TL.nil ?_
        refine TQ.thenC ?_
        refine TC.block ?_
        -- live and written in the loop, not told: [6]
        refine TC.loopG [1, 2, 3, 7] (X := Nat) (fun q => q ≤ (m.getD k []).length ∧ ∀ u, u < q → 0 ≤ (m.getD k []).getD u 0 ∧ (m.getD k []).getD u 0 ≤ most) (fun q => [(8, .int .i64 q)]) (fun q => (m.getD k []).length - q) 0 ⟨Nat.zero_le _, fun j hj => absurd hj (Nat.not_lt_zero _)⟩ (by repeat (first | exact True.intro | refine And.intro rfl ?_)) ?_
        intro q hq9
        refine TC.seq ?_
        refine TC.seq ?_
        refine TC.region ?_
        refine TL.pure (PV.move rfl) rfl (by decide) ?_
        refine TL.pure (PV.move rfl) rfl (by decide) ?_
        refine TL.pure (PV.move rfl) rfl (by decide) ?_
        refine TL.pure (PV.indexA rfl hq1p rfl Tb.elm_23 rfl (by omega)) rfl (by decide) ?_
        refine TL.pure (PV.loadOld rfl Tb.one_22 hq1) rfl (by decide) ?_
        refine TL.pure (PV.len rfl Tb.sl_22) rfl (by decide) ?_
        refine TL.pure (PV.lss rfl rfl) rfl (by decide) ?_
        refine TL.nil ?_
        refine TQ.thenC ?_
        first | refine TC.condD rfl (fun hlt2 => ?_) (fun hlt2 => ?_) | refine TC.cond rfl (fun hlt2 => ?_) (fun hlt2 => ?_)
        · skip
          refine TC.skip ?_
          refine TQ.thenC ?_
          refine TC.seq ?_
          refine TC.block ?_
          refine TC.seq ?_
          obtain ⟨q2, hq2p, hq2⟩ := hq1r q (by omega)
          refine TC.region ?_
          refine TL.pure (PV.move rfl) rfl (by decide) ?_
          refine TL.pure (PV.move rfl) rfl (by decide) ?_
          refine TL.pure (PV.indexA rfl hq1p rfl Tb.elm_23 rfl (by omega)) rfl (by decide) ?_
          refine TL.pure (PV.loadOld rfl Tb.one_22 hq1) rfl (by decide) ?_
          refine TL.pure (PV.move rfl) rfl (by decide) ?_
          refine TL.pure (PV.indexA rfl hq2p rfl Tb.elm_22 rfl (by omega)) rfl (by decide) ?_
          refine TL.pure (PV.loadOld rfl Tb.one_3 hq2) rfl (by decide) ?_
          refine TL.pure (PV.move rfl) rfl (by decide) ?_
          refine TL.call rfl Tb.gofn_73 (fun a w hs => within_ok w _ _ _) rfl (by decide) (fun _ _ => ?_)
          refine TL.pure ((by first | exact PV.notD rfl | exact PV.not rfl)) rfl (by decide) ?_
          refine TL.nil ?_
          refine TQ.thenC ?_
          first | refine TC.condD rfl (fun hno => ?_) (fun hno => ?_) | refine TC.cond rfl (fun hno => ?_) (fun hno => ?_)
          · skip
            refine TC.seq ?_
            refine TC.region ?_
            refine TL.pure (PV.assign rfl) rfl (by decide) ?_
            refine TL.nil ?_
            refine TQ.thenC ?_
            refine TC.ret ?_
            refine TQ.blkR ?_
            refine TQ.thenR ?_
            refine TQ.thenR ?_
            refine TQ.blkR ?_
            refine TQ.blkR ?_
            refine TQ.thenR ?_
            refine TQ.thenR ?_
            refine TQ.blkR ?_
            refine TQ.thenR ?_
            refine TQ.retE1 rfl rfl ?_
            exact ⟨(), by unfold grB; rw [all_no (k := k) (d := []) (by omega) (num_2 (k := q) (by omega) (by simpa using hno)), Bool.and_false], trivial, List.nil_sublist _⟩
          · skip
            refine TC.skip ?_
            refine TQ.blkN ?_
            refine TQ.thenC ?_
            refine TC.region ?_
            refine TL.pure (PV.move rfl) rfl (by decide) ?_
            refine TL.pure (PV.add rfl rfl (by omega)) rfl (by decide) ?_
            refine TL.pure (PV.assign rfl) rfl (by decide) ?_
            refine TL.nil ?_
            refine TQ.thenN ?_
            refine TQ.backK (q + 1) (by repeat (first | exact True.intro | refine And.intro rfl ?_)) (by repeat (first | exact True.intro | refine And.intro rfl ?_)) (by repeat (first | exact List.Sublist.slnil | exact List.nil_sublist _ | exact List.Sublist.refl _ | refine List.Sublist.cons_cons _ ?_ | refine List.Sublist.cons _ ?_ | refine List.Sublist.trans ?_ (List.sublist_append_right _ _))) ⟨by omega, fun u hu => if e : u < q then hq9.2 u e else (show q = u by omega) ▸ (by simpa using hno)⟩ (by omega)
        · skip
          refine TC.exit ?_
          refine TQ.thenE ?_
          refine TQ.thenE ?_
          refine TQ.blkS ?_
          refine TQ.blkN ?_
          refine TQ.thenC ?_
          refine TC.region ?_
          refine TL.pure (PV.move rfl) rfl (by decide) ?_
          refine TL.pure (PV.add rfl rfl (by omega)) rfl (by decide) ?_
          refine TL.pure (PV.assign rfl) rfl (by decide) ?_
          refine TL.nil ?_
          refine TQ.thenN ?_
          refine TQ.backK (k + 1) (by repeat (first | exact True.intro | refine And.intro rfl ?_)) (by repeat (first | exact True.intro | refine And.intro rfl ?_)) (by repeat (first | exact List.Sublist.slnil | exact List.nil_sublist _ | exact List.Sublist.refl _ | refine List.Sublist.cons_cons _ ?_ | refine List.Sublist.cons _ ?_ | refine List.Sublist.trans ?_ (List.sublist_append_right _ _))) ⟨by omega, fun j hj => if e : j < k then hk.2 j e else (show k = j by omega) ▸ (num_3 (by omega) (fun u hu => hq9.2 u (by omega)))⟩ (by omega)
    · skip
      refine TC.exit ?_
      refine TQ.thenE ?_
      refine TQ.thenE ?_
      refine TQ.blkS ?_
      refine TQ.thenC ?_
      refine TC.seq ?_
      refine TC.region ?_
      refine TL.pure (PV.assign rfl) rfl (by decide) ?_
      refine TL.nil ?_
      refine TQ.thenC ?_
      refine TC.ret ?_
      refine TQ.retE1 rfl rfl ?_
      exact ⟨(), by unfold grB; rw [decide_eq_true (by omega), all_yes (d := []) (f := fun r => numB t.d.length 0 most r) (fun j hj => hk.2 j (by omega))]; rfl, trivial, List.nil_sublist _⟩

set_option maxRecDepth 100000 in
set_option maxHeartbeats 1000000 in
theorem rvalidate_ok (w0 : World) (vt : Value) (t : Td) (ht : IsT w0 vt t) (hT : SmT t) :
    Calls Try.prog 22 #[vt] w0 (Post (X := Unit) (fun _ => .int .i64 (validI t)) (fun _ => True) (fun _ => []) w0) := by
  obtain ⟨p1, c1, p2, c2, p3, c3, rfl, t1, t2, t3⟩ := ht
  refine calls Try.func22 rfl (n := 29) rfl (by simp) ?_
  refine TC.seq ?_
  refine TC.region ?_
  refine TL.box rfl rfl (by decide) (fun b0 hb0 => ?_)
  refine TL.pure (PV.assign rfl) rfl (by decide) ?_
  refine TL.nil ?_
  refine TQ.thenC ?_
  refine TC.seq ?_
  refine TC.seq ?_
  refine TC.any Tb.mixed rfl rfl ?_
  refine TA.op (OpOK.pure (PV.fieldAddr rfl Tb.fo_25_0) rfl (by decide)) (by decide) ?_
  refine TA.op (OpOK.pure (PV.load rfl Tb.one_22 (by repeat (first | exact List.Mem.head _ | refine List.Mem.tail _ ?_ | refine List.mem_append_right _ ?_)) rfl) rfl (by decide)) (by decide) ?_
  refine TA.op (OpOK.call rfl Tb.gofn_60 (fun a w hs => amounts_ok w _ _ _ (t1.new hs.new) hT.s) rfl (by decide)) (by decide) ?_
  refine TA.op (OpOK.pure ((by first | exact PV.notD rfl | exact PV.not rfl)) rfl (by decide)) (by decide) ?_
  refine TA.op (OpOK.pure (PV.move rfl) rfl (by decide)) (by decide) ?_
  first | refine TA.splitD 7 rfl (fun e1 => ?_) (fun e1 => ?_) | refine TA.split 7 rfl (fun e1 => ?_) (fun e1 => ?_)
  · skip
    refine TA.op (OpOK.skip rfl) (by decide) ?_
    refine TA.op (OpOK.skip rfl) (by decide) ?_
    refine TA.op (OpOK.skip rfl) (by decide) ?_
    refine TA.op (OpOK.skip rfl) (by decide) ?_
    refine TA.op (OpOK.pure (PV.pickT rfl rfl) rfl (by decide)) (by decide) ?_
    refine TA.op (OpOK.pure (PV.move rfl) rfl (by decide)) (by decide) ?_
    refine TA.op (OpOK.skip rfl) (by decide) ?_
    refine TA.op (OpOK.skip rfl) (by decide) ?_
    refine TA.op (OpOK.skip rfl) (by decide) ?_
    refine TA.op (OpOK.skip rfl) (by decide) ?_
    refine TA.op (OpOK.skip rfl) (by decide) ?_
    refine TA.op (OpOK.skip rfl) (by decide) ?_
    refine TA.op (OpOK.skip rfl) (by decide) ?_
    refine TA.op (OpOK.pure (PV.pickT rfl rfl) rfl (by decide)) (by decide) ?_
    refine TA.op (OpOK.pure (PV.move rfl) rfl (by decide)) (by decide) ?_
    refine TA.op (OpOK.skip rfl) (by decide) ?_
    refine TA.op (OpOK.skip rfl) (by decide) ?_
    refine TA.op (OpOK.skip rfl) (by decide) ?_
    refine TA.op (OpOK.skip rfl) (by decide) ?_
    refine TA.op (OpOK.skip rfl) (by decide) ?_
    refine TA.op (OpOK.pure (PV.pickT rfl rfl) rfl (by decide)) (by decide) ?_
    show TQ _ _ _ _ _
    refine TQ.thenC ?_
    refine TC.condT rfl ?_
    refine TC.seq ?_
    refine TC.region ?_
    refine TL.pure (PV.assign rfl) rfl (by decide) ?_
    refine TL.nil ?_
    refine TQ.thenC ?_
    refine TC.ret ?_
    refine TQ.thenR ?_
    refine TQ.retE1 rfl rfl ?_
    first | exact ⟨(), by rw [valid_b (not_am (xs := t.s) (by simpa using e1) (.inl rfl))], trivial, List.nil_sublist _⟩ | exact ⟨(), by rw [valid_b (not_am (xs := t.d) (by simpa using e2) (.inr rfl))], trivial, List.nil_sublist _⟩ | exact ⟨(), by rw [valid_b (by unfold validB; rw [decide_eq_false (by simpa using e3)]; simp)], trivial, List.nil_sublist _⟩ | exact ⟨(), by rw [valid_b (by unfold validB; rw [show grB t.s.length t.d.length 99 t.c = false by simpa using e4]; simp)], trivial, List.nil_sublist _⟩ | exact ⟨(), by unfold validI validB; simp_all, trivial, List.nil_sublist _⟩
  · skip
    refine TA.op (OpOK.pure (PV.fieldAddr rfl Tb.fo_25_1) rfl (by decide)) (by decide) ?_
    refine TA.op (OpOK.pure (PV.load rfl Tb.one_22 (by repeat (first | exact List.Mem.head _ | refine List.Mem.tail _ ?_ | refine List.mem_append_right _ ?_)) rfl) rfl (by decide)) (by decide) ?_
    refine TA.op (OpOK.call rfl Tb.gofn_60 (fun a w hs => amounts_ok w _ _ _ (t2.new hs.new) hT.d) rfl (by decide)) (by decide) ?_
    refine TA.op (OpOK.pure ((by first | exact PV.notD rfl | exact PV.not rfl)) rfl (by decide)) (by decide) ?_
    refine TA.op (OpOK.pure (PV.pickF rfl rfl) rfl (by decide)) (by decide) ?_
    refine TA.op (OpOK.pure (PV.move rfl) rfl (by decide)) (by decide) ?_
    first | refine TA.splitD 13 rfl (fun e2 => ?_) (fun e2 => ?_) | refine TA.split 13 rfl (fun e2 => ?_) (fun e2 => ?_)
    · skip
      refine TA.op (OpOK.skip rfl) (by decide) ?_
      refine TA.op (OpOK.skip rfl) (by decide) ?_
      refine TA.op (OpOK.skip rfl) (by decide) ?_
      refine TA.op (OpOK.skip rfl) (by decide) ?_
      refine TA.op (OpOK.skip rfl) (by decide) ?_
      refine TA.op (OpOK.skip rfl) (by decide) ?_
      refine TA.op (OpOK.skip rfl) (by decide) ?_
      refine TA.op (OpOK.pure (PV.pickT rfl rfl) rfl (by decide)) (by decide) ?_
      refine TA.op (OpOK.pure (PV.move rfl) rfl (by decide)) (by decide) ?_
      refine TA.op (OpOK.skip rfl) (by decide) ?_
      refine TA.op (OpOK.skip rfl) (by decide) ?_
      refine TA.op (OpOK.skip rfl) (by decide) ?_
      refine TA.op (OpOK.skip rfl) (by decide) ?_
      refine TA.op (OpOK.skip rfl) (by decide) ?_
      refine TA.op (OpOK.pure (PV.pickT rfl rfl) rfl (by decide)) (by decide) ?_
      show TQ _ _ _ _ _
      refine TQ.thenC ?_
      refine TC.condT rfl ?_
      refine TC.seq ?_
      refine TC.region ?_
      refine TL.pure (PV.assign rfl) rfl (by decide) ?_
      refine TL.nil ?_
      refine TQ.thenC ?_
      refine TC.ret ?_
      refine TQ.thenR ?_
      refine TQ.retE1 rfl rfl ?_
      first | exact ⟨(), by rw [valid_b (not_am (xs := t.s) (by simpa using e1) (.inl rfl))], trivial, List.nil_sublist _⟩ | exact ⟨(), by rw [valid_b (not_am (xs := t.d) (by simpa using e2) (.inr rfl))], trivial, List.nil_sublist _⟩ | exact ⟨(), by rw [valid_b (by unfold validB; rw [decide_eq_false (by simpa using e3)]; simp)], trivial, List.nil_sublist _⟩ | exact ⟨(), by rw [valid_b (by unfold validB; rw [show grB t.s.length t.d.length 99 t.c = false by simpa using e4]; simp)], trivial, List.nil_sublist _⟩ | exact ⟨(), by unfold validI validB; simp_all, trivial, List.nil_sublist _⟩
    · skip
      refine TA.op (OpOK.pure (PV.fieldAddr rfl Tb.fo_25_0) rfl (by decide)) (by decide) ?_
      refine TA.op (OpOK.pure (PV.load rfl Tb.one_22 (by repeat (first | exact List.Mem.head _ | refine List.Mem.tail _ ?_ | refine List.mem_append_right _ ?_)) rfl) rfl (by decide)) (by decide) ?_
      refine TA.op (OpOK.call rfl Tb.gofn_61 (fun a w hs => rsum_ok w _ _ _ (t1.new hs.new) hT.s (Sml.sub (am_of (by simpa using e1)).2)) rfl (by decide)) (by decide) ?_
      refine TA.op (OpOK.pure (PV.fieldAddr rfl Tb.fo_25_1) rfl (by decide)) (by decide) ?_
      refine TA.op (OpOK.pure (PV.load rfl Tb.one_22 (by repeat (first | exact List.Mem.head _ | refine List.Mem.tail _ ?_ | refine List.mem_append_right _ ?_)) rfl) rfl (by decide)) (by decide) ?_
      refine TA.op (OpOK.call rfl Tb.gofn_61 (fun a w hs => rsum_ok w _ _ _ (t2.new hs.new) hT.d (Sml.sub (am_of (by simpa using e2)).2)) rfl (by decide)) (by decide) ?_
      refine TA.op (OpOK.pure (PV.neq rfl rfl) rfl (by decide)) (by decide) ?_
      refine TA.op (OpOK.pure (PV.pickF rfl rfl) rfl (by decide)) (by decide) ?_
      refine TA.op (OpOK.pure (PV.move rfl) rfl (by decide)) (by decide) ?_
      first | refine TA.splitD 22 rfl (fun e3 => ?_) (fun e3 => ?_) | refine TA.split 22 rfl (fun e3 => ?_) (fun e3 => ?_)
      · skip
        refine TA.op (OpOK.skip rfl) (by decide) ?_
        refine TA.op (OpOK.skip rfl) (by decide) ?_
        refine TA.op (OpOK.skip rfl) (by decide) ?_
        refine TA.op (OpOK.skip rfl) (by decide) ?_
        refine TA.op (OpOK.skip rfl) (by decide) ?_
        refine TA.op (OpOK.pure (PV.pickT rfl rfl) rfl (by decide)) (by decide) ?_
        show TQ _ _ _ _ _
        refine TQ.thenC ?_
        refine TC.condT rfl ?_
        refine TC.seq ?_
        refine TC.region ?_
        refine TL.pure (PV.assign rfl) rfl (by decide) ?_
        refine TL.nil ?_
        refine TQ.thenC ?_
        refine TC.ret ?_
        refine TQ.thenR ?_
        refine TQ.retE1 rfl rfl ?_
        first | exact ⟨(), by rw [valid_b (not_am (xs := t.s) (by simpa using e1) (.inl rfl))], trivial, List.nil_sublist _⟩ | exact ⟨(), by rw [valid_b (not_am (xs := t.d) (by simpa using e2) (.inr rfl))], trivial, List.nil_sublist _⟩ | exact ⟨(), by rw [valid_b (by unfold validB; rw [decide_eq_false (by simpa using e3)]; simp)], trivial, List.nil_sublist _⟩ | exact ⟨(), by rw [valid_b (by unfold validB; rw [show grB t.s.length t.d.length 99 t.c = false by simpa using e4]; simp)], trivial, List.nil_sublist _⟩ | exact ⟨(), by unfold validI validB; simp_all, trivial, List.nil_sublist _⟩
      · skip
        refine TA.op (OpOK.pure (PV.loadBox rfl Tb.agg_25 (by repeat (first | exact List.Mem.head _ | refine List.Mem.tail _ ?_ | refine List.mem_append_right _ ?_)) rfl) rfl (by decide)) (by decide) ?_
        refine TA.op (OpOK.pure (PV.fieldAddr rfl Tb.fo_25_2) rfl (by decide)) (by decide) ?_
        refine TA.op (OpOK.pure (PV.load rfl Tb.one_23 (by repeat (first | exact List.Mem.head _ | refine List.Mem.tail _ ?_ | refine List.mem_append_right _ ?_)) rfl) rfl (by decide)) (by decide) ?_
        refine TA.op (OpOK.call rfl Tb.gofn_62 (fun a w hs => rtable_ok w _ t (IsT.mk (t1.new hs.new) (t2.new hs.new) (t3.new hs.new)) _ t.c (IsG.of (t3.new hs.new)) hT.c 99) rfl (by decide)) (by decide) ?_
        refine TA.op (OpOK.pure ((by first | exact PV.notD rfl | exact PV.not rfl)) rfl (by decide)) (by decide) ?_
        refine TA.op (OpOK.pure (PV.pickF rfl rfl) rfl (by decide)) (by decide) ?_
        show TQ _ _ _ _ _
        refine TQ.thenC ?_
        first | refine TC.condD rfl (fun e4 => ?_) (fun e4 => ?_) | refine TC.cond rfl (fun e4 => ?_) (fun e4 => ?_)
        · skip
          refine TC.seq ?_
          refine TC.region ?_
          refine TL.pure (PV.assign rfl) rfl (by decide) ?_
          refine TL.nil ?_
          refine TQ.thenC ?_
          refine TC.ret ?_
          refine TQ.thenR ?_
          refine TQ.retE1 rfl rfl ?_
          first | exact ⟨(), by rw [valid_b (not_am (xs := t.s) (by simpa using e1) (.inl rfl))], trivial, List.nil_sublist _⟩ | exact ⟨(), by rw [valid_b (not_am (xs := t.d) (by simpa using e2) (.inr rfl))], trivial, List.nil_sublist _⟩ | exact ⟨(), by rw [valid_b (by unfold validB; rw [decide_eq_false (by simpa using e3)]; simp)], trivial, List.nil_sublist _⟩ | exact ⟨(), by rw [valid_b (by unfold validB; rw [show grB t.s.length t.d.length 99 t.c = false by simpa using e4]; simp)], trivial, List.nil_sublist _⟩ | exact ⟨(), by unfold validI validB; simp_all, trivial, List.nil_sublist _⟩
        · skip
          refine TC.skip ?_
          refine TQ.thenC ?_
          refine TC.seq ?_
          refine TC.region ?_
          refine TL.pure (PV.assign rfl) rfl (by decide) ?_
          refine TL.nil ?_
          refine TQ.thenC ?_
          refine TC.ret ?_
          refine TQ.retE1 rfl rfl ?_
          first | exact ⟨(), by rw [valid_b (not_am (xs := t.s) (by simpa using e1) (.inl rfl))], trivial, List.nil_sublist _⟩ | exact ⟨(), by rw [valid_b (not_am (xs := t.d) (by simpa using e2) (.inr rfl))], trivial, List.nil_sublist _⟩ | exact ⟨(), by rw [valid_b (by unfold validB; rw [decide_eq_false (by simpa using e3)]; simp)], trivial, List.nil_sublist _⟩ | exact ⟨(), by rw [valid_b (by unfold validB; rw [show grB t.s.length t.d.length 99 t.c = false by simpa using e4]; simp)], trivial, List.nil_sublist _⟩ | exact ⟨(), by unfold validI validB; simp_all, trivial, List.nil_sublist _⟩

set_option maxRecDepth 100000 in
theorem haveSums_ok (w0 : World) (vg : Value) (m : List (List Int)) (hg : IsG w0 vg m) (hM : SmG m) (pl : Option Addr) (cl : Nat) (xs : List Int) (hx : IntsAt w0 pl xs) (hl : m.length ≤ xs.length) (hsm : ∀ i, i < m.length → Sml (m.getD i [])) :
    Calls Try.prog 63 #[vg, .slice pl xs.length cl] w0 (Post (X := Unit) (fun _ => .bool (rowsB m xs)) (fun _ => True) (fun _ => []) w0) := by
  obtain ⟨pg, cg, rfl, g1⟩ := hg
  refine calls Try.func63 rfl (n := 22) rfl (by simp) ?_
  refine TC.seq ?_
  refine TC.region ?_
  refine TL.pure (PV.assign rfl) rfl (by decide) ?_
  refine TL.nil ?_
  refine TQ.thenC ?_
  refine TC.seq ?_
  refine TC.seq ?_
  refine TC.region ?_
  refine TL.pure (PV.move rfl) rfl (by decide) ?_
  refine TL.pure (PV.len rfl Tb.sl_23) rfl (by decide) ?_
  refine TL.pure (PV.move rfl) rfl (by decide) ?_
  refine TL.nil ?_
  refine TQ.thenC ?_
  refine TC.block ?_
  -- live and written in the loop, not told: [4]
  refine TC.loopG [1, 7, 8] (X := Nat) (fun k => k ≤ m.length ∧ ∀ j, j < k → sumI (m.getD j []) = xs.getD j 0) (fun k => [(9, .int .i64 k)]) (fun k => m.length - k) 0 ⟨Nat.zero_le _, fun j hj => absurd hj (Nat.not_lt_zero _)⟩ (by repeat (first | exact True.intro | refine And.intro rfl ?_)) ?_
  intro k hk
  refine TC.seq ?_
  refine TC.region ?_
  refine TL.pure (PV.lss rfl rfl) rfl (by decide) ?_
  refine TL.nil ?_
  refine TQ.thenC ?_
  refine TC.seq ?_
  first | refine TC.condD rfl (fun hlt => ?_) (fun hlt => ?_) | refine TC.cond rfl (fun hlt => ?_) (fun hlt => ?_)
  · skip
    refine TC.skip ?_
    refine TQ.thenC ?_
    refine TC.seq ?_
    refine TC.block ?_
    refine TC.seq ?_
    obtain ⟨q1, hq1p, q1p, q1c, hq1, hq1r⟩ := g1 k (by omega)
    obtain ⟨q2, hq2p, hq2⟩ := hx k (by omega)
    have hM0 := hM.1
    refine TC.region ?_
    refine TL.pure (PV.move rfl) rfl (by decide) ?_
    refine TL.pure (PV.indexA rfl hq1p rfl Tb.elm_23 rfl (by omega)) rfl (by decide) ?_
    refine TL.pure (PV.loadOld rfl Tb.one_22 hq1) rfl (by decide) ?_
    refine TL.pure (PV.assign rfl) rfl (by decide) ?_
    refine TL.pure (PV.assign rfl) rfl (by decide) ?_
    refine TL.nil ?_
    refine TQ.thenC ?_
    refine TC.seq ?_
    refine TC.any Tb.mixed rfl rfl ?_
    refine TA.op (OpOK.pure (PV.move rfl) rfl (by decide)) (by decide) ?_
    refine TA.op (OpOK.call rfl Tb.gofn_58 (fun a w hs => sum_ok w _ _ _ (hq1r.new hs.new) (hM.2 k) (hsm k (by omega))) rfl (by decide)) (by decide) ?_
    refine TA.op (OpOK.pure (PV.move rfl) rfl (by decide)) (by decide) ?_
    refine TA.op (OpOK.pure (PV.move rfl) rfl (by decide)) (by decide) ?_
    refine TA.op (OpOK.pure (PV.indexA rfl hq2p rfl Tb.elm_22 rfl (by omega)) rfl (by decide)) (by decide) ?_
    refine TA.op (OpOK.pure (PV.loadOld rfl Tb.one_3 hq2) rfl (by decide)) (by decide) ?_
    refine TA.op (OpOK.pure (PV.neq rfl rfl) rfl (by decide)) (by decide) ?_
    show TQ _ _ _ _ _
    refine TQ.thenC ?_
    first | refine TC.condD rfl (fun hno => ?_) (fun hno => ?_) | refine TC.cond rfl (fun hno => ?_) (fun hno => ?_)
    · skip
      refine TC.seq ?_
      refine TC.region ?_
      refine TL.pure (PV.assign rfl) rfl (by decide) ?_
      refine TL.nil ?_
      refine TQ.thenC ?_
      refine TC.ret ?_
      refine TQ.blkR ?_
      refine TQ.thenR ?_
      refine TQ.thenR ?_
      refine TQ.blkR ?_
      refine TQ.thenR ?_
      refine TQ.retE1 rfl rfl ?_
      exact ⟨(), by rw [rows_no (i := k) (by omega) (by omega)], trivial, List.nil_sublist _⟩
    · skip
      refine TC.skip ?_
      refine TQ.blkN ?_
      refine TQ.thenC ?_
      refine TC.region ?_
      refine TL.pure (PV.add rfl rfl (by omega)) rfl (by decide) ?_
      refine TL.pure (PV.move rfl) rfl (by decide) ?_
      refine TL.nil ?_
      refine TQ.thenN ?_
      refine TQ.backK (k + 1) (by repeat (first | exact True.intro | refine And.intro rfl ?_)) (by repeat (first | exact True.intro | refine And.intro rfl ?_)) (by repeat (first | exact List.Sublist.slnil | exact List.nil_sublist _ | exact List.Sublist.refl _ | refine List.Sublist.cons_cons _ ?_ | refine List.Sublist.cons _ ?_ | refine List.Sublist.trans ?_ (List.sublist_append_right _ _))) ⟨by omega, fun j hj => if e : j < k then hk.2 j e else (show k = j by omega) ▸ (by omega)⟩ (by omega)
  · skip
    refine TC.exit ?_
    refine TQ.thenE ?_
    refine TQ.thenE ?_
    refine TQ.blkS ?_
    refine TQ.thenC ?_
    refine TC.seq ?_
    refine TC.region ?_
    refine TL.pure (PV.assign rfl) rfl (by decide) ?_
    refine TL.nil ?_
    refine TQ.thenC ?_
    refine TC.ret ?_
    refine TQ.retE1 rfl rfl ?_
    exact ⟨(), by unfold rowsB; rw [decide_eq_true (fun j hj => hk.2 j (by omega))], trivial, List.nil_sublist _⟩

set_option maxRecDepth 100000 in
theorem product_ok (w0 : World) (pl : Option Addr) (cl : Nat) (xs : List Int) (hx : IntsAt w0 pl xs) (p2 : Option Addr) (c2 : Nat) (ys : List Int) (hy : IntsAt w0 p2 ys) (hl : xs.length ≤ 1000000) (hle : xs.length ≤ ys.length) (h3 : Sm3 xs) (h4 : Sm3 ys) :
    Calls Try.prog 71 #[.slice pl xs.length cl, .slice p2 ys.length c2] w0 (Post (X := Unit) (fun _ => .int .i64 (prodI xs ys)) (fun _ => True) (fun _ => []) w0) := by
  refine calls Try.func71 rfl (n := 25) rfl (by simp) ?_
  refine TC.seq ?_
  refine TC.region ?_
  refine TL.pure (PV.assign rfl) rfl (by decide) ?_
  refine TL.nil ?_
  refine TQ.thenC ?_
  refine TC.seq ?_
  refine TC.region ?_
  refine TL.pure (PV.assign rfl) rfl (by decide) ?_
  refine TL.nil ?_
  refine TQ.thenC ?_
  refine TC.seq ?_
  refine TC.seq ?_
  refine TC.region ?_
  refine TL.pure (PV.move rfl) rfl (by decide) ?_
  refine TL.pure (PV.len rfl Tb.sl_22) rfl (by decide) ?_
  refine TL.pure (PV.move rfl) rfl (by decide) ?_
  refine TL.nil ?_
  refine TQ.thenC ?_
  refine TC.block ?_
  refine TC.loopG [1, 4, 8, 9] (X := Nat) (fun k => k ≤ xs.length) (fun k => [(10, .int .i64 k), (5, .int .i64 (sm k fun j => xs.getD j 0 * ys.getD j 0))]) (fun k => xs.length - k) 0 (Nat.zero_le _) (by repeat (first | exact True.intro | refine And.intro rfl ?_)) ?_
  intro k hk
  refine TC.seq ?_
  refine TC.region ?_
  refine TL.pure (PV.lss rfl rfl) rfl (by decide) ?_
  refine TL.nil ?_
  refine TQ.thenC ?_
  refine TC.seq ?_
  first | refine TC.condD rfl (fun hlt => ?_) (fun hlt => ?_) | refine TC.cond rfl (fun hlt => ?_) (fun hlt => ?_)
  · skip
    refine TC.skip ?_
    refine TQ.thenC ?_
    refine TC.seq ?_
    refine TC.block ?_
    refine TC.seq ?_
    obtain ⟨q1, hq1p, hq1⟩ := hx k (by omega)
    obtain ⟨q2, hq2p, hq2⟩ := hy k (by omega)
    have hb9 := prod_bd h3 h4 hle hk
    have hb8 := mul_bdA (A := 1000) (B := 1000) (h3 k (by omega)) (h4 k (by omega)) (by decide) (by decide)
    refine TC.region ?_
    refine TL.pure (PV.move rfl) rfl (by decide) ?_
    refine TL.pure (PV.indexA rfl hq1p rfl Tb.elm_22 rfl (by omega)) rfl (by decide) ?_
    refine TL.pure (PV.loadOld rfl Tb.one_3 hq1) rfl (by decide) ?_
    refine TL.pure (PV.assign rfl) rfl (by decide) ?_
    refine TL.pure (PV.assign rfl) rfl (by decide) ?_
    refine TL.nil ?_
    refine TQ.thenC ?_
    refine TC.region ?_
    refine TL.pure (PV.move rfl) rfl (by decide) ?_
    refine TL.pure (PV.move rfl) rfl (by decide) ?_
    refine TL.pure (PV.move rfl) rfl (by decide) ?_
    refine TL.pure (PV.move rfl) rfl (by decide) ?_
    refine TL.pure (PV.indexA rfl hq2p rfl Tb.elm_22 rfl (by omega)) rfl (by decide) ?_
    refine TL.pure (PV.loadOld rfl Tb.one_3 hq2) rfl (by decide) ?_
    refine TL.pure (PV.mul rfl rfl (by omega)) rfl (by decide) ?_
    refine TL.pure (PV.add rfl rfl (by omega)) rfl (by decide) ?_
    refine TL.pure (PV.assign rfl) rfl (by decide) ?_
    refine TL.nil ?_
    refine TQ.blkN ?_
    refine TQ.thenC ?_
    refine TC.region ?_
    refine TL.pure (PV.add rfl rfl (by omega)) rfl (by decide) ?_
    refine TL.pure (PV.move rfl) rfl (by decide) ?_
    refine TL.nil ?_
    refine TQ.thenN ?_
    refine TQ.backK (k + 1) (by repeat (first | exact True.intro | refine And.intro rfl ?_)) (by repeat (first | exact True.intro | refine And.intro rfl ?_)) (by repeat (first | exact List.Sublist.slnil | exact List.nil_sublist _ | exact List.Sublist.refl _ | refine List.Sublist.cons_cons _ ?_ | refine List.Sublist.cons _ ?_ | refine List.Sublist.trans ?_ (List.sublist_append_right _ _))) (by omega) (by omega)
  · skip
    refine TC.exit ?_
    refine TQ.thenE ?_
    refine TQ.thenE ?_
    refine TQ.blkS ?_
    refine TQ.thenC ?_
    refine TC.seq ?_
    refine TC.region ?_
    refine TL.pure (PV.move rfl) rfl (by decide) ?_
    refine TL.pure (PV.assign rfl) rfl (by decide) ?_
    refine TL.nil ?_
    refine TQ.thenC ?_
    refine TC.ret ?_
    refine TQ.retE1 rfl rfl ?_
    exact ⟨(), by rw [show k = xs.length by omega]; rfl, trivial, List.nil_sublist _⟩

set_option maxRecDepth 100000 in
theorem costOf_ok (w0 : World) (vt : Value) (t : Td) (ht : IsT w0 vt t) (vg : Value) (m : List (List Int)) (hg : IsG w0 vg m) (hc : Gr t.s.length t.d.length 99 t.c) (hm : Gr t.s.length t.d.length 120 m) (hs4 : t.s.length ≤ 4) (hd4 : t.d.length ≤ 4) :
    Calls Try.prog 55 #[vt, vg] w0 (Post (X := Unit) (fun _ => .int .i64 (costI t m)) (fun _ => True) (fun _ => []) w0) := by
  obtain ⟨p1, c1, p2, c2, p3, c3, rfl, t1, t2, t3⟩ := ht
  obtain ⟨pg, cg, rfl, g1⟩ := hg
  have hml := hm.len
  have hcl := hc.len
  refine calls Try.func55 rfl (n := 26) rfl (by simp) ?_
  refine TC.seq ?_
  refine TC.region ?_
  refine TL.box rfl rfl (by decide) (fun b0 hb0 => ?_)
  refine TL.pure (PV.assign rfl) rfl (by decide) ?_
  refine TL.nil ?_
  refine TQ.thenC ?_
  refine TC.seq ?_
  refine TC.region ?_
  refine TL.pure (PV.assign rfl) rfl (by decide) ?_
  refine TL.nil ?_
  refine TQ.thenC ?_
  refine TC.seq ?_
  refine TC.seq ?_
  refine TC.region ?_
  refine TL.pure (PV.move rfl) rfl (by decide) ?_
  refine TL.pure (PV.len rfl Tb.sl_23) rfl (by decide) ?_
  refine TL.pure (PV.move rfl) rfl (by decide) ?_
  refine TL.nil ?_
  refine TQ.thenC ?_
  refine TC.block ?_
  refine TC.loopG [2, 4, 8, 9] (X := Nat) (fun k => k ≤ m.length) (fun k => [(10, .int .i64 k), (5, .int .i64 (sm k fun i => prodI (m.getD i []) (t.c.getD i [])))]) (fun k => m.length - k) 0 (Nat.zero_le _) (by repeat (first | exact True.intro | refine And.intro rfl ?_)) ?_
  intro k hk
  refine TC.seq ?_
  refine TC.region ?_
  refine TL.pure (PV.lss rfl rfl) rfl (by decide) ?_
  refine TL.nil ?_
  refine TQ.thenC ?_
  refine TC.seq ?_
  first | refine TC.condD rfl (fun hlt => ?_) (fun hlt => ?_) | refine TC.cond rfl (fun hlt => ?_) (fun hlt => ?_)
  · skip
    refine TC.skip ?_
    refine TQ.thenC ?_
    refine TC.seq ?_
    refine TC.block ?_
    refine TC.seq ?_
    obtain ⟨q1, hq1p, q1p, q1c, hq1, hq1r⟩ := g1 k (by omega)
    obtain ⟨q2, hq2p, q2p, q2c, hq2, hq2r⟩ := t3 k (by omega)
    have hr1 := hm.row k (by omega)
    have hr2 := hc.row k (by omega)
    have hb9 := cost_bd hm hc (by decide) (by decide) hd4 (i := k) (by omega)
    have hb8 := cost_bd hm hc (by decide) (by decide) hd4 (i := k + 1) (by omega)
    have hb7 : sm (k + 1) (fun i => prodI (m.getD i []) (t.c.getD i [])) = sm k (fun i => prodI (m.getD i []) (t.c.getD i [])) + prodI (m.getD k []) (t.c.getD k []) := rfl
    refine TC.region ?_
    refine TL.pure (PV.move rfl) rfl (by decide) ?_
    refine TL.pure (PV.indexA rfl hq1p rfl Tb.elm_23 rfl (by omega)) rfl (by decide) ?_
    refine TL.pure (PV.loadOld rfl Tb.one_22 hq1) rfl (by decide) ?_
    refine TL.pure (PV.assign rfl) rfl (by decide) ?_
    refine TL.pure (PV.assign rfl) rfl (by decide) ?_
    refine TL.nil ?_
    refine TQ.thenC ?_
    refine TC.region ?_
    refine TL.pure (PV.move rfl) rfl (by decide) ?_
    refine TL.pure (PV.move rfl) rfl (by decide) ?_
    refine TL.pure (PV.fieldAddr rfl Tb.fo_25_2) rfl (by decide) ?_
    refine TL.pure (PV.load rfl Tb.one_23 (by repeat (first | exact List.Mem.head _ | refine List.Mem.tail _ ?_ | refine List.mem_append_right _ ?_)) rfl) rfl (by decide) ?_
    refine TL.pure (PV.move rfl) rfl (by decide) ?_
    refine TL.pure (PV.indexA rfl hq2p rfl Tb.elm_23 rfl (by omega)) rfl (by decide) ?_
    refine TL.pure (PV.loadOld rfl Tb.one_22 hq2) rfl (by decide) ?_
    refine TL.call rfl Tb.gofn_71 (fun a w hs => product_ok w _ _ _ (hq1r.new hs.new) _ _ _ (hq2r.new hs.new) (by omega) (by omega) (hm.sm3 (by decide) (by omega)) (hc.sm3 (by decide) (by omega))) rfl (by decide) (fun _ _ => ?_)
    refine TL.pure (PV.add rfl rfl (by omega)) rfl (by decide) ?_
    refine TL.pure (PV.assign rfl) rfl (by decide) ?_
    refine TL.nil ?_
    refine TQ.blkN ?_
    refine TQ.thenC ?_
    refine TC.region ?_
    refine TL.pure (PV.add rfl rfl (by omega)) rfl (by decide) ?_
    refine TL.pure (PV.move rfl) rfl (by decide) ?_
    refine TL.nil ?_
    refine TQ.thenN ?_
    refine TQ.backK (k + 1) (by repeat (first | exact True.intro | refine And.intro rfl ?_)) (by repeat (first | exact True.intro | refine And.intro rfl ?_)) (by repeat (first | exact List.Sublist.slnil | exact List.nil_sublist _ | exact List.Sublist.refl _ | refine List.Sublist.cons_cons _ ?_ | refine List.Sublist.cons _ ?_ | refine List.Sublist.trans ?_ (List.sublist_append_right _ _))) (by omega) (by omega)
  · skip
    refine TC.exit ?_
    refine TQ.thenE ?_
    refine TQ.thenE ?_
    refine TQ.blkS ?_
    refine TQ.thenC ?_
    refine TC.seq ?_
    refine TC.region ?_
    refine TL.pure (PV.move rfl) rfl (by decide) ?_
    refine TL.pure (PV.assign rfl) rfl (by decide) ?_
    refine TL.nil ?_
    refine TQ.thenC ?_
    refine TC.ret ?_
    refine TQ.retE1 rfl rfl ?_
    exact ⟨(), by rw [show k = m.length by omega]; rfl, trivial, List.nil_sublist _⟩

set_option maxRecDepth 100000 in
theorem table_ok (w0 : World) (vg : Value) (m : List (List Int)) (hg : IsG w0 vg m) (hlen : m.length ≤ 9223372036854775807) :
    Calls Try.prog 54 #[vg] w0 (Post (X := Unit) (fun _ => .bool (lgG m)) (fun _ => True) (fun _ => []) w0) := by
  obtain ⟨pg, cg, rfl, g1⟩ := hg
  refine calls Try.func54 rfl (n := 19) rfl (by simp) ?_
  refine TC.seq ?_
  refine TC.region ?_
  refine TL.pure (PV.assign rfl) rfl (by decide) ?_
  refine TL.nil ?_
  refine TQ.thenC ?_
  refine TC.seq ?_
  refine TC.seq ?_
  refine TC.region ?_
  refine TL.pure (PV.assign rfl) rfl (by decide) ?_
  refine TL.nil ?_
  refine TQ.thenC ?_
  refine TC.block ?_
  -- live and written in the loop, not told: [2]
  refine TC.loopG [0] (X := Nat) (fun k => k ≤ m.length ∧ ∀ j, j < k → ¬ 50 < (m.getD j []).length) (fun k => [(3, .int .i64 k)]) (fun k => m.length - k) 0 ⟨Nat.zero_le _, fun j hj => absurd hj (Nat.not_lt_zero _)⟩ (by repeat (first | exact True.intro | refine And.intro rfl ?_)) ?_
  intro k hk
  refine TC.seq ?_
  refine TC.seq ?_
  refine TC.region ?_
  refine TL.pure (PV.move rfl) rfl (by decide) ?_
  refine TL.pure (PV.move rfl) rfl (by decide) ?_
  refine TL.pure (PV.len rfl Tb.sl_23) rfl (by decide) ?_
  refine TL.pure (PV.lss rfl rfl) rfl (by decide) ?_
  refine TL.nil ?_
  refine TQ.thenC ?_
  first | refine TC.condD rfl (fun hlt => ?_) (fun hlt => ?_) | refine TC.cond rfl (fun hlt => ?_) (fun hlt => ?_)
  · skip
    refine TC.skip ?_
    refine TQ.thenC ?_
    refine TC.seq ?_
    refine TC.block ?_
    refine TC.seq ?_
    obtain ⟨q1, hq1p, q1p, q1c, hq1, hq1r⟩ := g1 k (by omega)
    refine TC.region ?_
    refine TL.pure (PV.move rfl) rfl (by decide) ?_
    refine TL.pure (PV.move rfl) rfl (by decide) ?_
    refine TL.pure (PV.indexA rfl hq1p rfl Tb.elm_23 rfl (by omega)) rfl (by decide) ?_
    refine TL.pure (PV.loadOld rfl Tb.one_22 hq1) rfl (by decide) ?_
    refine TL.pure (PV.len rfl Tb.sl_22) rfl (by decide) ?_
    refine TL.pure (PV.gtr rfl rfl) rfl (by decide) ?_
    refine TL.nil ?_
    refine TQ.thenC ?_
    first | refine TC.condD rfl (fun hno => ?_) (fun hno => ?_) | refine TC.cond rfl (fun hno => ?_) (fun hno => ?_)
    · skip
      refine TC.seq ?_
      refine TC.region ?_
      refine TL.pure (PV.assign rfl) rfl (by decide) ?_
      refine TL.nil ?_
      refine TQ.thenC ?_
      refine TC.ret ?_
      refine TQ.blkR ?_
      refine TQ.thenR ?_
      refine TQ.thenR ?_
      refine TQ.blkR ?_
      refine TQ.thenR ?_
      refine TQ.retE1 rfl rfl ?_
      exact ⟨(), by unfold lgG; rw [any_yes (k := k) (d := []) (by omega) (decide_eq_true (by omega)), Bool.true_or], trivial, List.nil_sublist _⟩
    · skip
      refine TC.skip ?_
      refine TQ.blkN ?_
      refine TQ.thenC ?_
      refine TC.region ?_
      refine TL.pure (PV.move rfl) rfl (by decide) ?_
      refine TL.pure (PV.add rfl rfl (by omega)) rfl (by decide) ?_
      refine TL.pure (PV.assign rfl) rfl (by decide) ?_
      refine TL.nil ?_
      refine TQ.thenN ?_
      refine TQ.backK (k + 1) (by repeat (first | exact True.intro | refine And.intro rfl ?_)) (by repeat (first | exact True.intro | refine And.intro rfl ?_)) (by repeat (first | exact List.Sublist.slnil | exact List.nil_sublist _ | exact List.Sublist.refl _ | refine List.Sublist.cons_cons _ ?_ | refine List.Sublist.cons _ ?_ | refine List.Sublist.trans ?_ (List.sublist_append_right _ _))) ⟨by omega, fun j hj => if e : j < k then hk.2 j e else (show k = j by omega) ▸ (by omega)⟩ (by omega)
  · skip
    refine TC.exit ?_
    refine TQ.thenE ?_
    refine TQ.thenE ?_
    refine TQ.blkS ?_
    refine TQ.thenC ?_
    refine TC.seq ?_
    refine TC.region ?_
    refine TL.pure (PV.move rfl) rfl (by decide) ?_
    refine TL.pure (PV.len rfl Tb.sl_23) rfl (by decide) ?_
    refine TL.pure (PV.gtr rfl rfl) rfl (by decide) ?_
    refine TL.pure (PV.assign rfl) rfl (by decide) ?_
    refine TL.nil ?_
    refine TQ.thenC ?_
    refine TC.ret ?_
    refine TQ.retE1 rfl rfl ?_
    exact ⟨(), by unfold lgG; rw [any_no (d := []) (fun j hj => decide_eq_false (hk.2 j (by omega))), Bool.false_or]; congr 1; rw [decide_eq_decide]; omega, trivial, List.nil_sublist _⟩

end Go.Proofs.Ytghlkndanpegbaa
