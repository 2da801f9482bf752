/- Sums at the points, lowest terms, and the equations of a survey: the program's way. -/
import Derived.Test.YtmmgcajegokkoaaC1
set_option linter.unusedVariables false
set_option linter.unusedSimpArgs false
namespace Go.Proofs.Ytmmgcajegokkoaa
open Go.Sx Go.RowKit

/-- A slice that begins at p reads as the numbers xs. -/
def IntsAt (w : World) (p : Option Addr) (xs : List Int) : Prop := ∀ j, j < xs.length → ∃ q, p = some q ∧ w.cell? (q.add (j * 1)) = some (.int .i64 (xs.getD j 0))
theorem IntsAt.new {w0 w : World} {G : Heap} {p : Option Addr} {xs : List Int} (h : IntsAt w0 p xs) (hn : New w0 w G) : IntsAt w p xs := fun j hj =>
  let ⟨q, hq, hc⟩ := h j hj
  ⟨q, hq, hn.old hc⟩
theorem IntsAt.blk {w0 w : World} {G : Heap} {b : Nat} {xs : List Int} {sp : List Value} {e : TypeId} (hn : New w0 w G) (hm : (b, Obj.cells (xs.map (Value.int .i64) ++ sp).toArray e (0, 0)) ∈ G) : IntsAt w (some ⟨b, 0, none⟩) xs := fun j hj =>
  ⟨_, rfl, by
    rw [add_off]
    refine hn.cell hm ?_
    have : ((xs.map (Value.int .i64)) ++ sp)[0 + j * 1]? = some (Value.int .i64 (xs.getD j 0)) := by
      rw [List.getElem?_append_left (by simpa using hj)]
      simp [List.getD, hj]
    simpa using this⟩
theorem IntsAt.arr {w0 w : World} {G : Heap} {b : Nat} {xs : List Int} {e : TypeId} (hn : New w0 w G) (hm : (b, Obj.cells (intsA xs) e (0, 0)) ∈ G) : IntsAt w (some ⟨b, 0, none⟩) xs :=
  IntsAt.blk (sp := []) hn (by simpa [intsA] using hm)

theorem gcd_step {a b : Int} (ha : 0 ≤ a) (hb : 0 ≤ b) : Int.gcd (b.tmod a) a = Int.gcd a b := by
  obtain ⟨x, rfl⟩ := Int.eq_ofNat_of_zero_le ha
  obtain ⟨y, rfl⟩ := Int.eq_ofNat_of_zero_le hb
  rw [Int.tmod_eq_emod_of_nonneg hb]
  show Int.gcd (((y % x : Nat)) : Int) x = _
  rw [Int.gcd_natCast_natCast, Int.gcd_natCast_natCast]
  exact (Nat.gcd_rec x y).symm
def lowG (num den : Int) : Int := (Int.gcd num den : Nat)
def lowV (num den : Int) : Value := .agg #[.int .i64 (num.tdiv (lowG num den)), .int .i64 (den.tdiv (lowG num den))]
theorem low_bound {num den : Int} (hd : 0 < den) : 0 < lowG num den := by
  unfold lowG
  have : 0 < Int.gcd num den := Int.gcd_pos_of_ne_zero_right _ (by omega)
  omega
theorem tdiv_bound {a g B : Int} (h1 : -B ≤ a) (h2 : a ≤ B) (hB : 0 ≤ B) : -B ≤ a.tdiv g ∧ a.tdiv g ≤ B := by
  have h := Int.natAbs_tdiv a g
  have h3 : (a.tdiv g).natAbs ≤ a.natAbs := by rw [h]; exact Nat.div_le_self _ _
  omega

def surStep (xs : List Int) (r : Rd) (a : Int) : List Int :=
  let x1 := xs.set r.to.toNat (xs.getD r.to.toNat 0 + r.wt * a)
  x1.set r.fr.toNat (x1.getD r.fr.toNat 0 - r.wt * a)
def surF (xs : List Int) (rs : List Rd) (am : List Int) : Nat → List Int
  | 0 => xs
  | k + 1 => surStep (surF xs rs am k) (rs.getD k default) (am.getD k 0)
def surL (N : Nat) (rs : List Rd) (am : List Int) : List Int := surF (List.replicate N 0) rs am rs.length
def Bd (xs : List Int) (B : Int) : Prop := ∀ j, -B ≤ xs.getD j 0 ∧ xs.getD j 0 ≤ B
theorem getD_set (xs : List Int) (i j : Nat) (v : Int) : (xs.set i v).getD j 0 = if i = j ∧ i < xs.length then v else xs.getD j 0 := by
  simp only [List.getD, List.getElem?_set]
  by_cases h : i = j
  · subst h
    by_cases hl : i < xs.length
    · simp [hl]
    · simp [hl]
  · simp [h]
theorem Bd.set {xs : List Int} {B C : Int} (h : Bd xs B) (hC : B ≤ C) {i : Nat} {v : Int} (h1 : -C ≤ v) (h2 : v ≤ C) : Bd (xs.set i v) C := by
  intro j
  rw [getD_set]
  split
  · exact ⟨h1, h2⟩
  · have := h j; omega
theorem surF_len (xs : List Int) (rs : List Rd) (am : List Int) : ∀ k, (surF xs rs am k).length = xs.length
  | 0 => rfl
  | k + 1 => by simp [surF, surStep, surF_len xs rs am k]
theorem mul_bd {w a B : Int} (hw : 1 ≤ w ∧ w ≤ 3) (ha : -B ≤ a ∧ a ≤ B) : -(3 * B) ≤ w * a ∧ w * a ≤ 3 * B := by
  have : w = 1 ∨ w = 2 ∨ w = 3 := by omega
  rcases this with rfl | rfl | rfl <;> omega
theorem surF_bd {xs : List Int} {rs : List Rd} {am : List Int} {n B : Int} (hv : Valid n rs) (hxs : Bd xs 0) (ha : Bd am B) (hB : 0 ≤ B) : ∀ k, k ≤ rs.length → Bd (surF xs rs am k) (6 * B * k)
  | 0, _ => by simpa [surF] using hxs
  | k + 1, hk => by
    have ih := surF_bd hv hxs ha hB k (by omega)
    have h1 := hv.at (k := k) (by omega)
    have hm := mul_bd ⟨h1.2.2.2.2.1, h1.2.2.2.2.2⟩ (ha k)
    have e : 6 * B * ((k + 1 : Nat) : Int) = 6 * B * k + 6 * B := by
      rw [show ((k + 1 : Nat) : Int) = (k : Int) + 1 by omega, Int.mul_add, Int.mul_one]
    have h2 := ih (rs.getD k default).to.toNat
    have h3 : Bd ((surF xs rs am k).set (rs.getD k default).to.toNat ((surF xs rs am k).getD (rs.getD k default).to.toNat 0 + (rs.getD k default).wt * am.getD k 0)) (6 * B * k + 3 * B) :=
      ih.set (by omega) (by omega) (by omega)
    have h4 := h3 (rs.getD k default).fr.toNat
    rw [e]
    exact h3.set (by omega) (by omega) (by omega)

def rowInit (N : Nat) (first loads : List Int) (i : Nat) : List Int :=
  if (i : Int) = first.getD i 0 then (List.replicate (N + 1) 0).set i 1 else (List.replicate (N + 1) 0).set N (loads.getD i 0)
def m0 (N : Nat) (first loads : List Int) (i : Nat) : List (List Int) := (List.range i).map (rowInit N first loads)
def addTo (m : List (List Int)) (i j : Nat) (v : Int) : List (List Int) := setM m i j (getM m i j + v)
def subTo (m : List (List Int)) (i j : Nat) (v : Int) : List (List Int) := setM m i j (getM m i j - v)
def addR1 (first : List Int) (m : List (List Int)) (r : Rd) : List (List Int) :=
  if r.fr ≠ first.getD r.fr.toNat 0 then subTo (addTo m r.fr.toNat r.fr.toNat r.wt) r.fr.toNat r.to.toNat r.wt else m
def addR2 (first : List Int) (m : List (List Int)) (r : Rd) : List (List Int) :=
  if r.to ≠ first.getD r.to.toNat 0 then subTo (addTo m r.to.toNat r.to.toNat r.wt) r.to.toNat r.fr.toNat r.wt else m
def addR (first : List Int) (m : List (List Int)) (r : Rd) : List (List Int) := addR2 first (addR1 first m r) r
def eqF (first : List Int) (m : List (List Int)) (rs : List Rd) : List (List Int) := rs.foldl (addR first) m
def eqM (N : Nat) (rs : List Rd) (loads : List Int) : List (List Int) := eqF (firstsL N rs) (m0 N (firstsL N rs) loads N) rs
theorem eqF_take {first : List Int} {m : List (List Int)} {rs : List Rd} {k : Nat} (h : k < rs.length) : eqF first m (rs.take (k + 1)) = addR first (eqF first m (rs.take k)) (rs.getD k default) := by
  rw [List.take_succ_eq_append_getElem h, eqF, List.foldl_append]
  simp [eqF, List.getD, h]
/-- N rows of c numbers. -/
def Sh (m : List (List Int)) (N c : Nat) : Prop := m.length = N ∧ ∀ i, i < N → (m.getD i []).length = c
def BM (m : List (List Int)) (B : Int) : Prop := ∀ i j, -B ≤ getM m i j ∧ getM m i j ≤ B
theorem Sh.set {m : List (List Int)} {N c : Nat} (h : Sh m N c) (i j : Nat) (v : Int) : Sh (setM m i j v) N c := by
  refine ⟨by simp [setM, h.1], fun k hk => ?_⟩
  have hk' : k < m.length := by rw [h.1]; exact hk
  simp only [setM, List.getD, List.getElem?_set]
  by_cases hik : i = k
  · subst hik
    simp only [hk', if_true]
    have := h.2 i hk
    simpa [List.getD] using this
  · rw [if_neg hik]
    have := h.2 k hk
    simpa [List.getD] using this
theorem getM_set (m : List (List Int)) (i j : Nat) (v : Int) (a b : Nat) : getM (setM m i j v) a b = getM m a b ∨ getM (setM m i j v) a b = v := by
  simp only [getM, setM, List.getD, List.getElem?_set]
  by_cases hia : i = a
  · subst hia
    by_cases hl : i < m.length
    · simp only [hl, if_true, Option.getD_some, List.getElem?_set]
      by_cases hjb : j = b
      · subst hjb
        by_cases hj : j < (m[i]?.getD []).length
        · right; simp [hj]
        · left; simp [hj]
      · left; simp [hjb]
    · left; simp [hl]
  · left; simp [hia]
theorem BM.set {m : List (List Int)} {B C : Int} (h : BM m B) (hC : B ≤ C) {i j : Nat} {v : Int} (h1 : -C ≤ v) (h2 : v ≤ C) : BM (setM m i j v) C := by
  intro a b
  rcases getM_set m i j v a b with e | e
  · rw [e]; have := h a b; omega
  · rw [e]; exact ⟨h1, h2⟩
theorem BM.addTo {m : List (List Int)} {B : Int} (h : BM m B) {i j : Nat} {v : Int} (h1 : 1 ≤ v) (h2 : v ≤ 3) : BM (addTo m i j v) (B + 3) := by
  have := h i j
  exact h.set (by omega) (by omega) (by omega)
theorem BM.subTo {m : List (List Int)} {B : Int} (h : BM m B) {i j : Nat} {v : Int} (h1 : 1 ≤ v) (h2 : v ≤ 3) : BM (subTo m i j v) (B + 3) := by
  have := h i j
  exact h.set (by omega) (by omega) (by omega)
theorem BM.mono {m : List (List Int)} {B C : Int} (h : BM m B) (hC : B ≤ C) : BM m C := fun i j => by have := h i j; omega
theorem BM.addR1 {first : List Int} {m : List (List Int)} {B : Int} (h : BM m B) {r : Rd} (h1 : 1 ≤ r.wt) (h2 : r.wt ≤ 3) : BM (addR1 first m r) (B + 6) := by
  unfold Ytmmgcajegokkoaa.addR1
  split
  · exact ((h.addTo h1 h2).subTo h1 h2).mono (by omega)
  · exact h.mono (by omega)
theorem BM.addR2 {first : List Int} {m : List (List Int)} {B : Int} (h : BM m B) {r : Rd} (h1 : 1 ≤ r.wt) (h2 : r.wt ≤ 3) : BM (addR2 first m r) (B + 6) := by
  unfold Ytmmgcajegokkoaa.addR2
  split
  · exact ((h.addTo h1 h2).subTo h1 h2).mono (by omega)
  · exact h.mono (by omega)
theorem Sh.addR1 {first : List Int} {m : List (List Int)} {N c : Nat} (h : Sh m N c) (r : Rd) : Sh (addR1 first m r) N c := by
  unfold Ytmmgcajegokkoaa.addR1
  split
  · exact (h.set _ _ _).set _ _ _
  · exact h
theorem Sh.addR2 {first : List Int} {m : List (List Int)} {N c : Nat} (h : Sh m N c) (r : Rd) : Sh (addR2 first m r) N c := by
  unfold Ytmmgcajegokkoaa.addR2
  split
  · exact (h.set _ _ _).set _ _ _
  · exact h
theorem eqF_sh {first : List Int} {N c : Nat} : ∀ (rs : List Rd) {m : List (List Int)}, Sh m N c → Sh (eqF first m rs) N c
  | [], _, h => h
  | r :: rs, _, h => eqF_sh rs ((h.addR1 r).addR2 r)
theorem eqF_bm {first : List Int} {n B : Int} : ∀ (rs : List Rd) {m : List (List Int)}, rs.all (isReadingB n) = true → BM m B → BM (eqF first m rs) (B + 12 * rs.length)
  | [], _, _, h => by simpa [eqF] using h
  | r :: rs, m, ha, h => by
    simp only [List.all_cons, Bool.and_eq_true] at ha
    have hr := reading_spec ha.1
    have := eqF_bm (first := first) rs ha.2 ((h.addR1 (first := first) (r := r) hr.2.2.2.2.1 hr.2.2.2.2.2).addR2 (first := first) (r := r) hr.2.2.2.2.1 hr.2.2.2.2.2)
    refine BM.mono this ?_
    simp only [List.length_cons]
    omega
theorem all_take {n : Int} {rs : List Rd} (h : rs.all (isReadingB n) = true) (k : Nat) : (rs.take k).all (isReadingB n) = true := by
  rw [List.all_eq_true] at h ⊢
  exact fun x hx => h x (List.mem_of_mem_take hx)
theorem m0_len (N : Nat) (first loads : List Int) (i : Nat) : (m0 N first loads i).length = i := by simp [m0]
theorem m0_get {N : Nat} {first loads : List Int} {i j : Nat} (h : j < i) : (m0 N first loads i).getD j [] = rowInit N first loads j := by simp [m0, List.getD, h]
theorem rowInit_len (N : Nat) (first loads : List Int) (i : Nat) : (rowInit N first loads i).length = N + 1 := by
  unfold rowInit
  split <;> simp
theorem m0_sh (N : Nat) (first loads : List Int) (i : Nat) : Sh (m0 N first loads i) i (N + 1) := ⟨m0_len _ _ _ _, fun j hj => by rw [m0_get hj, rowInit_len]⟩
theorem m0_bm {N : Nat} {first loads : List Int} {B : Int} (hB : 1 ≤ B) (hl : Bd loads B) (i : Nat) : BM (m0 N first loads i) B := by
  intro a b
  simp only [getM]
  by_cases ha : a < i
  · rw [m0_get ha]
    have hr : Bd (List.replicate (N + 1) (0 : Int)) B := by
      intro j
      by_cases hj : j < N + 1
      · simp [List.getD, List.getElem?_replicate, hj]; omega
      · simp [List.getD, List.getElem?_replicate, hj]; omega
    unfold rowInit
    split
    · exact hr.set (Int.le_refl _) (by omega) (by omega) b
    · exact hr.set (Int.le_refl _) (hl a).1 (hl a).2 b
  · have : (m0 N first loads i).getD a [] = [] := by
      simp [List.getD, m0, ha]
    rw [this]
    simp; omega
theorem m0_succ (N : Nat) (first loads : List Int) (i : Nat) : m0 N first loads (i + 1) = m0 N first loads i ++ [rowInit N first loads i] := by
  simp [m0, List.range_succ]
theorem setM_last {m : List (List Int)} {r : List Int} {i j : Nat} {v : Int} (h : m.length = i) : (m ++ [r]).set i (((m ++ [r]).getD i []).set j v) = m ++ [r.set j v] := by
  subst h
  simp [List.getD]


set_option maxRecDepth 100000 in
theorem lowest_ok (w0 : World) (num den : Int) (hd : 0 < den) (hd2 : den ≤ 4000000000000000000) (hn : -4000000000000000000 ≤ num ∧ num ≤ 4000000000000000000) :
    Calls Try.prog 79 #[.int .i64 num, .int .i64 den] w0 (Post (X := Unit) (fun _ => lowV num den) (fun _ => True) (fun _ => []) w0) := by
  refine calls Try.func79 rfl (n := 25) rfl (by simp) ?_
  refine TC.seq ?_
  refine TC.region ?_
  refine TL.alloc Tb.zero_46 rfl (by decide) (fun b0 hb0 => ?_)
  refine TL.nil ?_
  refine TQ.thenC ?_
  refine TC.seq ?_
  refine TC.region ?_
  refine TL.pure (PV.move rfl) rfl (by decide) ?_
  refine TL.pure (PV.move rfl) rfl (by decide) ?_
  refine TL.pure (PV.neg rfl (by omega)) rfl (by decide) ?_
  refine TL.pure (PV.max rfl rfl Tb.int_3) rfl (by decide) ?_
  refine TL.pure (PV.move rfl) rfl (by decide) ?_
  refine TL.pure (PV.assign rfl) rfl (by decide) ?_
  refine TL.pure (PV.assign rfl) rfl (by decide) ?_
  refine TL.nil ?_
  refine TQ.thenC ?_
  refine TC.seq ?_
  refine TC.block ?_
  refine TC.loopG [0, 1, 4] (X := Int × Int) (fun x => 0 ≤ x.1 ∧ 0 < x.2 ∧ x.1 ≤ 4000000000000000000 ∧ x.2 ≤ 4000000000000000000 ∧ Int.gcd x.1 x.2 = Int.gcd num den) (fun x => [(5, .int .i64 x.1), (6, .int .i64 x.2)]) (fun x => x.1.toNat) (max num (-num), den) ⟨by omega, hd, by omega, hd2, by rcases Int.le_total 0 num with h | h; (rw [show max num (-num) = num by omega]); (rw [show max num (-num) = -num by omega, Int.neg_gcd])⟩ (by repeat (first | exact True.intro | refine And.intro rfl ?_)) ?_
  intro x hx
  obtain ⟨hx1, hx2, hx3, hx4, hx5⟩ := hx
  refine TC.seq ?_
  refine TC.seq ?_
  refine TC.region ?_
  refine TL.pure (PV.move rfl) rfl (by decide) ?_
  refine TL.pure (PV.neq rfl rfl) rfl (by decide) ?_
  refine TL.nil ?_
  refine TQ.thenC ?_
  first | refine TC.condD rfl (fun hne => ?_) (fun hne => ?_) | refine TC.cond rfl (fun hne => ?_) (fun hne => ?_)
  · skip
    refine TC.skip ?_
    refine TQ.thenC ?_
    refine TC.block ?_
    refine TC.region ?_
    refine TL.pure (PV.move rfl) rfl (by decide) ?_
    refine TL.pure (PV.move rfl) rfl (by decide) ?_
    refine TL.pure (PV.rem rfl rfl (by omega) (by have := Int.tmod_lt_of_pos x.2 (show 0 < x.1 by omega); have := Int.tmod_nonneg x.1 (show 0 ≤ x.2 by omega); omega)) rfl (by decide) ?_
    refine TL.pure (PV.move rfl) rfl (by decide) ?_
    refine TL.pure (PV.assign rfl) rfl (by decide) ?_
    refine TL.pure (PV.assign rfl) rfl (by decide) ?_
    refine TL.nil ?_
    refine TQ.blkN ?_
    refine TQ.thenN ?_
    refine TQ.backK (x.2.tmod x.1, x.1) (by repeat (first | exact True.intro | refine And.intro rfl ?_)) (by repeat (first | exact True.intro | refine And.intro rfl ?_)) (by repeat (first | exact List.Sublist.slnil | exact List.nil_sublist _ | exact List.Sublist.refl _ | refine List.Sublist.cons_cons _ ?_ | refine List.Sublist.cons _ ?_ | refine List.Sublist.trans ?_ (List.sublist_append_right _ _))) ⟨Int.tmod_nonneg _ (by omega), by omega, by have := Int.tmod_lt_of_pos x.2 (show 0 < x.1 by omega); omega, by omega, by exact (gcd_step (by omega) (by omega)).trans hx5⟩ (by have := Int.tmod_lt_of_pos x.2 (show 0 < x.1 by omega); have := Int.tmod_nonneg x.1 (show 0 ≤ x.2 by omega); simp only; omega)
  · skip
    refine TC.exit ?_
    refine TQ.thenE ?_
    refine TQ.thenE ?_
    refine TQ.blkS ?_
    refine TQ.thenC ?_
    refine TC.seq ?_
    refine TC.draw 7 Tb.mixed (by kernel_rfl) ?_
    simp only [List.take_succ_cons, List.take_zero, List.drop_succ_cons, List.drop_zero]
    refine TS.pure (PV.move rfl) rfl (by decide) ?_
    refine TS.pure (PV.move rfl) rfl (by decide) ?_
    refine TS.pure (PV.quo rfl rfl (by omega) (by have := tdiv_bound (g := x.2) hn.1 hn.2 (by omega); omega)) rfl (by decide) ?_
    refine TS.pure (PV.move rfl) rfl (by decide) ?_
    refine TS.pure (PV.move rfl) rfl (by decide) ?_
    refine TS.pure (PV.quo rfl rfl (by omega) (by have := tdiv_bound (a := den) (g := x.2) (B := 4000000000000000000) (by omega) hd2 (by omega); omega)) rfl (by decide) ?_
    refine TS.pure (PV.build rfl Tb.zero_46 Tb.pl_46 rfl) rfl (by decide) ?_
    refine TS.nil ?_
    refine TL.storeAgg rfl rfl Tb.cells_46 (by repeat (first | exact Upd.head _ | apply Upd.tail | apply Upd.appR)) rfl rfl rfl rfl rfl ?_
    refine TL.nil ?_
    refine TQ.thenC ?_
    refine TC.ret ?_
    refine TQ.retR rfl (Res.agg rfl Tb.agg_46 (by repeat (first | exact List.Mem.head _ | refine List.Mem.tail _ ?_ | refine List.mem_append_right _ ?_)) rfl Res.nil) ?_
    simp only [tup]
    have e : x.2 = lowG num den := by
      have h0 : x.1 = 0 := by omega
      rw [h0, Int.gcd_zero_left] at hx5
      unfold lowG
      omega
    exact ⟨(), by rw [lowV, ← e]; rfl, trivial, List.nil_sublist _⟩

set_option maxRecDepth 100000 in
theorem surplus_ok (w0 : World) (n : Int) (p : Option Addr) (cap : Nat) (rs : List Rd) (hr : RdsAt w0 p rs) (hv : Valid n rs) (pa : Option Addr) (ca : Nat) (am : List Int) (ha : IntsAt w0 pa am) (hal : am.length = rs.length) (B : Int) (hB : 0 ≤ B ∧ B ≤ 1000000000000000) (hab : Bd am B) :
    Calls Try.prog 82 #[sv n p rs.length cap, .slice pa rs.length ca] w0 (Post (X := Nat) (fun b => .slice (some ⟨b, 0, none⟩) n.toNat n.toNat) (fun _ => True) (fun b => [arrI b (surL n.toNat rs am)]) w0) := by
  have hp := hv.pts
  have hl := hv.len
  obtain ⟨N, rfl⟩ : ∃ N : Nat, n = N := ⟨n.toNat, by omega⟩
  refine calls Try.func82 rfl (n := 49) rfl (by simp) ?_
  refine TC.seq ?_
  refine TC.region ?_
  refine TL.box rfl rfl (by decide) (fun b0 hb0 => ?_)
  refine TL.pure (PV.assign rfl) rfl (by decide) ?_
  refine TL.nil ?_
  refine TQ.thenC ?_
  refine TC.seq ?_
  refine TC.region ?_
  refine TL.pure (PV.fieldAddr rfl Tb.fo_24_0) rfl (by decide) ?_
  refine TL.pure (PV.load rfl Tb.one_3 (by repeat (first | exact List.Mem.head _ | refine List.Mem.tail _ ?_ | refine List.mem_append_right _ ?_)) rfl) rfl (by decide) ?_
  refine TL.makeI rfl rfl Tb.sl_31 Tb.zi_3 rfl (by omega) (by omega) rfl (by decide) (fun b1 hb1 => ?_)
  refine TL.pure (PV.assign rfl) rfl (by decide) ?_
  refine TL.nil ?_
  refine TQ.thenC ?_
  refine TC.seq ?_
  refine TC.seq ?_
  refine TC.region ?_
  refine TL.pure (PV.fieldAddr rfl Tb.fo_24_1) rfl (by decide) ?_
  refine TL.pure (PV.load rfl Tb.one_22 (by repeat (first | exact List.Mem.head _ | refine List.Mem.tail _ ?_ | refine List.mem_append_right _ ?_)) rfl) rfl (by decide) ?_
  refine TL.pure (PV.len rfl Tb.sl_22) rfl (by decide) ?_
  refine TL.pure (PV.move rfl) rfl (by decide) ?_
  refine TL.nil ?_
  refine TQ.thenC ?_
  refine TC.block ?_
  refine TC.loopK [1, 4, 5, 12, 13] (X := Nat × List Int) (fun x => x.1 ≤ rs.length ∧ x.2 = surF (List.replicate N 0) rs am x.1) (fun x => [(14, .int .i64 x.1)]) (fun x => [arrI b1 x.2, (b0, .cells #[.int .i64 N, .slice p rs.length cap] 24 (0, 0))]) (fun x => rs.length - x.1) (0, List.replicate N 0) ⟨Nat.zero_le _, rfl⟩ (by repeat (first | exact True.intro | refine And.intro rfl ?_)) (by repeat (first | exact List.Sublist.slnil | exact List.nil_sublist _ | exact List.Sublist.refl _ | refine List.Sublist.cons_cons _ ?_ | refine List.Sublist.cons _ ?_ | refine List.Sublist.trans ?_ (List.sublist_append_right _ _))) ?_
  intro x hx
  refine TC.seq ?_
  refine TC.region ?_
  refine TL.pure (PV.lss rfl rfl) rfl (by decide) ?_
  refine TL.nil ?_
  refine TQ.thenC ?_
  refine TC.seq ?_
  first | refine TC.condD rfl (fun hlt => ?_) (fun hlt => ?_) | refine TC.cond rfl (fun hlt => ?_) (fun hlt => ?_)
  · skip
    refine TC.skip ?_
    refine TQ.thenC ?_
    refine TC.seq ?_
    refine TC.block ?_
    refine TC.seq ?_
    refine TC.region ?_
    have hxl : x.2.length = N := by rw [hx.2, surF_len]; simp
    have hbd : Bd x.2 (6 * B * x.1) := by rw [hx.2]; exact surF_bd hv (fun j => by by_cases hj : j < N <;> simp [List.getD, List.getElem?_replicate, hj]) hab hB.1 x.1 hx.1
    have hb8 : 6 * B * x.1 ≤ 48000000000000000 := by
      have h1 : 6 * B * (x.1 : Int) ≤ 6 * B * 8 := Int.mul_le_mul_of_nonneg_left (by omega) (by omega)
      omega
    obtain ⟨qa, rfl, hqa⟩ := ha x.1 (by omega)
    have hv1 := hv.at (k := x.1) (by omega)
    obtain ⟨q, rfl, hq⟩ := hr x.1 (by omega)
    have hb1 := hbd (rs.getD x.1 default).to.toNat
    have hmb := mul_bd ⟨hv1.2.2.2.2.1, hv1.2.2.2.2.2⟩ (hab x.1)
    have hb2 := (hbd.set (C := 6 * B * x.1 + 3 * B) (by omega) (i := (rs.getD x.1 default).to.toNat) (v := x.2.getD (rs.getD x.1 default).to.toNat 0 + (rs.getD x.1 default).wt * am.getD x.1 0) (by omega) (by omega)) (rs.getD x.1 default).fr.toNat
    refine TL.pure (PV.move rfl) rfl (by decide) ?_
    refine TL.pure (PV.indexA rfl rfl rfl Tb.elm_22 rfl (by omega)) rfl (by decide) ?_
    refine TL.pure (PV.loadAggA rfl Tb.agg_61 rfl hq) rfl (by decide) ?_
    refine TL.alloc Tb.zero_61 rfl (by decide) (fun b2 hb2 => ?_)
    refine TL.pure (PV.assign rfl) rfl (by decide) ?_
    refine TL.storeAgg rfl rfl Tb.cells_61 (by repeat (first | exact Upd.head _ | apply Upd.tail | apply Upd.appR)) rfl rfl rfl rfl rfl ?_
    refine TL.nil ?_
    refine TQ.thenC ?_
    refine TC.seq ?_
    refine TC.draw 14 Tb.mixed (by kernel_rfl) ?_
    simp only [List.take_succ_cons, List.take_zero, List.drop_succ_cons, List.drop_zero]
    refine TS.pure (PV.move rfl) rfl (by decide) ?_
    refine TS.pure (PV.fieldAddr rfl Tb.fo_61_1) rfl (by decide) ?_
    refine TS.pure (PV.load rfl Tb.one_3 (by repeat (first | exact List.Mem.head _ | refine List.Mem.tail _ ?_ | refine List.mem_append_right _ ?_)) rfl) rfl (by decide) ?_
    refine TS.pure (PV.index1 rfl rfl Tb.elm_31 (Int.toNat_of_nonneg (by omega)).symm (by omega)) rfl (by decide) ?_
    refine TS.pure (PV.loadI rfl Tb.one_3 (by repeat (first | exact List.Mem.head _ | refine List.Mem.tail _ ?_ | refine List.mem_append_right _ ?_)) (by omega)) rfl (by decide) ?_
    refine TS.pure (PV.fieldAddr rfl Tb.fo_61_3) rfl (by decide) ?_
    refine TS.pure (PV.load rfl Tb.one_3 (by repeat (first | exact List.Mem.head _ | refine List.Mem.tail _ ?_ | refine List.mem_append_right _ ?_)) rfl) rfl (by decide) ?_
    refine TS.pure (PV.move rfl) rfl (by decide) ?_
    refine TS.pure (PV.move rfl) rfl (by decide) ?_
    refine TS.pure (PV.indexA rfl rfl rfl Tb.elm_31 rfl (by omega)) rfl (by decide) ?_
    refine TS.pure (PV.loadOld rfl Tb.one_3 hqa) rfl (by decide) ?_
    refine TS.pure (PV.mul rfl rfl (by omega)) rfl (by decide) ?_
    refine TS.pure (PV.add rfl rfl (by omega)) rfl (by decide) ?_
    refine TS.pure (PV.index1 rfl rfl Tb.elm_31 (Int.toNat_of_nonneg (by omega)).symm (by omega)) rfl (by decide) ?_
    refine TS.nil ?_
    refine TL.storeI rfl rfl Tb.cells_3 (by repeat (first | exact Upd.head _ | apply Upd.tail | apply Upd.appR)) (by omega) rfl rfl ?_
    refine TL.nil ?_
    refine TQ.thenC ?_
    refine TC.draw 14 Tb.mixed (by kernel_rfl) ?_
    simp only [List.take_succ_cons, List.take_zero, List.drop_succ_cons, List.drop_zero]
    refine TS.pure (PV.move rfl) rfl (by decide) ?_
    refine TS.pure (PV.fieldAddr rfl Tb.fo_61_0) rfl (by decide) ?_
    refine TS.pure (PV.load rfl Tb.one_3 (by repeat (first | exact List.Mem.head _ | refine List.Mem.tail _ ?_ | refine List.mem_append_right _ ?_)) rfl) rfl (by decide) ?_
    refine TS.pure (PV.index1 rfl rfl Tb.elm_31 (Int.toNat_of_nonneg (by omega)).symm (by omega)) rfl (by decide) ?_
    refine TS.pure (PV.loadI rfl Tb.one_3 (by repeat (first | exact List.Mem.head _ | refine List.Mem.tail _ ?_ | refine List.mem_append_right _ ?_)) (by simp only [List.length_set]; omega)) rfl (by decide) ?_
    refine TS.pure (PV.fieldAddr rfl Tb.fo_61_3) rfl (by decide) ?_
    refine TS.pure (PV.load rfl Tb.one_3 (by repeat (first | exact List.Mem.head _ | refine List.Mem.tail _ ?_ | refine List.mem_append_right _ ?_)) rfl) rfl (by decide) ?_
    refine TS.pure (PV.move rfl) rfl (by decide) ?_
    refine TS.pure (PV.move rfl) rfl (by decide) ?_
    refine TS.pure (PV.indexA rfl rfl rfl Tb.elm_31 rfl (by omega)) rfl (by decide) ?_
    refine TS.pure (PV.loadOld rfl Tb.one_3 hqa) rfl (by decide) ?_
    refine TS.pure (PV.mul rfl rfl (by omega)) rfl (by decide) ?_
    refine TS.pure (PV.sub rfl rfl (by omega)) rfl (by decide) ?_
    refine TS.pure (PV.index1 rfl rfl Tb.elm_31 (Int.toNat_of_nonneg (by omega)).symm (by omega)) rfl (by decide) ?_
    refine TS.nil ?_
    refine TL.storeI rfl rfl Tb.cells_3 (by repeat (first | exact Upd.head _ | apply Upd.tail | apply Upd.appR)) (by simp only [List.length_set]; omega) rfl rfl ?_
    refine TL.nil ?_
    refine TQ.blkN ?_
    refine TQ.thenC ?_
    refine TC.region ?_
    refine TL.pure (PV.add rfl rfl (by omega)) rfl (by decide) ?_
    refine TL.pure (PV.move rfl) rfl (by decide) ?_
    refine TL.nil ?_
    refine TQ.thenN ?_
    refine TQ.backK (x.1 + 1, _) (by repeat (first | exact True.intro | refine And.intro rfl ?_)) (by repeat (first | exact True.intro | refine And.intro rfl ?_)) (by repeat (first | exact List.Sublist.slnil | exact List.nil_sublist _ | exact List.Sublist.refl _ | refine List.Sublist.cons_cons _ ?_ | refine List.Sublist.cons _ ?_ | refine List.Sublist.trans ?_ (List.sublist_append_right _ _))) ⟨Int.ofNat_lt.1 hlt, by rw [hx.2]; rfl⟩ (by simp only; omega)
  · skip
    refine TC.exit ?_
    refine TQ.thenE ?_
    refine TQ.thenE ?_
    refine TQ.blkS ?_
    refine TQ.thenC ?_
    refine TC.seq ?_
    refine TC.region ?_
    refine TL.pure (PV.move rfl) rfl (by decide) ?_
    refine TL.pure (PV.assign rfl) rfl (by decide) ?_
    refine TL.nil ?_
    refine TQ.thenC ?_
    refine TC.ret ?_
    refine TQ.retE1 rfl rfl ?_
    exact ⟨b1, rfl, trivial, by rw [show surL (N : Int).toNat rs am = x.2 by rw [hx.2, show x.1 = rs.length by omega]; rfl]; exact List.Sublist.cons_cons _ (List.nil_sublist _)⟩

end Go.Proofs.Ytmmgcajegokkoaa
