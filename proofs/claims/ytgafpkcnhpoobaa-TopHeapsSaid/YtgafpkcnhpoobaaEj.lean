/- The matrix, and how many heapings last, by elimination: contracts. -/
import Derived.Test.YtgafpkcnhpoobaaEi
import Derived.Test.YtgafpkcnhpoobaaDu
set_option linter.unusedVariables false
set_option linter.unusedSimpArgs false
namespace Go.Proofs.Ytgafpkcnhpoobaa
open Go.Sx Go.RowKit Go.Sand

def Sh (m : List (List Int)) (N : Nat) : Prop := m.length = N ∧ ∀ i, i < N → (m.getD i []).length = N
def tabM (N : Nat) (f : Nat → Nat → Int) : List (List Int) := (List.range N).map fun i => mk N (f i)
theorem tabM_row {N : Nat} {f : Nat → Nat → Int} {i : Nat} (h : i < N) : (tabM N f).getD i [] = mk N (f i) := by simp [tabM, List.getD, h]
theorem tabM_len (N : Nat) (f : Nat → Nat → Int) : (tabM N f).length = N := by simp [tabM]
theorem tabM_sh (N : Nat) (f : Nat → Nat → Int) : Sh (tabM N f) N := ⟨tabM_len _ _, fun i hi => by rw [tabM_row hi, mk_len]⟩
theorem getM_tab {N : Nat} {f : Nat → Nat → Int} {i j : Nat} (hi : i < N) (hj : j < N) : getM (tabM N f) i j = f i j := by
  rw [getM, tabM_row hi, mk_at _ hj]
theorem tabM_congr {N : Nat} {f g : Nat → Nat → Int} (h : ∀ i j, i < N → j < N → f i j = g i j) : tabM N f = tabM N g := by
  unfold tabM
  exact List.map_congr_left fun i hi => mk_congr fun j hj => h i j (List.mem_range.1 hi) hj
theorem setM_tab {N : Nat} {f g : Nat → Nat → Int} {i j : Nat} {v : Int} (hi : i < N) (hj : j < N) (hv : v = g i j) (h : ∀ a b, a < N → b < N → ¬ (a = i ∧ b = j) → f a b = g a b) : (tabM N f).set i (((tabM N f).getD i []).set j v) = tabM N g := by
  refine List.ext_getElem (by simp [tabM]) fun a h1 h2 => ?_
  have ha : a < N := by simpa [tabM] using h2
  rw [List.getElem_set]
  have hr : (tabM N g)[a] = mk N (g a) := by simp [tabM]
  rw [hr]
  by_cases e : i = a
  · subst e
    rw [if_pos rfl, tabM_row hi]
    exact mk_set hj hv fun b hb hne => h i b hi hb (by omega)
  · rw [if_neg e]
    have hr2 : (tabM N f)[a]'(by rw [tabM_len]; exact ha) = mk N (f a) := by simp [tabM]
    rw [hr2]
    exact mk_congr fun b hb => h a b ha hb (by omega)
/-- The matrix of the heaps. -/
abbrev mF (ls : List (List Int)) (gs : List Int) : Nat → Nat → Int := mat gs.length (lk ls) (gd gs)
def mRow (ls : List (List Int)) (gs : List Int) (i : Nat) : List Int := tpN ls gs (List.replicate gs.length 0) i (-1)
def mK (ls : List (List Int)) (gs : List Int) (k : Nat) : List (List Int) := (List.range k).map (mRow ls gs)
theorem mK_len (ls : List (List Int)) (gs : List Int) (k : Nat) : (mK ls gs k).length = k := by simp [mK]
theorem mK_succ (ls : List (List Int)) (gs : List Int) (k : Nat) : mK ls gs (k + 1) = mK ls gs k ++ [mRow ls gs k] := by simp [mK, List.range_succ]
theorem mK_tab (ls : List (List Int)) (gs : List Int) : mK ls gs gs.length = tabM gs.length (mF ls gs) := by
  unfold mK tabM
  refine List.map_congr_left fun i hi => ?_
  unfold mRow tpN
  rw [List.length_replicate]
  refine mk_congr fun j hj => ?_
  rw [rep_at]
  unfold mF mat
  show 0 + -1 * getM ls i j - (if j = i then -1 * limI ls gs i else 0) = (if j = i then lim gs.length (lk ls) (gd gs) i else 0) - getM ls i j
  split <;> simp [limI] <;> omega
theorem heads_last {ids : List Nat} {k n c : Nat} (h : ids.length = k) (sp : List Value) : (heads (ids ++ [n]) c ++ sp).toArray[k]? = some (.slice (some ⟨n, 0, none⟩) c c) := by
  subst h
  rw [heads_get (by simp)]
  simp [List.getD]
theorem mF_bd {ls : List (List Int)} {gs : List Int} (hB : HB ls gs) {i : Nat} (hi : i < gs.length) (j : Nat) : Bn (mF ls gs i j) 30 := by
  have h1 := hB.lim hi
  have h2 := hB.ent i j
  simp only [limI] at h1
  unfold mF mat Bn
  show -30 ≤ (if j = i then lim gs.length (lk ls) (gd gs) i else 0) - getM ls i j ∧ (if j = i then lim gs.length (lk ls) (gd gs) i else 0) - getM ls i j ≤ 30
  split <;> omega
theorem piv_pos {ls : List (List Int)} {gs : List Int} (hB : HB ls gs) {k : Nat} (hk : k ≤ gs.length) : 0 < Pk (mF ls gs) k := by
  have h := det_pos (by have := hB.n; omega) (hB.G.part hk)
  rw [detF_congr k (fun i j _ _ => mat_part (n := gs.length) (l := lk ls) (g := gd gs) k i j)] at h
  rw [pk_det]
  exact h
theorem fk_bd {ls : List (List Int)} {gs : List Int} (hB : HB ls gs) {k i j : Nat} (hk : k ≤ 3) (hkn : k < gs.length) (hi : i < gs.length) : Bn (Fk (mF ls gs) k i j) 19440000 :=
  det_bn4 (by omega) fun a b ha hb => mF_bd hB (by split <;> omega) _
theorem pk_bd {ls : List (List Int)} {gs : List Int} (hB : HB ls gs) {k : Nat} (hk : k ≤ gs.length) : Bn (Pk (mF ls gs) k) 2916000000 := by
  rw [pk_det]
  exact (det_bn (by have := hB.n; omega) fun a b ha hb => mF_bd hB (by omega) _).2
/-- The numbers behind r rounds. -/
def vR (f : Nat → Nat → Int) (r a b : Nat) : Int := Fk f (min r (min a b)) a b
def brV (n : Nat) (f : Nat → Nat → Int) (k : Nat) : List (List Int) := tabM n (vR f k)
def brT (n : Nat) (f : Nat → Nat → Int) (k i j : Nat) : List (List Int) := tabM n fun a b => if a < i ∨ (a = i ∧ b < j) then vR f (k + 1) a b else vR f k a b
theorem vR_low {f : Nat → Nat → Int} {k a b : Nat} (h : a ≤ k ∨ b ≤ k) : vR f (k + 1) a b = vR f k a b := by
  unfold vR
  rw [show min (k + 1) (min a b) = min k (min a b) by omega]
theorem br_first (n : Nat) (f : Nat → Nat → Int) : tabM n f = brV n f 0 := tabM_congr fun a b _ _ => by
  unfold vR
  rw [Nat.zero_min, fk0]
theorem br_enter (n : Nat) (f : Nat → Nat → Int) (k : Nat) : brV n f k = brT n f k (k + 1) 0 := tabM_congr fun a b _ _ => by
  by_cases h : a < k + 1 ∨ (a = k + 1 ∧ b < 0)
  · rw [if_pos h, vR_low (by omega)]
  · rw [if_neg h]
theorem br_row (n : Nat) (f : Nat → Nat → Int) (k i : Nat) : brT n f k i 0 = brT n f k i (k + 1) := tabM_congr fun a b _ _ => by
  by_cases h : a < i
  · rw [if_pos (.inl h), if_pos (.inl h)]
  · rw [if_neg (by omega)]
    by_cases h2 : a = i ∧ b < k + 1
    · rw [if_pos (.inr h2), vR_low (by omega)]
    · rw [if_neg (by omega)]
theorem br_next (n : Nat) (f : Nat → Nat → Int) (k i : Nat) {j : Nat} (hj : j = n) : brT n f k i j = brT n f k (i + 1) 0 := tabM_congr fun a b _ hb => by
  by_cases h : a < i + 1
  · rw [if_pos (by omega), if_pos (.inl h)]
  · rw [if_neg (by omega), if_neg (by omega)]
theorem br_leave (n : Nat) (f : Nat → Nat → Int) (k : Nat) {i : Nat} (hi : i = n) : brT n f k i 0 = brV n f (k + 1) := tabM_congr fun a b ha _ => by
  rw [if_pos (by omega)]
theorem br_kk {n : Nat} {f : Nat → Nat → Int} {k i j : Nat} (hk : k < n) (hki : k < i) : getM (brT n f k i j) k k = Fk f k k k := by
  unfold brT
  rw [getM_tab hk hk, if_pos (.inl hki), vR_low (by omega)]
  unfold vR
  rw [Nat.min_self, Nat.min_self]
theorem br_ij {n : Nat} {f : Nat → Nat → Int} {k i j : Nat} (hi : i < n) (hj : j < n) (hki : k < i) (hkj : k < j) : getM (brT n f k i j) i j = Fk f k i j := by
  unfold brT
  rw [getM_tab hi hj, if_neg (by omega)]
  unfold vR
  rw [show min k (min i j) = k by omega]
theorem br_ik {n : Nat} {f : Nat → Nat → Int} {k i j : Nat} (hi : i < n) (hk : k < n) (hki : k < i) : getM (brT n f k i j) i k = Fk f k i k := by
  unfold brT
  rw [getM_tab hi hk]
  have e : vR f k i k = Fk f k i k := by
    unfold vR
    rw [show min k (min i k) = k by omega]
  rw [vR_low (by omega), e]
  split <;> rfl
theorem br_kj {n : Nat} {f : Nat → Nat → Int} {k i j : Nat} (hk : k < n) (hj : j < n) (hki : k < i) (hkj : k < j) : getM (brT n f k i j) k j = Fk f k k j := by
  unfold brT
  rw [getM_tab hk hj, if_pos (.inl hki), vR_low (by omega)]
  unfold vR
  rw [show min k (min k j) = k by omega]
theorem br_step {n : Nat} {f : Nat → Nat → Int} {k i j : Nat} (hi : i < n) (hj : j < n) (hki : k < i) (hkj : k < j) (hk : k ≤ 3) (hp : Pk f k ≠ 0) :
    (brT n f k i j).set i (((brT n f k i j).getD i []).set j ((getM (brT n f k i j) k k * getM (brT n f k i j) i j - getM (brT n f k i j) i k * getM (brT n f k i j) k j).tdiv (Pk f k))) = brT n f k i (j + 1) := by
  refine setM_tab hi hj ?_ fun a b ha hb hne => ?_
  · rw [br_kk (by omega) hki, br_ij hi hj hki hkj, br_ik hi (by omega) hki, br_kj (by omega) hj hki hkj, fk_step f hk, Int.mul_tdiv_cancel_left _ hp, if_pos (.inr ⟨rfl, Nat.lt_succ_self j⟩)]
    unfold vR
    rw [show min (k + 1) (min i j) = k + 1 by omega]
  · by_cases h : a < i ∨ (a = i ∧ b < j)
    · rw [if_pos h, if_pos (by omega)]
    · rw [if_neg h, if_neg (by omega)]
theorem brT_sh (n : Nat) (f : Nat → Nat → Int) (k i j : Nat) : Sh (brT n f k i j) n := tabM_sh _ _
theorem tdiv_bd {a b B : Int} (ha : Bn a B) (hb : 1 ≤ b) : Bn (a.tdiv b) B := by
  have h1 : (a.tdiv b).natAbs ≤ a.natAbs := by
    rw [Int.natAbs_tdiv]
    exact Nat.div_le_self _ _
  unfold Bn at ha ⊢
  omega
noncomputable def couI (ls : List (List Int)) (gs : List Int) : Int := if validI ls gs ≠ 0 then 0 else detF gs.length (mF ls gs)
theorem cou_bad {ls : List (List Int)} {gs : List Int} (h : validI ls gs ≠ 0) : couI ls gs = 0 := if_pos h
theorem cou_ok {ls : List (List Int)} {gs : List Int} (h : ¬ validI ls gs ≠ 0) : couI ls gs = detF gs.length (mF ls gs) := if_neg h


set_option maxRecDepth 100000 in
set_option maxHeartbeats 1000000 in
theorem matrix_ok (w0 : World) (p : Option Addr) (cp : Nat) (ls : List (List Int)) (hr : LsAt w0 p ls) (q : Option Addr) (cq : Nat) (gs : List Int) (hg : IntsAt w0 q gs) (hB : HB ls gs) :
    Calls Try.prog 88 #[hv p ls.length cp q gs.length cq] w0 (Post (X := Nat × List Nat) (fun y => .slice (some ⟨y.1, 0, none⟩) gs.length gs.length) (fun y => y.2.length = gs.length) (fun y => (y.1, Obj.cells (heads y.2 gs.length ++ []).toArray 23 (0, 0)) :: rowsH 3 y.2 (mK ls gs gs.length)) w0) := by
  have hn9 := hB.n
  have hl9 := hB.len
  refine calls Try.func88 rfl (n := 29) rfl (by simp) ?_
  refine TC.seq ?_
  refine TC.region ?_
  refine TL.box rfl rfl (by decide) (fun b0 hb0 => ?_)
  refine TL.pure (PV.assign rfl) rfl (by decide) ?_
  refine TL.nil ?_
  refine TQ.thenC ?_
  refine TC.seq ?_
  refine TC.region ?_
  refine TL.pure (PV.fieldAddr rfl Tb.fo_25_0) rfl (by decide) ?_
  refine TL.pure (PV.load rfl Tb.one_22 (by repeat (first | exact List.Mem.head _ | refine List.Mem.tail _ ?_ | refine List.mem_append_right _ ?_)) rfl) rfl (by decide) ?_
  refine TL.pure (PV.len rfl Tb.sl_22) rfl (by decide) ?_
  refine TL.make (k := gs.length) rfl rfl Tb.sl_22 Tb.zi_23 rfl (by omega) (by omega) (by omega) rfl (by decide) (fun b1 hb1 => ?_)
  refine TL.pure (PV.assign rfl) rfl (by decide) ?_
  refine TL.nil ?_
  refine TQ.thenC ?_
  refine TC.seq ?_
  refine TC.seq ?_
  refine TC.region ?_
  refine TL.pure (PV.move rfl) rfl (by decide) ?_
  refine TL.pure (PV.len rfl Tb.sl_22) rfl (by decide) ?_
  refine TL.pure (PV.move rfl) rfl (by decide) ?_
  refine TL.nil ?_
  refine TQ.thenC ?_
  refine TC.block ?_
  refine TC.loopK [1, 2, 3, 10] (X := Nat × List Nat) (fun x => x.1 ≤ gs.length ∧ x.2.length = x.1) (fun x => [(11, .int .i64 x.1)]) (fun x => (b1, Obj.cells (heads (x.2) gs.length ++ List.replicate (gs.length - x.1) (Value.slice none 0 0)).toArray 23 (0, 0)) :: (rowsH 3 x.2 (mK ls gs x.1) ++ [(b0, Obj.cells #[.slice p ls.length cp, .slice q gs.length cq] 25 (0, 0))])) (fun x => gs.length - x.1) (0, []) ⟨Nat.zero_le _, rfl⟩ (by repeat (first | exact True.intro | refine And.intro rfl ?_)) (by repeat (first | exact List.Sublist.slnil | exact List.nil_sublist _ | exact List.Sublist.refl _ | refine List.Sublist.cons_cons _ ?_ | refine List.Sublist.cons _ ?_ | refine List.Sublist.trans ?_ (List.sublist_append_right _ _))) ?_
  intro x hx
  refine TC.seq ?_
  refine TC.region ?_
  refine TL.pure (PV.lss rfl rfl) rfl (by decide) ?_
  refine TL.nil ?_
  refine TQ.thenC ?_
  refine TC.seq ?_
  first | refine TC.condD rfl (fun h0 => ?_) (fun h0 => ?_) | refine TC.cond rfl (fun h0 => ?_) (fun h0 => ?_)
  · skip
    refine TC.skip ?_
    refine TQ.thenC ?_
    refine TC.seq ?_
    refine TC.block ?_
    refine TC.seq ?_
    refine TC.region ?_
    refine TL.pure (PV.move rfl) rfl (by decide) ?_
    refine TL.pure (PV.assign rfl) rfl (by decide) ?_
    refine TL.nil ?_
    refine TQ.thenC ?_
    refine TC.seq ?_
    refine TC.region ?_
    refine TL.pure (PV.move rfl) rfl (by decide) ?_
    refine TL.pure (PV.move rfl) rfl (by decide) ?_
    refine TL.pure (PV.move rfl) rfl (by decide) ?_
    refine TL.pure (PV.len rfl Tb.sl_22) rfl (by decide) ?_
    refine TL.makeI (k := gs.length) rfl rfl Tb.sl_23 Tb.zi_3 rfl (by omega) (by omega) rfl (by decide) (fun b2 hb2 => ?_)
    refine TL.pure (PV.index1 (j := x.1) rfl rfl Tb.elm_22 rfl (by omega)) rfl (by decide) ?_
    refine TL.storeHead (k := gs.length - x.1 - 1) (z := (Value.slice none 0 0)) (ids := x.2) (G' := (b2, Obj.cells (intsA (List.replicate gs.length 0)) 3 (0, 0)) :: (b1, Obj.cells (heads (x.2 ++ [b2]) gs.length ++ List.replicate (gs.length - x.1 - 1) (Value.slice none 0 0)).toArray 23 (0, 0)) :: (rowsH 3 x.2 (mK ls gs x.1) ++ [(b0, Obj.cells #[.slice p ls.length cp, .slice q gs.length cq] 25 (0, 0))])) rfl rfl Tb.cells_23 hx.2 (by rw [show gs.length - x.1 = gs.length - x.1 - 1 + 1 by omega]; exact Upd.tail _ (Upd.head _)) rfl rfl ?_
    refine TL.nil ?_
    refine TQ.thenC ?_
    refine TC.mix [true, true, true, true, true, true, false] ((b1, Obj.cells (heads (x.2 ++ [b2]) gs.length ++ List.replicate (gs.length - x.1 - 1) (Value.slice none 0 0)).toArray 23 (0, 0)) :: (rowsH 3 x.2 (mK ls gs x.1) ++ [(b0, Obj.cells #[.slice p ls.length cp, .slice q gs.length cq] 25 (0, 0))])) 1 Tb.mixed rfl (by kernel_rfl) (by kernel_rfl) (by kernel_rfl) (by kernel_rfl) (by repeat (first | exact List.Sublist.slnil | exact List.nil_sublist _ | exact List.Sublist.refl _ | refine List.Sublist.cons_cons _ ?_ | refine List.Sublist.cons _ ?_ | refine List.Sublist.trans ?_ (List.sublist_append_right _ _))) ?_
    refine TB.op (SOK.pure (PV.loadBox rfl Tb.agg_25 (by repeat (first | exact List.Mem.head _ | refine List.Mem.tail _ ?_ | refine List.mem_append_right _ ?_)) rfl) rfl) (by decide) ?_
    refine TB.op (SOK.pure (PV.move rfl) rfl) (by decide) ?_
    refine TB.op (SOK.pure (PV.move rfl) rfl) (by decide) ?_
    refine TB.op (SOK.pure (PV.index1 (j := x.1) rfl rfl Tb.elm_22 rfl (by omega)) rfl) (by decide) ?_
    refine TB.op (SOK.pure (PV.loadG' rfl Tb.one_23 (by repeat (first | exact List.Mem.head _ | refine List.Mem.tail _ ?_ | refine List.mem_append_right _ ?_)) (heads_last hx.2 _)) rfl) (by decide) ?_
    refine TB.op (SOK.pure (PV.move rfl) rfl) (by decide) ?_
    refine TB.no ?_
    refine TB.fin ?_
    refine TX.step [6] (by kernel_rfl) (by decide) ⟨⟨_, rfl, ?_⟩, trivial⟩
    refine TL.callW (X := Unit) (fun _ => .tuple #[]) (fun _ => True) (fun _ => (b2, Obj.cells (intsA (mRow ls gs x.1)) 3 (0, 0)) :: ((b1, Obj.cells (heads (x.2 ++ [b2]) gs.length ++ List.replicate (gs.length - x.1 - 1) (Value.slice none 0 0)).toArray 23 (0, 0)) :: (rowsH 3 x.2 (mK ls gs x.1) ++ [(b0, Obj.cells #[.slice p ls.length cp, .slice q gs.length cq] 25 (0, 0))]))) rfl Tb.gofn_74 (fun a w hs => topple_ok (R := ((b1, Obj.cells (heads (x.2 ++ [b2]) gs.length ++ List.replicate (gs.length - x.1 - 1) (Value.slice none 0 0)).toArray 23 (0, 0)) :: (rowsH 3 x.2 (mK ls gs x.1) ++ [(b0, Obj.cells #[.slice p ls.length cp, .slice q gs.length cq] 25 (0, 0))]))) hs.new p cp ls hr q cq gs hg hB _ (by simp) (by simp) x.1 (by omega) (-1) (by omega) (fun k => by rw [rep_at]; omega)) rfl (by decide) (fun _ _ => ?_)
    refine TL.nil ?_
    refine TX.next (.inl (by repeat (first | exact List.Sublist.slnil | exact List.nil_sublist _ | exact List.Sublist.refl _ | refine List.Sublist.cons_cons _ ?_ | refine List.Sublist.cons _ ?_ | refine List.Sublist.trans ?_ (List.sublist_append_right _ _)))) ?_
    refine TX.done (by kernel_rfl) ?_
    refine TQ.blkN ?_
    refine TQ.thenC ?_
    refine TC.region ?_
    refine TL.pure (PV.add rfl rfl (by omega)) rfl (by decide) ?_
    refine TL.pure (PV.move rfl) rfl (by decide) ?_
    refine TL.nil ?_
    refine TQ.thenN ?_
    refine TQ.perm (G' := (b1, Obj.cells (heads (x.2 ++ [b2]) gs.length ++ List.replicate (gs.length - x.1 - 1) (Value.slice none 0 0)).toArray 23 (0, 0)) :: (rowsH 3 (x.2 ++ [b2]) (mK ls gs x.1 ++ [mRow ls gs x.1]) ++ [(b0, Obj.cells #[.slice p ls.length cp, .slice q gs.length cq] 25 (0, 0))])) (perm_row (by rw [mK_len]; exact hx.2)) ?_
    refine TQ.backK (x.1 + 1, x.2 ++ [b2]) (by repeat (first | exact True.intro | refine And.intro rfl ?_)) (by repeat (first | exact True.intro | refine And.intro rfl ?_)) (by rw [mK_succ, show gs.length - (x.1 + 1) = gs.length - x.1 - 1 by omega]; exact List.Sublist.refl _) ⟨by simp only; omega, by simp [hx.2]⟩ (by simp only; omega)
  · skip
    refine TC.exit ?_
    refine TQ.thenE ?_
    refine TQ.thenE ?_
    refine TQ.blkS ?_
    refine TQ.thenC ?_
    refine TC.seq ?_
    refine TC.region ?_
    refine TL.pure (PV.move rfl) rfl (by decide) ?_
    refine TL.pure (PV.assign rfl) rfl (by decide) ?_
    refine TL.nil ?_
    refine TQ.thenC ?_
    refine TC.ret ?_
    refine TQ.retE1 rfl rfl ?_
    exact ⟨(b1, x.2), rfl, (by have := hx.2; show x.2.length = _; omega), by rw [show x.1 = gs.length by omega, Nat.sub_self]; exact List.Sublist.cons_cons _ (List.sublist_append_left _ _)⟩

set_option maxRecDepth 100000 in
set_option maxHeartbeats 4000000 in
theorem Count_ok (w0 : World) (p : Option Addr) (cp : Nat) (ls : List (List Int)) (hr : LsAt w0 p ls) (q : Option Addr) (cq : Nat) (gs : List Int) (hg : IntsAt w0 q gs) (hlo : ∀ k, (ls.getD k []).length ≤ 1000000) :
    Calls Try.prog 45 #[hv p ls.length cp q gs.length cq] w0 (Post (X := Unit) (fun _ => .tuple #[.int .i64 (couI ls gs), .int .i64 (validI ls gs)]) (fun _ => True) (fun _ => []) w0) := by
  refine calls Try.func45 rfl (n := 86) rfl (by simp) ?_
  refine TC.seq ?_
  refine TC.region ?_
  refine TL.box rfl rfl (by decide) (fun b0 hb0 => ?_)
  refine TL.pure (PV.assign rfl) rfl (by decide) ?_
  refine TL.pure (PV.assign rfl) rfl (by decide) ?_
  refine TL.nil ?_
  refine TQ.thenC ?_
  refine TC.seq ?_
  refine TC.seq ?_
  refine TC.region ?_
  refine TL.pure (PV.loadBox rfl Tb.agg_25 (by repeat (first | exact List.Mem.head _ | refine List.Mem.tail _ ?_ | refine List.mem_append_right _ ?_)) rfl) rfl (by decide) ?_
  refine TL.call rfl Tb.gofn_24 (fun a w hs => validate_ok w _ _ _ (hr.new hs.new) _ _ _ (hg.new hs.new) hlo) rfl (by decide) (fun _ _ => ?_)
  refine TL.pure (PV.assign rfl) rfl (by decide) ?_
  refine TL.nil ?_
  refine TQ.thenC ?_
  refine TC.seq ?_
  refine TC.region ?_
  refine TL.pure (PV.move rfl) rfl (by decide) ?_
  refine TL.pure (PV.neq rfl rfl) rfl (by decide) ?_
  refine TL.nil ?_
  refine TQ.thenC ?_
  first | refine TC.condD rfl (fun hbad => ?_) (fun hbad => ?_) | refine TC.cond rfl (fun hbad => ?_) (fun hbad => ?_)
  · skip
    refine TC.seq ?_
    refine TC.region ?_
    refine TL.pure (PV.move rfl) rfl (by decide) ?_
    refine TL.pure (PV.assign rfl) rfl (by decide) ?_
    refine TL.pure (PV.assign rfl) rfl (by decide) ?_
    refine TL.nil ?_
    refine TQ.thenC ?_
    refine TC.ret ?_
    refine TQ.thenR ?_
    refine TQ.retE2 rfl rfl rfl ?_
    exact ⟨(), by rw [cou_bad hbad], trivial, List.nil_sublist _⟩
  · skip
    refine TC.skip ?_
    refine TQ.thenC ?_
    refine TC.seq ?_
    have hB := hb_of hbad
    have hn9 := hB.n
    refine TC.region ?_
    refine TL.pure (PV.loadBox rfl Tb.agg_25 (by repeat (first | exact List.Mem.head _ | refine List.Mem.tail _ ?_ | refine List.mem_append_right _ ?_)) rfl) rfl (by decide) ?_
    refine TL.call rfl Tb.gofn_88 (fun a w hs => matrix_ok w _ _ _ (hr.new hs.new) _ _ _ (hg.new hs.new) hB) rfl (by decide) (fun y9 hid => ?_)
    refine TL.pure (PV.assign rfl) rfl (by decide) ?_
    refine TL.pure (PV.assign rfl) rfl (by decide) ?_
    refine TL.nil ?_
    refine TQ.thenC ?_
    refine TC.seq ?_
    refine TC.seq ?_
    refine TC.region ?_
    refine TL.pure (PV.move rfl) rfl (by decide) ?_
    refine TL.pure (PV.len rfl Tb.sl_22) rfl (by decide) ?_
    refine TL.pure (PV.move rfl) rfl (by decide) ?_
    refine TL.nil ?_
    refine TQ.thenC ?_
    refine TC.block ?_
    refine TC.lit [(2, _), (3, _), (5, _), (6, _), (18, _), (19, _)] (by repeat (first | exact True.intro | refine And.intro rfl ?_)) ?_
    refine TC.loopK [2, 3, 5, 18] (X := Nat) (fun k => k ≤ gs.length) (fun k => [(19, .int .i64 k), (6, .int .i64 (Pk (mF ls gs) k))]) (fun k => (y9.1, Obj.cells (heads y9.2 gs.length ++ []).toArray 23 (0, 0)) :: (rowsH 3 y9.2 (brV gs.length (mF ls gs) k) ++ [(b0, Obj.cells #[.slice p ls.length cp, .slice q gs.length cq] 25 (0, 0))])) (fun k => gs.length - k) 0 (Nat.zero_le _) (by repeat (first | exact True.intro | refine And.intro rfl ?_)) (by rw [← br_first, ← mK_tab]; exact List.Sublist.refl _) ?_
    intro k hk
    refine TC.lit [(2, _), (3, _), (5, _), (6, _), (18, _), (19, _)] (by repeat (first | exact True.intro | refine And.intro rfl ?_)) ?_
    refine TC.seq ?_
    refine TC.region ?_
    refine TL.pure (PV.lss rfl rfl) rfl (by decide) ?_
    refine TL.nil ?_
    refine TQ.thenC ?_
    refine TC.seq ?_
    first | refine TC.condD rfl (fun hlt => ?_) (fun hlt => ?_) | refine TC.cond rfl (fun hlt => ?_) (fun hlt => ?_)
    · skip
      refine TC.skip ?_
      refine TQ.thenC ?_
      refine TC.seq ?_
      refine TC.block ?_
      refine TC.seq ?_
      refine TC.region ?_
      refine TL.pure (PV.move rfl) rfl (by decide) ?_
      refine TL.pure (PV.assign rfl) rfl (by decide) ?_
      refine TL.nil ?_
      refine TQ.thenC ?_
      refine TC.seq ?_
      refine TC.seq ?_
      refine TC.region ?_
      refine TL.pure (PV.move rfl) rfl (by decide) ?_
      refine TL.pure (PV.add rfl rfl (by omega)) rfl (by decide) ?_
      refine TL.pure (PV.assign rfl) rfl (by decide) ?_
      refine TL.nil ?_
      refine TQ.thenC ?_
      refine TC.block ?_
      refine TC.lit [(2, _), (3, _), (5, _), (6, _), (7, _), (8, _), (18, _), (19, _)] (by repeat (first | exact True.intro | refine And.intro rfl ?_)) ?_
      refine TC.loopK [2, 3, 5, 6, 7, 18, 19] (X := Nat) (fun i => k < i ∧ i ≤ gs.length) (fun i => [(8, .int .i64 i)]) (fun i => (y9.1, Obj.cells (heads y9.2 gs.length ++ []).toArray 23 (0, 0)) :: (rowsH 3 y9.2 (brT gs.length (mF ls gs) k i 0) ++ [(b0, Obj.cells #[.slice p ls.length cp, .slice q gs.length cq] 25 (0, 0))])) (fun i => gs.length - i) (k + 1) ⟨by omega, by omega⟩ (by repeat (first | exact True.intro | refine And.intro rfl ?_)) (by rw [← br_enter]; exact List.Sublist.refl _) ?_
      intro i hi
      refine TC.lit [(2, _), (3, _), (5, _), (6, _), (7, _), (8, _), (18, _), (19, _)] (by repeat (first | exact True.intro | refine And.intro rfl ?_)) ?_
      refine TC.seq ?_
      refine TC.seq ?_
      refine TC.region ?_
      refine TL.pure (PV.move rfl) rfl (by decide) ?_
      refine TL.pure (PV.move rfl) rfl (by decide) ?_
      refine TL.pure (PV.len rfl Tb.sl_22) rfl (by decide) ?_
      refine TL.pure (PV.lss rfl rfl) rfl (by decide) ?_
      refine TL.nil ?_
      refine TQ.thenC ?_
      first | refine TC.condD rfl (fun hlt2 => ?_) (fun hlt2 => ?_) | refine TC.cond rfl (fun hlt2 => ?_) (fun hlt2 => ?_)
      · skip
        refine TC.skip ?_
        refine TQ.thenC ?_
        refine TC.seq ?_
        refine TC.block ?_
        refine TC.seq ?_
        refine TC.region ?_
        refine TL.pure (PV.move rfl) rfl (by decide) ?_
        refine TL.pure (PV.add rfl rfl (by omega)) rfl (by decide) ?_
        refine TL.pure (PV.assign rfl) rfl (by decide) ?_
        refine TL.nil ?_
        refine TQ.thenC ?_
        refine TC.block ?_
        refine TC.lit [(2, _), (3, _), (5, _), (6, _), (7, _), (8, _), (9, _), (18, _), (19, _)] (by repeat (first | exact True.intro | refine And.intro rfl ?_)) ?_
        refine TC.loopK [2, 3, 5, 6, 7, 8, 18, 19] (X := Nat) (fun j => k < j ∧ j ≤ gs.length) (fun j => [(9, .int .i64 j)]) (fun j => (y9.1, Obj.cells (heads y9.2 gs.length ++ []).toArray 23 (0, 0)) :: (rowsH 3 y9.2 (brT gs.length (mF ls gs) k i j) ++ [(b0, Obj.cells #[.slice p ls.length cp, .slice q gs.length cq] 25 (0, 0))])) (fun j => gs.length - j) (k + 1) ⟨by omega, by omega⟩ (by repeat (first | exact True.intro | refine And.intro rfl ?_)) (by rw [← br_row]; exact List.Sublist.refl _) ?_
        intro j hj
        refine TC.lit [(2, _), (3, _), (5, _), (6, _), (7, _), (8, _), (9, _), (18, _), (19, _)] (by repeat (first | exact True.intro | refine And.intro rfl ?_)) ?_
        refine TC.seq ?_
        refine TC.seq ?_
        refine TC.region ?_
        refine TL.pure (PV.move rfl) rfl (by decide) ?_
        refine TL.pure (PV.move rfl) rfl (by decide) ?_
        refine TL.pure (PV.len rfl Tb.sl_22) rfl (by decide) ?_
        refine TL.pure (PV.lss rfl rfl) rfl (by decide) ?_
        refine TL.nil ?_
        refine TQ.thenC ?_
        first | refine TC.condD rfl (fun hlt3 => ?_) (fun hlt3 => ?_) | refine TC.cond rfl (fun hlt3 => ?_) (fun hlt3 => ?_)
        · skip
          refine TC.skip ?_
          refine TQ.thenC ?_
          refine TC.seq ?_
          refine TC.block ?_
          have hpk := piv_pos hB (k := k) (by omega)
          have hpb := pk_bd hB (k := k) (by omega)
          have e1 := br_kk (n := gs.length) (f := (mF ls gs)) (k := k) (i := i) (j := j) (by omega) (by omega)
          have e2 := br_ij (n := gs.length) (f := (mF ls gs)) (k := k) (i := i) (j := j) (by omega) (by omega) (by omega) (by omega)
          have e3 := br_ik (n := gs.length) (f := (mF ls gs)) (k := k) (i := i) (j := j) (by omega) (by omega) (by omega)
          have e4 := br_kj (n := gs.length) (f := (mF ls gs)) (k := k) (i := i) (j := j) (by omega) (by omega) (by omega) (by omega)
          have p1 : Bn (getM (brT gs.length (mF ls gs) k i j) k k * getM (brT gs.length (mF ls gs) k i j) i j) 377913600000000 := by rw [e1, e2]; exact (fk_bd hB (by omega) (by omega) (by omega)).mul (fk_bd hB (by omega) (by omega) (by omega))
          have p2 : Bn (getM (brT gs.length (mF ls gs) k i j) i k * getM (brT gs.length (mF ls gs) k i j) k j) 377913600000000 := by rw [e3, e4]; exact (fk_bd hB (by omega) (by omega) (by omega)).mul (fk_bd hB (by omega) (by omega) (by omega))
          have p3 : Bn ((getM (brT gs.length (mF ls gs) k i j) k k * getM (brT gs.length (mF ls gs) k i j) i j - getM (brT gs.length (mF ls gs) k i j) i k * getM (brT gs.length (mF ls gs) k i j) k j).tdiv (Pk (mF ls gs) k)) 755827200000000 := tdiv_bd (by unfold Bn at p1 p2 ⊢; omega) (by omega)
          unfold Bn at p1 p2 p3
          refine TC.draw 39 Tb.mixed (by kernel_rfl) ?_
          simp only [List.take_succ_cons, List.take_zero, List.drop_succ_cons, List.drop_zero]
          refine TS.pure (PV.move rfl) rfl (by decide) ?_
          refine TS.pure (PV.move rfl) rfl (by decide) ?_
          refine TS.pure (PV.index1 (j := i) rfl rfl Tb.elm_22 rfl (by omega)) rfl (by decide) ?_
          refine TS.pure (PV.loadHead rfl Tb.one_23 (by repeat (first | exact List.Mem.head _ | refine List.Mem.tail _ ?_ | refine List.mem_append_right _ ?_)) (by omega)) rfl (by decide) ?_
          refine TS.pure (PV.move rfl) rfl (by decide) ?_
          refine TS.pure (PV.move rfl) rfl (by decide) ?_
          refine TS.pure (PV.move rfl) rfl (by decide) ?_
          refine TS.pure (PV.index1 (j := k) rfl rfl Tb.elm_22 rfl (by omega)) rfl (by decide) ?_
          refine TS.pure (PV.loadHead rfl Tb.one_23 (by repeat (first | exact List.Mem.head _ | refine List.Mem.tail _ ?_ | refine List.mem_append_right _ ?_)) (by omega)) rfl (by decide) ?_
          refine TS.pure (PV.move rfl) rfl (by decide) ?_
          refine TS.pure (PV.index1 (j := k) rfl rfl Tb.elm_23 rfl (by omega)) rfl (by decide) ?_
          refine TS.pure (PV.loadRow (m := (brT gs.length (mF ls gs) k i j)) rfl Tb.one_3 (List.mem_cons_of_mem _ (List.mem_append_left _ (mem_rowsH (by omega) (by rw [(brT_sh gs.length (mF ls gs) k i j).1]; omega)))) (by rw [(brT_sh gs.length (mF ls gs) k i j).2 k (by omega)]; omega)) rfl (by decide) ?_
          refine TS.pure (PV.move rfl) rfl (by decide) ?_
          refine TS.pure (PV.move rfl) rfl (by decide) ?_
          refine TS.pure (PV.index1 (j := i) rfl rfl Tb.elm_22 rfl (by omega)) rfl (by decide) ?_
          refine TS.pure (PV.loadHead rfl Tb.one_23 (by repeat (first | exact List.Mem.head _ | refine List.Mem.tail _ ?_ | refine List.mem_append_right _ ?_)) (by omega)) rfl (by decide) ?_
          refine TS.pure (PV.move rfl) rfl (by decide) ?_
          refine TS.pure (PV.index1 (j := j) rfl rfl Tb.elm_23 rfl (by omega)) rfl (by decide) ?_
          refine TS.pure (PV.loadRow (m := (brT gs.length (mF ls gs) k i j)) rfl Tb.one_3 (List.mem_cons_of_mem _ (List.mem_append_left _ (mem_rowsH (by omega) (by rw [(brT_sh gs.length (mF ls gs) k i j).1]; omega)))) (by rw [(brT_sh gs.length (mF ls gs) k i j).2 i (by omega)]; omega)) rfl (by decide) ?_
          refine TS.pure (PV.mul rfl rfl (by omega)) rfl (by decide) ?_
          refine TS.pure (PV.move rfl) rfl (by decide) ?_
          refine TS.pure (PV.move rfl) rfl (by decide) ?_
          refine TS.pure (PV.index1 (j := i) rfl rfl Tb.elm_22 rfl (by omega)) rfl (by decide) ?_
          refine TS.pure (PV.loadHead rfl Tb.one_23 (by repeat (first | exact List.Mem.head _ | refine List.Mem.tail _ ?_ | refine List.mem_append_right _ ?_)) (by omega)) rfl (by decide) ?_
          refine TS.pure (PV.move rfl) rfl (by decide) ?_
          refine TS.pure (PV.index1 (j := k) rfl rfl Tb.elm_23 rfl (by omega)) rfl (by decide) ?_
          refine TS.pure (PV.loadRow (m := (brT gs.length (mF ls gs) k i j)) rfl Tb.one_3 (List.mem_cons_of_mem _ (List.mem_append_left _ (mem_rowsH (by omega) (by rw [(brT_sh gs.length (mF ls gs) k i j).1]; omega)))) (by rw [(brT_sh gs.length (mF ls gs) k i j).2 i (by omega)]; omega)) rfl (by decide) ?_
          refine TS.pure (PV.move rfl) rfl (by decide) ?_
          refine TS.pure (PV.move rfl) rfl (by decide) ?_
          refine TS.pure (PV.index1 (j := k) rfl rfl Tb.elm_22 rfl (by omega)) rfl (by decide) ?_
          refine TS.pure (PV.loadHead rfl Tb.one_23 (by repeat (first | exact List.Mem.head _ | refine List.Mem.tail _ ?_ | refine List.mem_append_right _ ?_)) (by omega)) rfl (by decide) ?_
          refine TS.pure (PV.move rfl) rfl (by decide) ?_
          refine TS.pure (PV.index1 (j := j) rfl rfl Tb.elm_23 rfl (by omega)) rfl (by decide) ?_
          refine TS.pure (PV.loadRow (m := (brT gs.length (mF ls gs) k i j)) rfl Tb.one_3 (List.mem_cons_of_mem _ (List.mem_append_left _ (mem_rowsH (by omega) (by rw [(brT_sh gs.length (mF ls gs) k i j).1]; omega)))) (by rw [(brT_sh gs.length (mF ls gs) k i j).2 k (by omega)]; omega)) rfl (by decide) ?_
          refine TS.pure (PV.mul rfl rfl (by omega)) rfl (by decide) ?_
          refine TS.pure (PV.sub rfl rfl (by omega)) rfl (by decide) ?_
          refine TS.pure (PV.move rfl) rfl (by decide) ?_
          refine TS.pure (PV.quo rfl rfl (by omega) (by omega)) rfl (by decide) ?_
          refine TS.pure (PV.index1 (j := j) rfl rfl Tb.elm_23 rfl (by omega)) rfl (by decide) ?_
          refine TS.nil ?_
          refine TL.storeRow (m := (brT gs.length (mF ls gs) k i j)) (G' := (y9.1, Obj.cells (heads y9.2 gs.length ++ []).toArray 23 (0, 0)) :: (rowsH 3 y9.2 ((brT gs.length (mF ls gs) k i j).set i (((brT gs.length (mF ls gs) k i j).getD i []).set j ((getM (brT gs.length (mF ls gs) k i j) k k * getM (brT gs.length (mF ls gs) k i j) i j - getM (brT gs.length (mF ls gs) k i j) i k * getM (brT gs.length (mF ls gs) k i j) k j).tdiv (Pk (mF ls gs) k)))) ++ [(b0, Obj.cells #[.slice p ls.length cp, .slice q gs.length cq] 25 (0, 0))])) rfl rfl Tb.cells_3 (Upd.tail _ (Upd.appL _ (upd_rowsH _ (by omega) (by rw [(brT_sh gs.length (mF ls gs) k i j).1]; omega)))) (by rw [(brT_sh gs.length (mF ls gs) k i j).2 i (by omega)]; omega) rfl rfl ?_
          refine TL.nil ?_
          refine TQ.blkN ?_
          refine TQ.thenC ?_
          refine TC.region ?_
          refine TL.pure (PV.move rfl) rfl (by decide) ?_
          refine TL.pure (PV.add rfl rfl (by omega)) rfl (by decide) ?_
          refine TL.pure (PV.assign rfl) rfl (by decide) ?_
          refine TL.nil ?_
          refine TQ.thenN ?_
          refine TQ.backK (j + 1) (by repeat (first | exact True.intro | refine And.intro rfl ?_)) (by repeat (first | exact True.intro | refine And.intro rfl ?_)) (by rw [br_step (by omega) (by omega) (by omega) (by omega) (by omega) (by omega)]; exact List.Sublist.refl _) ⟨by omega, by omega⟩ (by omega)
        · skip
          refine TC.exit ?_
          refine TQ.thenE ?_
          refine TQ.thenE ?_
          refine TQ.blkS ?_
          refine TQ.blkN ?_
          refine TQ.thenC ?_
          refine TC.region ?_
          refine TL.pure (PV.move rfl) rfl (by decide) ?_
          refine TL.pure (PV.add rfl rfl (by omega)) rfl (by decide) ?_
          refine TL.pure (PV.assign rfl) rfl (by decide) ?_
          refine TL.nil ?_
          refine TQ.thenN ?_
          refine TQ.backK (i + 1) (by repeat (first | exact True.intro | refine And.intro rfl ?_)) (by repeat (first | exact True.intro | refine And.intro rfl ?_)) (by rw [← br_next gs.length (mF ls gs) k i (show j = gs.length by omega)]; exact List.Sublist.refl _) ⟨by omega, by omega⟩ (by omega)
      · skip
        refine TC.exit ?_
        refine TQ.thenE ?_
        refine TQ.thenE ?_
        refine TQ.blkS ?_
        refine TQ.thenC ?_
        have e1 := br_kk (n := gs.length) (f := (mF ls gs)) (k := k) (i := i) (j := 0) (by omega) (by omega)
        refine TC.region ?_
        refine TL.pure (PV.move rfl) rfl (by decide) ?_
        refine TL.pure (PV.move rfl) rfl (by decide) ?_
        refine TL.pure (PV.index1 (j := k) rfl rfl Tb.elm_22 rfl (by omega)) rfl (by decide) ?_
        refine TL.pure (PV.loadHead rfl Tb.one_23 (by repeat (first | exact List.Mem.head _ | refine List.Mem.tail _ ?_ | refine List.mem_append_right _ ?_)) (by omega)) rfl (by decide) ?_
        refine TL.pure (PV.move rfl) rfl (by decide) ?_
        refine TL.pure (PV.index1 (j := k) rfl rfl Tb.elm_23 rfl (by omega)) rfl (by decide) ?_
        refine TL.pure (PV.loadRow (m := brT gs.length (mF ls gs) k i 0) rfl Tb.one_3 (List.mem_cons_of_mem _ (List.mem_append_left _ (mem_rowsH (by omega) (by rw [(brT_sh gs.length (mF ls gs) k i 0).1]; omega)))) (by rw [(brT_sh gs.length (mF ls gs) k i 0).2 k (by omega)]; omega)) rfl (by decide) ?_
        refine TL.pure (PV.assign rfl) rfl (by decide) ?_
        refine TL.nil ?_
        refine TQ.blkN ?_
        refine TQ.thenC ?_
        refine TC.region ?_
        refine TL.pure (PV.add rfl rfl (by omega)) rfl (by decide) ?_
        refine TL.pure (PV.move rfl) rfl (by decide) ?_
        refine TL.nil ?_
        refine TQ.thenN ?_
        refine TQ.backK (k + 1) (by refine And.intro rfl (And.intro ?_ True.intro); show some (Value.int .i64 _) = some (Value.int .i64 _); rw [e1]; rfl) (by repeat (first | exact True.intro | refine And.intro rfl ?_)) (by rw [← br_leave gs.length (mF ls gs) k (show i = gs.length by omega)]; exact List.Sublist.refl _) (by omega) (by omega)
    · skip
      refine TC.exit ?_
      refine TQ.thenE ?_
      refine TQ.thenE ?_
      refine TQ.blkS ?_
      refine TQ.thenC ?_
      refine TC.seq ?_
      refine TC.region ?_
      refine TL.pure (PV.move rfl) rfl (by decide) ?_
      refine TL.pure (PV.assign rfl) rfl (by decide) ?_
      refine TL.pure (PV.assign rfl) rfl (by decide) ?_
      refine TL.nil ?_
      refine TQ.thenC ?_
      refine TC.ret ?_
      refine TQ.retE2 rfl rfl rfl ?_
      exact ⟨(), by rw [cou_ok hbad, Decidable.of_not_not hbad, ← pk_det, show k = gs.length by omega], trivial, List.nil_sublist _⟩

end Go.Proofs.Ytgafpkcnhpoobaa
