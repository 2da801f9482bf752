/- Hb -/
import Derived.Test.YtbnjmkidbfmomaaGreatDoorV06
import Derived.Test.YtbnjmkidbfmomaaGreatDoorV11
set_option linter.unusedVariables false
set_option linter.unusedSimpArgs false
set_option maxRecDepth 100000
namespace Go.Proofs.YtbnjmkidbfmomaaGreatDoor.H
open Go.Sx Go.RowKit Go.Sand
def Lv (n : Nat) (l : Nat → Nat → Int) (g : Nat → Int) : Nat → Nat → Prop
  | 0, _ => False
  | k + 1, i => 0 < g i ∨ ∃ j, j < n ∧ 0 < l i j ∧ Lv n l g k j
theorem lv_mono {n : Nat} {l : Nat → Nat → Int} {g : Nat → Int} : ∀ (k i : Nat), Lv n l g k i → Lv n l g (k + 1) i
  | 0, _, h => h.elim
  | k + 1, i, h => by
    rcases h with h | ⟨j, hj, h1, h2⟩
    · exact .inl h
    · exact .inr ⟨j, hj, h1, lv_mono k j h2⟩
theorem lv_closed {n : Nat} {l : Nat → Nat → Int} {g : Nat → Int} {k : Nat} (h : ∀ i, i < n → Lv n l g (k + 1) i → Lv n l g k i) {i : Nat} (hr : Rch n l g i) : Lv n l g k i := by
  induction hr with
  | gr i hi hg => exact h i hi (.inl hg)
  | st i j hi hj hl _ ih => exact h i hi (.inr ⟨j, hj, hl, ih⟩)
open Classical in
theorem lv_all {n : Nat} {l : Nat → Nat → Int} {g : Nat → Int} {i : Nat} (hi : i < n) (hr : Rch n l g i) : Lv n l g n i := by
  have key : ∀ k, k ≤ n → k ≤ cnt n (fun i => decide (Lv n l g k i)) ∨ ∀ i, i < n → Rch n l g i → Lv n l g k i := by
    intro k
    induction k with
    | zero => intro _; exact .inl (Nat.zero_le _)
    | succ k ih =>
      intro hk
      rcases ih (by omega) with h | h
      · by_cases hc : ∀ i, i < n → Lv n l g (k + 1) i → Lv n l g k i
        · exact .inr fun i hi hr => lv_mono k i (lv_closed hc hr)
        · refine .inl ?_
          have : ∃ i, i < n ∧ Lv n l g (k + 1) i ∧ ¬ Lv n l g k i := Classical.byContradiction fun h2 => hc fun i hi h3 => Classical.byContradiction fun h4 => h2 ⟨i, hi, h3, h4⟩
          obtain ⟨i, hi, h3, h4⟩ := this
          have := cnt_lt (p := fun i => decide (Lv n l g (k + 1) i)) (q := fun i => decide (Lv n l g k i)) (n := n) (fun j _ h => decide_eq_true (lv_mono k j (of_decide_eq_true h))) i hi (decide_eq_true h3) (decide_eq_false h4)
          omega
      · exact .inr fun i hi hr => lv_mono k i (h i hi hr)
  rcases key n (Nat.le_refl _) with h | h
  · refine Classical.byContradiction fun hno => ?_
    have := cnt_lt (p := fun _ => true) (q := fun i => decide (Lv n l g n i)) (n := n) (fun _ _ _ => rfl) i hi rfl (decide_eq_false hno)
    have := cnt_le (fun _ => true) n
    omega
  · exact h i hi hr
structure JI (ls : List (List Int)) (gs : List Int) (r i j : Nat) (bs : List Bool) : Prop where
  len : bs.length = gs.length
  snd : ∀ k, k < gs.length → bs.getD k false = true → Rch gs.length (lk ls) (gd gs) k
  bas : ∀ k, k < gs.length → Lv gs.length (lk ls) (gd gs) r k → bs.getD k false = true
  don : ∀ k, k < i → k < gs.length → Lv gs.length (lk ls) (gd gs) (r + 1) k → bs.getD k false = true
  row : ∀ k, k < j → k < gs.length → (0 < gd gs i ∨ (0 < lk ls i k ∧ Lv gs.length (lk ls) (gd gs) r k)) → bs.getD i false = true
theorem setb_at (bs : List Bool) {i : Nat} (hi : i < bs.length) (v : Bool) (k : Nat) : (bs.set i v).getD k false = if i = k then v else bs.getD k false := by
  rw [List.getD_eq_getElem?_getD, List.getElem?_set]
  by_cases h : i = k
  · subst h; simp [hi]
  · simp [h]
theorem JI.start (ls : List (List Int)) (gs : List Int) : JI ls gs 0 0 0 (List.replicate gs.length false) :=
  ⟨by simp, fun k hk h => by simp [List.getD, hk] at h, fun _ _ h => h.elim, fun k hk => by omega, fun k hk => by omega⟩
theorem JI.put {ls : List (List Int)} {gs : List Int} {r i j j' : Nat} {bs : List Bool} (h : JI ls gs r i j bs) (hi : i < gs.length) {v : Bool} (hv : bs.getD i false = true → v = true) (hs : v = true → Rch gs.length (lk ls) (gd gs) i)
    (hr : ∀ k, k < j' → k < gs.length → (0 < gd gs i ∨ (0 < lk ls i k ∧ Lv gs.length (lk ls) (gd gs) r k)) → v = true) : JI ls gs r i j' (bs.set i v) := by
  have hl := h.len
  refine ⟨by simp [hl], fun k hk => ?_, fun k hk hL => ?_, fun k hk1 hk hL => ?_, fun k hk1 hk hL => ?_⟩
  · rw [setb_at bs (by omega)]
    split
    · next e => subst e; exact hs
    · exact h.snd k hk
  · rw [setb_at bs (by omega)]
    have := h.bas k hk hL
    split
    · next e => subst e; exact hv this
    · exact this
  · rw [setb_at bs (by omega)]
    have := h.don k hk1 hk hL
    split
    · next e => subst e; exact hv this
    · exact this
  · rw [setb_at bs (by omega), if_pos rfl]
    exact hr k hk1 hk hL
theorem JI.cell {ls : List (List Int)} {gs : List Int} {r i j : Nat} {bs : List Bool} (h : JI ls gs r i j bs) (hi : i < gs.length) (hj : j < gs.length) :
    JI ls gs r i (j + 1) (bs.set i (bs.getD i false || decide (0 < gs.getD i 0) || (decide (0 < (ls.getD i []).getD j 0) && bs.getD j false))) := by
  refine h.put hi (fun e => by rw [e]; rfl) (fun e => ?_) (fun k hk hk2 hw => ?_)
  · simp only [Bool.or_eq_true, decide_eq_true_eq, Bool.and_eq_true] at e
    rcases e with (e | e) | ⟨e1, e2⟩
    · exact h.snd i hi e
    · exact .gr i hi e
    · exact .st i j hi hj e1 (h.snd j hj e2)
  · simp only [Bool.or_eq_true, decide_eq_true_eq, Bool.and_eq_true]
    by_cases hkj : k < j
    · exact .inl (.inl (h.row k hkj hk2 hw))
    · have : k = j := by omega
      subst this
      rcases hw with hw | ⟨h1, h2⟩
      · exact .inl (.inr hw)
      · exact .inr ⟨h1, h.bas k hk2 h2⟩
theorem JI.nextRow {ls : List (List Int)} {gs : List Int} {r i j : Nat} {bs : List Bool} (h : JI ls gs r i j bs) (hj : j = gs.length) (hn : 1 ≤ gs.length) : JI ls gs r (i + 1) 0 bs :=
  ⟨h.len, h.snd, h.bas, fun k hk hk2 hL => by
    by_cases e : k < i
    · exact h.don k e hk2 hL
    · have : k = i := by omega
      subst this
      rcases hL with hL | ⟨m, hm, h1, h2⟩
      · exact h.row 0 (by omega) (by omega) (.inl hL)
      · exact h.row m (by omega) hm (.inr ⟨h1, h2⟩), fun k hk => by omega⟩
theorem JI.nextRound {ls : List (List Int)} {gs : List Int} {r i : Nat} {bs : List Bool} (h : JI ls gs r i 0 bs) (hi : i = gs.length) : JI ls gs (r + 1) 0 0 bs :=
  ⟨h.len, h.snd, fun k hk hL => h.don k (by omega) hk hL, fun k hk => by omega, fun k hk => by omega⟩
theorem JI.fin {ls : List (List Int)} {gs : List Int} {r : Nat} {bs : List Bool} (h : JI ls gs r 0 0 bs) (hr : gs.length ≤ r) : (∀ k, k < gs.length → bs.getD k false = true) ↔ JoiP ls gs := by
  have hle : ∀ d k, Lv gs.length (lk ls) (gd gs) gs.length k → Lv gs.length (lk ls) (gd gs) (gs.length + d) k := by
    intro d
    induction d with
    | zero => intro k h; exact h
    | succ d ih => intro k h; exact lv_mono _ _ (ih k h)
  constructor
  · intro ha i hi
    exact h.snd i hi (ha i hi)
  · intro hJ k hk
    refine h.bas k hk ?_
    have := hle (r - gs.length) k (lv_all hk (hJ k hk))
    rwa [show gs.length + (r - gs.length) = r by omega] at this
theorem JI.ground {ls : List (List Int)} {gs : List Int} {r i : Nat} {bs : List Bool} (h : JI ls gs r i 0 bs) (hi : i < gs.length) :
    JI ls gs r i 0 (bs.set i (bs.getD i false || decide (0 < gs.getD i 0))) ∧ (0 < gs.getD i 0 → (bs.set i (bs.getD i false || decide (0 < gs.getD i 0))).getD i false = true) := by
  refine ⟨h.put hi (fun e => by rw [e]; rfl) (fun e => ?_) (fun k hk => by omega), fun hg => ?_⟩
  · simp only [Bool.or_eq_true, decide_eq_true_eq] at e
    rcases e with e | e
    · exact h.snd i hi e
    · exact .gr i hi e
  · rw [setb_at bs (by have := h.len; omega), if_pos rfl, decide_eq_true hg, Bool.or_true]
theorem JI.cell2 {ls : List (List Int)} {gs : List Int} {r i j : Nat} {bs : List Bool} (h : JI ls gs r i j bs ∧ (0 < gs.getD i 0 → bs.getD i false = true)) (hi : i < gs.length) (hj : j < gs.length) :
    JI ls gs r i (j + 1) (bs.set i (bs.getD i false || (bs.getD j false && decide (0 < (ls.getD i []).getD j 0)))) ∧ (0 < gs.getD i 0 → (bs.set i (bs.getD i false || (bs.getD j false && decide (0 < (ls.getD i []).getD j 0)))).getD i false = true) := by
  obtain ⟨h, hg⟩ := h
  refine ⟨h.put hi (fun e => by rw [e]; rfl) (fun e => ?_) (fun k hk hk2 hw => ?_), fun hw => ?_⟩
  · simp only [Bool.or_eq_true, decide_eq_true_eq, Bool.and_eq_true] at e
    rcases e with e | ⟨e2, e1⟩
    · exact h.snd i hi e
    · exact .st i j hi hj e1 (h.snd j hj e2)
  · simp only [Bool.or_eq_true, decide_eq_true_eq, Bool.and_eq_true]
    by_cases hkj : k < j
    · exact .inl (h.row k hkj hk2 hw)
    · have : k = j := by omega
      subst this
      rcases hw with hw | ⟨h1, h2⟩
      · exact .inl (hg hw)
      · exact .inr ⟨h.bas k hk2 h2, h1⟩
  · rw [setb_at bs (by have := h.len; omega), if_pos rfl, hg hw, Bool.true_or]
theorem JI.nextRow0 {ls : List (List Int)} {gs : List Int} {r i j : Nat} {bs : List Bool} (h : JI ls gs r i j bs ∧ (0 < gs.getD i 0 → bs.getD i false = true)) (hj : j = gs.length) (hn : 1 ≤ gs.length) : JI ls gs r (i + 1) 0 bs := h.1.nextRow hj hn
def BlsAt (w : World) (p : Option Addr) (bs : List Bool) : Prop := ∀ j, j < bs.length → ∃ q, p = some q ∧ w.cell? (q.add (j * 1)) = some (.bool (bs.getD j false))
theorem BlsAt.new {w0 w : World} {G : Heap} {p : Option Addr} {bs : List Bool} (h : BlsAt w0 p bs) (hn : New w0 w G) : BlsAt w p bs := fun j hj =>
  let ⟨q, hq, hc⟩ := h j hj
  ⟨q, hq, hn.old hc⟩
theorem BlsAt.arr {w0 w : World} {G : Heap} {b : Nat} {bs : List Bool} {e : TypeId} (hn : New w0 w G) (hm : (b, Obj.cells (boolsA bs) e (0, 0)) ∈ G) : BlsAt w (some ⟨b, 0, none⟩) bs := fun j hj =>
  ⟨_, rfl, by
    rw [add_off, Nat.zero_add, Nat.mul_one]
    exact hn.cell hm (boolsA_get hj)⟩
theorem indexB_ok (w0 : World) (pl : Option Addr) (cl : Nat) (bs : List Bool) (hx : BlsAt w0 pl bs) (hl : bs.length ≤ 1000000) (v : Bool) :
    Calls Tryz.prog 203 #[.slice pl bs.length cl, .bool v] w0 (Post (X := Int) (fun i => .int .i64 i) (fun i => (i = -1 ∧ ∀ j, j < bs.length → ¬ v = bs.getD j false) ∨ (0 ≤ i ∧ ∃ k, k < bs.length ∧ v = bs.getD k false)) (fun _ => []) w0) := by
  refine calls Tryz.func203 rfl (n := 19) rfl (by simp) ?_
  refine zr (za rfl (zn (TC.seq (zr (zm rfl (zq (PV.len rfl Tb.sl_174) rfl (zm rfl (zn (TC.block (TC.loopG [0, 1, 7] (X := Nat) (fun k => k ≤ bs.length ∧ ∀ j, j < k → ¬ v = bs.getD j false) (fun k => [(8, .int .i64 k)]) (fun k => bs.length - k) 0 ⟨Nat.zero_le _, fun j hj => absurd hj (Nat.not_lt_zero _)⟩ l9z ?_))))))))))
  intro k hk
  refine zr (zq (PV.lss rfl rfl) rfl (zn (TC.seq (TC.cd rfl (fun hlt => ?_) (fun hlt => ?_)))))
  refine TC.skip (TQ.thenC (TC.seq (TC.block (zr (zm rfl (za rfl (zn (TC.seq ?_))))))))
  obtain ⟨q2, hq2p, hq2⟩ := hx k (by omega)
  refine TC.region (zm rfl (zm rfl (zm rfl (zq (PV.indexA rfl hq2p rfl Tb.elm_174 rfl om) rfl (zq (PV.loadOld rfl Tb.one_4 hq2) rfl (zq (PV.eqlB rfl rfl Tb.bool_4) rfl (zn (TC.cd rfl (fun hno => ?_) (fun hno => ?_)))))))))
  refine zr (zm rfl (za rfl (zt (TQ.blkR (TQ.thenR (TQ.thenR (TQ.blkR (TQ.thenR (TQ.retE1 rfl rfl ?_)))))))))
  first | exact ⟨k, rfl, .inr ⟨by omega, k, by omega, by simpa using hno⟩, nils⟩ | exact ⟨-1, rfl, .inl ⟨rfl, fun j hj => hk.2 j (by omega)⟩, nils⟩
  refine TC.skip (TQ.blkN (TQ.thenC (TC.region (zq (PV.add rfl rfl om) rfl (zm rfl (TL.nil (TQ.thenN (TQ.backK (k + 1) l9z l9z s9z ⟨by omega, fun j hj => if e : j < k then hk.2 j e else (show k = j by omega) ▸ (by simpa using hno)⟩ om))))))))
  refine TC.exit (TQ.thenE (TQ.thenE (TQ.blkS (TQ.thenC (zr (za rfl (zt (TQ.retE1 rfl rfl ?_))))))))
  first | exact ⟨k, rfl, .inr ⟨by omega, k, by omega, by simpa using hno⟩, nils⟩ | exact ⟨-1, rfl, .inl ⟨rfl, fun j hj => hk.2 j (by omega)⟩, nils⟩
theorem containsB_ok (w0 : World) (pl : Option Addr) (cl : Nat) (bs : List Bool) (hx : BlsAt w0 pl bs) (hl : bs.length ≤ 1000000) :
    Calls Tryz.prog 172 #[.slice pl bs.length cl, .bool false] w0 (Post (X := Bool) (fun b => .bool b) (fun b => b = false ↔ ∀ j, j < bs.length → bs.getD j false = true) (fun _ => []) w0) := by
  refine calls Tryz.func172 rfl (n := 9) rfl (by simp) ?_
  refine zr (za rfl (zk (zm rfl (zm rfl (TL.call rfl Tb.gofn_203 (fun a w hs => indexB_ok w _ _ bs (hx.new hs.new) hl false) rfl dc (fun i9 hi9 => ?_))))))
  refine zq (PV.geq rfl rfl) rfl (za rfl (zt (TQ.retE1 rfl rfl ?_)))
  refine ⟨_, rfl, ?_, nils⟩
  rcases hi9 with ⟨rfl, h9⟩ | ⟨h9, k, hk, hk2⟩
  exact ⟨fun _ j hj => by have := h9 j hj; simpa using this, fun _ => rfl⟩
  exact ⟨fun h => absurd h9 (of_decide_eq_false h), fun h => by have := h k hk; rw [← hk2] at this; cases this⟩
set_option maxHeartbeats 1000000 in
theorem areMutual_ok (w0 : World) (p : Option Addr) (cp : Nat) (ls : List (List Int)) (hr : LsAt w0 p ls) (q : Option Addr) (cq : Nat) (gs : List Int) (hg : IntsAt w0 q gs) (hn : gs.length ≤ 5) (hl : ls.length = gs.length) (hrow : ∀ k, k < ls.length → (ls.getD k []).length = gs.length) :
    Calls Tryz.prog 136 #[hv p ls.length cp q gs.length cq] w0 (Post (X := Bool) (fun b => .bool b) (fun b => b = true ↔ MutP ls gs.length) (fun _ => []) w0) := by
  refine calls Tryz.func136 rfl (n := 43) rfl (by simp) ?_
  refine zr (TL.box rfl rfl dc (fun b0 hb0 => ?_))
  refine za rfl (zn (TC.seq (zr (zq (PV.fieldAddr rfl Tb.fo_27_0) rfl (zq (PV.load rfl Tb.one_22 m9z rfl) rfl ?_)))))
  refine zq (PV.len rfl Tb.sl_22) rfl (zm rfl (zn (TC.block (TC.lit [(1, _), (8, _), (9, _), (10, _)] l9z ?_))))
  refine TC.loopG [1, 8, 9] (X := Nat) (fun k => k ≤ ls.length ∧ ∀ i j, i < k → j < gs.length → getM ls i j = getM ls j i ∧ (i = j → getM ls i j = 0)) (fun k => [(10, .int .i64 k)]) (fun k => ls.length - k) 0 ⟨Nat.zero_le _, fun i j hi => absurd hi (Nat.not_lt_zero _)⟩ l9z ?_
  intro k hk
  refine TC.lit [(1, _), (8, _), (9, _), (10, _)] l9z ?_
  refine zr (zq (PV.lss rfl rfl) rfl (zn (TC.seq (TC.cd rfl (fun hlt => ?_) (fun hlt => ?_)))))
  refine TC.skip (TQ.thenC (TC.seq (TC.block (TC.seq ?_))))
  have hrk := hrow k (by omega)
  obtain ⟨q1, hq1p, p1, c1, hq1, hi1⟩ := hr k (by omega)
  refine TC.region (zm rfl (zq (PV.indexA rfl hq1p rfl Tb.elm_22 rfl om) rfl (zq (PV.loadOld rfl Tb.one_25 hq1) rfl (za rfl (za rfl (zk (zm rfl (zq (PV.len rfl Tb.sl_25) rfl (zm rfl (zn (TC.block (TC.lit [(1, _), (3, _), (8, _), (9, _), (10, _), (15, _), (16, _), (17, _)] l9z ?_))))))))))))
  refine TC.loopG [1, 3, 8, 9, 10, 15, 16] (X := Nat) (fun u => u ≤ (ls.getD k []).length ∧ ∀ j, j < u → getM ls k j = getM ls j k ∧ (k = j → getM ls k j = 0)) (fun u => [(17, .int .i64 u)]) (fun u => (ls.getD k []).length - u) 0 ⟨Nat.zero_le _, fun j hj => absurd hj (Nat.not_lt_zero _)⟩ l9z ?_
  intro u hu
  refine TC.lit [(1, _), (3, _), (8, _), (9, _), (10, _), (15, _), (16, _), (17, _)] l9z ?_
  refine zr (zq (PV.lss rfl rfl) rfl (zn (TC.seq (TC.cd rfl (fun hlt2 => ?_) (fun hlt2 => ?_)))))
  refine TC.skip (TQ.thenC (TC.seq (TC.block (TC.seq ?_))))
  obtain ⟨q2, hq2p, hq2⟩ := hi1 u (by omega)
  have hru := hrow u (by omega)
  obtain ⟨q3, hq3p, p3, c3, hq3, hi3⟩ := hr u (by omega)
  obtain ⟨q4, hq4p, hq4⟩ := hi3 k (by omega)
  refine TC.region (zm rfl (zq (PV.indexA rfl hq2p rfl Tb.elm_25 rfl om) rfl (zq (PV.loadOld rfl Tb.one_3 hq2) rfl (za rfl (za rfl (zk (zm rfl (zq (PV.fieldAddr rfl Tb.fo_27_0) rfl (zq (PV.load rfl Tb.one_22 m9z rfl) rfl ?_)))))))))
  refine zm rfl (zq (PV.indexA rfl hq3p rfl Tb.elm_22 rfl om) rfl (zq (PV.loadOld rfl Tb.one_25 hq3) rfl (zm rfl (zq (PV.indexA rfl hq4p rfl Tb.elm_25 rfl om) rfl (zq (PV.loadOld rfl Tb.one_3 hq4) rfl (zq (PV.neq rfl rfl) rfl (zm rfl (TL.sp 32 rfl (fun e1 => ?_) (fun e1 => ?_)))))))))
  refine zx rfl (zx rfl (zx rfl (zx rfl (TL.skipU rfl (fun k hk => by cases hk; decide) ?_))))
  refine TL.skipU rfl (fun k hk => by cases hk; decide) ?_
  refine zx rfl (zq (PV.pickT rfl rfl) rfl (zn (TC.condT rfl (zr (za rfl (zt (TQ.blkR (TQ.thenR (TQ.thenR (TQ.blkR (TQ.blkR (TQ.thenR (TQ.thenR (TQ.blkR (TQ.thenR (TQ.retE1 rfl rfl ?_))))))))))))))))
  refine ⟨false, rfl, ⟨fun h => (by cases h), fun h => ?_⟩, nils⟩
  have := h k u (by omega) (by omega)
  unfold getM at this
  exact absurd this (by omega)
  refine zm rfl (zm rfl (zq (PV.eql rfl rfl) rfl (zm rfl (TL.sp 36 rfl (fun e2 => ?_) (fun e2 => ?_)))))
  refine zm rfl (zq (PV.neq rfl rfl) rfl (zq (PV.pickT rfl rfl) rfl (zq (PV.pickF rfl rfl) rfl (zn (TC.cd rfl (fun e3 => ?_) (fun e3 => ?_))))))
  refine zr (za rfl (zt (TQ.blkR (TQ.thenR (TQ.thenR (TQ.blkR (TQ.blkR (TQ.thenR (TQ.thenR (TQ.blkR (TQ.thenR (TQ.retE1 rfl rfl ?_))))))))))))
  refine ⟨false, rfl, ⟨fun h => (by cases h), fun h => ?_⟩, nils⟩
  have := h k u (by omega) (by omega)
  unfold getM at this
  exact absurd this (by omega)
  refine TC.skip (TQ.blkN (TQ.thenC (TC.region (zq (PV.add rfl rfl om) rfl (zm rfl (TL.nil (TQ.thenN (TQ.backK (u + 1) l9z l9z s9z ⟨by omega, fun j hj => if e : j < u then hu.2 j e else (show u = j by omega) ▸ (by unfold getM; exact ⟨by omega, fun h => by omega⟩)⟩ om))))))))
  refine zx rfl (zx rfl (zq (PV.pickF rfl rfl) rfl (zq (PV.pickF rfl rfl) rfl (zn (TC.condF rfl (TC.skip (TQ.blkN (TQ.thenC (TC.region (zq (PV.add rfl rfl om) rfl (zm rfl (TL.nil (TQ.thenN (TQ.backK (u + 1) l9z l9z s9z ⟨by omega, fun j hj => if e : j < u then hu.2 j e else (show u = j by omega) ▸ (by unfold getM; exact ⟨by omega, fun h => by omega⟩)⟩ om))))))))))))))
  refine TC.exit (TQ.thenE (TQ.thenE (TQ.blkS (TQ.blkN (TQ.thenC (TC.region (zq (PV.add rfl rfl om) rfl (zm rfl (TL.nil (TQ.thenN (TQ.backK (k + 1) l9z l9z s9z ⟨by omega, fun i j hi hj => if e : i < k then hk.2 i j e hj else (show k = i by omega) ▸ hu.2 j om⟩ om)))))))))))
  refine TC.exit (TQ.thenE (TQ.thenE (TQ.blkS (TQ.thenC (zr (za rfl (zt (TQ.retE1 rfl rfl ?_))))))))
  exact ⟨true, rfl, ⟨fun _ i j hi hj => hk.2 i j (by omega) hj, fun _ => rfl⟩, nils⟩
set_option maxHeartbeats 2000000 in
theorem areJoined_ok (w0 : World) (p : Option Addr) (cp : Nat) (ls : List (List Int)) (hr : LsAt w0 p ls) (q : Option Addr) (cq : Nat) (gs : List Int) (hg : IntsAt w0 q gs) (hS : Shp ls gs) :
    Calls Tryz.prog 137 #[hv p ls.length cp q gs.length cq] w0 (Post (X := Bool) (fun b => .bool b) (fun b => b = true ↔ JoiP ls gs) (fun _ => []) w0) := by
  have hn9 := hS.n
  have hl9 := hS.len
  refine calls Tryz.func137 rfl (n := 63) rfl (by simp) ?_
  refine zr (TL.box rfl rfl dc (fun b0 hb0 => ?_))
  refine za rfl (zk (zq (PV.fieldAddr rfl Tb.fo_27_1) rfl (zq (PV.load rfl Tb.one_25 m9z rfl) rfl ?_)))
  refine zq (PV.len rfl Tb.sl_25) rfl (TL.makeB (k := gs.length) rfl rfl Tb.sl_174 Tb.zi_4 rfl om om rfl dc (fun bJ hbJ => ?_))
  refine za rfl (zn (TC.seq (zr (zq (PV.fieldAddr rfl Tb.fo_27_1) rfl (zq (PV.load rfl Tb.one_25 m9z rfl) rfl ?_)))))
  refine zq (PV.len rfl Tb.sl_25) rfl (zm rfl (zn (TC.block (TC.lit [(1, _), (2, _), (3, _), (14, _), (15, _)] l9z ?_))))
  refine TC.loopK [1, 2, 3, 14] (X := Nat × List Bool) (fun x => x.1 ≤ gs.length ∧ JI ls gs x.1 0 0 x.2) (fun x => [(15, .int .i64 x.1)]) (fun x => [(bJ, Obj.cells (boolsA x.2) 4 (0, 0)), (b0, Obj.cells #[.slice p ls.length cp, .slice q gs.length cq] 27 (0, 0))]) (fun x => gs.length - x.1) (0, List.replicate gs.length false) ⟨Nat.zero_le _, JI.start _ _⟩ l9z s9z ?_
  intro x hx
  refine TC.lit [(1, _), (2, _), (3, _), (14, _), (15, _)] l9z ?_
  refine zr (zq (PV.lss rfl rfl) rfl (zn (TC.seq (TC.cd rfl (fun hlt => ?_) (fun hlt => ?_)))))
  refine TC.skip (TQ.thenC (TC.seq (TC.block (zr (zq (PV.fieldAddr rfl Tb.fo_27_0) rfl (zq (PV.load rfl Tb.one_22 m9z rfl) rfl ?_))))))
  refine zq (PV.len rfl Tb.sl_22) rfl (zm rfl (zn (TC.block (TC.lit [(1, _), (2, _), (3, _), (14, _), (15, _), (18, _), (19, _), (20, _)] l9z ?_))))
  refine TC.loopK [1, 2, 3, 14, 15, 18, 19] (X := Nat × List Bool) (fun y => y.1 ≤ ls.length ∧ JI ls gs x.1 y.1 0 y.2) (fun y => [(20, .int .i64 y.1)]) (fun y => [(bJ, Obj.cells (boolsA y.2) 4 (0, 0)), (b0, Obj.cells #[.slice p ls.length cp, .slice q gs.length cq] 27 (0, 0))]) (fun y => ls.length - y.1) (0, x.2) ⟨Nat.zero_le _, hx.2⟩ l9z s9z ?_
  intro y hy
  refine TC.lit [(1, _), (2, _), (3, _), (14, _), (15, _), (18, _), (19, _), (20, _)] l9z ?_
  refine zr (zq (PV.lss rfl rfl) rfl (zn (TC.seq (TC.cd rfl (fun hlt2 => ?_) (fun hlt2 => ?_)))))
  refine TC.skip (TQ.thenC (TC.seq (TC.block (TC.seq ?_))))
  have hrk := hS.rowl (k := y.1) (by omega)
  obtain ⟨q1, hq1p, p1, c1, hq1, hi1⟩ := hr y.1 (by omega)
  refine TC.region (zm rfl (zq (PV.indexA rfl hq1p rfl Tb.elm_22 rfl om) rfl (zq (PV.loadOld rfl Tb.one_25 hq1) rfl (za rfl (za rfl (zk (zm rfl (zq (PV.len rfl Tb.sl_25) rfl (zm rfl (zn (TC.block (TC.lit [(1, _), (2, _), (3, _), (4, _), (14, _), (15, _), (18, _), (19, _), (20, _), (25, _), (26, _), (27, _)] l9z ?_))))))))))))
  refine TC.loopK [1, 2, 3, 4, 14, 15, 18, 19, 20, 25, 26] (X := Nat × List Bool) (fun z => z.1 ≤ (ls.getD y.1 []).length ∧ JI ls gs x.1 y.1 z.1 z.2) (fun z => [(27, .int .i64 z.1)]) (fun z => [(bJ, Obj.cells (boolsA z.2) 4 (0, 0)), (b0, Obj.cells #[.slice p ls.length cp, .slice q gs.length cq] 27 (0, 0))]) (fun z => (ls.getD y.1 []).length - z.1) (0, y.2) ⟨Nat.zero_le _, hy.2⟩ l9z s9z ?_
  intro z hz
  refine TC.lit [(1, _), (2, _), (3, _), (4, _), (14, _), (15, _), (18, _), (19, _), (20, _), (25, _), (26, _), (27, _)] l9z ?_
  refine zr (zq (PV.lss rfl rfl) rfl (zn (TC.seq (TC.cd rfl (fun hlt3 => ?_) (fun hlt3 => ?_)))))
  refine TC.skip (TQ.thenC (TC.seq (TC.block (TC.seq ?_))))
  have hbl := hz.2.len
  obtain ⟨q2, hq2p, hq2⟩ := hi1 z.1 (by omega)
  obtain ⟨q3, hq3p, hq3⟩ := hg y.1 (by omega)
  refine TC.region (zm rfl (zq (PV.indexA rfl hq2p rfl Tb.elm_25 rfl om) rfl (zq (PV.loadOld rfl Tb.one_3 hq2) rfl (za rfl (za rfl (zn (TC.region (zm rfl (zm rfl (zm rfl (zm rfl (zq (PV.index1 (j := y.1) rfl rfl Tb.elm_174 rfl om) rfl (zq (PV.loadB rfl Tb.one_4 m9z om) rfl ?_)))))))))))))
  refine zm rfl (TL.sp 38 rfl (fun e1 => ?_) (fun e1 => ?_))
  refine zx rfl (zx rfl (zx rfl (zx rfl (zx rfl (zx rfl (zq (PV.pickT rfl rfl) rfl (zm rfl (zx rfl (zx rfl (zx rfl (TL.skipU rfl (fun k hk => by cases hk; decide) ?_)))))))))))
  refine TL.skipU rfl (fun k hk => by cases hk; decide) ?_
  refine TL.skipU rfl (fun k hk => by cases hk; decide) ?_
  refine TL.skipU rfl (fun k hk => by cases hk; decide) ?_
  refine zx rfl (zq (PV.pickT rfl rfl) rfl (zq (PV.index1 (j := y.1) rfl rfl Tb.elm_174 rfl (by omega)) rfl (TL.storeB (v := (z.2.getD y.1 false || decide (0 < gs.getD y.1 0) || (decide (0 < (ls.getD y.1 []).getD z.1 0) && z.2.getD z.1 false))) rfl (show some (Value.bool _) = some (Value.bool _) from congrArg some (congrArg Value.bool (by first | (rw [e1] <;> rfl) | (rw [e1, decide_eq_true e2] <;> rfl) | (rw [e1, decide_eq_false e2, decide_eq_true e3] <;> rfl) | (rw [e1, decide_eq_false e2, decide_eq_false e3] <;> rfl)))) Tb.cells_4 u9z (by omega) rfl rfl ?_)))
  refine TL.nil (TQ.blkN (TQ.thenC (TC.region (zq (PV.add rfl rfl om) rfl (zm rfl (TL.nil (TQ.thenN (TQ.backK (z.1 + 1, z.2.set y.1 (z.2.getD y.1 false || decide (0 < gs.getD y.1 0) || (decide (0 < (ls.getD y.1 []).getD z.1 0) && z.2.getD z.1 false))) l9z l9z s9z ⟨by simp only; omega, hz.2.cell om om⟩ (by simp only; omega)))))))))
  refine zq (PV.fieldAddr rfl Tb.fo_27_1) rfl (zq (PV.load rfl Tb.one_25 m9z rfl) rfl ?_)
  refine zm rfl (zq (PV.indexA rfl hq3p rfl Tb.elm_25 rfl om) rfl (zq (PV.loadOld rfl Tb.one_3 hq3) rfl (zq (PV.gtr rfl rfl) rfl (zq (PV.pickF rfl rfl) rfl (zm rfl (TL.sp 46 rfl (fun e2 => ?_) (fun e2 => ?_)))))))
  refine zx rfl (zx rfl (zx rfl (TL.skipU rfl (fun k hk => by cases hk; decide) ?_)))
  refine TL.skipU rfl (fun k hk => by cases hk; decide) ?_
  refine TL.skipU rfl (fun k hk => by cases hk; decide) ?_
  refine TL.skipU rfl (fun k hk => by cases hk; decide) ?_
  refine zx rfl (zq (PV.pickT rfl rfl) rfl (zq (PV.index1 (j := y.1) rfl rfl Tb.elm_174 rfl (by omega)) rfl (TL.storeB (v := (z.2.getD y.1 false || decide (0 < gs.getD y.1 0) || (decide (0 < (ls.getD y.1 []).getD z.1 0) && z.2.getD z.1 false))) rfl (show some (Value.bool _) = some (Value.bool _) from congrArg some (congrArg Value.bool (by first | (rw [e1] <;> rfl) | (rw [e1, decide_eq_true e2] <;> rfl) | (rw [e1, decide_eq_false e2, decide_eq_true e3] <;> rfl) | (rw [e1, decide_eq_false e2, decide_eq_false e3] <;> rfl)))) Tb.cells_4 u9z (by omega) rfl rfl ?_)))
  refine TL.nil (TQ.blkN (TQ.thenC (TC.region (zq (PV.add rfl rfl om) rfl (zm rfl (TL.nil (TQ.thenN (TQ.backK (z.1 + 1, z.2.set y.1 (z.2.getD y.1 false || decide (0 < gs.getD y.1 0) || (decide (0 < (ls.getD y.1 []).getD z.1 0) && z.2.getD z.1 false))) l9z l9z s9z ⟨by simp only; omega, hz.2.cell om om⟩ (by simp only; omega)))))))))
  refine zm rfl (zq (PV.gtr rfl rfl) rfl (zm rfl (TL.sp 49 rfl (fun e3 => ?_) (fun e3 => ?_))))
  refine zm rfl (zm rfl (zq (PV.index1 (j := z.1) rfl rfl Tb.elm_174 rfl om) rfl (zq (PV.loadB rfl Tb.one_4 m9z om) rfl ?_)))
  refine zq (PV.pickT rfl rfl) rfl (zq (PV.pickF rfl rfl) rfl (zq (PV.index1 (j := y.1) rfl rfl Tb.elm_174 rfl (by omega)) rfl (TL.storeB (v := (z.2.getD y.1 false || decide (0 < gs.getD y.1 0) || (decide (0 < (ls.getD y.1 []).getD z.1 0) && z.2.getD z.1 false))) rfl (show some (Value.bool _) = some (Value.bool _) from congrArg some (congrArg Value.bool (by first | (rw [e1] <;> rfl) | (rw [e1, decide_eq_true e2] <;> rfl) | (rw [e1, decide_eq_false e2, decide_eq_true e3] <;> rfl) | (rw [e1, decide_eq_false e2, decide_eq_false e3] <;> rfl)))) Tb.cells_4 u9z (by omega) rfl rfl ?_)))
  refine TL.nil (TQ.blkN (TQ.thenC (TC.region (zq (PV.add rfl rfl om) rfl (zm rfl (TL.nil (TQ.thenN (TQ.backK (z.1 + 1, z.2.set y.1 (z.2.getD y.1 false || decide (0 < gs.getD y.1 0) || (decide (0 < (ls.getD y.1 []).getD z.1 0) && z.2.getD z.1 false))) l9z l9z s9z ⟨by simp only; omega, hz.2.cell om om⟩ (by simp only; omega)))))))))
  refine zx rfl (zx rfl (zx rfl (zx rfl (zq (PV.pickF rfl rfl) rfl (zq (PV.pickF rfl rfl) rfl (zq (PV.index1 (j := y.1) rfl rfl Tb.elm_174 rfl (by omega)) rfl (TL.storeB (v := (z.2.getD y.1 false || decide (0 < gs.getD y.1 0) || (decide (0 < (ls.getD y.1 []).getD z.1 0) && z.2.getD z.1 false))) rfl (show some (Value.bool _) = some (Value.bool _) from congrArg some (congrArg Value.bool (by first | (rw [e1] <;> rfl) | (rw [e1, decide_eq_true e2] <;> rfl) | (rw [e1, decide_eq_false e2, decide_eq_true e3] <;> rfl) | (rw [e1, decide_eq_false e2, decide_eq_false e3] <;> rfl)))) Tb.cells_4 u9z (by omega) rfl rfl ?_)))))))
  refine TL.nil (TQ.blkN (TQ.thenC (TC.region (zq (PV.add rfl rfl om) rfl (zm rfl (TL.nil (TQ.thenN (TQ.backK (z.1 + 1, z.2.set y.1 (z.2.getD y.1 false || decide (0 < gs.getD y.1 0) || (decide (0 < (ls.getD y.1 []).getD z.1 0) && z.2.getD z.1 false))) l9z l9z s9z ⟨by simp only; omega, hz.2.cell om om⟩ (by simp only; omega)))))))))
  refine TC.exit (TQ.thenE (TQ.thenE (TQ.blkS (TQ.blkN (TQ.thenC (TC.region (zq (PV.add rfl rfl om) rfl (zm rfl (TL.nil (TQ.thenN (TQ.backK (y.1 + 1, z.2) l9z l9z s9z ⟨by simp only; omega, hz.2.nextRow om hn9.1⟩ (by simp only; omega))))))))))))
  refine TC.exit (TQ.thenE (TQ.thenE (TQ.blkS (TQ.blkN (TQ.thenC (TC.region (zq (PV.add rfl rfl om) rfl (zm rfl (TL.nil (TQ.thenN (TQ.backK (x.1 + 1, y.2) l9z l9z s9z ⟨by simp only; omega, hy.2.nextRound om⟩ (by simp only; omega))))))))))))
  refine TC.exit (TQ.thenE (TQ.thenE (TQ.blkS (TQ.thenC (zr (zm rfl (TL.call rfl Tb.gofn_172 (fun a w hs => by have hbl := hx.2.len; have h9 := containsB_ok w _ gs.length x.2 (BlsAt.arr hs.new m9z) om; rw [hbl] at h9; exact h9) rfl dc (fun b9 hb9 => ?_))))))))
  refine zq ((by first | exact PV.notD rfl | exact PV.not rfl)) rfl ?_
  refine za rfl (zt (TQ.retE1 rfl rfl ?_))
  refine ⟨_, rfl, ?_, nils⟩
  have hbl := hx.2.len
  have hf := hx.2.fin (by omega)
  rw [← hf]
  rw [Bool.not_eq_true', hb9]
set_option maxHeartbeats 1000000 in
theorem validate_ok (w0 : World) (p : Option Addr) (cp : Nat) (ls : List (List Int)) (hr : LsAt w0 p ls) (q : Option Addr) (cq : Nat) (gs : List Int) (hg : IntsAt w0 q gs) (hlo : ∀ k, (ls.getD k []).length ≤ 1000000) :
    Calls Tryz.prog 97 #[hv p ls.length cp q gs.length cq] w0 (Post (X := Unit) (fun _ => .int .i64 (validI ls gs)) (fun _ => True) (fun _ => []) w0) := by
  refine calls Tryz.func97 rfl (n := 47) rfl (by simp) ?_
  refine zr (TL.box rfl rfl dc (fun b0 hb0 => ?_))
  refine za rfl (zk (zq (PV.fieldAddr rfl Tb.fo_27_1) rfl (zq (PV.load rfl Tb.one_25 m9z rfl) rfl ?_)))
  refine zq (PV.len rfl Tb.sl_25) rfl (za rfl (zn (TC.seq (zr (zm rfl (zq (PV.lss rfl rfl) rfl (zm rfl (TL.sp 11 rfl (fun a1 => ?_) (fun a1 => ?_)))))))))
  refine zx rfl (zx rfl (zq (PV.pickT rfl rfl) rfl (zm rfl (zx rfl (zx rfl (zx rfl (zx rfl (zx rfl (zq (PV.pickT rfl rfl) rfl (zn (TC.condT rfl (zr (za rfl (zt (TQ.thenR (TQ.retE1 rfl rfl ?_))))))))))))))))
  exact ⟨(), by rw [valid_1 (fun h => by have := h.n; have := h.len; omega)], trivial, nils⟩
  refine zm rfl (zq (PV.gtr rfl rfl) rfl (zq (PV.pickF rfl rfl) rfl (zm rfl (TL.sp 15 rfl (fun a2 => ?_) (fun a2 => ?_)))))
  refine zx rfl (zx rfl (zx rfl (zx rfl (zx rfl (zq (PV.pickT rfl rfl) rfl (zn (TC.condT rfl (zr (za rfl (zt (TQ.thenR (TQ.retE1 rfl rfl ?_))))))))))))
  exact ⟨(), by rw [valid_1 (fun h => by have := h.n; have := h.len; omega)], trivial, nils⟩
  refine zq (PV.fieldAddr rfl Tb.fo_27_0) rfl (zq (PV.load rfl Tb.one_22 m9z rfl) rfl ?_)
  refine zq (PV.len rfl Tb.sl_22) rfl (zm rfl (zq (PV.neq rfl rfl) rfl (zq (PV.pickF rfl rfl) rfl (zn (TC.cd rfl (fun a3 => ?_) (fun a3 => ?_))))))
  refine zr (za rfl (zt (TQ.thenR (TQ.retE1 rfl rfl ?_))))
  exact ⟨(), by rw [valid_1 (fun h => by have := h.n; have := h.len; omega)], trivial, nils⟩
  refine TC.skip (TQ.thenC (TC.seq (zr (zq (PV.fieldAddr rfl Tb.fo_27_0) rfl (zq (PV.load rfl Tb.one_22 m9z rfl) rfl ?_)))))
  refine zq (PV.len rfl Tb.sl_22) rfl (zm rfl (zn (TC.block (TC.loopG [1, 3, 23, 24] (X := Nat) (fun k => k ≤ ls.length ∧ ∀ j, j < k → numB gs.length 2 (ls.getD j []) = true) (fun k => [(25, .int .i64 k)]) (fun k => ls.length - k) 0 ⟨Nat.zero_le _, fun j hj => absurd hj (Nat.not_lt_zero _)⟩ l9z ?_))))
  intro k hk
  refine zr (zq (PV.lss rfl rfl) rfl (zn (TC.seq (TC.cd rfl (fun hlt => ?_) (fun hlt => ?_)))))
  refine TC.skip (TQ.thenC (TC.seq (TC.block (TC.seq ?_))))
  obtain ⟨q1, hq1p, p1, c1, hq1, hi1⟩ := hr k (by omega)
  have hlr : numB gs.length 2 (ls.getD k []) = true → (ls.getD k []).length = gs.length := fun h => by have := num_len h; omega
  refine TC.region (zq (PV.indexA rfl hq1p rfl Tb.elm_22 rfl om) rfl (zq (PV.loadOld rfl Tb.one_25 hq1) rfl (za rfl (zk (zm rfl (zm rfl (TL.call rfl Tb.gofn_135 (fun a w hs => areNumbers_ok w _ _ _ (hi1.new hs.new) (hlo k) _ _) rfl dc (fun _ _ => ?_))))))))
  refine zq ((by first | exact PV.notD rfl | exact PV.not rfl)) rfl ?_
  refine zn (TC.cd rfl (fun hno => ?_) (fun hno => ?_))
  refine zr (za rfl (zt (TQ.blkR (TQ.thenR (TQ.thenR (TQ.blkR (TQ.thenR (TQ.retE1 rfl rfl ?_))))))))
  exact ⟨(), by rw [valid_1 (fun h => by have := h.row k (by omega); rw [this] at hno; exact absurd hno (by decide))], trivial, nils⟩
  refine TC.skip (TQ.blkN (TQ.thenC (TC.region (zq (PV.add rfl rfl om) rfl (zm rfl (TL.nil (TQ.thenN (TQ.backK (k + 1) l9z l9z s9z ⟨by omega, fun j hj => if e : j < k then hk.2 j e else (show k = j by omega) ▸ (by simpa using hno)⟩ om))))))))
  refine TC.exit (TQ.thenE (TQ.thenE (TQ.blkS (TQ.thenC (TC.seq (zr (zq (PV.fieldAddr rfl Tb.fo_27_1) rfl (zq (PV.load rfl Tb.one_25 m9z rfl) rfl ?_))))))))
  refine zm rfl (TL.call rfl Tb.gofn_135 (fun a w hs => areNumbers_ok w _ _ _ (hg.new hs.new) om _ _) rfl dc (fun _ _ => ?_))
  refine zq ((by first | exact PV.notD rfl | exact PV.not rfl)) rfl ?_
  refine zm rfl (TL.sp 39 rfl (fun a4 => ?_) (fun a4 => ?_))
  refine zx rfl (zx rfl (zx rfl (zq (PV.pickT rfl rfl) rfl (zn (TC.condT rfl (zr (za rfl (zt (TQ.thenR (TQ.retE1 rfl rfl ?_))))))))))
  exact ⟨(), by rw [valid_1 (fun h => by have := h.gr; simp_all)], trivial, nils⟩
  refine zq (PV.loadBox rfl Tb.agg_27 m9z rfl) rfl ?_
  refine TL.call rfl Tb.gofn_136 (fun a w hs => areMutual_ok w _ _ _ (hr.new hs.new) _ _ _ (hg.new hs.new) om om (fun j hj => by have := num_len (hk.2 j om); omega)) rfl dc (fun bm hbm => ?_)
  refine zq ((by first | exact PV.notD rfl | exact PV.not rfl)) rfl ?_
  refine zq (PV.pickF rfl rfl) rfl (zn (TC.cd rfl (fun a5 => ?_) (fun a5 => ?_)))
  refine zr (za rfl (zt (TQ.thenR (TQ.retE1 rfl rfl ?_))))
  exact ⟨(), by rw [valid_1 (fun h => by have := hbm.2 h.mu; simp_all)], trivial, nils⟩
  refine TC.skip (TQ.thenC (TC.seq (TC.seq ?_)))
  have hS : Shp ls gs := ⟨by omega, by omega, fun j hj => hk.2 j (by omega), by simpa using a4, hbm.1 (by simpa using a5)⟩
  refine TC.region (zq (PV.loadBox rfl Tb.agg_27 m9z rfl) rfl ?_)
  refine TL.call rfl Tb.gofn_137 (fun a w hs => areJoined_ok w _ _ _ (hr.new hs.new) _ _ _ (hg.new hs.new) hS) rfl dc (fun bj hbj => ?_)
  refine zq ((by first | exact PV.notD rfl | exact PV.not rfl)) rfl ?_
  refine zn (TC.cd rfl (fun a6 => ?_) (fun a6 => ?_))
  refine zr (za rfl (zt (TQ.thenR (TQ.retE1 rfl rfl ?_))))
  exact ⟨(), by rw [valid_9 hS (fun h => by have := hbj.2 h; simp_all)], trivial, nils⟩
  refine TC.skip (TQ.thenC (zr (za rfl (zt (TQ.retE1 rfl rfl ?_)))))
  exact ⟨(), by rw [valid_0 hS (hbj.1 (by simpa using a6))], trivial, nils⟩
end Go.Proofs.YtbnjmkidbfmomaaGreatDoor.H
