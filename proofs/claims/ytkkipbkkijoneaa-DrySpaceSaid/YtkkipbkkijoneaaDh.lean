/- Effects, counts, invariants, weights: contracts. -/
import Derived.Test.YtkkipbkkijoneaaDf
import Derived.Test.YtkkipbkkijoneaaSs
set_option linter.unusedVariables false
set_option linter.unusedSimpArgs false
namespace Go.Proofs.Ytkkipbkkijoneaa
open Go.Sx Go.RowKit Go.Sand

theorem gbI_blk (b c : Nat) (l : List Int) : gbI (some (b, c, []), l) = [(b, Obj.cells (intsA l) 3 (0, 0))] := by
  show [(b, Obj.cells (ival l ++ []).toArray 3 (0, 0))] = _
  rw [List.append_nil]
  rfl
theorem goI_blk (b : Nat) (l : List Int) : goI (some (b, l.length, []), l) := ⟨by simp, by simp, Nat.le_refl _⟩
theorem sm_bd {f : Nat → Int} {B : Int} (h0 : 0 ≤ B) : ∀ {n : Nat}, (∀ i, i < n → -B ≤ f i ∧ f i ≤ B) → -(B * n) ≤ sm n f ∧ sm n f ≤ B * n
  | 0, _ => by simp [sm]
  | n + 1, h => by
    have h1 := sm_bd h0 (n := n) (fun i hi => h i (by omega))
    have h2 := h n (by omega)
    show -(B * ((n + 1 : Nat) : Int)) ≤ sm n f + f n ∧ sm n f + f n ≤ B * ((n + 1 : Nat) : Int)
    have h3 : B * ((n + 1 : Nat) : Int) = B * n + B := by rw [show ((n + 1 : Nat) : Int) = (n : Int) + 1 by omega, Int.mul_add, Int.mul_one]
    omega
theorem mul_bd2 {a b A B : Int} (ha : -A ≤ a ∧ a ≤ A) (hb : -B ≤ b ∧ b ≤ B) (hA : 0 ≤ A) (hB : 0 ≤ B) : -(A * B) ≤ a * b ∧ a * b ≤ A * B := by
  have h1 : a.natAbs ≤ A.natAbs := by omega
  have h2 : b.natAbs ≤ B.natAbs := by omega
  have h3 : (a * b).natAbs ≤ (A * B).natAbs := by rw [Int.natAbs_mul, Int.natAbs_mul]; exact Nat.mul_le_mul h1 h2
  have h4 : 0 ≤ A * B := Int.mul_nonneg hA hB
  omega
/-- What a step changes at a place. -/
def dd (ss : List St) (i p : Nat) : Int := (ss.getD i default).g.getD p 0 - (ss.getD i default).t.getD p 0
def efS (ss : List St) (cs : List Int) (i q : Nat) : Int := sm i fun j => cs.getD j 0 * dd ss j q
def ef1 (ss : List St) (cs : List Int) (N i p : Nat) : List Int := mk N fun q => efS ss cs i q + if q < p then cs.getD i 0 * dd ss i q else 0
theorem ef1_len (ss : List St) (cs : List Int) (N i p : Nat) : (ef1 ss cs N i p).length = N := mk_len _ _
theorem ef1_zero (ss : List St) (cs : List Int) (N : Nat) : List.replicate N 0 = ef1 ss cs N 0 0 := mk_eq (by simp) fun j hj => by simp [List.getD, hj, efS, sm]
theorem ef1_at {ss : List St} {cs : List Int} {N i p : Nat} (hp : p < N) : (ef1 ss cs N i p).getD p 0 = efS ss cs i p := by unfold ef1; rw [mk_at _ hp]; simp
theorem ef1_put {ss : List St} {cs : List Int} {N i p : Nat} {v : Int} (hp : p < N) (hv : v = efS ss cs i p + cs.getD i 0 * dd ss i p) : (ef1 ss cs N i p).set p v = ef1 ss cs N i (p + 1) :=
  mk_set hp (by rw [hv]; simp) fun j _ hj => by
    show efS ss cs i j + (if j < p then _ else _) = efS ss cs i j + (if j < p + 1 then _ else _)
    by_cases h : j < p
    · rw [if_pos h, if_pos (by omega)]
    · rw [if_neg h, if_neg (by omega)]
theorem ef1_next {ss : List St} {cs : List Int} {N i p : Nat} (hp : N ≤ p) : ef1 ss cs N i p = ef1 ss cs N (i + 1) 0 := mk_congr fun j hj => by
  rw [if_pos (by omega), if_neg (by omega)]
  show efS ss cs i j + _ = (sm i _ + _) + 0
  rw [Int.add_zero]
  rfl
def effN (ss : List St) (cs : List Int) (N : Nat) : List Int := mk N (efS ss cs ss.length)
theorem ef1_end {ss : List St} {cs : List Int} {N i : Nat} (hi : i = ss.length) : ef1 ss cs N i 0 = effN ss cs N := mk_congr fun j hj => by rw [hi, if_neg (by omega), Int.add_zero]
theorem dd_bd {n : Int} {ss : List St} (h : VY n ss) {i : Nat} (hi : i < ss.length) (p : Nat) : -3 ≤ dd ss i p ∧ dd ss i p ≤ 3 := by
  have := h.tb hi p
  unfold dd
  omega
theorem efS_bd {n : Int} {ss : List St} (h : VY n ss) {cs : List Int} (hc : ∀ k, 0 ≤ cs.getD k 0 ∧ cs.getD k 0 ≤ 40) {i : Nat} (hi : i ≤ ss.length) (q : Nat) : -720 ≤ efS ss cs i q ∧ efS ss cs i q ≤ 720 := by
  have h1 := sm_bd (f := fun j => cs.getD j 0 * dd ss j q) (B := 120) (by decide) (n := i) (fun j hj => mul_bd2 (A := 40) (B := 3) (by have := hc j; omega) (dd_bd h (by omega) q) (by decide) (by decide))
  have h2 := h.len
  unfold efS
  omega
def effR (n : Int) (ss : List St) (cs : List Int) : List Int × Int := if validI n ss ≠ 0 then ([], validI n ss) else if numB ss.length 0 40 cs = true then (effN ss cs n.toNat, 0) else ([], 1)
theorem effR_1 {n : Int} {ss : List St} {cs : List Int} (h : validI n ss ≠ 0) : effR n ss cs = ([], validI n ss) := if_pos h
theorem effR_2 {n : Int} {ss : List St} {cs : List Int} (h : ¬ validI n ss ≠ 0) (h2 : numB ss.length 0 40 cs = false) : effR n ss cs = ([], 1) := by unfold effR; rw [if_neg h, if_neg (by rw [h2]; decide)]
theorem effR_3 {n : Int} {ss : List St} {cs : List Int} (h : ¬ validI n ss ≠ 0) (h2 : numB ss.length 0 40 cs = true) : effR n ss cs = (effN ss cs n.toNat, 0) := by unfold effR; rw [if_neg h, if_pos h2]
def cnK (S : Nat) (ls : List Int) (k : Nat) : List Int := mk S fun i => (((ls.take k).count (i : Int) : Nat) : Int)
theorem cnK_len (S : Nat) (ls : List Int) (k : Nat) : (cnK S ls k).length = S := mk_len _ _
theorem cnK_zero (S : Nat) (ls : List Int) : List.replicate S 0 = cnK S ls 0 := mk_eq (by simp) fun j hj => by simp [List.getD, hj]
theorem cnt_next {ls : List Int} {k : Nat} (hk : k < ls.length) (i : Int) : (ls.take (k + 1)).count i = (ls.take k).count i + if ls.getD k 0 = i then 1 else 0 := by
  rw [List.take_succ_eq_append_getElem hk, List.count_append, show ls.getD k 0 = ls[k] by rw [List.getD_eq_getElem?_getD, List.getElem?_eq_getElem hk]; rfl]
  congr 1
  rw [List.count_cons, List.count_nil]
  simp
theorem cnK_at {S : Nat} {ls : List Int} {k u : Nat} (hu : u < S) : (cnK S ls k).getD u 0 = (((ls.take k).count (u : Int) : Nat) : Int) := by unfold cnK; rw [mk_at _ hu]
theorem cnK_put {S : Nat} {ls : List Int} {k u : Nat} (hk : k < ls.length) (hu : u < S) (e : ls.getD k 0 = u) : (cnK S ls k).set u ((cnK S ls k).getD u 0 + 1) = cnK S ls (k + 1) :=
  mk_set hu (by rw [cnK_at hu, cnt_next hk, if_pos e]; omega) fun j _ hj => by rw [cnt_next hk, if_neg (by rw [e]; omega)]; rfl
theorem cnK_bd {S : Nat} {ls : List Int} {k u : Nat} (hk : k ≤ 40) : 0 ≤ (cnK S ls k).getD u 0 ∧ (cnK S ls k).getD u 0 ≤ 40 := by
  by_cases hu : u < S
  · rw [cnK_at hu]
    have := List.count_le_length (a := (u : Int)) (l := ls.take k)
    rw [List.length_take] at this
    omega
  · rw [List.getD_eq_getElem?_getD, List.getElem?_eq_none (by rw [cnK_len]; omega)]
    exact ⟨by decide, by decide⟩
def cntN (S : Nat) (ls : List Int) : List Int := mk S fun i => ((ls.count (i : Int) : Nat) : Int)
theorem cnK_end {S : Nat} {ls : List Int} {k : Nat} (hk : ls.length ≤ k) : cnK S ls k = cntN S ls := mk_congr fun j _ => by rw [List.take_of_length_le hk]
def cntR (n : Int) (ss : List St) (ls : List Int) : List Int × Int := if validI n ss ≠ 0 then ([], validI n ss) else if listI ss.length ls ≠ 0 then ([], listI ss.length ls) else (cntN ss.length ls, 0)
theorem cntR_1 {n : Int} {ss : List St} {ls : List Int} (h : validI n ss ≠ 0) : cntR n ss ls = ([], validI n ss) := if_pos h
theorem cntR_2 {n : Int} {ss : List St} {ls : List Int} (h : ¬ validI n ss ≠ 0) (h2 : listI ss.length ls ≠ 0) : cntR n ss ls = ([], listI ss.length ls) := by unfold cntR; rw [if_neg h, if_pos h2]
theorem cntR_3 {n : Int} {ss : List St} {ls : List Int} (h : ¬ validI n ss ≠ 0) (h2 : ¬ listI ss.length ls ≠ 0) : cntR n ss ls = (cntN ss.length ls, 0) := by unfold cntR; rw [if_neg h, if_neg h2]
theorem effR_l {n : Int} {ss : List St} {cs : List Int} : (effR n ss cs).1.length ≤ 1000000 := by
  unfold effR
  split
  · exact Nat.zero_le _
  · split
    · rename_i h1 h2
      have := (vy_of h1).hn
      unfold effN
      rw [mk_len]; omega
    · exact Nat.zero_le _
theorem cntR_l {n : Int} {ss : List St} {ls : List Int} : (cntR n ss ls).1.length ≤ 1000000 := by
  unfold cntR
  split
  · exact Nat.zero_le _
  · split
    · exact Nat.zero_le _
    · rename_i h1 h2
      have := (vy_of h1).len
      unfold cntN
      rw [mk_len]; omega
/-- The sum of weight times turves. -/
def wgN (ws m : List Int) : Int := sm ws.length fun p => ws.getD p 0 * m.getD p 0
def wgK (ws m : List Int) (k : Nat) : Int := sm k fun p => ws.getD p 0 * m.getD p 0
theorem wgK_bd {ws m : List Int} {B : Int} (hB : 0 ≤ B) (hB2 : B ≤ 1000) (hw : ∀ k, -20 ≤ ws.getD k 0 ∧ ws.getD k 0 ≤ 20) (hm : ∀ k, -B ≤ m.getD k 0 ∧ m.getD k 0 ≤ B) {k : Nat} (hk : k ≤ 1000) : -1000000000 ≤ wgK ws m k ∧ wgK ws m k ≤ 1000000000 := by
  have h1 := sm_bd (f := fun p => ws.getD p 0 * m.getD p 0) (B := 20000) (by decide) (n := k) (fun j hj => by
    have := mul_bd2 (a := ws.getD j 0) (b := m.getD j 0) (A := 20) (B := 1000) (hw j) (by have := hm j; omega) (by decide) (by decide)
    exact this)
  unfold wgK
  omega
def invB (ss : List St) (ws : List Int) : Bool := !ss.any fun s => decide (wgN ws (effL s) ≠ 0)
def invR (n : Int) (ss : List St) (ws : List Int) : Bool × Int := if validI n ss ≠ 0 then (false, validI n ss) else if numB n (-20) 20 ws = true then (invB ss ws, 0) else (false, 1)
theorem invR_1 {n : Int} {ss : List St} {ws : List Int} (h : validI n ss ≠ 0) : invR n ss ws = (false, validI n ss) := if_pos h
theorem invR_2 {n : Int} {ss : List St} {ws : List Int} (h : ¬ validI n ss ≠ 0) (h2 : numB n (-20) 20 ws = false) : invR n ss ws = (false, 1) := by unfold invR; rw [if_neg h, if_neg (by rw [h2]; decide)]
theorem invR_3 {n : Int} {ss : List St} {ws : List Int} (h : ¬ validI n ss ≠ 0) (h2 : numB n (-20) 20 ws = true) : invR n ss ws = (invB ss ws, 0) := by unfold invR; rw [if_neg h, if_pos h2]
def wgR (n : Int) (ss : List St) (ws m : List Int) : Int × Int := if filI n ss [m] ≠ 0 then (0, filI n ss [m]) else if numB n (-20) 20 ws = true then (wgN ws m, 0) else (0, 1)
theorem wgR_1 {n : Int} {ss : List St} {ws m : List Int} (h : filI n ss [m] ≠ 0) : wgR n ss ws m = (0, filI n ss [m]) := if_pos h
theorem wgR_2 {n : Int} {ss : List St} {ws m : List Int} (h : ¬ filI n ss [m] ≠ 0) (h2 : numB n (-20) 20 ws = false) : wgR n ss ws m = (0, 1) := by unfold wgR; rw [if_neg h, if_neg (by rw [h2]; decide)]
theorem wgR_3 {n : Int} {ss : List St} {ws m : List Int} (h : ¬ filI n ss [m] ≠ 0) (h2 : numB n (-20) 20 ws = true) : wgR n ss ws m = (wgN ws m, 0) := by unfold wgR; rw [if_neg h, if_pos h2]
theorem eff_all {n : Int} {ss : List St} (h : VY n ss) {k : Nat} (hk : k < ss.length) (p : Nat) : (effL (ss.getD k default)).getD p 0 = dd ss k p := by
  by_cases hp : p < (ss.getD k default).g.length
  · exact eff_at hp
  · have h1 := (h.tl hk).1
    have h2 := (h.tl hk).2
    unfold dd
    rw [List.getD_eq_getElem?_getD, List.getElem?_eq_none (by rw [eff_len]; omega), List.getD_eq_getElem?_getD, List.getElem?_eq_none (by omega), List.getD_eq_getElem?_getD, List.getElem?_eq_none (by omega)]
    rfl
/-- The reference's sum. -/
def iwK (ss : List St) (ws : List Int) (i k : Nat) : Int := sm k fun p => ws.getD p 0 * dd ss i p
theorem iw_eq {n : Int} {ss : List St} (h : VY n ss) {ws : List Int} {i : Nat} (hi : i < ss.length) : wgN ws (effL (ss.getD i default)) = iwK ss ws i ws.length := sm_congr fun p _ => by rw [eff_all h hi]
theorem iw_bd {n : Int} {ss : List St} (h : VY n ss) {ws : List Int} (hw : ∀ k, -20 ≤ ws.getD k 0 ∧ ws.getD k 0 ≤ 20) {i k : Nat} (hi : i < ss.length) (hk : k ≤ 1000) : -1000000 ≤ iwK ss ws i k ∧ iwK ss ws i k ≤ 1000000 := by
  have h1 := sm_bd (f := fun p => ws.getD p 0 * dd ss i p) (B := 60) (by decide) (n := k) (fun j hj => mul_bd2 (A := 20) (B := 3) (hw j) (dd_bd h hi j) (by decide) (by decide))
  unfold iwK
  omega
theorem mulB {a b A B : Int} (ha : -A ≤ a ∧ a ≤ A) (hb : -B ≤ b ∧ b ≤ B) (hA : 0 ≤ A ∧ A ≤ 1000) (hB : 0 ≤ B ∧ B ≤ 1000) : -1000000 ≤ a * b ∧ a * b ≤ 1000000 := by
  have h1 := mul_bd2 ha hb hA.1 hB.1
  have h2 := mul_bd2 (a := A) (b := B) (A := 1000) (B := 1000) (by omega) (by omega) (by decide) (by decide)
  omega


set_option maxRecDepth 100000 in
theorem areCounts_ok (w0 : World) (n : Int) (p : Option Addr) (cp : Nat) (ss : List St) (hr : StsAt w0 p ss) (pl : Option Addr) (cl : Nat) (xs : List Int) (hx : IntsAt w0 pl xs) (hl : xs.length ≤ 1000000) :
    Calls Try.prog 78 #[yv n p ss.length cp, .slice pl xs.length cl] w0 (Post (X := Unit) (fun _ => .bool (numB ss.length 0 40 xs)) (fun _ => True) (fun _ => []) w0) := by
  refine calls Try.func78 rfl (n := 10) rfl (by simp) ?_
  refine TC.seq ?_
  refine TC.region ?_
  refine TL.box rfl rfl (by decide) (fun b0 hb0 => ?_)
  refine TL.pure (PV.assign rfl) rfl (by decide) ?_
  refine TL.nil ?_
  refine TQ.thenC ?_
  refine TC.seq ?_
  refine TC.region ?_
  refine TL.pure (PV.move rfl) rfl (by decide) ?_
  refine TL.pure (PV.fieldAddr rfl Tb.fo_24_1) rfl (by decide) ?_
  refine TL.pure (PV.load rfl Tb.one_22 (by repeat (first | exact List.Mem.head _ | refine List.Mem.tail _ ?_ | refine List.mem_append_right _ ?_)) rfl) rfl (by decide) ?_
  refine TL.pure (PV.len rfl Tb.sl_22) rfl (by decide) ?_
  refine TL.call rfl Tb.gofn_70 (fun a w hs => areNumbers_ok w _ _ _ (hx.new hs.new) hl _ _ _) rfl (by decide) (fun _ _ => ?_)
  refine TL.pure (PV.assign rfl) rfl (by decide) ?_
  refine TL.nil ?_
  refine TQ.thenC ?_
  refine TC.ret ?_
  refine TQ.retE1 rfl rfl ?_
  exact ⟨(), rfl, trivial, List.nil_sublist _⟩

set_option maxRecDepth 100000 in
theorem areWeights_ok (w0 : World) (n : Int) (p : Option Addr) (cp : Nat) (ss : List St) (hr : StsAt w0 p ss) (pl : Option Addr) (cl : Nat) (xs : List Int) (hx : IntsAt w0 pl xs) (hl : xs.length ≤ 1000000) :
    Calls Try.prog 91 #[yv n p ss.length cp, .slice pl xs.length cl] w0 (Post (X := Unit) (fun _ => .bool (numB n (-20) 20 xs)) (fun _ => True) (fun _ => []) w0) := by
  refine calls Try.func91 rfl (n := 9) rfl (by simp) ?_
  refine TC.seq ?_
  refine TC.region ?_
  refine TL.box rfl rfl (by decide) (fun b0 hb0 => ?_)
  refine TL.pure (PV.assign rfl) rfl (by decide) ?_
  refine TL.nil ?_
  refine TQ.thenC ?_
  refine TC.seq ?_
  refine TC.region ?_
  refine TL.pure (PV.move rfl) rfl (by decide) ?_
  refine TL.pure (PV.fieldAddr rfl Tb.fo_24_0) rfl (by decide) ?_
  refine TL.pure (PV.load rfl Tb.one_3 (by repeat (first | exact List.Mem.head _ | refine List.Mem.tail _ ?_ | refine List.mem_append_right _ ?_)) rfl) rfl (by decide) ?_
  refine TL.call rfl Tb.gofn_70 (fun a w hs => areNumbers_ok w _ _ _ (hx.new hs.new) hl _ _ _) rfl (by decide) (fun _ _ => ?_)
  refine TL.pure (PV.assign rfl) rfl (by decide) ?_
  refine TL.nil ?_
  refine TQ.thenC ?_
  refine TC.ret ?_
  refine TQ.retE1 rfl rfl ?_
  exact ⟨(), rfl, trivial, List.nil_sublist _⟩

set_option maxRecDepth 100000 in
set_option maxHeartbeats 1000000 in
theorem weigh_ok (w0 : World) (pl : Option Addr) (cl : Nat) (xs : List Int) (hx : IntsAt w0 pl xs) (vy : Value) (ys : List Int) (hu : IsI w0 vy ys) (hl : xs.length ≤ 1000) (hle : xs.length ≤ ys.length) (hw : ∀ k, -20 ≤ xs.getD k 0 ∧ xs.getD k 0 ≤ 20) (B : Int) (hB : 0 ≤ B ∧ B ≤ 1000) (hm : ∀ k, -B ≤ ys.getD k 0 ∧ ys.getD k 0 ≤ B) :
    Calls Try.prog 93 #[.slice pl xs.length cl, vy] w0 (Post (X := Unit) (fun _ => .int .i64 (wgN xs ys)) (fun _ => True) (fun _ => []) w0) := by
  obtain ⟨p2, c2, rfl, hy⟩ := hu
  refine calls Try.func93 rfl (n := 25) rfl (by simp) ?_
  refine TC.seq ?_
  refine TC.region ?_
  refine TL.pure (PV.assign rfl) rfl (by decide) ?_
  refine TL.nil ?_
  refine TQ.thenC ?_
  refine TC.seq ?_
  refine TC.region ?_
  refine TL.pure (PV.assign rfl) rfl (by decide) ?_
  refine TL.nil ?_
  refine TQ.thenC ?_
  refine TC.seq ?_
  refine TC.seq ?_
  refine TC.region ?_
  refine TL.pure (PV.move rfl) rfl (by decide) ?_
  refine TL.pure (PV.len rfl Tb.sl_25) rfl (by decide) ?_
  refine TL.pure (PV.move rfl) rfl (by decide) ?_
  refine TL.nil ?_
  refine TQ.thenC ?_
  refine TC.block ?_
  refine TC.loopG [1, 4, 8, 9] (X := Nat) (fun k => k ≤ xs.length) (fun k => [(10, .int .i64 k), (5, .int .i64 (wgK xs ys k))]) (fun k => xs.length - k) 0 (Nat.zero_le _) (by repeat (first | exact True.intro | refine And.intro rfl ?_)) ?_
  intro k hk
  refine TC.seq ?_
  refine TC.region ?_
  refine TL.pure (PV.lss rfl rfl) rfl (by decide) ?_
  refine TL.nil ?_
  refine TQ.thenC ?_
  refine TC.seq ?_
  first | refine TC.condD rfl (fun hlt => ?_) (fun hlt => ?_) | refine TC.cond rfl (fun hlt => ?_) (fun hlt => ?_)
  · skip
    refine TC.skip ?_
    refine TQ.thenC ?_
    refine TC.seq ?_
    refine TC.block ?_
    refine TC.seq ?_
    obtain ⟨q1, hq1p, hq1⟩ := hx k (by omega)
    obtain ⟨q2, hq2p, hq2⟩ := hy k (by omega)
    have hbk := wgK_bd hB.1 hB.2 hw hm (k := k) (by omega)
    have hbp := mulB (hw k) (hm k) (by decide) hB
    refine TC.region ?_
    refine TL.pure (PV.move rfl) rfl (by decide) ?_
    refine TL.pure (PV.indexA rfl hq1p rfl Tb.elm_25 rfl (by omega)) rfl (by decide) ?_
    refine TL.pure (PV.loadOld rfl Tb.one_3 hq1) rfl (by decide) ?_
    refine TL.pure (PV.assign rfl) rfl (by decide) ?_
    refine TL.pure (PV.assign rfl) rfl (by decide) ?_
    refine TL.nil ?_
    refine TQ.thenC ?_
    refine TC.region ?_
    refine TL.pure (PV.move rfl) rfl (by decide) ?_
    refine TL.pure (PV.move rfl) rfl (by decide) ?_
    refine TL.pure (PV.move rfl) rfl (by decide) ?_
    refine TL.pure (PV.move rfl) rfl (by decide) ?_
    refine TL.pure (PV.indexA rfl hq2p rfl Tb.elm_25 rfl (by omega)) rfl (by decide) ?_
    refine TL.pure (PV.loadOld rfl Tb.one_3 hq2) rfl (by decide) ?_
    refine TL.pure (PV.mul rfl rfl (by omega)) rfl (by decide) ?_
    refine TL.pure (PV.add rfl rfl (by omega)) rfl (by decide) ?_
    refine TL.pure (PV.assign rfl) rfl (by decide) ?_
    refine TL.nil ?_
    refine TQ.blkN ?_
    refine TQ.thenC ?_
    refine TC.region ?_
    refine TL.pure (PV.add rfl rfl (by omega)) rfl (by decide) ?_
    refine TL.pure (PV.move rfl) rfl (by decide) ?_
    refine TL.nil ?_
    refine TQ.thenN ?_
    refine TQ.backK (k + 1) (by repeat (first | exact True.intro | refine And.intro rfl ?_)) (by repeat (first | exact True.intro | refine And.intro rfl ?_)) (by repeat (first | exact List.Sublist.slnil | exact List.nil_sublist _ | exact List.Sublist.refl _ | refine List.Sublist.cons_cons _ ?_ | refine List.Sublist.cons _ ?_ | refine List.Sublist.trans ?_ (List.sublist_append_right _ _))) (by omega) (by omega)
  · skip
    refine TC.exit ?_
    refine TQ.thenE ?_
    refine TQ.thenE ?_
    refine TQ.blkS ?_
    refine TQ.thenC ?_
    refine TC.seq ?_
    refine TC.region ?_
    refine TL.pure (PV.move rfl) rfl (by decide) ?_
    refine TL.pure (PV.assign rfl) rfl (by decide) ?_
    refine TL.nil ?_
    refine TQ.thenC ?_
    refine TC.ret ?_
    refine TQ.retE1 rfl rfl ?_
    exact ⟨(), by rw [show k = xs.length by omega]; rfl, trivial, List.nil_sublist _⟩

set_option maxRecDepth 100000 in
set_option maxHeartbeats 2000000 in
theorem Effect_ok (w0 : World) (n : Int) (p : Option Addr) (cp : Nat) (ss : List St) (hr : StsAt w0 p ss) (hS : SmS ss) (vx : Value) (xs : List Int) (hv : IsI w0 vx xs) (hl : xs.length ≤ 1000000) :
    Calls Try.prog 31 #[yv n p ss.length cp, vx] w0 (Post (X := HD) (fun h => .tuple #[gval h (effR n ss xs).1.length, .int .i64 (effR n ss xs).2]) (fun h => goI (h, (effR n ss xs).1)) (fun h => gbI (h, (effR n ss xs).1)) w0) := by
  obtain ⟨pl, cl, rfl, hx⟩ := hv
  refine calls Try.func31 rfl (n := 55) rfl (by simp) ?_
  refine TC.seq ?_
  refine TC.region ?_
  refine TL.box rfl rfl (by decide) (fun b0 hb0 => ?_)
  refine TL.pure (PV.assign rfl) rfl (by decide) ?_
  refine TL.pure (PV.assign rfl) rfl (by decide) ?_
  refine TL.nil ?_
  refine TQ.thenC ?_
  refine TC.seq ?_
  refine TC.seq ?_
  refine TC.region ?_
  refine TL.pure (PV.loadBox rfl Tb.agg_24 (by repeat (first | exact List.Mem.head _ | refine List.Mem.tail _ ?_ | refine List.mem_append_right _ ?_)) rfl) rfl (by decide) ?_
  refine TL.call rfl Tb.gofn_24 (fun a w hs => validate_ok w _ _ _ _ (hr.new hs.new) hS) rfl (by decide) (fun _ _ => ?_)
  refine TL.pure (PV.assign rfl) rfl (by decide) ?_
  refine TL.nil ?_
  refine TQ.thenC ?_
  refine TC.seq ?_
  refine TC.region ?_
  refine TL.pure (PV.move rfl) rfl (by decide) ?_
  refine TL.pure (PV.neq rfl rfl) rfl (by decide) ?_
  refine TL.nil ?_
  refine TQ.thenC ?_
  first | refine TC.condD rfl (fun a1 => ?_) (fun a1 => ?_) | refine TC.cond rfl (fun a1 => ?_) (fun a1 => ?_)
  · skip
    refine TC.seq ?_
    refine TC.region ?_
    refine TL.pure (PV.move rfl) rfl (by decide) ?_
    refine TL.pure (PV.assign rfl) rfl (by decide) ?_
    refine TL.pure (PV.assign rfl) rfl (by decide) ?_
    refine TL.nil ?_
    refine TQ.thenC ?_
    refine TC.ret ?_
    refine TQ.thenR ?_
    refine TQ.retE2 rfl rfl rfl ?_
    exact ⟨none, by rw [effR_1 a1]; rfl, by rw [effR_1 a1]; exact goI_nil, List.nil_sublist _⟩
  · skip
    refine TC.skip ?_
    refine TQ.thenC ?_
    refine TC.seq ?_
    refine TC.seq ?_
    refine TC.region ?_
    refine TL.pure (PV.loadBox rfl Tb.agg_24 (by repeat (first | exact List.Mem.head _ | refine List.Mem.tail _ ?_ | refine List.mem_append_right _ ?_)) rfl) rfl (by decide) ?_
    refine TL.pure (PV.move rfl) rfl (by decide) ?_
    refine TL.call rfl Tb.gofn_78 (fun a w hs => areCounts_ok w _ _ _ _ (hr.new hs.new) _ _ _ (hx.new hs.new) hl) rfl (by decide) (fun _ _ => ?_)
    refine TL.pure ((by first | exact PV.notD rfl | exact PV.not rfl)) rfl (by decide) ?_
    refine TL.nil ?_
    refine TQ.thenC ?_
    first | refine TC.condD rfl (fun a2 => ?_) (fun a2 => ?_) | refine TC.cond rfl (fun a2 => ?_) (fun a2 => ?_)
    · skip
      refine TC.seq ?_
      refine TC.region ?_
      refine TL.pure (PV.assign rfl) rfl (by decide) ?_
      refine TL.pure (PV.assign rfl) rfl (by decide) ?_
      refine TL.nil ?_
      refine TQ.thenC ?_
      refine TC.ret ?_
      refine TQ.thenR ?_
      refine TQ.retE2 rfl rfl rfl ?_
      exact ⟨none, by rw [effR_2 a1 (by simpa using a2)]; rfl, by rw [effR_2 a1 (by simpa using a2)]; exact goI_nil, List.nil_sublist _⟩
    · skip
      refine TC.skip ?_
      refine TQ.thenC ?_
      refine TC.seq ?_
      have hV := vy_of a1
      have hnu : numB ss.length 0 40 xs = true := by simpa using a2
      have hxl := num_len hnu
      have hxb := num_at hnu (by decide)
      obtain ⟨N, hN⟩ : ∃ N : Nat, n = N := ⟨n.toNat, by have := hV.hn; omega⟩
      have hn6 := hV.hn
      have hsl := hV.len
      refine TC.region ?_
      refine TL.pure (PV.fieldAddr rfl Tb.fo_24_0) rfl (by decide) ?_
      refine TL.pure (PV.load rfl Tb.one_3 (by repeat (first | exact List.Mem.head _ | refine List.Mem.tail _ ?_ | refine List.mem_append_right _ ?_)) rfl) rfl (by decide) ?_
      refine TL.makeI (k := N) rfl rfl Tb.sl_25 Tb.zi_3 hN (by omega) (by omega) rfl (by decide) (fun bO hbO => ?_)
      refine TL.pure (PV.assign rfl) rfl (by decide) ?_
      refine TL.nil ?_
      refine TQ.thenC ?_
      refine TC.seq ?_
      refine TC.seq ?_
      refine TC.region ?_
      refine TL.pure (PV.move rfl) rfl (by decide) ?_
      refine TL.pure (PV.len rfl Tb.sl_25) rfl (by decide) ?_
      refine TL.pure (PV.move rfl) rfl (by decide) ?_
      refine TL.nil ?_
      refine TQ.thenC ?_
      refine TC.block ?_
      refine TC.lit [(2, _), (4, _), (5, _), (7, _), (24, _), (25, _), (26, _)] (by repeat (first | exact True.intro | refine And.intro rfl ?_)) ?_
      refine TC.loopK [2, 4, 5, 7, 24, 25] (X := Nat) (fun k => k ≤ xs.length) (fun k => [(26, .int .i64 k)]) (fun k => [(bO, Obj.cells (intsA (ef1 ss xs N k 0)) 3 (0, 0)), (b0, Obj.cells #[.int .i64 n, .slice p ss.length cp] 24 (0, 0))]) (fun k => xs.length - k) 0 (Nat.zero_le _) (by repeat (first | exact True.intro | refine And.intro rfl ?_)) (by rw [← ef1_zero]; exact List.Sublist.refl _) ?_
      intro k hk
      refine TC.lit [(2, _), (4, _), (5, _), (7, _), (24, _), (25, _), (26, _)] (by repeat (first | exact True.intro | refine And.intro rfl ?_)) ?_
      refine TC.seq ?_
      refine TC.region ?_
      refine TL.pure (PV.lss rfl rfl) rfl (by decide) ?_
      refine TL.nil ?_
      refine TQ.thenC ?_
      refine TC.seq ?_
      first | refine TC.condD rfl (fun hlt => ?_) (fun hlt => ?_) | refine TC.cond rfl (fun hlt => ?_) (fun hlt => ?_)
      · skip
        refine TC.skip ?_
        refine TQ.thenC ?_
        refine TC.seq ?_
        refine TC.block ?_
        refine TC.seq ?_
        obtain ⟨q2, hq2p, hq2⟩ := hx k (by omega)
        obtain ⟨q1, hq1p, pa, pb, ca, cb, hq10, hq11, hta, htb⟩ := hr k (by omega)
        have htl := hV.tl (k := k) (by omega)
        refine TC.region ?_
        refine TL.pure (PV.move rfl) rfl (by decide) ?_
        refine TL.pure (PV.indexA rfl hq2p rfl Tb.elm_25 rfl (by omega)) rfl (by decide) ?_
        refine TL.pure (PV.loadOld rfl Tb.one_3 hq2) rfl (by decide) ?_
        refine TL.pure (PV.assign rfl) rfl (by decide) ?_
        refine TL.pure (PV.assign rfl) rfl (by decide) ?_
        refine TL.nil ?_
        refine TQ.thenC ?_
        refine TC.seq ?_
        refine TC.region ?_
        refine TL.pure (PV.fieldAddr rfl Tb.fo_24_1) rfl (by decide) ?_
        refine TL.pure (PV.load rfl Tb.one_22 (by repeat (first | exact List.Mem.head _ | refine List.Mem.tail _ ?_ | refine List.mem_append_right _ ?_)) rfl) rfl (by decide) ?_
        refine TL.pure (PV.move rfl) rfl (by decide) ?_
        refine TL.pure (PV.indexA (j := k) rfl hq1p rfl Tb.elm_22 rfl (by omega)) rfl (by decide) ?_
        refine TL.pure (PV.loadAggA rfl Tb.agg_63 rfl (two_cells hq10 hq11)) rfl (by decide) ?_
        refine TL.call rfl Tb.gofn_79 (fun a w hs => effect_ok w pa pb ca cb (ss.getD k default) (hta.new hs.new) (htb.new hs.new) (by omega) (by omega) (fun j => by have := hV.tb (k := k) (by omega) j; omega)) rfl (by decide) (fun h9 hh9 => ?_)
        refine TL.pure (PV.lenG (len := (ss.getD k default).g.length) (ys := ival (effL (ss.getD k default))) rfl (by have h := hh9; simp only [goI, eff_len] at h; exact h) Tb.sl_25) rfl (by decide) ?_
        refine TL.pure (PV.move rfl) rfl (by decide) ?_
        refine TL.nil ?_
        refine TQ.thenC ?_
        refine TC.block ?_
        refine TC.lit [(2, _), (4, _), (5, _), (7, _), (9, _), (24, _), (25, _), (26, _), (36, _), (37, _), (38, _)] (by repeat (first | exact True.intro | refine And.intro rfl ?_)) ?_
        refine TC.loopK [2, 4, 5, 7, 9, 24, 25, 26, 36, 37] (X := Nat) (fun u => u ≤ N) (fun u => [(38, .int .i64 u)]) (fun u => gbI (h9, effL (ss.getD k default)) ++ [(bO, Obj.cells (intsA (ef1 ss xs N k u)) 3 (0, 0)), (b0, Obj.cells #[.int .i64 n, .slice p ss.length cp] 24 (0, 0))]) (fun u => N - u) 0 (Nat.zero_le _) (by repeat (first | exact True.intro | refine And.intro rfl ?_)) (List.Sublist.refl _) ?_
        intro u hu
        refine TC.lit [(2, _), (4, _), (5, _), (7, _), (9, _), (24, _), (25, _), (26, _), (36, _), (37, _), (38, _)] (by repeat (first | exact True.intro | refine And.intro rfl ?_)) ?_
        refine TC.seq ?_
        refine TC.region ?_
        refine TL.pure (PV.lss rfl rfl) rfl (by decide) ?_
        refine TL.nil ?_
        refine TQ.thenC ?_
        refine TC.seq ?_
        first | refine TC.condD rfl (fun hlt2 => ?_) (fun hlt2 => ?_) | refine TC.cond rfl (fun hlt2 => ?_) (fun hlt2 => ?_)
        · skip
          refine TC.skip ?_
          refine TQ.thenC ?_
          refine TC.seq ?_
          refine TC.block ?_
          refine TC.seq ?_
          have hel := eff_len (ss.getD k default)
          have hea := eff_all hV (k := k) (by omega) u
          have hbd := efS_bd hV hxb (i := k) (by omega) u
          have hdb := dd_bd hV (i := k) (by omega) u
          have hmb := mulB (a := xs.getD k 0) (b := dd ss k u) (A := 40) (B := 3) (by have := hxb k; omega) hdb (by decide) (by decide)
          refine TC.region ?_
          refine TL.pure (PV.move rfl) rfl (by decide) ?_
          refine TL.pure (PV.indexG (j := u) rfl rfl (ys := ival (effL (ss.getD k default))) (len := (ss.getD k default).g.length) (by have h := hh9; simp only [goI, eff_len] at h; exact h) Tb.elm_25 rfl (by omega)) rfl (by decide) ?_
          refine TL.pure (PV.loadGI (y := (h9, effL (ss.getD k default))) (j := u) (v := dd ss k u) rfl Tb.one_3 (fun yy hyy => by repeat (first | exact List.mem_append_left _ hyy | exact List.mem_append_left _ (List.mem_append_right _ hyy) | exact List.mem_append_left _ (List.mem_append_left _ hyy) | refine List.mem_append_right _ ?_ | refine List.Mem.tail _ ?_)) hh9 (by show u < (effL _).length; omega) hea) rfl (by decide) ?_
          refine TL.pure (PV.assign rfl) rfl (by decide) ?_
          refine TL.pure (PV.assign rfl) rfl (by decide) ?_
          refine TL.nil ?_
          refine TQ.thenC ?_
          refine TC.region ?_
          refine TL.pure (PV.move rfl) rfl (by decide) ?_
          refine TL.pure (PV.move rfl) rfl (by decide) ?_
          refine TL.pure (PV.index1 (j := u) rfl rfl Tb.elm_25 rfl (by omega)) rfl (by decide) ?_
          refine TL.pure (PV.loadIv (xs := ef1 ss xs N k u) (j := u) (v := efS ss xs k u) rfl Tb.one_3 (by repeat (first | exact List.Mem.head _ | refine List.Mem.tail _ ?_ | refine List.mem_append_right _ ?_)) (by rw [ef1_len]; omega) (ef1_at (by omega))) rfl (by decide) ?_
          refine TL.pure (PV.move rfl) rfl (by decide) ?_
          refine TL.pure (PV.move rfl) rfl (by decide) ?_
          refine TL.pure (PV.mul rfl rfl (by omega)) rfl (by decide) ?_
          refine TL.pure (PV.add rfl rfl (by omega)) rfl (by decide) ?_
          refine TL.pure (PV.index1 (j := u) rfl rfl Tb.elm_25 rfl (by omega)) rfl (by decide) ?_
          refine TL.storeIv (xs := ef1 ss xs N k u) (xs' := ef1 ss xs N k (u + 1)) (j := u) rfl rfl Tb.cells_3 (ef1_put (by omega) rfl) (by repeat (first | exact Upd.head _ | apply Upd.tail | apply Upd.appR)) (by rw [ef1_len]; omega) rfl rfl ?_
          refine TL.nil ?_
          refine TQ.blkN ?_
          refine TQ.thenC ?_
          refine TC.region ?_
          refine TL.pure (PV.add rfl rfl (by omega)) rfl (by decide) ?_
          refine TL.pure (PV.move rfl) rfl (by decide) ?_
          refine TL.nil ?_
          refine TQ.thenN ?_
          refine TQ.backK (u + 1) (by repeat (first | exact True.intro | refine And.intro rfl ?_)) (by repeat (first | exact True.intro | refine And.intro rfl ?_)) (List.Sublist.refl _) (by omega) (by omega)
        · skip
          refine TC.exit ?_
          refine TQ.thenE ?_
          refine TQ.thenE ?_
          refine TQ.blkS ?_
          refine TQ.blkN ?_
          refine TQ.thenC ?_
          have hex : ef1 ss xs N k u = ef1 ss xs N (k + 1) 0 := ef1_next (by omega)
          refine TC.region ?_
          refine TL.pure (PV.add rfl rfl (by omega)) rfl (by decide) ?_
          refine TL.pure (PV.move rfl) rfl (by decide) ?_
          refine TL.nil ?_
          refine TQ.thenN ?_
          refine TQ.backK (k + 1) (by repeat (first | exact True.intro | refine And.intro rfl ?_)) (by repeat (first | exact True.intro | refine And.intro rfl ?_)) (by rw [← hex]; exact List.sublist_append_right _ _) (by omega) (by omega)
      · skip
        refine TC.exit ?_
        refine TQ.thenE ?_
        refine TQ.thenE ?_
        refine TQ.blkS ?_
        refine TQ.thenC ?_
        refine TC.seq ?_
        refine TC.region ?_
        refine TL.pure (PV.move rfl) rfl (by decide) ?_
        refine TL.pure (PV.assign rfl) rfl (by decide) ?_
        refine TL.pure (PV.assign rfl) rfl (by decide) ?_
        refine TL.nil ?_
        refine TQ.thenC ?_
        refine TC.ret ?_
        refine TQ.retE2 rfl rfl rfl ?_
        have e9 := effR_3 (cs := xs) a1 hnu
        have e8 : effN ss xs n.toNat = ef1 ss xs N k 0 := by rw [hN]; exact (ef1_end (by omega)).symm
        have e7 := ef1_len ss xs N k 0
        exact ⟨some (bO, N, []), by rw [e9, e8]; show _ = Value.tuple #[.slice _ (ef1 ss xs N k 0).length _, _]; rw [e7], by rw [e9, e8]; have h9 := goI_blk bO (ef1 ss xs N k 0); rw [e7] at h9; exact h9, by rw [e9, e8, gbI_blk]; exact (by repeat (first | exact List.Sublist.refl _ | exact List.nil_sublist _ | refine List.Sublist.cons_cons _ ?_ | refine List.Sublist.cons _ ?_ | refine List.Sublist.trans ?_ (List.sublist_append_right _ _)))⟩

set_option maxRecDepth 100000 in
set_option maxHeartbeats 2000000 in
theorem rEffect_ok (w0 : World) (n : Int) (p : Option Addr) (cp : Nat) (ss : List St) (hr : StsAt w0 p ss) (hS : SmS ss) (vx : Value) (xs : List Int) (hv : IsI w0 vx xs) (hl : xs.length ≤ 1000000) :
    Calls Try.prog 32 #[yv n p ss.length cp, vx] w0 (Post (X := HD) (fun h => .tuple #[gval h (effR n ss xs).1.length, .int .i64 (effR n ss xs).2]) (fun h => goI (h, (effR n ss xs).1)) (fun h => gbI (h, (effR n ss xs).1)) w0) := by
  obtain ⟨pl, cl, rfl, hx⟩ := hv
  refine calls Try.func32 rfl (n := 67) rfl (by simp) ?_
  refine TC.seq ?_
  refine TC.region ?_
  refine TL.box rfl rfl (by decide) (fun b0 hb0 => ?_)
  refine TL.pure (PV.assign rfl) rfl (by decide) ?_
  refine TL.pure (PV.assign rfl) rfl (by decide) ?_
  refine TL.nil ?_
  refine TQ.thenC ?_
  refine TC.seq ?_
  refine TC.seq ?_
  refine TC.region ?_
  refine TL.pure (PV.loadBox rfl Tb.agg_24 (by repeat (first | exact List.Mem.head _ | refine List.Mem.tail _ ?_ | refine List.mem_append_right _ ?_)) rfl) rfl (by decide) ?_
  refine TL.call rfl Tb.gofn_25 (fun a w hs => rvalidate_ok w _ _ _ _ (hr.new hs.new) hS) rfl (by decide) (fun _ _ => ?_)
  refine TL.pure (PV.assign rfl) rfl (by decide) ?_
  refine TL.nil ?_
  refine TQ.thenC ?_
  refine TC.seq ?_
  refine TC.region ?_
  refine TL.pure (PV.move rfl) rfl (by decide) ?_
  refine TL.pure (PV.neq rfl rfl) rfl (by decide) ?_
  refine TL.nil ?_
  refine TQ.thenC ?_
  first | refine TC.condD rfl (fun a1 => ?_) (fun a1 => ?_) | refine TC.cond rfl (fun a1 => ?_) (fun a1 => ?_)
  · skip
    refine TC.seq ?_
    refine TC.region ?_
    refine TL.pure (PV.move rfl) rfl (by decide) ?_
    refine TL.pure (PV.assign rfl) rfl (by decide) ?_
    refine TL.pure (PV.assign rfl) rfl (by decide) ?_
    refine TL.nil ?_
    refine TQ.thenC ?_
    refine TC.ret ?_
    refine TQ.thenR ?_
    refine TQ.retE2 rfl rfl rfl ?_
    exact ⟨none, by rw [effR_1 a1]; rfl, by rw [effR_1 a1]; exact goI_nil, List.nil_sublist _⟩
  · skip
    refine TC.skip ?_
    refine TQ.thenC ?_
    refine TC.seq ?_
    refine TC.seq ?_
    refine TC.region ?_
    refine TL.pure (PV.move rfl) rfl (by decide) ?_
    refine TL.pure (PV.fieldAddr rfl Tb.fo_24_1) rfl (by decide) ?_
    refine TL.pure (PV.load rfl Tb.one_22 (by repeat (first | exact List.Mem.head _ | refine List.Mem.tail _ ?_ | refine List.mem_append_right _ ?_)) rfl) rfl (by decide) ?_
    refine TL.pure (PV.len rfl Tb.sl_22) rfl (by decide) ?_
    refine TL.call rfl Tb.gofn_72 (fun a w hs => rall_ok w _ _ _ (hx.new hs.new) hl _ _ _) rfl (by decide) (fun _ _ => ?_)
    refine TL.pure ((by first | exact PV.notD rfl | exact PV.not rfl)) rfl (by decide) ?_
    refine TL.nil ?_
    refine TQ.thenC ?_
    first | refine TC.condD rfl (fun a2 => ?_) (fun a2 => ?_) | refine TC.cond rfl (fun a2 => ?_) (fun a2 => ?_)
    · skip
      refine TC.seq ?_
      refine TC.region ?_
      refine TL.pure (PV.assign rfl) rfl (by decide) ?_
      refine TL.pure (PV.assign rfl) rfl (by decide) ?_
      refine TL.nil ?_
      refine TQ.thenC ?_
      refine TC.ret ?_
      refine TQ.thenR ?_
      refine TQ.retE2 rfl rfl rfl ?_
      exact ⟨none, by rw [effR_2 a1 (by simpa using a2)]; rfl, by rw [effR_2 a1 (by simpa using a2)]; exact goI_nil, List.nil_sublist _⟩
    · skip
      refine TC.skip ?_
      refine TQ.thenC ?_
      refine TC.seq ?_
      have hV := vy_of a1
      have hnu : numB ss.length 0 40 xs = true := by simpa using a2
      have hxl := num_len hnu
      have hxb := num_at hnu (by decide)
      obtain ⟨N, hN⟩ : ∃ N : Nat, n = N := ⟨n.toNat, by have := hV.hn; omega⟩
      have hn6 := hV.hn
      have hsl := hV.len
      refine TC.region ?_
      refine TL.pure (PV.fieldAddr rfl Tb.fo_24_0) rfl (by decide) ?_
      refine TL.pure (PV.load rfl Tb.one_3 (by repeat (first | exact List.Mem.head _ | refine List.Mem.tail _ ?_ | refine List.mem_append_right _ ?_)) rfl) rfl (by decide) ?_
      refine TL.makeI (k := N) rfl rfl Tb.sl_25 Tb.zi_3 hN (by omega) (by omega) rfl (by decide) (fun bO hbO => ?_)
      refine TL.pure (PV.assign rfl) rfl (by decide) ?_
      refine TL.nil ?_
      refine TQ.thenC ?_
      refine TC.seq ?_
      refine TC.seq ?_
      refine TC.region ?_
      refine TL.pure (PV.assign rfl) rfl (by decide) ?_
      refine TL.nil ?_
      refine TQ.thenC ?_
      refine TC.block ?_
      refine TC.lit [(1, _), (2, _), (4, _), (5, _), (7, _), (8, _)] (by repeat (first | exact True.intro | refine And.intro rfl ?_)) ?_
      refine TC.loopK [1, 2, 4, 5, 7] (X := Nat) (fun k => k ≤ xs.length) (fun k => [(8, .int .i64 k)]) (fun k => [(bO, Obj.cells (intsA (ef1 ss xs N k 0)) 3 (0, 0)), (b0, Obj.cells #[.int .i64 n, .slice p ss.length cp] 24 (0, 0))]) (fun k => xs.length - k) 0 (Nat.zero_le _) (by repeat (first | exact True.intro | refine And.intro rfl ?_)) (by rw [← ef1_zero]; exact List.Sublist.refl _) ?_
      intro k hk
      refine TC.lit [(1, _), (2, _), (4, _), (5, _), (7, _), (8, _)] (by repeat (first | exact True.intro | refine And.intro rfl ?_)) ?_
      refine TC.seq ?_
      refine TC.seq ?_
      refine TC.region ?_
      refine TL.pure (PV.move rfl) rfl (by decide) ?_
      refine TL.pure (PV.move rfl) rfl (by decide) ?_
      refine TL.pure (PV.len rfl Tb.sl_25) rfl (by decide) ?_
      refine TL.pure (PV.lss rfl rfl) rfl (by decide) ?_
      refine TL.nil ?_
      refine TQ.thenC ?_
      first | refine TC.condD rfl (fun hlt => ?_) (fun hlt => ?_) | refine TC.cond rfl (fun hlt => ?_) (fun hlt => ?_)
      · skip
        refine TC.skip ?_
        refine TQ.thenC ?_
        refine TC.seq ?_
        refine TC.block ?_
        refine TC.seq ?_
        refine TC.region ?_
        refine TL.pure (PV.assign rfl) rfl (by decide) ?_
        refine TL.nil ?_
        refine TQ.thenC ?_
        refine TC.block ?_
        refine TC.lit [(1, _), (2, _), (4, _), (5, _), (7, _), (8, _), (9, _)] (by repeat (first | exact True.intro | refine And.intro rfl ?_)) ?_
        refine TC.loopK [1, 2, 4, 5, 7, 8] (X := Nat) (fun u => u ≤ N) (fun u => [(9, .int .i64 u)]) (fun u => [(bO, Obj.cells (intsA (ef1 ss xs N k u)) 3 (0, 0)), (b0, Obj.cells #[.int .i64 n, .slice p ss.length cp] 24 (0, 0))]) (fun u => N - u) 0 (Nat.zero_le _) (by repeat (first | exact True.intro | refine And.intro rfl ?_)) (List.Sublist.refl _) ?_
        intro u hu
        refine TC.lit [(1, _), (2, _), (4, _), (5, _), (7, _), (8, _), (9, _)] (by repeat (first | exact True.intro | refine And.intro rfl ?_)) ?_
        refine TC.seq ?_
        refine TC.seq ?_
        refine TC.region ?_
        refine TL.pure (PV.move rfl) rfl (by decide) ?_
        refine TL.pure (PV.fieldAddr rfl Tb.fo_24_0) rfl (by decide) ?_
        refine TL.pure (PV.load rfl Tb.one_3 (by repeat (first | exact List.Mem.head _ | refine List.Mem.tail _ ?_ | refine List.mem_append_right _ ?_)) rfl) rfl (by decide) ?_
        refine TL.pure (PV.lss rfl rfl) rfl (by decide) ?_
        refine TL.nil ?_
        refine TQ.thenC ?_
        first | refine TC.condD rfl (fun hlt2 => ?_) (fun hlt2 => ?_) | refine TC.cond rfl (fun hlt2 => ?_) (fun hlt2 => ?_)
        · skip
          refine TC.skip ?_
          refine TQ.thenC ?_
          refine TC.seq ?_
          refine TC.block ?_
          obtain ⟨q2, hq2p, hq2⟩ := hx k (by omega)
          obtain ⟨q1, hq1p, pa, pb, ca, cb, hq10, hq11, hta, htb⟩ := hr k (by omega)
          have htl := hV.tl (k := k) (by omega)
          obtain ⟨q3, hq3p, hq3⟩ := hta u (by omega)
          obtain ⟨q4, hq4p, hq4⟩ := htb u (by omega)
          have hbd := efS_bd hV hxb (i := k) (by omega) u
          have hdb := dd_bd hV (i := k) (by omega) u
          have hmb := mulB (a := xs.getD k 0) (b := dd ss k u) (A := 40) (B := 3) (by have := hxb k; omega) hdb (by decide) (by decide)
          have hd0 : dd ss k u = (ss.getD k default).g.getD u 0 - (ss.getD k default).t.getD u 0 := rfl
          refine TC.draw 28 Tb.mixed (by kernel_rfl) ?_
          simp only [List.take_succ_cons, List.take_zero, List.drop_succ_cons, List.drop_zero]
          refine TS.pure (PV.move rfl) rfl (by decide) ?_
          refine TS.pure (PV.move rfl) rfl (by decide) ?_
          refine TS.pure (PV.index1 (j := u) rfl rfl Tb.elm_25 rfl (by omega)) rfl (by decide) ?_
          refine TS.pure (PV.loadIv (xs := ef1 ss xs N k u) (j := u) (v := efS ss xs k u) rfl Tb.one_3 (by repeat (first | exact List.Mem.head _ | refine List.Mem.tail _ ?_ | refine List.mem_append_right _ ?_)) (by rw [ef1_len]; omega) (ef1_at (by omega))) rfl (by decide) ?_
          refine TS.pure (PV.move rfl) rfl (by decide) ?_
          refine TS.pure (PV.move rfl) rfl (by decide) ?_
          refine TS.pure (PV.indexA rfl hq2p rfl Tb.elm_25 rfl (by omega)) rfl (by decide) ?_
          refine TS.pure (PV.loadOld rfl Tb.one_3 hq2) rfl (by decide) ?_
          refine TS.pure (PV.fieldAddr rfl Tb.fo_24_1) rfl (by decide) ?_
          refine TS.pure (PV.load rfl Tb.one_22 (by repeat (first | exact List.Mem.head _ | refine List.Mem.tail _ ?_ | refine List.mem_append_right _ ?_)) rfl) rfl (by decide) ?_
          refine TS.pure (PV.move rfl) rfl (by decide) ?_
          refine TS.pure (PV.indexA (j := k) rfl hq1p rfl Tb.elm_22 rfl (by omega)) rfl (by decide) ?_
          refine TS.pure (PV.fieldAddrA rfl Tb.fo_63_1) rfl (by decide) ?_
          refine TS.pure (PV.loadOld rfl Tb.one_25 hq11) rfl (by decide) ?_
          refine TS.pure (PV.move rfl) rfl (by decide) ?_
          refine TS.pure (PV.indexA rfl hq4p rfl Tb.elm_25 rfl (by omega)) rfl (by decide) ?_
          refine TS.pure (PV.loadOld rfl Tb.one_3 hq4) rfl (by decide) ?_
          refine TS.pure (PV.fieldAddr rfl Tb.fo_24_1) rfl (by decide) ?_
          refine TS.pure (PV.load rfl Tb.one_22 (by repeat (first | exact List.Mem.head _ | refine List.Mem.tail _ ?_ | refine List.mem_append_right _ ?_)) rfl) rfl (by decide) ?_
          refine TS.pure (PV.move rfl) rfl (by decide) ?_
          refine TS.pure (PV.indexA (j := k) rfl hq1p rfl Tb.elm_22 rfl (by omega)) rfl (by decide) ?_
          refine TS.pure (PV.fieldAddrA rfl Tb.fo_63_0) rfl (by decide) ?_
          refine TS.pure (PV.loadOld rfl Tb.one_25 hq10) rfl (by decide) ?_
          refine TS.pure (PV.move rfl) rfl (by decide) ?_
          refine TS.pure (PV.indexA rfl hq3p rfl Tb.elm_25 rfl (by omega)) rfl (by decide) ?_
          refine TS.pure (PV.loadOld rfl Tb.one_3 hq3) rfl (by decide) ?_
          refine TS.pure (PV.sub rfl rfl (by omega)) rfl (by decide) ?_
          refine TS.pure (PV.mul rfl rfl (by rw [← hd0]; omega)) rfl (by decide) ?_
          refine TS.nil ?_
          refine TL.pure (PV.add rfl rfl (by rw [← hd0]; omega)) rfl (by decide) ?_
          refine TL.pure (PV.index1 (j := u) rfl rfl Tb.elm_25 rfl (by omega)) rfl (by decide) ?_
          refine TL.storeIv (xs := ef1 ss xs N k u) (xs' := ef1 ss xs N k (u + 1)) (j := u) rfl rfl Tb.cells_3 (ef1_put (by omega) rfl) (by repeat (first | exact Upd.head _ | apply Upd.tail | apply Upd.appR)) (by rw [ef1_len]; omega) rfl rfl ?_
          refine TL.nil ?_
          refine TQ.blkN ?_
          refine TQ.thenC ?_
          refine TC.region ?_
          refine TL.pure (PV.move rfl) rfl (by decide) ?_
          refine TL.pure (PV.add rfl rfl (by omega)) rfl (by decide) ?_
          refine TL.pure (PV.assign rfl) rfl (by decide) ?_
          refine TL.nil ?_
          refine TQ.thenN ?_
          refine TQ.backK (u + 1) (by repeat (first | exact True.intro | refine And.intro rfl ?_)) (by repeat (first | exact True.intro | refine And.intro rfl ?_)) (List.Sublist.refl _) (by omega) (by omega)
        · skip
          refine TC.exit ?_
          refine TQ.thenE ?_
          refine TQ.thenE ?_
          refine TQ.blkS ?_
          refine TQ.blkN ?_
          refine TQ.thenC ?_
          have hex : ef1 ss xs N k u = ef1 ss xs N (k + 1) 0 := ef1_next (by omega)
          refine TC.region ?_
          refine TL.pure (PV.move rfl) rfl (by decide) ?_
          refine TL.pure (PV.add rfl rfl (by omega)) rfl (by decide) ?_
          refine TL.pure (PV.assign rfl) rfl (by decide) ?_
          refine TL.nil ?_
          refine TQ.thenN ?_
          refine TQ.backK (k + 1) (by repeat (first | exact True.intro | refine And.intro rfl ?_)) (by repeat (first | exact True.intro | refine And.intro rfl ?_)) (by rw [← hex]; exact List.Sublist.refl _) (by omega) (by omega)
      · skip
        refine TC.exit ?_
        refine TQ.thenE ?_
        refine TQ.thenE ?_
        refine TQ.blkS ?_
        refine TQ.thenC ?_
        refine TC.seq ?_
        refine TC.region ?_
        refine TL.pure (PV.move rfl) rfl (by decide) ?_
        refine TL.pure (PV.assign rfl) rfl (by decide) ?_
        refine TL.pure (PV.assign rfl) rfl (by decide) ?_
        refine TL.nil ?_
        refine TQ.thenC ?_
        refine TC.ret ?_
        refine TQ.retE2 rfl rfl rfl ?_
        have e9 := effR_3 (cs := xs) a1 hnu
        have e8 : effN ss xs n.toNat = ef1 ss xs N k 0 := by rw [hN]; exact (ef1_end (by omega)).symm
        have e7 := ef1_len ss xs N k 0
        exact ⟨some (bO, N, []), by rw [e9, e8]; show _ = Value.tuple #[.slice _ (ef1 ss xs N k 0).length _, _]; rw [e7], by rw [e9, e8]; have h9 := goI_blk bO (ef1 ss xs N k 0); rw [e7] at h9; exact h9, by rw [e9, e8, gbI_blk]; exact (by repeat (first | exact List.Sublist.refl _ | exact List.nil_sublist _ | refine List.Sublist.cons_cons _ ?_ | refine List.Sublist.cons _ ?_ | refine List.Sublist.trans ?_ (List.sublist_append_right _ _)))⟩

set_option maxRecDepth 100000 in
set_option maxHeartbeats 2000000 in
theorem Counts_ok (w0 : World) (n : Int) (p : Option Addr) (cp : Nat) (ss : List St) (hr : StsAt w0 p ss) (hS : SmS ss) (vx : Value) (xs : List Int) (hv : IsI w0 vx xs) (hl : xs.length ≤ 1000000) :
    Calls Try.prog 33 #[yv n p ss.length cp, vx] w0 (Post (X := HD) (fun h => .tuple #[gval h (cntR n ss xs).1.length, .int .i64 (cntR n ss xs).2]) (fun h => goI (h, (cntR n ss xs).1)) (fun h => gbI (h, (cntR n ss xs).1)) w0) := by
  obtain ⟨pl, cl, rfl, hx⟩ := hv
  refine calls Try.func33 rfl (n := 40) rfl (by simp) ?_
  refine TC.seq ?_
  refine TC.region ?_
  refine TL.box rfl rfl (by decide) (fun b0 hb0 => ?_)
  refine TL.pure (PV.assign rfl) rfl (by decide) ?_
  refine TL.pure (PV.assign rfl) rfl (by decide) ?_
  refine TL.nil ?_
  refine TQ.thenC ?_
  refine TC.seq ?_
  refine TC.seq ?_
  refine TC.region ?_
  refine TL.pure (PV.loadBox rfl Tb.agg_24 (by repeat (first | exact List.Mem.head _ | refine List.Mem.tail _ ?_ | refine List.mem_append_right _ ?_)) rfl) rfl (by decide) ?_
  refine TL.call rfl Tb.gofn_24 (fun a w hs => validate_ok w _ _ _ _ (hr.new hs.new) hS) rfl (by decide) (fun _ _ => ?_)
  refine TL.pure (PV.assign rfl) rfl (by decide) ?_
  refine TL.nil ?_
  refine TQ.thenC ?_
  refine TC.seq ?_
  refine TC.region ?_
  refine TL.pure (PV.move rfl) rfl (by decide) ?_
  refine TL.pure (PV.neq rfl rfl) rfl (by decide) ?_
  refine TL.nil ?_
  refine TQ.thenC ?_
  first | refine TC.condD rfl (fun a1 => ?_) (fun a1 => ?_) | refine TC.cond rfl (fun a1 => ?_) (fun a1 => ?_)
  · skip
    refine TC.seq ?_
    refine TC.region ?_
    refine TL.pure (PV.move rfl) rfl (by decide) ?_
    refine TL.pure (PV.assign rfl) rfl (by decide) ?_
    refine TL.pure (PV.assign rfl) rfl (by decide) ?_
    refine TL.nil ?_
    refine TQ.thenC ?_
    refine TC.ret ?_
    refine TQ.thenR ?_
    refine TQ.retE2 rfl rfl rfl ?_
    exact ⟨none, by rw [cntR_1 a1]; rfl, by rw [cntR_1 a1]; exact goI_nil, List.nil_sublist _⟩
  · skip
    refine TC.skip ?_
    refine TQ.thenC ?_
    refine TC.seq ?_
    refine TC.seq ?_
    refine TC.region ?_
    refine TL.pure (PV.loadBox rfl Tb.agg_24 (by repeat (first | exact List.Mem.head _ | refine List.Mem.tail _ ?_ | refine List.mem_append_right _ ?_)) rfl) rfl (by decide) ?_
    refine TL.pure (PV.move rfl) rfl (by decide) ?_
    refine TL.call rfl Tb.gofn_74 (fun a w hs => checkList_ok w _ _ _ _ (hr.new hs.new) hS.1 _ _ _ (hx.new hs.new) hl) rfl (by decide) (fun _ _ => ?_)
    refine TL.pure (PV.assign rfl) rfl (by decide) ?_
    refine TL.nil ?_
    refine TQ.thenC ?_
    refine TC.seq ?_
    refine TC.region ?_
    refine TL.pure (PV.move rfl) rfl (by decide) ?_
    refine TL.pure (PV.neq rfl rfl) rfl (by decide) ?_
    refine TL.nil ?_
    refine TQ.thenC ?_
    first | refine TC.condD rfl (fun a2 => ?_) (fun a2 => ?_) | refine TC.cond rfl (fun a2 => ?_) (fun a2 => ?_)
    · skip
      refine TC.seq ?_
      refine TC.region ?_
      refine TL.pure (PV.move rfl) rfl (by decide) ?_
      refine TL.pure (PV.assign rfl) rfl (by decide) ?_
      refine TL.pure (PV.assign rfl) rfl (by decide) ?_
      refine TL.nil ?_
      refine TQ.thenC ?_
      refine TC.ret ?_
      refine TQ.thenR ?_
      refine TQ.retE2 rfl rfl rfl ?_
      exact ⟨none, by rw [cntR_2 a1 a2]; rfl, by rw [cntR_2 a1 a2]; exact goI_nil, List.nil_sublist _⟩
    · skip
      refine TC.skip ?_
      refine TQ.thenC ?_
      refine TC.seq ?_
      have hV := vy_of a1
      have hls := list_at a2
      have hsl := hV.len
      refine TC.region ?_
      refine TL.pure (PV.fieldAddr rfl Tb.fo_24_1) rfl (by decide) ?_
      refine TL.pure (PV.load rfl Tb.one_22 (by repeat (first | exact List.Mem.head _ | refine List.Mem.tail _ ?_ | refine List.mem_append_right _ ?_)) rfl) rfl (by decide) ?_
      refine TL.pure (PV.len rfl Tb.sl_22) rfl (by decide) ?_
      refine TL.makeI (k := ss.length) rfl rfl Tb.sl_25 Tb.zi_3 rfl (by omega) (by omega) rfl (by decide) (fun bO hbO => ?_)
      refine TL.pure (PV.assign rfl) rfl (by decide) ?_
      refine TL.nil ?_
      refine TQ.thenC ?_
      refine TC.seq ?_
      refine TC.seq ?_
      refine TC.region ?_
      refine TL.pure (PV.move rfl) rfl (by decide) ?_
      refine TL.pure (PV.len rfl Tb.sl_25) rfl (by decide) ?_
      refine TL.pure (PV.move rfl) rfl (by decide) ?_
      refine TL.nil ?_
      refine TQ.thenC ?_
      refine TC.block ?_
      refine TC.lit [(4, _), (5, _), (8, _), (26, _), (27, _), (28, _)] (by repeat (first | exact True.intro | refine And.intro rfl ?_)) ?_
      refine TC.loopK [4, 5, 8, 26, 27] (X := Nat) (fun k => k ≤ xs.length) (fun k => [(28, .int .i64 k)]) (fun k => [(bO, Obj.cells (intsA (cnK ss.length xs k)) 3 (0, 0)), (b0, Obj.cells #[.int .i64 n, .slice p ss.length cp] 24 (0, 0))]) (fun k => xs.length - k) 0 (Nat.zero_le _) (by repeat (first | exact True.intro | refine And.intro rfl ?_)) (by rw [← cnK_zero]; exact List.Sublist.refl _) ?_
      intro k hk
      refine TC.lit [(4, _), (5, _), (8, _), (26, _), (27, _), (28, _)] (by repeat (first | exact True.intro | refine And.intro rfl ?_)) ?_
      refine TC.seq ?_
      refine TC.region ?_
      refine TL.pure (PV.lss rfl rfl) rfl (by decide) ?_
      refine TL.nil ?_
      refine TQ.thenC ?_
      refine TC.seq ?_
      first | refine TC.condD rfl (fun hlt => ?_) (fun hlt => ?_) | refine TC.cond rfl (fun hlt => ?_) (fun hlt => ?_)
      · skip
        refine TC.skip ?_
        refine TQ.thenC ?_
        refine TC.seq ?_
        refine TC.block ?_
        refine TC.seq ?_
        have hiL := hls.2 k (by omega)
        obtain ⟨u, hue⟩ : ∃ u : Nat, xs.getD k 0 = u := ⟨(xs.getD k 0).toNat, by omega⟩
        obtain ⟨q2, hq2p, hq2⟩ := hx k (by omega)
        have hcb := cnK_bd (S := ss.length) (ls := xs) (k := k) (u := u) (by omega)
        refine TC.region ?_
        refine TL.pure (PV.indexA rfl hq2p rfl Tb.elm_25 rfl (by omega)) rfl (by decide) ?_
        refine TL.pure (PV.loadOld rfl Tb.one_3 hq2) rfl (by decide) ?_
        refine TL.pure (PV.assign rfl) rfl (by decide) ?_
        refine TL.nil ?_
        refine TQ.thenC ?_
        refine TC.region ?_
        refine TL.pure (PV.move rfl) rfl (by decide) ?_
        refine TL.pure (PV.move rfl) rfl (by decide) ?_
        refine TL.pure (PV.index1 (j := u) rfl rfl Tb.elm_25 hue (by omega)) rfl (by decide) ?_
        refine TL.pure (PV.loadIv (xs := cnK ss.length xs k) (j := u) (v := (cnK ss.length xs k).getD u 0) rfl Tb.one_3 (by repeat (first | exact List.Mem.head _ | refine List.Mem.tail _ ?_ | refine List.mem_append_right _ ?_)) (by rw [cnK_len]; omega) rfl) rfl (by decide) ?_
        refine TL.pure (PV.add rfl rfl (by omega)) rfl (by decide) ?_
        refine TL.pure (PV.index1 (j := u) rfl rfl Tb.elm_25 hue (by omega)) rfl (by decide) ?_
        refine TL.storeIv (xs := cnK ss.length xs k) (xs' := cnK ss.length xs (k + 1)) (j := u) rfl rfl Tb.cells_3 (cnK_put (by omega) (by omega) hue) (by repeat (first | exact Upd.head _ | apply Upd.tail | apply Upd.appR)) (by rw [cnK_len]; omega) rfl rfl ?_
        refine TL.nil ?_
        refine TQ.blkN ?_
        refine TQ.thenC ?_
        refine TC.region ?_
        refine TL.pure (PV.add rfl rfl (by omega)) rfl (by decide) ?_
        refine TL.pure (PV.move rfl) rfl (by decide) ?_
        refine TL.nil ?_
        refine TQ.thenN ?_
        refine TQ.backK (k + 1) (by repeat (first | exact True.intro | refine And.intro rfl ?_)) (by repeat (first | exact True.intro | refine And.intro rfl ?_)) (List.Sublist.refl _) (by omega) (by omega)
      · skip
        refine TC.exit ?_
        refine TQ.thenE ?_
        refine TQ.thenE ?_
        refine TQ.blkS ?_
        refine TQ.thenC ?_
        refine TC.seq ?_
        refine TC.region ?_
        refine TL.pure (PV.move rfl) rfl (by decide) ?_
        refine TL.pure (PV.assign rfl) rfl (by decide) ?_
        refine TL.pure (PV.assign rfl) rfl (by decide) ?_
        refine TL.nil ?_
        refine TQ.thenC ?_
        refine TC.ret ?_
        refine TQ.retE2 rfl rfl rfl ?_
        have e9 := cntR_3 (ls := xs) a1 a2
        have e8 : cntN ss.length xs = cnK ss.length xs k := (cnK_end (by omega)).symm
        have e7 := cnK_len ss.length xs k
        exact ⟨some (bO, ss.length, []), by rw [e9, e8]; show _ = Value.tuple #[.slice _ (cnK ss.length xs k).length _, _]; rw [e7], by rw [e9, e8]; have h9 := goI_blk bO (cnK ss.length xs k); rw [e7] at h9; exact h9, by rw [e9, e8, gbI_blk]; exact (by repeat (first | exact List.Sublist.refl _ | exact List.nil_sublist _ | refine List.Sublist.cons_cons _ ?_ | refine List.Sublist.cons _ ?_ | refine List.Sublist.trans ?_ (List.sublist_append_right _ _)))⟩

set_option maxRecDepth 100000 in
set_option maxHeartbeats 2000000 in
theorem rCounts_ok (w0 : World) (n : Int) (p : Option Addr) (cp : Nat) (ss : List St) (hr : StsAt w0 p ss) (hS : SmS ss) (vx : Value) (xs : List Int) (hv : IsI w0 vx xs) (hl : xs.length ≤ 1000000) :
    Calls Try.prog 34 #[yv n p ss.length cp, vx] w0 (Post (X := HD) (fun h => .tuple #[gval h (cntR n ss xs).1.length, .int .i64 (cntR n ss xs).2]) (fun h => goI (h, (cntR n ss xs).1)) (fun h => gbI (h, (cntR n ss xs).1)) w0) := by
  obtain ⟨pl, cl, rfl, hx⟩ := hv
  refine calls Try.func34 rfl (n := 41) rfl (by simp) ?_
  refine TC.seq ?_
  refine TC.region ?_
  refine TL.box rfl rfl (by decide) (fun b0 hb0 => ?_)
  refine TL.pure (PV.assign rfl) rfl (by decide) ?_
  refine TL.pure (PV.assign rfl) rfl (by decide) ?_
  refine TL.nil ?_
  refine TQ.thenC ?_
  refine TC.seq ?_
  refine TC.seq ?_
  refine TC.region ?_
  refine TL.pure (PV.loadBox rfl Tb.agg_24 (by repeat (first | exact List.Mem.head _ | refine List.Mem.tail _ ?_ | refine List.mem_append_right _ ?_)) rfl) rfl (by decide) ?_
  refine TL.call rfl Tb.gofn_25 (fun a w hs => rvalidate_ok w _ _ _ _ (hr.new hs.new) hS) rfl (by decide) (fun _ _ => ?_)
  refine TL.pure (PV.assign rfl) rfl (by decide) ?_
  refine TL.nil ?_
  refine TQ.thenC ?_
  refine TC.seq ?_
  refine TC.region ?_
  refine TL.pure (PV.move rfl) rfl (by decide) ?_
  refine TL.pure (PV.neq rfl rfl) rfl (by decide) ?_
  refine TL.nil ?_
  refine TQ.thenC ?_
  first | refine TC.condD rfl (fun a1 => ?_) (fun a1 => ?_) | refine TC.cond rfl (fun a1 => ?_) (fun a1 => ?_)
  · skip
    refine TC.seq ?_
    refine TC.region ?_
    refine TL.pure (PV.move rfl) rfl (by decide) ?_
    refine TL.pure (PV.assign rfl) rfl (by decide) ?_
    refine TL.pure (PV.assign rfl) rfl (by decide) ?_
    refine TL.nil ?_
    refine TQ.thenC ?_
    refine TC.ret ?_
    refine TQ.thenR ?_
    refine TQ.retE2 rfl rfl rfl ?_
    exact ⟨none, by rw [cntR_1 a1]; rfl, by rw [cntR_1 a1]; exact goI_nil, List.nil_sublist _⟩
  · skip
    refine TC.skip ?_
    refine TQ.thenC ?_
    refine TC.seq ?_
    refine TC.seq ?_
    refine TC.region ?_
    refine TL.pure (PV.loadBox rfl Tb.agg_24 (by repeat (first | exact List.Mem.head _ | refine List.Mem.tail _ ?_ | refine List.mem_append_right _ ?_)) rfl) rfl (by decide) ?_
    refine TL.pure (PV.move rfl) rfl (by decide) ?_
    refine TL.call rfl Tb.gofn_76 (fun a w hs => rlisted_ok w _ _ _ _ (hr.new hs.new) hS.1 _ _ _ (hx.new hs.new) hl) rfl (by decide) (fun _ _ => ?_)
    refine TL.pure (PV.assign rfl) rfl (by decide) ?_
    refine TL.nil ?_
    refine TQ.thenC ?_
    refine TC.seq ?_
    refine TC.region ?_
    refine TL.pure (PV.move rfl) rfl (by decide) ?_
    refine TL.pure (PV.neq rfl rfl) rfl (by decide) ?_
    refine TL.nil ?_
    refine TQ.thenC ?_
    first | refine TC.condD rfl (fun a2 => ?_) (fun a2 => ?_) | refine TC.cond rfl (fun a2 => ?_) (fun a2 => ?_)
    · skip
      refine TC.seq ?_
      refine TC.region ?_
      refine TL.pure (PV.move rfl) rfl (by decide) ?_
      refine TL.pure (PV.assign rfl) rfl (by decide) ?_
      refine TL.pure (PV.assign rfl) rfl (by decide) ?_
      refine TL.nil ?_
      refine TQ.thenC ?_
      refine TC.ret ?_
      refine TQ.thenR ?_
      refine TQ.retE2 rfl rfl rfl ?_
      exact ⟨none, by rw [cntR_2 a1 a2]; rfl, by rw [cntR_2 a1 a2]; exact goI_nil, List.nil_sublist _⟩
    · skip
      refine TC.skip ?_
      refine TQ.thenC ?_
      refine TC.seq ?_
      have hV := vy_of a1
      have hls := list_at a2
      have hsl := hV.len
      refine TC.region ?_
      refine TL.pure (PV.fieldAddr rfl Tb.fo_24_1) rfl (by decide) ?_
      refine TL.pure (PV.load rfl Tb.one_22 (by repeat (first | exact List.Mem.head _ | refine List.Mem.tail _ ?_ | refine List.mem_append_right _ ?_)) rfl) rfl (by decide) ?_
      refine TL.pure (PV.len rfl Tb.sl_22) rfl (by decide) ?_
      refine TL.makeI (k := ss.length) rfl rfl Tb.sl_25 Tb.zi_3 rfl (by omega) (by omega) rfl (by decide) (fun bO hbO => ?_)
      refine TL.pure (PV.assign rfl) rfl (by decide) ?_
      refine TL.nil ?_
      refine TQ.thenC ?_
      refine TC.seq ?_
      refine TC.seq ?_
      refine TC.region ?_
      refine TL.pure (PV.assign rfl) rfl (by decide) ?_
      refine TL.nil ?_
      refine TQ.thenC ?_
      refine TC.block ?_
      refine TC.lit [(1, _), (4, _), (5, _), (8, _), (9, _)] (by repeat (first | exact True.intro | refine And.intro rfl ?_)) ?_
      refine TC.loopK [1, 4, 5, 8] (X := Nat) (fun k => k ≤ xs.length) (fun k => [(9, .int .i64 k)]) (fun k => [(bO, Obj.cells (intsA (cnK ss.length xs k)) 3 (0, 0)), (b0, Obj.cells #[.int .i64 n, .slice p ss.length cp] 24 (0, 0))]) (fun k => xs.length - k) 0 (Nat.zero_le _) (by repeat (first | exact True.intro | refine And.intro rfl ?_)) (by rw [← cnK_zero]; exact List.Sublist.refl _) ?_
      intro k hk
      refine TC.lit [(1, _), (4, _), (5, _), (8, _), (9, _)] (by repeat (first | exact True.intro | refine And.intro rfl ?_)) ?_
      refine TC.seq ?_
      refine TC.seq ?_
      refine TC.region ?_
      refine TL.pure (PV.move rfl) rfl (by decide) ?_
      refine TL.pure (PV.move rfl) rfl (by decide) ?_
      refine TL.pure (PV.len rfl Tb.sl_25) rfl (by decide) ?_
      refine TL.pure (PV.lss rfl rfl) rfl (by decide) ?_
      refine TL.nil ?_
      refine TQ.thenC ?_
      first | refine TC.condD rfl (fun hlt => ?_) (fun hlt => ?_) | refine TC.cond rfl (fun hlt => ?_) (fun hlt => ?_)
      · skip
        refine TC.skip ?_
        refine TQ.thenC ?_
        refine TC.seq ?_
        refine TC.block ?_
        have hiL := hls.2 k (by omega)
        obtain ⟨u, hue⟩ : ∃ u : Nat, xs.getD k 0 = u := ⟨(xs.getD k 0).toNat, by omega⟩
        obtain ⟨q2, hq2p, hq2⟩ := hx k (by omega)
        have hcb := cnK_bd (S := ss.length) (ls := xs) (k := k) (u := u) (by omega)
        refine TC.region ?_
        refine TL.pure (PV.move rfl) rfl (by decide) ?_
        refine TL.pure (PV.move rfl) rfl (by decide) ?_
        refine TL.pure (PV.move rfl) rfl (by decide) ?_
        refine TL.pure (PV.indexA rfl hq2p rfl Tb.elm_25 rfl (by omega)) rfl (by decide) ?_
        refine TL.pure (PV.loadOld rfl Tb.one_3 hq2) rfl (by decide) ?_
        refine TL.pure (PV.index1 (j := u) rfl rfl Tb.elm_25 hue (by omega)) rfl (by decide) ?_
        refine TL.pure (PV.loadIv (xs := cnK ss.length xs k) (j := u) (v := (cnK ss.length xs k).getD u 0) rfl Tb.one_3 (by repeat (first | exact List.Mem.head _ | refine List.Mem.tail _ ?_ | refine List.mem_append_right _ ?_)) (by rw [cnK_len]; omega) rfl) rfl (by decide) ?_
        refine TL.pure (PV.add rfl rfl (by omega)) rfl (by decide) ?_
        refine TL.pure (PV.index1 (j := u) rfl rfl Tb.elm_25 hue (by omega)) rfl (by decide) ?_
        refine TL.storeIv (xs := cnK ss.length xs k) (xs' := cnK ss.length xs (k + 1)) (j := u) rfl rfl Tb.cells_3 (cnK_put (by omega) (by omega) hue) (by repeat (first | exact Upd.head _ | apply Upd.tail | apply Upd.appR)) (by rw [cnK_len]; omega) rfl rfl ?_
        refine TL.nil ?_
        refine TQ.blkN ?_
        refine TQ.thenC ?_
        refine TC.region ?_
        refine TL.pure (PV.move rfl) rfl (by decide) ?_
        refine TL.pure (PV.add rfl rfl (by omega)) rfl (by decide) ?_
        refine TL.pure (PV.assign rfl) rfl (by decide) ?_
        refine TL.nil ?_
        refine TQ.thenN ?_
        refine TQ.backK (k + 1) (by repeat (first | exact True.intro | refine And.intro rfl ?_)) (by repeat (first | exact True.intro | refine And.intro rfl ?_)) (List.Sublist.refl _) (by omega) (by omega)
      · skip
        refine TC.exit ?_
        refine TQ.thenE ?_
        refine TQ.thenE ?_
        refine TQ.blkS ?_
        refine TQ.thenC ?_
        refine TC.seq ?_
        refine TC.region ?_
        refine TL.pure (PV.move rfl) rfl (by decide) ?_
        refine TL.pure (PV.assign rfl) rfl (by decide) ?_
        refine TL.pure (PV.assign rfl) rfl (by decide) ?_
        refine TL.nil ?_
        refine TQ.thenC ?_
        refine TC.ret ?_
        refine TQ.retE2 rfl rfl rfl ?_
        have e9 := cntR_3 (ls := xs) a1 a2
        have e8 : cntN ss.length xs = cnK ss.length xs k := (cnK_end (by omega)).symm
        have e7 := cnK_len ss.length xs k
        exact ⟨some (bO, ss.length, []), by rw [e9, e8]; show _ = Value.tuple #[.slice _ (cnK ss.length xs k).length _, _]; rw [e7], by rw [e9, e8]; have h9 := goI_blk bO (cnK ss.length xs k); rw [e7] at h9; exact h9, by rw [e9, e8, gbI_blk]; exact (by repeat (first | exact List.Sublist.refl _ | exact List.nil_sublist _ | refine List.Sublist.cons_cons _ ?_ | refine List.Sublist.cons _ ?_ | refine List.Sublist.trans ?_ (List.sublist_append_right _ _)))⟩

set_option maxRecDepth 100000 in
set_option maxHeartbeats 1000000 in
theorem isInvF_ok (w0 : World) (p1 p2 : Option Addr) (c1 c2 : Nat) (s : St) (h1 : IntsAt w0 p1 s.t) (h2 : IntsAt w0 p2 s.g) (hl : s.t.length = s.g.length) (hl6 : s.g.length ≤ 6) (hb : ∀ k, (0 ≤ s.t.getD k 0 ∧ s.t.getD k 0 ≤ 3) ∧ 0 ≤ s.g.getD k 0 ∧ s.g.getD k 0 ≤ 3) (a : Addr) (pl : Option Addr) (cl : Nat) (xs : List Int) (hx : IntsAt w0 pl xs) (ha : w0.cell? a = some (.slice pl xs.length cl)) (hxl : xs.length = s.g.length) (hw : ∀ k, -20 ≤ xs.getD k 0 ∧ xs.getD k 0 ≤ 20) :
    Calls Try.prog 92 #[sv p1 s.t.length c1 p2 s.g.length c2, .pointer (some a)] w0 (Post (X := Unit) (fun _ => .bool (decide (wgN xs (effL s) ≠ 0))) (fun _ => True) (fun _ => []) w0) := by
  have heb : ∀ k, -3 ≤ (effL s).getD k 0 ∧ (effL s).getD k 0 ≤ 3 := fun k => by
      by_cases h9 : k < s.g.length
      · rw [eff_at h9]; have := hb k; omega
      · rw [List.getD_eq_getElem?_getD, List.getElem?_eq_none (by rw [eff_len]; omega)]; exact ⟨by decide, by decide⟩
  have hel := eff_len s
  refine calls Try.func92 rfl (n := 9) rfl (by simp) ?_
  refine TC.seq ?_
  refine TC.region ?_
  refine TL.box rfl rfl (by decide) (fun b0 hb0 => ?_)
  refine TL.pure (PV.assign rfl) rfl (by decide) ?_
  refine TL.nil ?_
  refine TQ.thenC ?_
  refine TC.seq ?_
  refine TC.mixV [true, true, false, false, true, true] [(b0, Obj.cells #[.slice p1 s.t.length c1, .slice p2 s.g.length c2] 63 (0, 0))] 6 Tb.mixed rfl (by kernel_rfl) (by kernel_rfl) (by kernel_rfl) (by kernel_rfl) (by repeat (first | exact List.Sublist.slnil | exact List.nil_sublist _ | exact List.Sublist.refl _ | refine List.Sublist.cons_cons _ ?_ | refine List.Sublist.cons _ ?_ | refine List.Sublist.trans ?_ (List.sublist_append_right _ _))) ?_
  refine TV.virt 0 rfl rfl (by decide) rfl (by kernel_rfl) (SOK.pure (PV.loadOld rfl Tb.one_25 ha) rfl) ?_
  refine TV.virt 1 rfl rfl (by decide) rfl (by kernel_rfl) (SOK.pure (PV.loadBox rfl Tb.agg_63 (by repeat (first | exact List.Mem.head _ | refine List.Mem.tail _ ?_ | refine List.mem_append_right _ ?_)) rfl) rfl) ?_
  refine TV.step [2] (by kernel_rfl) (by decide) rfl ⟨⟨_, rfl, ?_⟩, trivial⟩
  refine TL.call rfl Tb.gofn_79 (fun a w hs => effect_ok w _ _ _ _ s (h1.new hs.new) (h2.new hs.new) hl (by omega) (fun k => by have := hb k; omega)) rfl (by decide) (fun h9 hh9 => ?_)
  refine TL.nil ?_
  refine TV.next (.inl (by repeat (first | exact List.Sublist.slnil | exact List.nil_sublist _ | exact List.Sublist.refl _ | refine List.Sublist.cons_cons _ ?_ | refine List.Sublist.cons _ ?_ | refine List.Sublist.trans ?_ (List.sublist_append_right _ _)))) ?_
  refine TV.step [3] (by kernel_rfl) (by decide) rfl ⟨⟨_, rfl, ?_⟩, trivial⟩
  refine TL.call rfl Tb.gofn_93 (fun a w hs => weigh_ok w _ _ _ (hx.new hs.new) _ (effL s) (IsI.gl hel hs.new (fun yy hyy => by repeat (first | exact List.mem_append_left _ hyy | exact List.mem_append_left _ (List.mem_append_right _ hyy) | exact List.mem_append_left _ (List.mem_append_left _ hyy) | refine List.mem_append_right _ ?_ | refine List.Mem.tail _ ?_)) hh9) (by omega) (by omega) hw 3 (by decide) heb) rfl (by decide) (fun _ _ => ?_)
  refine TL.nil ?_
  refine TV.next (.inl (by repeat (first | exact List.Sublist.slnil | exact List.nil_sublist _ | exact List.Sublist.refl _ | refine List.Sublist.cons_cons _ ?_ | refine List.Sublist.cons _ ?_ | refine List.Sublist.trans ?_ (List.sublist_append_right _ _)))) ?_
  refine TV.virt 4 rfl rfl (by decide) rfl (by kernel_rfl) (SOK.pure (PV.neq rfl rfl) rfl) ?_
  refine TV.virt 5 rfl rfl (by decide) rfl (by kernel_rfl) (SOK.pure (PV.assign rfl) rfl) ?_
  refine TV.done (by kernel_rfl) ?_
  refine TQ.thenC ?_
  refine TC.ret ?_
  refine TQ.retE1 rfl rfl ?_
  exact ⟨(), rfl, trivial, List.nil_sublist _⟩

set_option maxRecDepth 100000 in
set_option maxHeartbeats 1000000 in
theorem IsInvariant_ok (w0 : World) (n : Int) (p : Option Addr) (cp : Nat) (ss : List St) (hr : StsAt w0 p ss) (hS : SmS ss) (vx : Value) (xs : List Int) (hv : IsI w0 vx xs) (hl : xs.length ≤ 1000000) :
    Calls Try.prog 41 #[yv n p ss.length cp, vx] w0 (Post (X := Unit) (fun _ => .tuple #[.bool (invR n ss xs).1, .int .i64 (invR n ss xs).2]) (fun _ => True) (fun _ => []) w0) := by
  obtain ⟨pl, cl, rfl, hx⟩ := hv
  refine calls Try.func41 rfl (n := 21) rfl (by simp) ?_
  refine TC.seq ?_
  refine TC.region ?_
  refine TL.box rfl rfl (by decide) (fun b0 hb0 => ?_)
  refine TL.box rfl rfl (by decide) (fun b1 hb1 => ?_)
  refine TL.pure (PV.assign rfl) rfl (by decide) ?_
  refine TL.pure (PV.assign rfl) rfl (by decide) ?_
  refine TL.nil ?_
  refine TQ.thenC ?_
  refine TC.seq ?_
  refine TC.seq ?_
  refine TC.region ?_
  refine TL.pure (PV.loadBox rfl Tb.agg_24 (by repeat (first | exact List.Mem.head _ | refine List.Mem.tail _ ?_ | refine List.mem_append_right _ ?_)) rfl) rfl (by decide) ?_
  refine TL.call rfl Tb.gofn_24 (fun a w hs => validate_ok w _ _ _ _ (hr.new hs.new) hS) rfl (by decide) (fun _ _ => ?_)
  refine TL.pure (PV.assign rfl) rfl (by decide) ?_
  refine TL.nil ?_
  refine TQ.thenC ?_
  refine TC.seq ?_
  refine TC.region ?_
  refine TL.pure (PV.move rfl) rfl (by decide) ?_
  refine TL.pure (PV.neq rfl rfl) rfl (by decide) ?_
  refine TL.nil ?_
  refine TQ.thenC ?_
  first | refine TC.condD rfl (fun a1 => ?_) (fun a1 => ?_) | refine TC.cond rfl (fun a1 => ?_) (fun a1 => ?_)
  · skip
    refine TC.seq ?_
    refine TC.region ?_
    refine TL.pure (PV.move rfl) rfl (by decide) ?_
    refine TL.pure (PV.assign rfl) rfl (by decide) ?_
    refine TL.pure (PV.assign rfl) rfl (by decide) ?_
    refine TL.nil ?_
    refine TQ.thenC ?_
    refine TC.ret ?_
    refine TQ.thenR ?_
    refine TQ.retE2 rfl rfl rfl ?_
    exact ⟨(), by rw [invR_1 a1], trivial, List.nil_sublist _⟩
  · skip
    refine TC.skip ?_
    refine TQ.thenC ?_
    refine TC.seq ?_
    refine TC.seq ?_
    refine TC.region ?_
    refine TL.pure (PV.loadBox rfl Tb.agg_24 (by repeat (first | exact List.Mem.head _ | refine List.Mem.tail _ ?_ | refine List.mem_append_right _ ?_)) rfl) rfl (by decide) ?_
    refine TL.pure (PV.load rfl Tb.one_25 (by repeat (first | exact List.Mem.head _ | refine List.Mem.tail _ ?_ | refine List.mem_append_right _ ?_)) rfl) rfl (by decide) ?_
    refine TL.call rfl Tb.gofn_91 (fun a w hs => areWeights_ok w _ _ _ _ (hr.new hs.new) _ _ _ (hx.new hs.new) hl) rfl (by decide) (fun _ _ => ?_)
    refine TL.pure ((by first | exact PV.notD rfl | exact PV.not rfl)) rfl (by decide) ?_
    refine TL.nil ?_
    refine TQ.thenC ?_
    first | refine TC.condD rfl (fun a2 => ?_) (fun a2 => ?_) | refine TC.cond rfl (fun a2 => ?_) (fun a2 => ?_)
    · skip
      refine TC.seq ?_
      refine TC.region ?_
      refine TL.pure (PV.assign rfl) rfl (by decide) ?_
      refine TL.pure (PV.assign rfl) rfl (by decide) ?_
      refine TL.nil ?_
      refine TQ.thenC ?_
      refine TC.ret ?_
      refine TQ.thenR ?_
      refine TQ.retE2 rfl rfl rfl ?_
      exact ⟨(), by rw [invR_2 a1 (by simpa using a2)], trivial, List.nil_sublist _⟩
    · skip
      refine TC.skip ?_
      refine TQ.thenC ?_
      refine TC.seq ?_
      have hV := vy_of a1
      have hnu : numB n (-20) 20 xs = true := by simpa using a2
      have hxl := num_len hnu
      have hxb := num_at hnu (by decide)
      have hn6 := hV.hn
      refine TC.region ?_
      refine TL.pure (PV.fieldAddr rfl Tb.fo_24_1) rfl (by decide) ?_
      refine TL.pure (PV.load rfl Tb.one_22 (by repeat (first | exact List.Mem.head _ | refine List.Mem.tail _ ?_ | refine List.mem_append_right _ ?_)) rfl) rfl (by decide) ?_
      refine TL.pure (PV.makeFuncB (pre := []) (caps := [_]) rfl rfl) rfl (by decide) ?_
      refine TL.call rfl Tb.gofn_77 (fun a w hs => stepAny_ok w p cp ss (hr.new hs.new) hS.1 92 [] [.pointer (some ⟨b1, 0, none⟩)] (fun s => decide (wgN xs (effL s) ≠ 0)) Tb.gofn_92 (fun w2 G2 hn2 k hk pa pb ca cb ha hb => isInvF_ok w2 pa pb ca cb (ss.getD k default) ha hb (by have := hV.tl hk; omega) (by have := hV.tl hk; omega) (fun j => hV.tb hk j) ⟨b1, 0, none⟩ _ _ xs (hx.new (hs.new.trans hn2)) ((hs.new.trans hn2).cell (by repeat (first | exact List.Mem.head _ | refine List.Mem.tail _ ?_ | refine List.mem_append_right _ ?_)) rfl) (by have := hV.tl hk; omega) hxb)) rfl (by decide) (fun _ _ => ?_)
      refine TL.pure ((by first | exact PV.notD rfl | exact PV.not rfl)) rfl (by decide) ?_
      refine TL.pure (PV.assign rfl) rfl (by decide) ?_
      refine TL.pure (PV.assign rfl) rfl (by decide) ?_
      refine TL.nil ?_
      refine TQ.thenC ?_
      refine TC.ret ?_
      refine TQ.retE2 rfl rfl rfl ?_
      exact ⟨(), by rw [invR_3 a1 hnu]; rfl, trivial, List.nil_sublist _⟩

set_option maxRecDepth 100000 in
set_option maxHeartbeats 2000000 in
theorem rIsInvariant_ok (w0 : World) (n : Int) (p : Option Addr) (cp : Nat) (ss : List St) (hr : StsAt w0 p ss) (hS : SmS ss) (vx : Value) (xs : List Int) (hv : IsI w0 vx xs) (hl : xs.length ≤ 1000000) :
    Calls Try.prog 42 #[yv n p ss.length cp, vx] w0 (Post (X := Unit) (fun _ => .tuple #[.bool (invR n ss xs).1, .int .i64 (invR n ss xs).2]) (fun _ => True) (fun _ => []) w0) := by
  obtain ⟨pl, cl, rfl, hx⟩ := hv
  refine calls Try.func42 rfl (n := 61) rfl (by simp) ?_
  refine TC.seq ?_
  refine TC.region ?_
  refine TL.box rfl rfl (by decide) (fun b0 hb0 => ?_)
  refine TL.pure (PV.assign rfl) rfl (by decide) ?_
  refine TL.pure (PV.assign rfl) rfl (by decide) ?_
  refine TL.nil ?_
  refine TQ.thenC ?_
  refine TC.seq ?_
  refine TC.seq ?_
  refine TC.region ?_
  refine TL.pure (PV.loadBox rfl Tb.agg_24 (by repeat (first | exact List.Mem.head _ | refine List.Mem.tail _ ?_ | refine List.mem_append_right _ ?_)) rfl) rfl (by decide) ?_
  refine TL.call rfl Tb.gofn_25 (fun a w hs => rvalidate_ok w _ _ _ _ (hr.new hs.new) hS) rfl (by decide) (fun _ _ => ?_)
  refine TL.pure (PV.assign rfl) rfl (by decide) ?_
  refine TL.nil ?_
  refine TQ.thenC ?_
  refine TC.seq ?_
  refine TC.region ?_
  refine TL.pure (PV.move rfl) rfl (by decide) ?_
  refine TL.pure (PV.neq rfl rfl) rfl (by decide) ?_
  refine TL.nil ?_
  refine TQ.thenC ?_
  first | refine TC.condD rfl (fun a1 => ?_) (fun a1 => ?_) | refine TC.cond rfl (fun a1 => ?_) (fun a1 => ?_)
  · skip
    refine TC.seq ?_
    refine TC.region ?_
    refine TL.pure (PV.move rfl) rfl (by decide) ?_
    refine TL.pure (PV.assign rfl) rfl (by decide) ?_
    refine TL.pure (PV.assign rfl) rfl (by decide) ?_
    refine TL.nil ?_
    refine TQ.thenC ?_
    refine TC.ret ?_
    refine TQ.thenR ?_
    refine TQ.retE2 rfl rfl rfl ?_
    exact ⟨(), by rw [invR_1 a1], trivial, List.nil_sublist _⟩
  · skip
    refine TC.skip ?_
    refine TQ.thenC ?_
    refine TC.seq ?_
    refine TC.seq ?_
    refine TC.region ?_
    refine TL.pure (PV.move rfl) rfl (by decide) ?_
    refine TL.pure (PV.fieldAddr rfl Tb.fo_24_0) rfl (by decide) ?_
    refine TL.pure (PV.load rfl Tb.one_3 (by repeat (first | exact List.Mem.head _ | refine List.Mem.tail _ ?_ | refine List.mem_append_right _ ?_)) rfl) rfl (by decide) ?_
    refine TL.call rfl Tb.gofn_72 (fun a w hs => rall_ok w _ _ _ (hx.new hs.new) hl _ _ _) rfl (by decide) (fun _ _ => ?_)
    refine TL.pure ((by first | exact PV.notD rfl | exact PV.not rfl)) rfl (by decide) ?_
    refine TL.nil ?_
    refine TQ.thenC ?_
    first | refine TC.condD rfl (fun a2 => ?_) (fun a2 => ?_) | refine TC.cond rfl (fun a2 => ?_) (fun a2 => ?_)
    · skip
      refine TC.seq ?_
      refine TC.region ?_
      refine TL.pure (PV.assign rfl) rfl (by decide) ?_
      refine TL.pure (PV.assign rfl) rfl (by decide) ?_
      refine TL.nil ?_
      refine TQ.thenC ?_
      refine TC.ret ?_
      refine TQ.thenR ?_
      refine TQ.retE2 rfl rfl rfl ?_
      exact ⟨(), by rw [invR_2 a1 (by simpa using a2)], trivial, List.nil_sublist _⟩
    · skip
      refine TC.skip ?_
      refine TQ.thenC ?_
      refine TC.seq ?_
      refine TC.seq ?_
      have hV := vy_of a1
      have hnu : numB n (-20) 20 xs = true := by simpa using a2
      have hxl := num_len hnu
      have hxb := num_at hnu (by decide)
      have hn6 := hV.hn
      have hsl := hV.len
      refine TC.region ?_
      refine TL.pure (PV.assign rfl) rfl (by decide) ?_
      refine TL.nil ?_
      refine TQ.thenC ?_
      refine TC.block ?_
      -- live and written in the loop, not told: [4, 5]
      refine TC.lit [(1, _), (2, _), (7, _)] (by repeat (first | exact True.intro | refine And.intro rfl ?_)) ?_
      refine TC.loopG [1, 2] (X := Nat) (fun k => k ≤ ss.length ∧ ∀ j, j < k → decide (wgN xs (effL (ss.getD j default)) ≠ 0) = false) (fun k => [(7, .int .i64 k)]) (fun k => ss.length - k) 0 ⟨Nat.zero_le _, fun j hj => absurd hj (Nat.not_lt_zero _)⟩ (by repeat (first | exact True.intro | refine And.intro rfl ?_)) ?_
      intro k hk
      refine TC.lit [(1, _), (2, _), (7, _)] (by repeat (first | exact True.intro | refine And.intro rfl ?_)) ?_
      refine TC.seq ?_
      refine TC.seq ?_
      refine TC.region ?_
      refine TL.pure (PV.move rfl) rfl (by decide) ?_
      refine TL.pure (PV.fieldAddr rfl Tb.fo_24_1) rfl (by decide) ?_
      refine TL.pure (PV.load rfl Tb.one_22 (by repeat (first | exact List.Mem.head _ | refine List.Mem.tail _ ?_ | refine List.mem_append_right _ ?_)) rfl) rfl (by decide) ?_
      refine TL.pure (PV.len rfl Tb.sl_22) rfl (by decide) ?_
      refine TL.pure (PV.lss rfl rfl) rfl (by decide) ?_
      refine TL.nil ?_
      refine TQ.thenC ?_
      first | refine TC.condD rfl (fun hlt => ?_) (fun hlt => ?_) | refine TC.cond rfl (fun hlt => ?_) (fun hlt => ?_)
      · skip
        refine TC.skip ?_
        refine TQ.thenC ?_
        refine TC.seq ?_
        refine TC.block ?_
        refine TC.seq ?_
        refine TC.region ?_
        refine TL.pure (PV.assign rfl) rfl (by decide) ?_
        refine TL.nil ?_
        refine TQ.thenC ?_
        refine TC.seq ?_
        refine TC.seq ?_
        refine TC.region ?_
        refine TL.pure (PV.assign rfl) rfl (by decide) ?_
        refine TL.nil ?_
        refine TQ.thenC ?_
        refine TC.block ?_
        refine TC.lit [(1, _), (2, _), (7, _), (8, _), (9, _)] (by repeat (first | exact True.intro | refine And.intro rfl ?_)) ?_
        refine TC.loopG [1, 2, 4, 5, 7] (X := Nat) (fun u => u ≤ xs.length) (fun u => [(9, .int .i64 u), (8, .int .i64 (iwK ss xs k u))]) (fun u => xs.length - u) 0 (Nat.zero_le _) (by repeat (first | exact True.intro | refine And.intro rfl ?_)) ?_
        intro u hu
        refine TC.lit [(1, _), (2, _), (7, _), (8, _), (9, _)] (by repeat (first | exact True.intro | refine And.intro rfl ?_)) ?_
        refine TC.seq ?_
        refine TC.seq ?_
        refine TC.region ?_
        refine TL.pure (PV.move rfl) rfl (by decide) ?_
        refine TL.pure (PV.fieldAddr rfl Tb.fo_24_0) rfl (by decide) ?_
        refine TL.pure (PV.load rfl Tb.one_3 (by repeat (first | exact List.Mem.head _ | refine List.Mem.tail _ ?_ | refine List.mem_append_right _ ?_)) rfl) rfl (by decide) ?_
        refine TL.pure (PV.lss rfl rfl) rfl (by decide) ?_
        refine TL.nil ?_
        refine TQ.thenC ?_
        first | refine TC.condD rfl (fun hlt2 => ?_) (fun hlt2 => ?_) | refine TC.cond rfl (fun hlt2 => ?_) (fun hlt2 => ?_)
        · skip
          refine TC.skip ?_
          refine TQ.thenC ?_
          refine TC.seq ?_
          refine TC.block ?_
          obtain ⟨q2, hq2p, hq2⟩ := hx u (by omega)
          obtain ⟨q1, hq1p, pa, pb, ca, cb, hq10, hq11, hta, htb⟩ := hr k (by omega)
          have htl := hV.tl (k := k) (by omega)
          obtain ⟨q3, hq3p, hq3⟩ := hta u (by omega)
          obtain ⟨q4, hq4p, hq4⟩ := htb u (by omega)
          have hdb := dd_bd hV (i := k) (by omega) u
          have hd0 : dd ss k u = (ss.getD k default).g.getD u 0 - (ss.getD k default).t.getD u 0 := rfl
          have hbd := iw_bd hV hxb (i := k) (k := u) (by omega) (by omega)
          have hmb := mulB (a := xs.getD u 0) (b := dd ss k u) (A := 20) (B := 3) (hxb u) hdb (by decide) (by decide)
          refine TC.mixE [false, true, true, true, true, true, true, true, true, true, true, true, true, true, true, true, true, true, true, true, true, true, true, true, true, false, false] [(b0, Obj.cells #[.int .i64 n, .slice p ss.length cp] 24 (0, 0))] 3 Tb.mixed rfl (by kernel_rfl) (by kernel_rfl) (by kernel_rfl) (by kernel_rfl) (by repeat (first | exact List.Sublist.slnil | exact List.nil_sublist _ | exact List.Sublist.refl _ | refine List.Sublist.cons_cons _ ?_ | refine List.Sublist.cons _ ?_ | refine List.Sublist.trans ?_ (List.sublist_append_right _ _))) ?_
          refine TY.no ?_
          refine TY.op (SOK.pure (PV.move rfl) rfl) (by decide) ?_
          refine TY.op (SOK.pure (PV.move rfl) rfl) (by decide) ?_
          refine TY.op (SOK.pure (PV.indexA rfl hq2p rfl Tb.elm_25 rfl (by omega)) rfl) (by decide) ?_
          refine TY.op (SOK.pure (PV.loadOld rfl Tb.one_3 hq2) rfl) (by decide) ?_
          refine TY.op (SOK.pure (PV.fieldAddr rfl Tb.fo_24_1) rfl) (by decide) ?_
          refine TY.op (SOK.pure (PV.load rfl Tb.one_22 (by repeat (first | exact List.Mem.head _ | refine List.Mem.tail _ ?_ | refine List.mem_append_right _ ?_)) rfl) rfl) (by decide) ?_
          refine TY.op (SOK.pure (PV.move rfl) rfl) (by decide) ?_
          refine TY.op (SOK.pure (PV.indexA (j := k) rfl hq1p rfl Tb.elm_22 rfl (by omega)) rfl) (by decide) ?_
          refine TY.op (SOK.pure (PV.fieldAddrA rfl Tb.fo_63_1) rfl) (by decide) ?_
          refine TY.op (SOK.pure (PV.loadOld rfl Tb.one_25 hq11) rfl) (by decide) ?_
          refine TY.op (SOK.pure (PV.move rfl) rfl) (by decide) ?_
          refine TY.op (SOK.pure (PV.indexA rfl hq4p rfl Tb.elm_25 rfl (by omega)) rfl) (by decide) ?_
          refine TY.op (SOK.pure (PV.loadOld rfl Tb.one_3 hq4) rfl) (by decide) ?_
          refine TY.op (SOK.pure (PV.fieldAddr rfl Tb.fo_24_1) rfl) (by decide) ?_
          refine TY.op (SOK.pure (PV.load rfl Tb.one_22 (by repeat (first | exact List.Mem.head _ | refine List.Mem.tail _ ?_ | refine List.mem_append_right _ ?_)) rfl) rfl) (by decide) ?_
          refine TY.op (SOK.pure (PV.move rfl) rfl) (by decide) ?_
          refine TY.op (SOK.pure (PV.indexA (j := k) rfl hq1p rfl Tb.elm_22 rfl (by omega)) rfl) (by decide) ?_
          refine TY.op (SOK.pure (PV.fieldAddrA rfl Tb.fo_63_0) rfl) (by decide) ?_
          refine TY.op (SOK.pure (PV.loadOld rfl Tb.one_25 hq10) rfl) (by decide) ?_
          refine TY.op (SOK.pure (PV.move rfl) rfl) (by decide) ?_
          refine TY.op (SOK.pure (PV.indexA rfl hq3p rfl Tb.elm_25 rfl (by omega)) rfl) (by decide) ?_
          refine TY.op (SOK.pure (PV.loadOld rfl Tb.one_3 hq3) rfl) (by decide) ?_
          refine TY.op (SOK.pure (PV.sub rfl rfl (by omega)) rfl) (by decide) ?_
          refine TY.op (SOK.pure (PV.mul rfl rfl (by rw [← hd0]; omega)) rfl) (by decide) ?_
          refine TY.no ?_
          refine TY.no ?_
          refine TY.fin ?_
          refine TX.step [0] (by kernel_rfl) (by decide) ⟨⟨_, rfl, ?_⟩, trivial⟩
          refine TL.pure (PV.move rfl) rfl (by decide) ?_
          refine TL.nil ?_
          refine TX.next (.inl (by repeat (first | exact List.Sublist.slnil | exact List.nil_sublist _ | exact List.Sublist.refl _ | refine List.Sublist.cons_cons _ ?_ | refine List.Sublist.cons _ ?_ | refine List.Sublist.trans ?_ (List.sublist_append_right _ _)))) ?_
          refine TX.step [25] (by kernel_rfl) (by decide) ⟨⟨_, rfl, ?_⟩, trivial⟩
          refine TL.pure (PV.add rfl rfl (by rw [← hd0]; omega)) rfl (by decide) ?_
          refine TL.nil ?_
          refine TX.next (.inl (by repeat (first | exact List.Sublist.slnil | exact List.nil_sublist _ | exact List.Sublist.refl _ | refine List.Sublist.cons_cons _ ?_ | refine List.Sublist.cons _ ?_ | refine List.Sublist.trans ?_ (List.sublist_append_right _ _)))) ?_
          refine TX.step [26] (by kernel_rfl) (by decide) ⟨⟨_, rfl, ?_⟩, trivial⟩
          refine TL.pure (PV.assign rfl) rfl (by decide) ?_
          refine TL.nil ?_
          refine TX.next (.inr (by kernel_rfl)) ?_
          refine TX.done (by kernel_rfl) ?_
          refine TQ.blkN ?_
          refine TQ.thenC ?_
          refine TC.region ?_
          refine TL.pure (PV.move rfl) rfl (by decide) ?_
          refine TL.pure (PV.add rfl rfl (by omega)) rfl (by decide) ?_
          refine TL.pure (PV.assign rfl) rfl (by decide) ?_
          refine TL.nil ?_
          refine TQ.thenN ?_
          refine TQ.backK (u + 1) (by repeat (first | exact True.intro | refine And.intro rfl ?_)) (by repeat (first | exact True.intro | refine And.intro rfl ?_)) (by repeat (first | exact List.Sublist.slnil | exact List.nil_sublist _ | exact List.Sublist.refl _ | refine List.Sublist.cons_cons _ ?_ | refine List.Sublist.cons _ ?_ | refine List.Sublist.trans ?_ (List.sublist_append_right _ _))) (by omega) (by omega)
        · skip
          refine TC.exit ?_
          refine TQ.thenE ?_
          refine TQ.thenE ?_
          refine TQ.blkS ?_
          refine TQ.thenC ?_
          refine TC.seq ?_
          have hiw := iw_eq hV (ws := xs) (i := k) (by omega)
          have hue : u = xs.length := by omega
          refine TC.region ?_
          refine TL.pure (PV.move rfl) rfl (by decide) ?_
          refine TL.pure (PV.neq rfl rfl) rfl (by decide) ?_
          refine TL.nil ?_
          refine TQ.thenC ?_
          first | refine TC.condD rfl (fun hno => ?_) (fun hno => ?_) | refine TC.cond rfl (fun hno => ?_) (fun hno => ?_)
          · skip
            refine TC.seq ?_
            refine TC.region ?_
            refine TL.pure (PV.assign rfl) rfl (by decide) ?_
            refine TL.pure (PV.assign rfl) rfl (by decide) ?_
            refine TL.nil ?_
            refine TQ.thenC ?_
            refine TC.ret ?_
            refine TQ.blkR ?_
            refine TQ.thenR ?_
            refine TQ.thenR ?_
            refine TQ.blkR ?_
            refine TQ.thenR ?_
            refine TQ.retE2 rfl rfl rfl ?_
            exact ⟨(), by rw [invR_3 a1 hnu]; unfold invB; rw [any_yes (f := fun s => decide (wgN xs (effL s) ≠ 0)) (k := k) (d := default) (by omega) (decide_eq_true (by rw [hiw, ← hue]; exact hno))]; rfl, trivial, List.nil_sublist _⟩
          · skip
            refine TC.skip ?_
            refine TQ.blkN ?_
            refine TQ.thenC ?_
            refine TC.region ?_
            refine TL.pure (PV.move rfl) rfl (by decide) ?_
            refine TL.pure (PV.add rfl rfl (by omega)) rfl (by decide) ?_
            refine TL.pure (PV.assign rfl) rfl (by decide) ?_
            refine TL.nil ?_
            refine TQ.thenN ?_
            refine TQ.backK (k + 1) (by repeat (first | exact True.intro | refine And.intro rfl ?_)) (by repeat (first | exact True.intro | refine And.intro rfl ?_)) (by repeat (first | exact List.Sublist.slnil | exact List.nil_sublist _ | exact List.Sublist.refl _ | refine List.Sublist.cons_cons _ ?_ | refine List.Sublist.cons _ ?_ | refine List.Sublist.trans ?_ (List.sublist_append_right _ _))) ⟨by omega, fun j hj => if e : j < k then hk.2 j e else (show k = j by omega) ▸ (decide_eq_false (by rw [hiw, ← hue]; exact hno))⟩ (by omega)
      · skip
        refine TC.exit ?_
        refine TQ.thenE ?_
        refine TQ.thenE ?_
        refine TQ.blkS ?_
        refine TQ.thenC ?_
        refine TC.seq ?_
        refine TC.region ?_
        refine TL.pure (PV.assign rfl) rfl (by decide) ?_
        refine TL.pure (PV.assign rfl) rfl (by decide) ?_
        refine TL.nil ?_
        refine TQ.thenC ?_
        refine TC.ret ?_
        refine TQ.retE2 rfl rfl rfl ?_
        exact ⟨(), by rw [invR_3 a1 hnu]; unfold invB; rw [any_no (f := fun s => decide (wgN xs (effL s) ≠ 0)) (d := default) (fun j hj => hk.2 j (by omega))]; rfl, trivial, List.nil_sublist _⟩

set_option maxRecDepth 100000 in
set_option maxHeartbeats 1000000 in
theorem Weigh_ok (w0 : World) (n : Int) (p : Option Addr) (cp : Nat) (ss : List St) (hr : StsAt w0 p ss) (hS : SmS ss) (vx : Value) (xs : List Int) (hv : IsI w0 vx xs) (hl : xs.length ≤ 1000000) (vz : Value) (ls : List Int) (hw : IsI w0 vz ls) (hll : ls.length ≤ 1000000) :
    Calls Try.prog 43 #[yv n p ss.length cp, vx, vz] w0 (Post (X := Unit) (fun _ => .tuple #[.int .i64 (wgR n ss xs ls).1, .int .i64 (wgR n ss xs ls).2]) (fun _ => True) (fun _ => []) w0) := by
  obtain ⟨pl, cl, rfl, hx⟩ := hv
  obtain ⟨pz, cz, rfl, hz⟩ := hw
  refine calls Try.func43 rfl (n := 23) rfl (by simp) ?_
  refine TC.seq ?_
  refine TC.region ?_
  refine TL.box rfl rfl (by decide) (fun b0 hb0 => ?_)
  refine TL.pure (PV.assign rfl) rfl (by decide) ?_
  refine TL.pure (PV.assign rfl) rfl (by decide) ?_
  refine TL.nil ?_
  refine TQ.thenC ?_
  refine TC.seq ?_
  refine TC.seq ?_
  refine TC.region ?_
  refine TL.pure (PV.loadBox rfl Tb.agg_24 (by repeat (first | exact List.Mem.head _ | refine List.Mem.tail _ ?_ | refine List.mem_append_right _ ?_)) rfl) rfl (by decide) ?_
  refine TL.pure (PV.move rfl) rfl (by decide) ?_
  refine TL.buildSlice (cs := #[.slice pz ls.length cz]) rfl Tb.sl_97 Tb.zi_25 (by decide) (fill_o _ _ _) (by decide) rfl (by decide) (fun bS hbS => ?_)
  refine TL.call rfl Tb.gofn_73 (fun a w hs => valFil_ok w _ _ _ _ (hr.new hs.new) hS _ _ 1 [ls] (LsAt.one hs.new (by repeat (first | exact List.Mem.head _ | refine List.Mem.tail _ ?_ | refine List.mem_append_right _ ?_)) (hz.new hs.new)) rfl (one_len hll) (by simp)) rfl (by decide) (fun _ _ => ?_)
  refine TL.pure (PV.assign rfl) rfl (by decide) ?_
  refine TL.nil ?_
  refine TQ.thenC ?_
  refine TC.seq ?_
  refine TC.region ?_
  refine TL.pure (PV.move rfl) rfl (by decide) ?_
  refine TL.pure (PV.neq rfl rfl) rfl (by decide) ?_
  refine TL.nil ?_
  refine TQ.thenC ?_
  first | refine TC.condD rfl (fun a1 => ?_) (fun a1 => ?_) | refine TC.cond rfl (fun a1 => ?_) (fun a1 => ?_)
  · skip
    refine TC.seq ?_
    refine TC.region ?_
    refine TL.pure (PV.move rfl) rfl (by decide) ?_
    refine TL.pure (PV.assign rfl) rfl (by decide) ?_
    refine TL.pure (PV.assign rfl) rfl (by decide) ?_
    refine TL.nil ?_
    refine TQ.thenC ?_
    refine TC.ret ?_
    refine TQ.thenR ?_
    refine TQ.retE2 rfl rfl rfl ?_
    exact ⟨(), by rw [wgR_1 a1], trivial, List.nil_sublist _⟩
  · skip
    refine TC.skip ?_
    refine TQ.thenC ?_
    refine TC.seq ?_
    refine TC.seq ?_
    refine TC.region ?_
    refine TL.pure (PV.loadBox rfl Tb.agg_24 (by repeat (first | exact List.Mem.head _ | refine List.Mem.tail _ ?_ | refine List.mem_append_right _ ?_)) rfl) rfl (by decide) ?_
    refine TL.pure (PV.move rfl) rfl (by decide) ?_
    refine TL.call rfl Tb.gofn_91 (fun a w hs => areWeights_ok w _ _ _ _ (hr.new hs.new) _ _ _ (hx.new hs.new) hl) rfl (by decide) (fun _ _ => ?_)
    refine TL.pure ((by first | exact PV.notD rfl | exact PV.not rfl)) rfl (by decide) ?_
    refine TL.nil ?_
    refine TQ.thenC ?_
    first | refine TC.condD rfl (fun a2 => ?_) (fun a2 => ?_) | refine TC.cond rfl (fun a2 => ?_) (fun a2 => ?_)
    · skip
      refine TC.seq ?_
      refine TC.region ?_
      refine TL.pure (PV.assign rfl) rfl (by decide) ?_
      refine TL.pure (PV.assign rfl) rfl (by decide) ?_
      refine TL.nil ?_
      refine TQ.thenC ?_
      refine TC.ret ?_
      refine TQ.thenR ?_
      refine TQ.retE2 rfl rfl rfl ?_
      exact ⟨(), by rw [wgR_2 a1 (by simpa using a2)], trivial, List.nil_sublist _⟩
    · skip
      refine TC.skip ?_
      refine TQ.thenC ?_
      refine TC.seq ?_
      have hV := vm_of a1
      have hnu : numB n (-20) 20 xs = true := by simpa using a2
      have hxl := num_len hnu
      have hxb := num_at hnu (by decide)
      have hn6 := hV.hn
      have hml := hV.ml
      refine TC.region ?_
      refine TL.pure (PV.move rfl) rfl (by decide) ?_
      refine TL.pure (PV.move rfl) rfl (by decide) ?_
      refine TL.call rfl Tb.gofn_93 (fun a w hs => weigh_ok w _ _ _ (hx.new hs.new) _ _ (IsI.of (hz.new hs.new)) (by omega) (by omega) hxb 50 (by decide) (fun k => by have := hV.mb k; omega)) rfl (by decide) (fun _ _ => ?_)
      refine TL.pure (PV.assign rfl) rfl (by decide) ?_
      refine TL.pure (PV.assign rfl) rfl (by decide) ?_
      refine TL.nil ?_
      refine TQ.thenC ?_
      refine TC.ret ?_
      refine TQ.retE2 rfl rfl rfl ?_
      exact ⟨(), by rw [wgR_3 a1 hnu], trivial, List.nil_sublist _⟩

set_option maxRecDepth 100000 in
set_option maxHeartbeats 1000000 in
theorem rWeigh_ok (w0 : World) (n : Int) (p : Option Addr) (cp : Nat) (ss : List St) (hr : StsAt w0 p ss) (hS : SmS ss) (vx : Value) (xs : List Int) (hv : IsI w0 vx xs) (hl : xs.length ≤ 1000000) (vz : Value) (ls : List Int) (hw : IsI w0 vz ls) (hll : ls.length ≤ 1000000) :
    Calls Try.prog 44 #[yv n p ss.length cp, vx, vz] w0 (Post (X := Unit) (fun _ => .tuple #[.int .i64 (wgR n ss xs ls).1, .int .i64 (wgR n ss xs ls).2]) (fun _ => True) (fun _ => []) w0) := by
  obtain ⟨pl, cl, rfl, hx⟩ := hv
  obtain ⟨pz, cz, rfl, hz⟩ := hw
  refine calls Try.func44 rfl (n := 40) rfl (by simp) ?_
  refine TC.seq ?_
  refine TC.region ?_
  refine TL.box rfl rfl (by decide) (fun b0 hb0 => ?_)
  refine TL.pure (PV.assign rfl) rfl (by decide) ?_
  refine TL.pure (PV.assign rfl) rfl (by decide) ?_
  refine TL.nil ?_
  refine TQ.thenC ?_
  refine TC.seq ?_
  refine TC.seq ?_
  refine TC.region ?_
  refine TL.pure (PV.loadBox rfl Tb.agg_24 (by repeat (first | exact List.Mem.head _ | refine List.Mem.tail _ ?_ | refine List.mem_append_right _ ?_)) rfl) rfl (by decide) ?_
  refine TL.pure (PV.move rfl) rfl (by decide) ?_
  refine TL.call rfl Tb.gofn_75 (fun a w hs => rfilled_ok w _ _ _ _ (hr.new hs.new) hS _ _ _ (hz.new hs.new) hll) rfl (by decide) (fun _ _ => ?_)
  refine TL.pure (PV.assign rfl) rfl (by decide) ?_
  refine TL.nil ?_
  refine TQ.thenC ?_
  refine TC.seq ?_
  refine TC.region ?_
  refine TL.pure (PV.move rfl) rfl (by decide) ?_
  refine TL.pure (PV.neq rfl rfl) rfl (by decide) ?_
  refine TL.nil ?_
  refine TQ.thenC ?_
  first | refine TC.condD rfl (fun a1 => ?_) (fun a1 => ?_) | refine TC.cond rfl (fun a1 => ?_) (fun a1 => ?_)
  · skip
    refine TC.seq ?_
    refine TC.region ?_
    refine TL.pure (PV.move rfl) rfl (by decide) ?_
    refine TL.pure (PV.assign rfl) rfl (by decide) ?_
    refine TL.pure (PV.assign rfl) rfl (by decide) ?_
    refine TL.nil ?_
    refine TQ.thenC ?_
    refine TC.ret ?_
    refine TQ.thenR ?_
    refine TQ.retE2 rfl rfl rfl ?_
    exact ⟨(), by rw [wgR_1 a1], trivial, List.nil_sublist _⟩
  · skip
    refine TC.skip ?_
    refine TQ.thenC ?_
    refine TC.seq ?_
    refine TC.seq ?_
    refine TC.region ?_
    refine TL.pure (PV.move rfl) rfl (by decide) ?_
    refine TL.pure (PV.fieldAddr rfl Tb.fo_24_0) rfl (by decide) ?_
    refine TL.pure (PV.load rfl Tb.one_3 (by repeat (first | exact List.Mem.head _ | refine List.Mem.tail _ ?_ | refine List.mem_append_right _ ?_)) rfl) rfl (by decide) ?_
    refine TL.call rfl Tb.gofn_72 (fun a w hs => rall_ok w _ _ _ (hx.new hs.new) hl _ _ _) rfl (by decide) (fun _ _ => ?_)
    refine TL.pure ((by first | exact PV.notD rfl | exact PV.not rfl)) rfl (by decide) ?_
    refine TL.nil ?_
    refine TQ.thenC ?_
    first | refine TC.condD rfl (fun a2 => ?_) (fun a2 => ?_) | refine TC.cond rfl (fun a2 => ?_) (fun a2 => ?_)
    · skip
      refine TC.seq ?_
      refine TC.region ?_
      refine TL.pure (PV.assign rfl) rfl (by decide) ?_
      refine TL.pure (PV.assign rfl) rfl (by decide) ?_
      refine TL.nil ?_
      refine TQ.thenC ?_
      refine TC.ret ?_
      refine TQ.thenR ?_
      refine TQ.retE2 rfl rfl rfl ?_
      exact ⟨(), by rw [wgR_2 a1 (by simpa using a2)], trivial, List.nil_sublist _⟩
    · skip
      refine TC.skip ?_
      refine TQ.thenC ?_
      refine TC.seq ?_
      have hV := vm_of a1
      have hnu : numB n (-20) 20 xs = true := by simpa using a2
      have hxl := num_len hnu
      have hxb := num_at hnu (by decide)
      have hn6 := hV.hn
      have hml := hV.ml
      refine TC.region ?_
      refine TL.pure (PV.assign rfl) rfl (by decide) ?_
      refine TL.nil ?_
      refine TQ.thenC ?_
      refine TC.seq ?_
      refine TC.seq ?_
      refine TC.region ?_
      refine TL.pure (PV.assign rfl) rfl (by decide) ?_
      refine TL.nil ?_
      refine TQ.thenC ?_
      refine TC.block ?_
      refine TC.lit [(1, _), (2, _), (3, _), (6, _), (7, _), (9, _), (10, _)] (by repeat (first | exact True.intro | refine And.intro rfl ?_)) ?_
      refine TC.loopG [1, 2, 3, 6, 7] (X := Nat) (fun u => u ≤ xs.length) (fun u => [(10, .int .i64 u), (9, .int .i64 (wgK xs ls u))]) (fun u => xs.length - u) 0 (Nat.zero_le _) (by repeat (first | exact True.intro | refine And.intro rfl ?_)) ?_
      intro u hu
      refine TC.lit [(1, _), (2, _), (3, _), (6, _), (7, _), (9, _), (10, _)] (by repeat (first | exact True.intro | refine And.intro rfl ?_)) ?_
      refine TC.seq ?_
      refine TC.seq ?_
      refine TC.region ?_
      refine TL.pure (PV.move rfl) rfl (by decide) ?_
      refine TL.pure (PV.fieldAddr rfl Tb.fo_24_0) rfl (by decide) ?_
      refine TL.pure (PV.load rfl Tb.one_3 (by repeat (first | exact List.Mem.head _ | refine List.Mem.tail _ ?_ | refine List.mem_append_right _ ?_)) rfl) rfl (by decide) ?_
      refine TL.pure (PV.lss rfl rfl) rfl (by decide) ?_
      refine TL.nil ?_
      refine TQ.thenC ?_
      first | refine TC.condD rfl (fun hlt => ?_) (fun hlt => ?_) | refine TC.cond rfl (fun hlt => ?_) (fun hlt => ?_)
      · skip
        refine TC.skip ?_
        refine TQ.thenC ?_
        refine TC.seq ?_
        refine TC.block ?_
        obtain ⟨q1, hq1p, hq1⟩ := hx u (by omega)
        obtain ⟨q2, hq2p, hq2⟩ := hz u (by omega)
        have hmz : ∀ k, -50 ≤ ls.getD k 0 ∧ ls.getD k 0 ≤ 50 := fun k => by have := hV.mb k; omega
        have hbk := wgK_bd (B := 50) (by decide) (by decide) hxb hmz (k := u) (by omega)
        have hbp := mulB (hxb u) (hmz u) (by decide) (by decide)
        refine TC.mixE [false, true, true, true, true, true, true, true, true, true, false, false] [(b0, Obj.cells #[.int .i64 n, .slice p ss.length cp] 24 (0, 0))] 3 Tb.mixed rfl (by kernel_rfl) (by kernel_rfl) (by kernel_rfl) (by kernel_rfl) (by repeat (first | exact List.Sublist.slnil | exact List.nil_sublist _ | exact List.Sublist.refl _ | refine List.Sublist.cons_cons _ ?_ | refine List.Sublist.cons _ ?_ | refine List.Sublist.trans ?_ (List.sublist_append_right _ _))) ?_
        refine TY.no ?_
        refine TY.op (SOK.pure (PV.move rfl) rfl) (by decide) ?_
        refine TY.op (SOK.pure (PV.move rfl) rfl) (by decide) ?_
        refine TY.op (SOK.pure (PV.indexA rfl hq1p rfl Tb.elm_25 rfl (by omega)) rfl) (by decide) ?_
        refine TY.op (SOK.pure (PV.loadOld rfl Tb.one_3 hq1) rfl) (by decide) ?_
        refine TY.op (SOK.pure (PV.move rfl) rfl) (by decide) ?_
        refine TY.op (SOK.pure (PV.move rfl) rfl) (by decide) ?_
        refine TY.op (SOK.pure (PV.indexA rfl hq2p rfl Tb.elm_25 rfl (by omega)) rfl) (by decide) ?_
        refine TY.op (SOK.pure (PV.loadOld rfl Tb.one_3 hq2) rfl) (by decide) ?_
        refine TY.op (SOK.pure (PV.mul rfl rfl (by omega)) rfl) (by decide) ?_
        refine TY.no ?_
        refine TY.no ?_
        refine TY.fin ?_
        refine TX.step [0] (by kernel_rfl) (by decide) ⟨⟨_, rfl, ?_⟩, trivial⟩
        refine TL.pure (PV.move rfl) rfl (by decide) ?_
        refine TL.nil ?_
        refine TX.next (.inl (by repeat (first | exact List.Sublist.slnil | exact List.nil_sublist _ | exact List.Sublist.refl _ | refine List.Sublist.cons_cons _ ?_ | refine List.Sublist.cons _ ?_ | refine List.Sublist.trans ?_ (List.sublist_append_right _ _)))) ?_
        refine TX.step [10] (by kernel_rfl) (by decide) ⟨⟨_, rfl, ?_⟩, trivial⟩
        refine TL.pure (PV.add rfl rfl (by omega)) rfl (by decide) ?_
        refine TL.nil ?_
        refine TX.next (.inl (by repeat (first | exact List.Sublist.slnil | exact List.nil_sublist _ | exact List.Sublist.refl _ | refine List.Sublist.cons_cons _ ?_ | refine List.Sublist.cons _ ?_ | refine List.Sublist.trans ?_ (List.sublist_append_right _ _)))) ?_
        refine TX.step [11] (by kernel_rfl) (by decide) ⟨⟨_, rfl, ?_⟩, trivial⟩
        refine TL.pure (PV.assign rfl) rfl (by decide) ?_
        refine TL.nil ?_
        refine TX.next (.inr (by kernel_rfl)) ?_
        refine TX.done (by kernel_rfl) ?_
        refine TQ.blkN ?_
        refine TQ.thenC ?_
        refine TC.region ?_
        refine TL.pure (PV.move rfl) rfl (by decide) ?_
        refine TL.pure (PV.add rfl rfl (by omega)) rfl (by decide) ?_
        refine TL.pure (PV.assign rfl) rfl (by decide) ?_
        refine TL.nil ?_
        refine TQ.thenN ?_
        refine TQ.backK (u + 1) (by repeat (first | exact True.intro | refine And.intro rfl ?_)) (by repeat (first | exact True.intro | refine And.intro rfl ?_)) (by repeat (first | exact List.Sublist.slnil | exact List.nil_sublist _ | exact List.Sublist.refl _ | refine List.Sublist.cons_cons _ ?_ | refine List.Sublist.cons _ ?_ | refine List.Sublist.trans ?_ (List.sublist_append_right _ _))) (by omega) (by omega)
      · skip
        refine TC.exit ?_
        refine TQ.thenE ?_
        refine TQ.thenE ?_
        refine TQ.blkS ?_
        refine TQ.thenC ?_
        refine TC.seq ?_
        refine TC.region ?_
        refine TL.pure (PV.move rfl) rfl (by decide) ?_
        refine TL.pure (PV.assign rfl) rfl (by decide) ?_
        refine TL.pure (PV.assign rfl) rfl (by decide) ?_
        refine TL.nil ?_
        refine TQ.thenC ?_
        refine TC.ret ?_
        refine TQ.retE2 rfl rfl rfl ?_
        exact ⟨(), by rw [wgR_3 a1 hnu]; show _ = Value.tuple #[.int .i64 (wgK xs ls xs.length), _]; rw [show u = xs.length by omega], trivial, List.nil_sublist _⟩

end Go.Proofs.Ytkkipbkkijoneaa
