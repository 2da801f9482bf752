/- Lists of rational numbers; the best heights and the check of a claim, the other way. -/
import Derived.Test.YtmmgcajegokkoaaZ4
import Derived.Test.YtmmgcajegokkoaaOp
namespace Go.Proofs.Ytmmgcajegokkoaa
open Go.Sx Go.RowKit

abbrev RL := HD × List (Int × Int)
def rc (l : List (Int × Int)) : List Value := l.flatMap fun q => [.int .i64 q.1, .int .i64 q.2]
theorem rc_len (l : List (Int × Int)) : (rc l).length = l.length * 2 := by
  induction l with
  | nil => rfl
  | cons a l ih => simp [rc] at ih ⊢; omega
theorem rc_snoc (l : List (Int × Int)) (q : Int × Int) : rc (l ++ [q]) = rc l ++ [.int .i64 q.1, .int .i64 q.2] := by simp [rc]
theorem rc_get0 : ∀ {l : List (Int × Int)} {j : Nat}, j < l.length → (rc l)[j * 2 + 0]? = some (.int .i64 (l.getD j (0, 0)).1)
  | [], _, h => by simp at h
  | a :: l, 0, _ => by simp [rc, List.getD]
  | a :: l, j + 1, h => by
    have := rc_get0 (l := l) (j := j) (by simpa using h)
    rw [show (j + 1) * 2 + 0 = (j * 2 + 0) + 2 by omega]
    simpa [rc, List.getD] using this
theorem rc_get1 : ∀ {l : List (Int × Int)} {j : Nat}, j < l.length → (rc l)[j * 2 + 1]? = some (.int .i64 (l.getD j (0, 0)).2)
  | [], _, h => by simp at h
  | a :: l, 0, _ => by simp [rc, List.getD]
  | a :: l, j + 1, h => by
    have := rc_get1 (l := l) (j := j) (by simpa using h)
    rw [show (j + 1) * 2 + 1 = (j * 2 + 1) + 2 by omega]
    simpa [rc, List.getD] using this
abbrev gvQ (x : RL) : Value := gval x.1 x.2.length
abbrev gbQ (x : RL) : Heap := gblk x.1 46 (rc x.2)
abbrev goQ (x : RL) : Prop := gok x.1 x.2.length 2 (rc x.2)
theorem fill_q (a b : Int) : Instr.fill (fun i => some (i * 2, 2)) ((Array.range (1 * 2)).map ((Value.agg #[(.int .i64 0), (.int .i64 0)]).cells[· % (Value.agg #[(.int .i64 0), (.int .i64 0)]).cells.size]!)) [(0, .agg #[.int .i64 a, .int .i64 b])] = some #[.int .i64 a, .int .i64 b] := by kernel_rfl
section
variable {n : Nat} {w0 : World} {E : Env} {G : Heap} {d : Nat} {ty : TypeId} {pos : String} {aft : Array Edge} {g : Option (Nat × Bool)} {ops : Array Oper} {Q : Exit → Act → World → Prop} {l : List Oper}
theorem TL.appendQ {s x : Operand} {x0 : RL} {b : Nat} {u v : Int} {R : Heap} (hsv : evo E s = some (gvQ x0)) (hx : evo E x = some (.slice (some ⟨b, 0, none⟩) 1 1)) (hm : (b, Obj.cells #[.int .i64 u, .int .i64 v] 46 (0, 0)) ∈ G)
    (hok : goQ x0) (hT : TakeH x0.1 46 (rc x0.2) G R) (hb : x0.2.length ≤ 1000000) (hg : wants ops E g = some true) (hd : d < n)
    (h : ∀ h', goQ (h', x0.2 ++ [(u, v)]) → TL Try.prog n w0 ops Q l ((d, gvQ (h', x0.2 ++ [(u, v)])) :: E) (gbQ (h', x0.2 ++ [(u, v)]) ++ R)) :
    TL Try.prog n w0 ops Q (⟨some d, .call { callee := .builtin .append, args := #[s, x], argTypes := #[42, 42] }, ty, pos, aft, g⟩ :: l) E G := by
  have hnews : ∀ (j : Nat) (w : Value), [Value.int .i64 u, .int .i64 v][j]? = some w → (#[Value.int .i64 u, .int .i64 v] : Array Value)[j]? = some w := fun j w h => by simpa using h
  refine TL.append (news := [.int .i64 u, .int .i64 v]) (m := 1) hsv hx Tb.sl_42 Tb.zi_46 rfl (by decide) hok hT (fun a w hs => src_blk Tb.sl_42 hm rfl hnews rfl hs.new) (fun w' hN => src_blk Tb.sl_42 hm rfl hnews rfl hN) (by omega) (by omega) hg hd (fun h' hok' _ => ?_)
  have hh := h h'
  unfold goQ gvQ gbQ at hh
  simp only [rc_snoc, List.length_append, List.length_cons, List.length_nil, Nat.zero_add] at hh
  exact hh hok'
theorem PV.loadAggG {x : Operand} {b off k : Nat} {t : Nat} {cs : Array Value} {e : TypeId} {fr : Nat × Nat} {vs : List Value} {d : Option Nat} (hx : evo E x = some (.pointer (some ⟨b, off, none⟩))) (ht : aggSize Try.prog t = some k)
    (hm : (b, Obj.cells cs e fr) ∈ G) (hk : vs.length = k) (hv : ∀ j v, vs[j]? = some v → cs[off + j]? = some v) :
    PV Try.prog n w0 E G ⟨d, .load t x, ty, pos, aft, g⟩ (.agg vs.toArray) :=
  fun a w hs => by
    have hl := run_loadCells_list (P := Try.prog) w ⟨b, off, none⟩ vs (fun j v h => by
      rw [add_off]
      exact hs.new.cell hm (hv j v h))
    rw [hk] at hl
    unfold aggSize at ht
    simp only [execOp, hs.ev hx]
    cases hu : Try.prog.underlying t with
    | none => simp [hu] at ht
    | some u =>
      cases u <;> simp only [hu] at ht <;> try (simp at ht; done)
      all_goals
        cases hi : Try.prog.info? t with
        | none => simp [hi] at ht
        | some i =>
          simp [hi] at ht
          simp [Instr.loadAt, Instr.sureAddr, loadVar, isAgg, run_underlying hu, sizeOf, typeInfo, hi, ht, hl]
end
theorem goQ_get {x : RL} {i : Nat} (hi : i < x.2.length) : ∀ (j : Nat) (v : Value), [Value.int .i64 (x.2.getD i (0, 0)).1, .int .i64 (x.2.getD i (0, 0)).2][j]? = some v → (rc x.2 ++ (x.1.map (·.2.2)).getD []).toArray[i * 2 + j]? = some v := fun j v hv => by
  have hl := rc_len x.2
  have hj : j < 2 := (List.getElem?_eq_some_iff.1 hv).1
  rw [List.getElem?_toArray, List.getElem?_append_left (by omega)]
  have : j = 0 ∨ j = 1 := by omega
  rcases this with rfl | rfl
  · rw [rc_get0 hi]; simpa using hv
  · rw [rc_get1 hi]; simpa using hv
/-- The best heights. -/
def hL (N : Nat) (rs : List Rd) : List (Int × Int) := (List.range N).map fun i => (hN N rs i, hD N rs i)
theorem hL_len (N : Nat) (rs : List Rd) : (hL N rs).length = N := by simp [hL]
theorem hL_get {N : Nat} {rs : List Rd} {i : Nat} (hi : i < N) : (hL N rs).getD i (0, 0) = (hN N rs i, hD N rs i) := by simp [hL, List.getD, hi]
structure HI (N : Nat) (rs : List Rd) (k : Nat) (x : RL) : Prop where
  le : k ≤ N
  eq : x.2 = (List.range k).map fun i => (hN N rs i, hD N rs i)
  ok : goQ x
theorem HI.zero (N : Nat) (rs : List Rd) : HI N rs 0 (none, []) := ⟨Nat.zero_le _, rfl, ⟨rfl, rfl⟩⟩
theorem HI.len {N : Nat} {rs : List Rd} {k : Nat} {x : RL} (h : HI N rs k x) : x.2.length = k := by rw [h.eq]; simp
theorem HI.step {N : Nat} {rs : List Rd} {k : Nat} {x : RL} {h' : HD} (h : HI N rs k x) (hk : k < N) (ho : goQ (h', x.2 ++ [(hN N rs k, hD N rs k)])) : HI N rs (k + 1) (h', x.2 ++ [(hN N rs k, hD N rs k)]) :=
  ⟨hk, by simp only; rw [h.eq, List.range_succ, List.map_append]; rfl, ho⟩
structure BQ (n : Int) (rs : List Rd) (x : RL) : Prop where
  eq : x.2 = if validateI n rs = 0 then hL n.toNat rs else []
  ok : goQ x
theorem BQ.bad {n : Int} {rs : List Rd} (h : validateI n rs ≠ 0) : BQ n rs (none, []) := ⟨by rw [if_neg h], ⟨rfl, rfl⟩⟩
theorem BQ.good {n : Int} {rs : List Rd} {x : RL} (h : validateI n rs = 0) (hx : HI n.toNat rs n.toNat x) : BQ n rs x := ⟨by rw [if_pos h]; exact hx.eq, hx.ok⟩
/-- The given side's common denominator, and its heights. -/
def dR (n : Int) (rs : List Rd) : Int := detF (freeK (firstsL n rs) n.toNat).length (lapE rs (freeK (firstsL n rs) n.toNat))
def oR (n : Int) (rs : List Rd) : List Int := outL n.toNat (freeK (firstsL n rs) n.toNat) (yF rs (freeK (firstsL n rs) n.toNat)) (freeK (firstsL n rs) n.toNat).length
theorem oR_len (n : Int) (rs : List Rd) : (oR n rs).length = n.toNat := outL_len _ _ _ _
theorem oR_eq {n : Int} {rs : List Rd} (hv : Valid n rs) {p : Nat} (hp : p < n.toNat) : (oR n rs).getD p 0 * denO n.toNat rs = bestV n.toNat rs p * dR n rs := by
  obtain ⟨hN', hn⟩ := hv.nat
  have h := free_best hN' hp
  rw [hn] at h
  have e : (oR n rs).getD p 0 = ext (freeK (firstsL n rs) n.toNat) (yF rs (freeK (firstsL n rs) n.toNat)) p := by
    unfold oR outL
    rw [List.getD_eq_getElem?_getD, List.getElem?_map, List.getElem?_range hp]
    rfl
  rw [e]
  exact h
theorem dR_pos {n : Int} {rs : List Rd} (hv : Valid n rs) : 0 < dR n rs ∧ dR n rs ≤ 7962624 := by
  obtain ⟨hN', hn⟩ := hv.nat
  have h4 : (freeK (firstsL n rs) n.toNat).length ≤ 4 := by have := free_len hN'; rwa [hn] at this
  have h1 : 0 < dR n rs := by
    have := det_pos hN' (freeK (firstsL n rs) n.toNat) h4 (free_pts _ _) (by have := free_miss hN'; rwa [hn] at this)
    exact this
  exact ⟨h1, (lap_dbound hv (freeK (firstsL n rs) n.toNat) h4).2.2⟩
theorem oR_bn {n : Int} {rs : List Rd} (hv : Valid n rs) {p : Nat} (hp : p < n.toNat) : Bn ((oR n rs).getD p 0) (4000 * dR n rs) := by
  obtain ⟨hN', hn⟩ := hv.nat
  have e := oR_eq hv hp
  have hd := denO_pos hN'
  have hr := dR_pos hv
  have hb := (best_bn hN' hp).mul (show Bn (dR n rs) (dR n rs) from ⟨by omega, Int.le_refl _⟩)
  rw [← e] at hb
  have e1 : 4 * (1000 * denO n.toNat rs) * dR n rs = (4000 * dR n rs) * denO n.toNat rs := by grind
  rw [e1] at hb
  refine ⟨Int.le_of_mul_le_mul_right (a := denO n.toNat rs) (by rw [Int.neg_mul]; exact hb.1) (by omega), Int.le_of_mul_le_mul_right hb.2 (by omega)⟩
theorem ratioH (w : World) {n : Int} {rs : List Rd} (hv : Valid n rs) {p : Nat} (hp : p < n.toNat) :
    Calls Try.prog 50 #[.int .i64 ((oR n rs).getD p 0), .int .i64 (dR n rs)] w (Post (X := Unit) (fun _ => .agg #[.int .i64 (hN n.toNat rs p), .int .i64 (hD n.toNat rs p)]) (fun _ => True) (fun _ => []) w) := by
  have hd := denO_pos hv.nat.1
  have hr := dR_pos hv
  have hb := oR_bn hv hp
  unfold Bn at hb
  have h := ratio_ok w ((oR n rs).getD p 0) (dR n rs) (by omega) (by omega)
  rw [lowV_eq (c := bestV n.toNat rs p) (d := denO n.toNat rs) hr.1 (by omega) (oR_eq hv hp)] at h
  exact h
theorem rbest_any (w0 : World) (n : Int) (p : Option Addr) (cap : Nat) (rs : List Rd) (hr : RdsAt w0 p rs) (hv : Valid n rs) :
    Calls Try.prog 76 #[sv n p rs.length cap] w0 (Post (X := Nat) (fun b => .tuple #[.slice (some ⟨b, 0, none⟩) n.toNat n.toNat, .int .i64 (dR n rs)]) (fun _ => True) (fun b => [arrI b (oR n rs)]) w0) := rbest_ok w0 n p cap rs hr hv
theorem low_inj {a b c d : Int} (hb : 0 < b) (hd : 0 < d) (h1 : a.tdiv (lowG a b) = c.tdiv (lowG c d)) (h2 : b.tdiv (lowG a b) = d.tdiv (lowG c d)) : a * d = c * b := by
  have ha := low_cut a b
  have hc := low_cut c d
  rw [h1, h2] at ha
  generalize c.tdiv (lowG c d) = x at *
  generalize d.tdiv (lowG c d) = y at *
  rw [← ha.1, ← ha.2, ← hc.1, ← hc.2]
  grind
/-- A claim's number of a point in lowest terms. -/
def nA (den : Int) (nums : List Int) (i : Nat) : Int := (nums.getD i 0).tdiv (lowG (nums.getD i 0) den)
def nB (den : Int) (nums : List Int) (i : Nat) : Int := den.tdiv (lowG (nums.getD i 0) den)
theorem ratioN (w : World) {den : Int} {nums : List Int} (hd : 1 ≤ den ∧ den ≤ 1000000) (hw : withinL nums 1000000000 = true) (i : Nat) :
    Calls Try.prog 50 #[.int .i64 (nums.getD i 0), .int .i64 den] w (Post (X := Unit) (fun _ => .agg #[.int .i64 (nA den nums i), .int .i64 (nB den nums i)]) (fun _ => True) (fun _ => []) w) := by
  have hb := withinL_at hw i (by omega)
  exact ratio_ok w (nums.getD i 0) den (by omega) (by omega)
theorem nAB_iff {n : Int} {rs : List Rd} (hv : Valid n rs) {den : Int} {nums : List Int} (hd : 1 ≤ den ∧ den ≤ 1000000) {i : Nat} : (nA den nums i = hN n.toNat rs i ∧ nB den nums i = hD n.toNat rs i) ↔ numF nums i * denO n.toNat rs = bestV n.toNat rs i * den := by
  have hD' := denO_pos hv.nat.1
  refine ⟨fun h => low_inj (by omega) (by omega) h.1 h.2, fun h => low_eq (by omega) (by omega) h⟩
theorem eq46n_guard (x y : Operand) (a b c d : Int) (w : World) : (eqGuard .neq 46 x y (.agg #[.int .i64 a, .int .i64 b]) (.agg #[.int .i64 c, .int .i64 d])).run Try.prog w = .ok () w :=
  run_eqGuard_agg (w := w) .neq 46 x y _ _ (by kernel_rfl)
theorem eq46n (a b c d : Int) (w : World) : (binOp .neq 46 (.agg #[.int .i64 a, .int .i64 b]) (.agg #[.int .i64 c, .int .i64 d])).run Try.prog w = .ok (.bool (decide (¬ (a = c ∧ b = d)))) w := by
  rw [run_neq_struct, show (10000 : Nat) = 9998 + 1 + 1 from rfl, run_equalIn_agg w _ _ _ _ (by kernel_rfl) (by kernel_rfl), eqF2 w _ _ _ _ _ 3 (k := .i64) (by kernel_rfl) (by simp [isAgg, run_underlying (show Try.prog.underlying 3 = some (.int .i64) by kernel_rfl)]) eq46_fs]
  simp
theorem checkE_all {n : Int} {rs : List Rd} {den : Int} {nums : List Int} (hv : Valid n rs) (hd : 1 ≤ den ∧ den ≤ 1000000) (hl : (nums.length : Int) = n) (hw : withinL nums 1000000000 = true) (h : ∀ j, j < n.toNat → nA den nums j = hN n.toNat rs j ∧ nB den nums j = hD n.toNat rs j) : checkE n rs den nums = 0 :=
  check_yes hv hd hl hw fun p hp => (nAB_iff hv hd).1 (h p hp)
theorem checkE_one {n : Int} {rs : List Rd} {den : Int} {nums : List Int} (hv : Valid n rs) (hd : 1 ≤ den ∧ den ≤ 1000000) (hl : (nums.length : Int) = n) (hw : withinL nums 1000000000 = true) {j : Nat} (hj : j < n.toNat) (h : ¬ (nA den nums j = hN n.toNat rs j ∧ nB den nums j = hD n.toNat rs j)) : checkE n rs den nums = 7 :=
  check_not hv hd hl hw fun h0 => h ((nAB_iff hv hd).2 (check_only h0 hj))


set_option maxRecDepth 100000 in
set_option maxHeartbeats 1000000 in
theorem rBest_ok (w0 : World) (n : Int) (p : Option Addr) (cap : Nat) (rs : List Rd) (hr : RdsAt w0 p rs) :
    Calls Try.prog 36 #[sv n p rs.length cap] w0 (Post (X := RL) (fun x => .tuple #[gvQ x, .int .i64 (validateI n rs)]) (BQ n rs) (fun x => gbQ x) w0) := by
  refine calls Try.func36 rfl (n := 35) rfl (by simp) ?_
  refine TC.seq ?_
  refine TC.region ?_
  refine TL.box rfl rfl (by decide) (fun b0 hb0 => ?_)
  refine TL.pure (PV.assign rfl) rfl (by decide) ?_
  refine TL.pure (PV.assign rfl) rfl (by decide) ?_
  refine TL.nil ?_
  refine TQ.thenC ?_
  refine TC.seq ?_
  refine TC.seq ?_
  refine TC.region ?_
  refine TL.pure (PV.loadBox rfl Tb.agg_24 (by repeat (first | exact List.Mem.head _ | refine List.Mem.tail _ ?_ | refine List.mem_append_right _ ?_)) rfl) rfl (by decide) ?_
  refine TL.call rfl Tb.gofn_24 (fun a w hs => rvalidate_ok w _ _ _ _ (hr.new hs.new)) rfl (by decide) (fun _ _ => ?_)
  refine TL.pure (PV.assign rfl) rfl (by decide) ?_
  refine TL.nil ?_
  refine TQ.thenC ?_
  refine TC.seq ?_
  refine TC.region ?_
  refine TL.pure (PV.move rfl) rfl (by decide) ?_
  refine TL.pure (PV.neq rfl rfl) rfl (by decide) ?_
  refine TL.nil ?_
  refine TQ.thenC ?_
  first | refine TC.condD rfl (fun hne => ?_) (fun hne => ?_) | refine TC.cond rfl (fun hne => ?_) (fun hne => ?_)
  · skip
    refine TC.seq ?_
    refine TC.region ?_
    refine TL.pure (PV.move rfl) rfl (by decide) ?_
    refine TL.pure (PV.assign rfl) rfl (by decide) ?_
    refine TL.pure (PV.assign rfl) rfl (by decide) ?_
    refine TL.nil ?_
    refine TQ.thenC ?_
    refine TC.ret ?_
    refine TQ.thenR ?_
    refine TQ.retE2 rfl rfl rfl ?_
    exact ⟨(none, []), rfl, BQ.bad hne, List.nil_sublist _⟩
  · skip
    refine TC.skip ?_
    refine TQ.thenC ?_
    refine TC.seq ?_
    have hv : Valid n rs := vof hne
    have hp := hv.pts
    have hol := oR_len n rs
    refine TC.region ?_
    refine TL.pure (PV.loadBox rfl Tb.agg_24 (by repeat (first | exact List.Mem.head _ | refine List.Mem.tail _ ?_ | refine List.mem_append_right _ ?_)) rfl) rfl (by decide) ?_
    refine TL.call rfl Tb.gofn_76 (fun a w hs => rbest_any w _ _ _ _ (hr.new hs.new) hv) rfl (by decide) (fun bO _ => ?_)
    refine TL.pure (PV.move rfl) rfl (by decide) ?_
    refine TL.pure (PV.extract rfl rfl) rfl (by decide) ?_
    refine TL.pure (PV.extract rfl rfl) rfl (by decide) ?_
    refine TL.pure (PV.assign rfl) rfl (by decide) ?_
    refine TL.pure (PV.assign rfl) rfl (by decide) ?_
    refine TL.nil ?_
    refine TQ.thenC ?_
    refine TC.seq ?_
    refine TC.region ?_
    refine TL.pure (PV.assign rfl) rfl (by decide) ?_
    refine TL.nil ?_
    refine TQ.thenC ?_
    refine TC.seq ?_
    refine TC.seq ?_
    refine TC.region ?_
    refine TL.pure (PV.assign rfl) rfl (by decide) ?_
    refine TL.nil ?_
    refine TQ.thenC ?_
    refine TC.block ?_
    refine TC.lit [(5, _), (6, _), (7, _), (8, _)] (by repeat (first | exact True.intro | refine And.intro rfl ?_)) ?_
    refine TC.loopK [2, 3, 5, 6] (X := Nat × RL) (fun x => HI n.toNat rs x.1 x.2) (fun x => [(8, .int .i64 x.1), (7, gvQ x.2)]) (fun x => gbQ x.2 ++ [arrI bO (oR n rs), (b0, .cells #[.int .i64 n, .slice p rs.length cap] 24 (0, 0))]) (fun x => n.toNat - x.1) (0, none, []) (HI.zero _ _) (by repeat (first | exact True.intro | refine And.intro rfl ?_)) (by repeat (first | exact List.Sublist.slnil | exact List.nil_sublist _ | exact List.Sublist.refl _ | refine List.Sublist.cons_cons _ ?_ | refine List.Sublist.cons _ ?_ | refine List.Sublist.trans ?_ (List.sublist_append_right _ _))) ?_
    intro x hx
    have hxle := hx.le
    have hxlen := hx.len
    refine TC.seq ?_
    refine TC.seq ?_
    refine TC.region ?_
    refine TL.pure (PV.move rfl) rfl (by decide) ?_
    refine TL.pure (PV.move rfl) rfl (by decide) ?_
    refine TL.pure (PV.len rfl Tb.sl_31) rfl (by decide) ?_
    refine TL.pure (PV.lss rfl rfl) rfl (by decide) ?_
    refine TL.nil ?_
    refine TQ.thenC ?_
    first | refine TC.condD rfl (fun hlt => ?_) (fun hlt => ?_) | refine TC.cond rfl (fun hlt => ?_) (fun hlt => ?_)
    · skip
      refine TC.skip ?_
      refine TQ.thenC ?_
      refine TC.seq ?_
      refine TC.block ?_
      refine TC.lit [(5, _), (6, _), (7, _), (8, _)] (by repeat (first | exact True.intro | refine And.intro rfl ?_)) ?_
      refine TC.region ?_
      refine TL.pure (PV.move rfl) rfl (by decide) ?_
      refine TL.pure (PV.move rfl) rfl (by decide) ?_
      refine TL.pure (PV.move rfl) rfl (by decide) ?_
      refine TL.pure (PV.index1 rfl rfl Tb.elm_31 rfl (by omega)) rfl (by decide) ?_
      refine TL.pure (PV.loadI rfl Tb.one_3 (by repeat (first | exact List.Mem.head _ | refine List.Mem.tail _ ?_ | refine List.mem_append_right _ ?_)) (by omega)) rfl (by decide) ?_
      refine TL.pure (PV.move rfl) rfl (by decide) ?_
      refine TL.call rfl Tb.gofn_50 (fun a w hs => ratioH w hv (show x.1 < n.toNat by omega)) rfl (by decide) (fun _ _ => ?_)
      refine TL.buildSlice rfl Tb.sl_42 Tb.zi_46 (by decide) (fill_q _ _) (by decide) rfl (by decide) (fun bI hbI => ?_)
      refine TL.appendQ rfl rfl (by repeat (first | exact List.Mem.head _ | refine List.Mem.tail _ ?_ | refine List.mem_append_right _ ?_)) hx.ok (by repeat (first | exact TakeH.here _ _ _ _ | apply TakeH.tail | apply TakeH.app)) (by omega) rfl (by decide) (fun hI_ hI => ?_)
      refine TL.pure (PV.assign rfl) rfl (by decide) ?_
      refine TL.nil ?_
      refine TQ.blkN ?_
      refine TQ.thenC ?_
      refine TC.region ?_
      refine TL.pure (PV.move rfl) rfl (by decide) ?_
      refine TL.pure (PV.add rfl rfl (by omega)) rfl (by decide) ?_
      refine TL.pure (PV.assign rfl) rfl (by decide) ?_
      refine TL.nil ?_
      refine TQ.thenN ?_
      refine TQ.backK (x.1 + 1, _) (by repeat (first | exact True.intro | refine And.intro rfl ?_)) (by repeat (first | exact True.intro | refine And.intro rfl ?_)) (List.Sublist.append_left (List.Sublist.cons _ (List.Sublist.refl _)) _) (hx.step (by omega) hI) (by simp only; omega)
    · skip
      refine TC.exit ?_
      refine TQ.thenE ?_
      refine TQ.thenE ?_
      refine TQ.blkS ?_
      refine TQ.thenC ?_
      refine TC.seq ?_
      refine TC.region ?_
      refine TL.pure (PV.move rfl) rfl (by decide) ?_
      refine TL.pure (PV.assign rfl) rfl (by decide) ?_
      refine TL.pure (PV.assign rfl) rfl (by decide) ?_
      refine TL.nil ?_
      refine TQ.thenC ?_
      refine TC.ret ?_
      refine TQ.retE2 rfl rfl rfl ?_
      exact ⟨x.2, by rw [show validateI n rs = 0 from hv], BQ.good hv (by rw [show x.1 = n.toNat by omega] at hx; exact hx), List.sublist_append_left _ _⟩

set_option maxRecDepth 100000 in
set_option maxHeartbeats 2000000 in
theorem rcheckBest_ok (w0 : World) (n : Int) (p : Option Addr) (cap : Nat) (rs : List Rd) (hr : RdsAt w0 p rs) (den : Int) (pn : Option Addr) (cn : Nat) (nums : List Int) (K : Nat) (hK : nums.length = K) (hx : IntsAt w0 pn nums) (hl : K ≤ 1000000) :
    Calls Try.prog 43 #[sv n p rs.length cap, .agg #[.int .i64 den, .slice pn K cn]] w0 (Post (X := Unit) (fun _ => .int .i64 (checkE n rs den nums)) (fun _ => True) (fun _ => []) w0) := by
  refine calls Try.func43 rfl (n := 66) rfl (by simp) ?_
  refine TC.seq ?_
  refine TC.region ?_
  refine TL.box rfl rfl (by decide) (fun b0 hb0 => ?_)
  refine TL.box rfl rfl (by decide) (fun b1 hb1 => ?_)
  refine TL.pure (PV.assign rfl) rfl (by decide) ?_
  refine TL.nil ?_
  refine TQ.thenC ?_
  refine TC.seq ?_
  refine TC.seq ?_
  refine TC.region ?_
  refine TL.pure (PV.loadBox rfl Tb.agg_24 (by repeat (first | exact List.Mem.head _ | refine List.Mem.tail _ ?_ | refine List.mem_append_right _ ?_)) rfl) rfl (by decide) ?_
  refine TL.call rfl Tb.gofn_24 (fun a w hs => rvalidate_ok w _ _ _ _ (hr.new hs.new)) rfl (by decide) (fun _ _ => ?_)
  refine TL.pure (PV.assign rfl) rfl (by decide) ?_
  refine TL.nil ?_
  refine TQ.thenC ?_
  refine TC.seq ?_
  refine TC.region ?_
  refine TL.pure (PV.move rfl) rfl (by decide) ?_
  refine TL.pure (PV.neq rfl rfl) rfl (by decide) ?_
  refine TL.nil ?_
  refine TQ.thenC ?_
  first | refine TC.condD rfl (fun hne => ?_) (fun hne => ?_) | refine TC.cond rfl (fun hne => ?_) (fun hne => ?_)
  · skip
    refine TC.seq ?_
    refine TC.region ?_
    refine TL.pure (PV.move rfl) rfl (by decide) ?_
    refine TL.pure (PV.assign rfl) rfl (by decide) ?_
    refine TL.nil ?_
    refine TQ.thenC ?_
    refine TC.ret ?_
    refine TQ.thenR ?_
    refine TQ.retE1 rfl rfl ?_
    first | exact ⟨(), by rw [checkE, if_pos hne], trivial, List.nil_sublist _⟩ | (refine ⟨(), ?_, trivial, List.nil_sublist _⟩; rw [checkE, if_neg hne, if_pos (fun hh => by first | omega | (simp_all; done) | (simp_all; omega))]; done) | (refine ⟨(), ?_, trivial, List.nil_sublist _⟩; rw [checkE, if_neg hne, if_pos (fun hh => by have h5 := withinL_at hh.2.2 k (by omega); first | omega | (simp_all; done) | (simp_all; omega))]; done) | exact ⟨(), by rw [checkE_one hv hden (by omega) hw hjn heq], trivial, List.nil_sublist _⟩ | exact ⟨(), by rw [checkE_all hv hden (by omega) hw (fun i hi => hj.2 i (by omega))], trivial, List.nil_sublist _⟩
  · skip
    refine TC.skip ?_
    refine TQ.thenC ?_
    refine TC.seq ?_
    refine TC.seq ?_
    refine TC.region ?_
    refine TL.pure (PV.fieldAddr rfl Tb.fo_51_0) rfl (by decide) ?_
    refine TL.pure (PV.load rfl Tb.one_3 (by repeat (first | exact List.Mem.head _ | refine List.Mem.tail _ ?_ | refine List.mem_append_right _ ?_)) rfl) rfl (by decide) ?_
    refine TL.call rfl Tb.gofn_66 (fun a w hs => within_ok w _ _ _) rfl (by decide) (fun _ _ => ?_)
    refine TL.pure ((by first | exact PV.notD rfl | exact PV.not rfl)) rfl (by decide) ?_
    refine TL.pure (PV.move rfl) rfl (by decide) ?_
    first | refine TL.splitD 19 rfl (fun h1 => ?_) (fun h1 => ?_) | refine TL.split 19 rfl (fun h1 => ?_) (fun h1 => ?_)
    · skip
      refine TL.skip rfl (fun k hk => by cases hk; decide) ?_
      refine TL.skip rfl (fun k hk => by cases hk; decide) ?_
      refine TL.skip rfl (fun k hk => by cases hk; decide) ?_
      refine TL.skip rfl (fun k hk => by cases hk; decide) ?_
      refine TL.skip rfl (fun k hk => by cases hk; decide) ?_
      refine TL.skip rfl (fun k hk => by cases hk; decide) ?_
      refine TL.pure (PV.pickT rfl rfl) rfl (by decide) ?_
      refine TL.nil ?_
      refine TQ.thenC ?_
      refine TC.condT rfl ?_
      refine TC.seq ?_
      refine TC.region ?_
      refine TL.pure (PV.assign rfl) rfl (by decide) ?_
      refine TL.nil ?_
      refine TQ.thenC ?_
      refine TC.ret ?_
      refine TQ.thenR ?_
      refine TQ.retE1 rfl rfl ?_
      first | exact ⟨(), by rw [checkE, if_pos hne], trivial, List.nil_sublist _⟩ | (refine ⟨(), ?_, trivial, List.nil_sublist _⟩; rw [checkE, if_neg hne, if_pos (fun hh => by first | omega | (simp_all; done) | (simp_all; omega))]; done) | (refine ⟨(), ?_, trivial, List.nil_sublist _⟩; rw [checkE, if_neg hne, if_pos (fun hh => by have h5 := withinL_at hh.2.2 k (by omega); first | omega | (simp_all; done) | (simp_all; omega))]; done) | exact ⟨(), by rw [checkE_one hv hden (by omega) hw hjn heq], trivial, List.nil_sublist _⟩ | exact ⟨(), by rw [checkE_all hv hden (by omega) hw (fun i hi => hj.2 i (by omega))], trivial, List.nil_sublist _⟩
    · skip
      refine TL.pure (PV.fieldAddr rfl Tb.fo_51_1) rfl (by decide) ?_
      refine TL.pure (PV.load rfl Tb.one_31 (by repeat (first | exact List.Mem.head _ | refine List.Mem.tail _ ?_ | refine List.mem_append_right _ ?_)) rfl) rfl (by decide) ?_
      refine TL.pure (PV.len rfl Tb.sl_31) rfl (by decide) ?_
      refine TL.pure (PV.fieldAddr rfl Tb.fo_24_0) rfl (by decide) ?_
      refine TL.pure (PV.load rfl Tb.one_3 (by repeat (first | exact List.Mem.head _ | refine List.Mem.tail _ ?_ | refine List.mem_append_right _ ?_)) rfl) rfl (by decide) ?_
      refine TL.pure (PV.neq rfl rfl) rfl (by decide) ?_
      refine TL.pure (PV.pickF rfl rfl) rfl (by decide) ?_
      refine TL.nil ?_
      refine TQ.thenC ?_
      first | refine TC.condD rfl (fun hbad => ?_) (fun hbad => ?_) | refine TC.cond rfl (fun hbad => ?_) (fun hbad => ?_)
      · skip
        refine TC.seq ?_
        refine TC.region ?_
        refine TL.pure (PV.assign rfl) rfl (by decide) ?_
        refine TL.nil ?_
        refine TQ.thenC ?_
        refine TC.ret ?_
        refine TQ.thenR ?_
        refine TQ.retE1 rfl rfl ?_
        first | exact ⟨(), by rw [checkE, if_pos hne], trivial, List.nil_sublist _⟩ | (refine ⟨(), ?_, trivial, List.nil_sublist _⟩; rw [checkE, if_neg hne, if_pos (fun hh => by first | omega | (simp_all; done) | (simp_all; omega))]; done) | (refine ⟨(), ?_, trivial, List.nil_sublist _⟩; rw [checkE, if_neg hne, if_pos (fun hh => by have h5 := withinL_at hh.2.2 k (by omega); first | omega | (simp_all; done) | (simp_all; omega))]; done) | exact ⟨(), by rw [checkE_one hv hden (by omega) hw hjn heq], trivial, List.nil_sublist _⟩ | exact ⟨(), by rw [checkE_all hv hden (by omega) hw (fun i hi => hj.2 i (by omega))], trivial, List.nil_sublist _⟩
      · skip
        refine TC.skip ?_
        refine TQ.thenC ?_
        refine TC.seq ?_
        refine TC.seq ?_
        have hv : Valid n rs := vof hne
        have hp := hv.pts
        have hde : (1 ≤ den ∧ den ≤ 1000000) ∧ (K : Int) = n := by first | omega | (simp_all; done) | (simp_all; omega)
        obtain ⟨hden, hKn⟩ := hde
        refine TC.region ?_
        refine TL.pure (PV.assign rfl) rfl (by decide) ?_
        refine TL.nil ?_
        refine TQ.thenC ?_
        refine TC.block ?_
        -- live and written in the loop, not told: [4]
        refine TC.lit [(2, _), (3, _), (6, _)] (by repeat (first | exact True.intro | refine And.intro rfl ?_)) ?_
        refine TC.loopG [2, 3] (X := Nat) (fun k => k ≤ K ∧ withinL (nums.take k) 1000000000 = true) (fun k => [(6, .int .i64 k)]) (fun k => K - k) 0 ⟨Nat.zero_le _, rfl⟩ (by repeat (first | exact True.intro | refine And.intro rfl ?_)) ?_
        intro k hk
        refine TC.seq ?_
        refine TC.seq ?_
        refine TC.region ?_
        refine TL.pure (PV.move rfl) rfl (by decide) ?_
        refine TL.pure (PV.fieldAddr rfl Tb.fo_51_1) rfl (by decide) ?_
        refine TL.pure (PV.load rfl Tb.one_31 (by repeat (first | exact List.Mem.head _ | refine List.Mem.tail _ ?_ | refine List.mem_append_right _ ?_)) rfl) rfl (by decide) ?_
        refine TL.pure (PV.len rfl Tb.sl_31) rfl (by decide) ?_
        refine TL.pure (PV.lss rfl rfl) rfl (by decide) ?_
        refine TL.nil ?_
        refine TQ.thenC ?_
        first | refine TC.condD rfl (fun hlt => ?_) (fun hlt => ?_) | refine TC.cond rfl (fun hlt => ?_) (fun hlt => ?_)
        · skip
          refine TC.skip ?_
          refine TQ.thenC ?_
          refine TC.seq ?_
          refine TC.block ?_
          refine TC.seq ?_
          obtain ⟨q, hqp, hq⟩ := hx k (by omega)
          refine TC.region ?_
          refine TL.pure (PV.fieldAddr rfl Tb.fo_51_1) rfl (by decide) ?_
          refine TL.pure (PV.load rfl Tb.one_31 (by repeat (first | exact List.Mem.head _ | refine List.Mem.tail _ ?_ | refine List.mem_append_right _ ?_)) rfl) rfl (by decide) ?_
          refine TL.pure (PV.move rfl) rfl (by decide) ?_
          refine TL.pure (PV.indexA rfl hqp rfl Tb.elm_31 rfl (by omega)) rfl (by decide) ?_
          refine TL.pure (PV.loadOld rfl Tb.one_3 hq) rfl (by decide) ?_
          refine TL.call rfl Tb.gofn_66 (fun a w hs => within_ok w _ _ _) rfl (by decide) (fun _ _ => ?_)
          refine TL.pure ((by first | exact PV.notD rfl | exact PV.not rfl)) rfl (by decide) ?_
          refine TL.nil ?_
          refine TQ.thenC ?_
          first | refine TC.condD rfl (fun hwk => ?_) (fun hwk => ?_) | refine TC.cond rfl (fun hwk => ?_) (fun hwk => ?_)
          · skip
            refine TC.seq ?_
            refine TC.region ?_
            refine TL.pure (PV.assign rfl) rfl (by decide) ?_
            refine TL.nil ?_
            refine TQ.thenC ?_
            refine TC.ret ?_
            refine TQ.blkR ?_
            refine TQ.thenR ?_
            refine TQ.thenR ?_
            refine TQ.blkR ?_
            refine TQ.thenR ?_
            refine TQ.retE1 rfl rfl ?_
            first | exact ⟨(), by rw [checkE, if_pos hne], trivial, List.nil_sublist _⟩ | (refine ⟨(), ?_, trivial, List.nil_sublist _⟩; rw [checkE, if_neg hne, if_pos (fun hh => by first | omega | (simp_all; done) | (simp_all; omega))]; done) | (refine ⟨(), ?_, trivial, List.nil_sublist _⟩; rw [checkE, if_neg hne, if_pos (fun hh => by have h5 := withinL_at hh.2.2 k (by omega); first | omega | (simp_all; done) | (simp_all; omega))]; done) | exact ⟨(), by rw [checkE_one hv hden (by omega) hw hjn heq], trivial, List.nil_sublist _⟩ | exact ⟨(), by rw [checkE_all hv hden (by omega) hw (fun i hi => hj.2 i (by omega))], trivial, List.nil_sublist _⟩
          · skip
            refine TC.skip ?_
            refine TQ.blkN ?_
            refine TQ.thenC ?_
            refine TC.region ?_
            refine TL.pure (PV.move rfl) rfl (by decide) ?_
            refine TL.pure (PV.add rfl rfl (by omega)) rfl (by decide) ?_
            refine TL.pure (PV.assign rfl) rfl (by decide) ?_
            refine TL.nil ?_
            refine TQ.thenN ?_
            refine TQ.backK (k + 1) (by repeat (first | exact True.intro | refine And.intro rfl ?_)) (by repeat (first | exact True.intro | refine And.intro rfl ?_)) (by repeat (first | exact List.Sublist.slnil | exact List.nil_sublist _ | exact List.Sublist.refl _ | refine List.Sublist.cons_cons _ ?_ | refine List.Sublist.cons _ ?_ | refine List.Sublist.trans ?_ (List.sublist_append_right _ _))) ⟨by omega, by rw [withinL, List.take_succ_eq_append_getElem (by omega), List.all_append, show (nums.take k).all (fun x => isWithinB x 1000000000) = true from hk.2]; simpa [List.getD, show k < nums.length by omega, isWithinB] using hwk⟩ (by omega)
        · skip
          refine TC.exit ?_
          refine TQ.thenE ?_
          refine TQ.thenE ?_
          refine TQ.blkS ?_
          refine TQ.thenC ?_
          refine TC.seq ?_
          have hw : withinL nums 1000000000 = true := by have h2 := hk.2; rwa [List.take_of_length_le (by omega)] at h2
          refine TC.region ?_
          refine TL.pure (PV.loadBox rfl Tb.agg_24 (by repeat (first | exact List.Mem.head _ | refine List.Mem.tail _ ?_ | refine List.mem_append_right _ ?_)) rfl) rfl (by decide) ?_
          refine TL.call rfl Tb.gofn_36 (fun a w hs => rBest_ok w _ _ _ _ (hr.new hs.new)) rfl (by decide) (fun x hxq => ?_)
          refine TL.pure (PV.move rfl) rfl (by decide) ?_
          refine TL.pure (PV.extract rfl rfl) rfl (by decide) ?_
          refine TL.pure (PV.extract rfl rfl) rfl (by decide) ?_
          refine TL.pure (PV.assign rfl) rfl (by decide) ?_
          refine TL.pure (PV.assign rfl) rfl (by decide) ?_
          refine TL.nil ?_
          refine TQ.thenC ?_
          refine TC.seq ?_
          refine TC.seq ?_
          have hxe : x.2 = hL n.toNat rs := by have h3 := hxq.eq; rwa [if_pos (show validateI n rs = 0 from hv)] at h3
          have hxl : x.2.length = n.toNat := by rw [hxe, hL_len]
          refine TC.region ?_
          refine TL.pure (PV.assign rfl) rfl (by decide) ?_
          refine TL.nil ?_
          refine TQ.thenC ?_
          refine TC.block ?_
          -- live and written in the loop, not told: [4]
          refine TC.lit [(3, _), (7, _), (9, _)] (by repeat (first | exact True.intro | refine And.intro rfl ?_)) ?_
          refine TC.loopG [3, 7] (X := Nat) (fun j => j ≤ K ∧ ∀ i, i < j → nA den nums i = hN n.toNat rs i ∧ nB den nums i = hD n.toNat rs i) (fun j => [(9, .int .i64 j)]) (fun j => K - j) 0 ⟨Nat.zero_le _, fun i hi => by omega⟩ (by repeat (first | exact True.intro | refine And.intro rfl ?_)) ?_
          intro j hj
          refine TC.seq ?_
          refine TC.seq ?_
          refine TC.region ?_
          refine TL.pure (PV.move rfl) rfl (by decide) ?_
          refine TL.pure (PV.fieldAddr rfl Tb.fo_51_1) rfl (by decide) ?_
          refine TL.pure (PV.load rfl Tb.one_31 (by repeat (first | exact List.Mem.head _ | refine List.Mem.tail _ ?_ | refine List.mem_append_right _ ?_)) rfl) rfl (by decide) ?_
          refine TL.pure (PV.len rfl Tb.sl_31) rfl (by decide) ?_
          refine TL.pure (PV.lss rfl rfl) rfl (by decide) ?_
          refine TL.nil ?_
          refine TQ.thenC ?_
          first | refine TC.condD rfl (fun hlt2 => ?_) (fun hlt2 => ?_) | refine TC.cond rfl (fun hlt2 => ?_) (fun hlt2 => ?_)
          · skip
            refine TC.skip ?_
            refine TQ.thenC ?_
            refine TC.seq ?_
            refine TC.block ?_
            refine TC.seq ?_
            refine TC.lit [(3, _), (7, _), (9, _)] (by repeat (first | exact True.intro | refine And.intro rfl ?_)) ?_
            obtain ⟨q, hqp, hq⟩ := hx j (by omega)
            have hjn : j < n.toNat := by omega
            have hgx : x.2.getD j (0, 0) = (hN n.toNat rs j, hD n.toNat rs j) := by rw [hxe, hL_get hjn]
            refine TC.any Tb.mixed rfl rfl ?_
            refine TA.op (OpOK.pure (PV.fieldAddr rfl Tb.fo_51_1) rfl (by decide)) (by decide) ?_
            refine TA.op (OpOK.pure (PV.load rfl Tb.one_31 (by repeat (first | exact List.Mem.head _ | refine List.Mem.tail _ ?_ | refine List.mem_append_right _ ?_)) rfl) rfl (by decide)) (by decide) ?_
            refine TA.op (OpOK.pure (PV.move rfl) rfl (by decide)) (by decide) ?_
            refine TA.op (OpOK.pure (PV.indexA rfl hqp rfl Tb.elm_31 rfl (by omega)) rfl (by decide)) (by decide) ?_
            refine TA.op (OpOK.pure (PV.loadOld rfl Tb.one_3 hq) rfl (by decide)) (by decide) ?_
            refine TA.op (OpOK.pure (PV.fieldAddr rfl Tb.fo_51_0) rfl (by decide)) (by decide) ?_
            refine TA.op (OpOK.pure (PV.load rfl Tb.one_3 (by repeat (first | exact List.Mem.head _ | refine List.Mem.tail _ ?_ | refine List.mem_append_right _ ?_)) rfl) rfl (by decide)) (by decide) ?_
            refine TA.op (OpOK.call rfl Tb.gofn_50 (fun a w hs => ratioN w hden hw j) rfl (by decide)) (by decide) ?_
            refine TA.op (OpOK.pure (PV.move rfl) rfl (by decide)) (by decide) ?_
            refine TA.op (OpOK.pure (PV.move rfl) rfl (by decide)) (by decide) ?_
            refine TA.op (OpOK.pure (PV.indexG rfl rfl hxq.ok Tb.elm_42 rfl (by omega)) rfl (by decide)) (by decide) ?_
            refine TA.op (OpOK.pure (PV.loadAggG (vs := [.int .i64 (hN n.toNat rs j), .int .i64 (hD n.toNat rs j)]) rfl Tb.agg_46 (List.mem_append_left _ (mem_gblk hxq.ok (show 0 < x.2.length by omega))) rfl (by have h4 := goQ_get (x := x) (i := j) (by omega); rw [hgx] at h4; exact h4)) rfl (by decide)) (by decide) ?_
            refine TA.op (OpOK.pure (PV.cmp rfl rfl (eq46n_guard _ _ _ _ _ _) (eq46n _ _ _ _)) rfl (by decide)) (by decide) ?_
            show TQ _ _ _ _ _
            refine TQ.thenC ?_
            first | refine TC.condD rfl (fun heq => ?_) (fun heq => ?_) | refine TC.cond rfl (fun heq => ?_) (fun heq => ?_)
            · skip
              refine TC.seq ?_
              refine TC.region ?_
              refine TL.pure (PV.assign rfl) rfl (by decide) ?_
              refine TL.nil ?_
              refine TQ.thenC ?_
              refine TC.ret ?_
              refine TQ.blkR ?_
              refine TQ.thenR ?_
              refine TQ.thenR ?_
              refine TQ.blkR ?_
              refine TQ.thenR ?_
              refine TQ.retE1 rfl rfl ?_
              first | exact ⟨(), by rw [checkE, if_pos hne], trivial, List.nil_sublist _⟩ | (refine ⟨(), ?_, trivial, List.nil_sublist _⟩; rw [checkE, if_neg hne, if_pos (fun hh => by first | omega | (simp_all; done) | (simp_all; omega))]; done) | (refine ⟨(), ?_, trivial, List.nil_sublist _⟩; rw [checkE, if_neg hne, if_pos (fun hh => by have h5 := withinL_at hh.2.2 k (by omega); first | omega | (simp_all; done) | (simp_all; omega))]; done) | exact ⟨(), by rw [checkE_one hv hden (by omega) hw hjn heq], trivial, List.nil_sublist _⟩ | exact ⟨(), by rw [checkE_all hv hden (by omega) hw (fun i hi => hj.2 i (by omega))], trivial, List.nil_sublist _⟩
            · skip
              refine TC.skip ?_
              refine TQ.blkN ?_
              refine TQ.thenC ?_
              refine TC.region ?_
              refine TL.pure (PV.move rfl) rfl (by decide) ?_
              refine TL.pure (PV.add rfl rfl (by omega)) rfl (by decide) ?_
              refine TL.pure (PV.assign rfl) rfl (by decide) ?_
              refine TL.nil ?_
              refine TQ.thenN ?_
              refine TQ.backK (j + 1) (by repeat (first | exact True.intro | refine And.intro rfl ?_)) (by repeat (first | exact True.intro | refine And.intro rfl ?_)) (by repeat (first | exact List.Sublist.slnil | exact List.nil_sublist _ | exact List.Sublist.refl _ | refine List.Sublist.cons_cons _ ?_ | refine List.Sublist.cons _ ?_ | refine List.Sublist.trans ?_ (List.sublist_append_right _ _))) ⟨by omega, fun i hi => by by_cases h : i = j; · { rw [h]; first | exact heq | exact Decidable.of_not_not heq }; · { exact hj.2 i (by omega) }⟩ (by omega)
          · skip
            refine TC.exit ?_
            refine TQ.thenE ?_
            refine TQ.thenE ?_
            refine TQ.blkS ?_
            refine TQ.thenC ?_
            refine TC.seq ?_
            refine TC.region ?_
            refine TL.pure (PV.assign rfl) rfl (by decide) ?_
            refine TL.nil ?_
            refine TQ.thenC ?_
            refine TC.ret ?_
            refine TQ.retE1 rfl rfl ?_
            first | exact ⟨(), by rw [checkE, if_pos hne], trivial, List.nil_sublist _⟩ | (refine ⟨(), ?_, trivial, List.nil_sublist _⟩; rw [checkE, if_neg hne, if_pos (fun hh => by first | omega | (simp_all; done) | (simp_all; omega))]; done) | (refine ⟨(), ?_, trivial, List.nil_sublist _⟩; rw [checkE, if_neg hne, if_pos (fun hh => by have h5 := withinL_at hh.2.2 k (by omega); first | omega | (simp_all; done) | (simp_all; omega))]; done) | exact ⟨(), by rw [checkE_one hv hden (by omega) hw hjn heq], trivial, List.nil_sublist _⟩ | exact ⟨(), by rw [checkE_all hv hden (by omega) hw (fun i hi => hj.2 i (by omega))], trivial, List.nil_sublist _⟩

end Go.Proofs.Ytmmgcajegokkoaa
