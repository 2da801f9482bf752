/- Best heights as quotients of determinants: the given side's function. -/
import Derived.Test.YtmmgcajegokkoaaZ1
namespace Go.Proofs.Ytmmgcajegokkoaa
open Go.Sx Go.RowKit

def notRoot (xs : List Int) (q : Nat) : Bool := decide (xs.getD q 0 ≠ (q : Int))
def freeK (xs : List Int) (k : Nat) : List Int := ((List.range k).filter (notRoot xs)).map Int.ofNat
theorem freeK_yes {xs : List Int} {k : Nat} (h : xs.getD k 0 ≠ (k : Int)) : freeK xs (k + 1) = freeK xs k ++ [(k : Int)] := by
  have h' : notRoot xs k = true := decide_eq_true h
  simp [freeK, List.range_succ, h']
theorem freeK_no {xs : List Int} {k : Nat} (h : ¬ xs.getD k 0 ≠ (k : Int)) : freeK xs (k + 1) = freeK xs k := by
  have h' : notRoot xs k = false := decide_eq_false h
  simp [freeK, List.range_succ, h']
structure FI (N : Nat) (xs : List Int) (k : Nat) (x : HD × List Int) : Prop where
  le : k ≤ N
  eq : x.2 = freeK xs k
  ok : goI x
theorem FI.zero (N : Nat) (xs : List Int) : FI N xs 0 (none, []) := ⟨Nat.zero_le _, rfl, ⟨rfl, rfl⟩⟩
theorem FI.len {N : Nat} {xs : List Int} {k : Nat} {x : HD × List Int} (h : FI N xs k x) : x.2.length ≤ N := by
  have h1 := filt_len (notRoot xs) k
  have := h.le
  rw [h.eq]; unfold freeK; omega
theorem FI.no {N : Nat} {xs : List Int} {k : Nat} {x : HD × List Int} (h : FI N xs k x) (hk : k < N) (hn : ¬ xs.getD k 0 ≠ (k : Int)) : FI N xs (k + 1) x := ⟨hk, by rw [h.eq, freeK_no hn], h.ok⟩
theorem FI.yes {N : Nat} {xs : List Int} {k : Nat} {x : HD × List Int} {h' : HD} (h : FI N xs k x) (hk : k < N) (hn : xs.getD k 0 ≠ (k : Int)) (ho : goI (h', x.2 ++ [(k : Int)])) : FI N xs (k + 1) (h', x.2 ++ [(k : Int)]) := ⟨hk, by simp only; rw [h.eq, freeK_yes hn], ho⟩
/-- The points that are not the smallest ones of their parts. -/
theorem free_pts (N : Nat) (xs : List Int) : Pts N (freeK xs N) := filt_pts
theorem free_miss {N : Nat} {rs : List Rd} (hv : Valid (N : Int) rs) : Miss N rs (freeK (firstsL N rs) N) := fun p hp => by
  have h1 := root_le hv hp
  have h2 := root_root hv hp
  have h3 : (rootOf N rs p : Int) = (firstsL N rs).getD (rootOf N rs p) 0 := h2
  have h4 : rootOf N rs (rootOf N rs p) = rootOf N rs p := by
    have := root_le hv (p := rootOf N rs p) (by omega)
    omega
  exact ⟨rootOf N rs p, by omega, h4, filt_out (by simp only [notRoot]; rw [decide_eq_false]; exact fun e => e h3.symm)⟩
theorem free_len {N : Nat} {rs : List Rd} (hv : Valid (N : Int) rs) : (freeK (firstsL N rs) N).length ≤ 4 := by
  have hp := hv.pts
  have h0 : (0 : Int) = (firstsL N rs).getD 0 0 := root_zero hv (by omega)
  have hnd : ((List.range N).filter (notRoot (firstsL N rs))).length < (List.range N).length :=
    List.length_filter_lt_length_iff_exists.2 ⟨0, List.mem_range.2 (by omega), by
      have e : notRoot (firstsL (N : Int) rs) 0 = false := decide_eq_false (fun e => e h0.symm)
      simp [e]⟩
  rw [List.length_range] at hnd
  unfold freeK
  rw [List.length_map]
  omega
/-- The right side, and the numbers of the solution. -/
def rtF (rs : List Rd) (pts : List Int) (i : Nat) : Int := bestR rs (pts.getD i 0).toNat
def yF (rs : List Rd) (pts : List Int) (k : Nat) : Int := detF pts.length (repF (lapE rs pts) k (rtF rs pts))
def extK (pts : List Int) (y : Nat → Int) (k p : Nat) : Int := sumN k fun q => if pts.getD q 0 = (p : Int) then y q else 0
def outL (N : Nat) (pts : List Int) (y : Nat → Int) (k : Nat) : List Int := (List.range N).map (extK pts y k)
theorem outL_len (N : Nat) (pts : List Int) (y : Nat → Int) (k : Nat) : (outL N pts y k).length = N := by simp [outL]
theorem outL_zero (N : Nat) (pts : List Int) (y : Nat → Int) : List.replicate N 0 = outL N pts y 0 := by
  apply List.ext_getElem <;> simp [outL, extK, sumN]
theorem outL_set {N : Nat} {pts : List Int} (h : Pts N pts) (y : Nat → Int) {k : Nat} (hk : k < pts.length) : (outL N pts y k).set (pts.getD k 0).toNat (y k) = outL N pts y (k + 1) := by
  have hr := h.rng k hk
  apply List.ext_getElem
  · simp [outL]
  · intro p h1 h2
    have hp : p < N := by simpa [outL] using h2
    simp only [outL, List.getElem_set, List.getElem_map, List.getElem_range]
    by_cases e : (pts.getD k 0).toNat = p
    · rw [if_pos e]
      have h0 : extK pts y k p = 0 := sumN_zero fun q hq => if_neg (fun e2 => by
        have := h.inj q k (by omega) hk (by omega)
        omega)
      show y k = extK pts y k p + (if pts.getD k 0 = (p : Int) then y k else 0)
      rw [h0, if_pos (by omega)]; omega
    · rw [if_neg e]
      show extK pts y k p = extK pts y k p + (if pts.getD k 0 = (p : Int) then y k else 0)
      rw [if_neg (by omega)]; omega
theorem bestR_bn {n : Int} {rs : List Rd} (hv : Valid n rs) (p : Nat) : Bn (bestR rs p) 48000 := by
  have hl := hv.len
  refine (rsum_bn (c := 6000) fun r hr => ?_).mono (by omega)
  have h := reading_spec (List.all_eq_true.1 hv.all r hr)
  have hm := (show Bn r.wt 3 from ⟨by omega, by omega⟩).mul (show Bn r.rise 1000 from h.2.2.2.1)
  unfold Bn at hm
  unfold loadOf Bn
  split <;> split <;> omega
theorem rep_dbound {n : Int} {rs : List Rd} (hv : Valid n rs) (pts : List Int) {K : Nat} (hK : K ≤ 4) (k : Nat) : DSafe K (repF (lapE rs pts) k (rtF rs pts)) ∧ Bn (detF K (repF (lapE rs pts) k (rtF rs pts))) 15925248000 := by
  have h := dbound4 (c := k) (X := 48000) hK (by omega) (by omega) (f := repF (lapE rs pts) k (rtF rs pts)) (fun a b _ _ => by
    unfold repF
    split
    · exact bestR_bn hv _
    · exact lapE_bn hv pts a b)
  exact ⟨h.1, h.2.mono (by omega)⟩
/-- The solution by determinants is the solution. -/
theorem free_best {N : Nat} {rs : List Rd} (hv : Valid (N : Int) rs) {p : Nat} (hp : p < N) :
    ext (freeK (firstsL N rs) N) (yF rs (freeK (firstsL N rs) N)) p * denO N rs = bestV N rs p * detF (freeK (firstsL N rs) N).length (lapE rs (freeK (firstsL N rs) N)) := by
  have hP := free_pts N (firstsL N rs)
  have hin : ∀ q, q < N → ¬ Root N rs q → ∃ k, k < (freeK (firstsL N rs) N).length ∧ (freeK (firstsL N rs) N).getD k 0 = (q : Int) := fun q hq hR => by
    have hmem : (q : Int) ∈ freeK (firstsL N rs) N := List.mem_map.2 ⟨q, List.mem_filter.2 ⟨List.mem_range.2 hq, decide_eq_true (fun e => hR e.symm)⟩, rfl⟩
    obtain ⟨k, hk, hkq⟩ := List.mem_iff_getElem.1 hmem
    exact ⟨k, hk, by simp [List.getD, hk, hkq]⟩
  have := sol_uniq hv (x := fun q => denO N rs * ext (freeK (firstsL N rs) N) (yF rs (freeK (firstsL N rs) N)) q) (y := fun q => detF (freeK (firstsL N rs) N).length (lapE rs (freeK (firstsL N rs) N)) * bestV N rs q)
    (fun q hq hR => by
      have e : notRoot (firstsL (N : Int) rs) q = false := decide_eq_false (fun e => e (show (q : Int) = _ from hR).symm)
      have h9 : ext (freeK (firstsL N rs) N) (yF rs (freeK (firstsL N rs) N)) q = 0 := ext_out _ (filt_out e)
      rw [h9]; simp)
    (fun q hq hR => by rw [best_root hv hq hR]; simp)
    (fun q hq hR => by
      obtain ⟨k, hk, hkq⟩ := hin q hq hR
      have h1 := lap_ext hv hP (yF rs (freeK (firstsL N rs) N)) hk
      have h2 := cramer (free_len hv) (lapE rs (freeK (firstsL N rs) N)) (rtF rs (freeK (firstsL N rs) N)) hk
      rw [hkq, Int.toNat_natCast] at h1
      have h3 : lapl rs (ext (freeK (firstsL N rs) N) (yF rs (freeK (firstsL N rs) N))) q = detF (freeK (firstsL N rs) N).length (lapE rs (freeK (firstsL N rs) N)) * bestR rs q := by
        rw [← h1]
        refine Eq.trans h2 ?_
        unfold rtF
        rw [hkq, Int.toNat_natCast]
      rw [lapl_mul, lapl_mul, h3, best_eq hv hq]; grind) hp
  grind
structure RtI (rs : List Rd) (pts : List Int) (i : Nat) (z : HD × List Int) : Prop where
  le : i ≤ pts.length
  eq : z.2 = (List.range i).map (rtF rs pts)
  ok : goI z
theorem RtI.zero (rs : List Rd) (pts : List Int) : RtI rs pts 0 (none, []) := ⟨Nat.zero_le _, rfl, ⟨rfl, rfl⟩⟩
theorem RtI.len {rs : List Rd} {pts : List Int} {i : Nat} {z : HD × List Int} (h : RtI rs pts i z) : z.2.length = i := by rw [h.eq]; simp
theorem RtI.step {rs : List Rd} {pts : List Int} {i : Nat} {z : HD × List Int} {h' : HD} {v : Int} (h : RtI rs pts i z) (hi : i < pts.length) (hv : v = rtF rs pts i) (ho : goI (h', z.2 ++ [v])) : RtI rs pts (i + 1) (h', z.2 ++ [v]) :=
  ⟨hi, by simp only; rw [h.eq, List.range_succ, List.map_append, hv]; rfl, ho⟩
theorem RtI.get {rs : List Rd} {pts : List Int} {z : HD × List Int} (h : RtI rs pts pts.length z) {i : Nat} (hi : i < pts.length) : z.2.getD i 0 = rtF rs pts i := by rw [h.eq]; simp [List.getD, hi]
def rS (rs : List Rd) (p : Int) (m : Nat) : Int := sumN m fun n => loadOf Rd.rise p.toNat (rs.getD n default)
theorem rS_bn {n : Int} {rs : List Rd} (hv : Valid n rs) (p : Int) : ∀ m, m ≤ rs.length → Bn (rS rs p m) (6000 * m)
  | 0, _ => by simp [rS, sumN, Bn]
  | m + 1, h => by
    have ih := rS_bn hv p m (by omega)
    have h1 := hv.at (k := m) (by omega)
    have hm := (show Bn (rs.getD m default).wt 3 from ⟨by omega, by omega⟩).mul (show Bn (rs.getD m default).rise 1000 from h1.2.2.2.1)
    have h2 : Bn (loadOf Rd.rise p.toNat (rs.getD m default)) 6000 := by
      unfold Bn at hm
      unfold loadOf Bn
      split <;> split <;> omega
    exact (ih.add h2).mono (by omega)
structure CI (rs : List Rd) (pts : List Int) (k i : Nat) (c : HD × List (HD × List Int)) : Prop where
  le : i ≤ pts.length
  eq : c.2.map (·.2) = (List.range i).map fun a => ((List.range pts.length).map (lapE rs pts a)).set k (rtF rs pts a)
  ok : goP c
  all : ∀ y ∈ c.2, goI y
theorem CI.zero (rs : List Rd) (pts : List Int) (k : Nat) : CI rs pts k 0 (none, []) := ⟨Nat.zero_le _, rfl, ⟨rfl, rfl⟩, by simp⟩
theorem CI.len {rs : List Rd} {pts : List Int} {k i : Nat} {c : HD × List (HD × List Int)} (h : CI rs pts k i c) : c.2.length = i := by
  have := congrArg List.length h.eq
  simpa using this
theorem CI.step {rs : List Rd} {pts : List Int} {k i : Nat} {c : HD × List (HD × List Int)} {h' h2 : HD} {ys : List Int} (h : CI rs pts k i c) (hi : i < pts.length) (hy : ys = ((List.range pts.length).map (lapE rs pts i)).set k (rtF rs pts i)) (hyo : goI (h2, ys)) (ho : goP (h', c.2 ++ [(h2, ys)])) :
    CI rs pts k (i + 1) (h', c.2 ++ [(h2, ys)]) := ⟨hi, by
      simp only [List.map_append, List.map_cons, List.map_nil]
      rw [h.eq, List.range_succ, List.map_append, hy]; rfl, ho, fun z hz => by
      rcases List.mem_append.1 hz with hz | hz
      · exact h.all z hz
      · rw [List.mem_singleton.1 hz]; exact hyo⟩
theorem chM_sh (rs : List Rd) (pts : List Int) (k K : Nat) : Sh ((List.range K).map fun a => ((List.range K).map (lapE rs pts a)).set k (rtF rs pts a)) K K := by
  refine ⟨by simp, fun i hi => ?_⟩
  simp [List.getD, hi]
theorem chM_get {rs : List Rd} {pts : List Int} {k K a b : Nat} (ha : a < K) (hb : b < K) : getM ((List.range K).map fun a => ((List.range K).map (lapE rs pts a)).set k (rtF rs pts a)) a b = repF (lapE rs pts) k (rtF rs pts) a b := by
  unfold getM repF
  have e : ((List.range K).map fun a => ((List.range K).map (lapE rs pts a)).set k (rtF rs pts a)).getD a [] = ((List.range K).map (lapE rs pts a)).set k (rtF rs pts a) := by simp [List.getD, ha]
  rw [e, getD_set]
  by_cases h : b = k
  · subst h; simp [hb]
  · simp [h, show ¬ k = b from fun e => h e.symm, List.getD, hb]
theorem detCh {n : Int} {rs : List Rd} (hv : Valid n rs) {pts : List Int} (hK : pts.length ≤ 4) {k : Nat} {w w0 : World} {G : Heap} {x : HD × List (HD × List Int)} (hn : New w0 w G) (hm : ∀ y ∈ gbP x, y ∈ G) (hb : ∀ y ∈ bl x.2, y ∈ G) (hx : CI rs pts k pts.length x) :
    Calls Try.prog 101 #[gvP x] w (Post (X := Unit) (fun _ => .int .i64 (yF rs pts k)) (fun _ => True) (fun _ => []) w) := by
  have hr := RowsAt.g hn hm hb hx.ok hx.all
  rw [hx.eq] at hr
  have hg : ∀ a b, a < pts.length → b < pts.length → repF (lapE rs pts) k (rtF rs pts) a b = getM ((List.range pts.length).map fun a => ((List.range pts.length).map (lapE rs pts a)).set k (rtF rs pts a)) a b := fun a b ha hb => (chM_get ha hb).symm
  have h := det_ok pts.length (by omega) w (gp x.1) (gc x.1) _ hr (chM_sh rs pts k pts.length) ((rep_dbound hv pts hK k).1.congr hg)
  rw [← detF_congr pts.length hg] at h
  have hl : pts.length = x.2.length := hx.len.symm
  have e : gvP x = .slice (gp x.1) pts.length (gc x.1) := by
    rw [show gvP x = .slice (gp x.1) x.2.length (gc x.1) from gval_eq hx.ok, ← hl]
  rw [e]
  exact h
/-- A row of a table that a call has made. -/
abbrev rowOf (y : HD × List (HD × List Int)) (i : Nat) : HD × List Int := y.2.getD i (none, [])
theorem row_mem {y : HD × List (HD × List Int)} {i : Nat} (hi : i < y.2.length) : rowOf y i ∈ y.2 := by simp [rowOf, List.getD, hi]
theorem gb_bl {ps : List (HD × List Int)} {x : HD × List Int} (h : x ∈ ps) : ∀ v ∈ gbI x, v ∈ bl ps := fun v hv => by
  unfold bl
  rw [List.mem_flatMap]
  exact ⟨x, List.mem_reverse.2 h, hv⟩
theorem row_cell {y : HD × List (HD × List Int)} {i K : Nat} (hi : i < y.2.length) (ha : ∀ x ∈ y.2, goI x) (hl : (rowOf y i).2.length = K) :
    (y.2.map gvI ++ (y.1.map (·.2.2)).getD []).toArray[i * 1]? = some (.slice (gp (rowOf y i).1) K (gc (rowOf y i).1)) := by
  have e : gvI (rowOf y i) = .slice (gp (rowOf y i).1) (rowOf y i).2.length (gc (rowOf y i).1) := gval_eq (ha _ (row_mem hi))
  rw [hl] at e
  rw [← e, List.getElem?_toArray, Nat.mul_one, List.getElem?_append_left (by simpa using hi)]
  simp [rowOf, List.getD, hi]
theorem LI.row {rs : List Rd} {pts : List Int} {K i : Nat} {y : HD × List (HD × List Int)} (h : LI rs pts K K y) (hi : i < K) : (rowOf y i).2 = (List.range K).map (lapE rs pts i) := by
  have h1 : (y.2.map (·.2)).getD i [] = (List.range K).map (lapE rs pts i) := by rw [h.eq]; simp [List.getD, hi]
  have hl : i < y.2.length := by rw [h.len]; exact hi
  rw [← h1]
  simp [rowOf, List.getD, hl]


set_option maxRecDepth 100000 in
set_option maxHeartbeats 1000000 in
theorem free_ok (w0 : World) (n : Int) (p : Option Addr) (cap : Nat) (rs : List Rd) (hr : RdsAt w0 p rs) (hv : Valid n rs) :
    Calls Try.prog 99 #[sv n p rs.length cap] w0 (Post (X := HD × List Int) (fun x => gvI x) (FI n.toNat (firstsL n rs) n.toNat) (fun x => gbI x) w0) := by
  have hp := hv.pts
  have hfl := firstsL_len n rs
  refine calls Try.func99 rfl (n := 25) rfl (by simp) ?_
  refine TC.seq ?_
  refine TC.region ?_
  refine TL.box rfl rfl (by decide) (fun b0 hb0 => ?_)
  refine TL.pure (PV.assign rfl) rfl (by decide) ?_
  refine TL.nil ?_
  refine TQ.thenC ?_
  refine TC.seq ?_
  refine TC.region ?_
  refine TL.pure (PV.loadBox rfl Tb.agg_24 (by repeat (first | exact List.Mem.head _ | refine List.Mem.tail _ ?_ | refine List.mem_append_right _ ?_)) rfl) rfl (by decide) ?_
  refine TL.call rfl Tb.gofn_62 (fun a w hs => whole_ok w _ _ _ _ (hr.new hs.new) hv) rfl (by decide) (fun bF _ => ?_)
  refine TL.pure (PV.assign rfl) rfl (by decide) ?_
  refine TL.nil ?_
  refine TQ.thenC ?_
  refine TC.seq ?_
  refine TC.region ?_
  refine TL.pure (PV.assign rfl) rfl (by decide) ?_
  refine TL.nil ?_
  refine TQ.thenC ?_
  refine TC.seq ?_
  refine TC.seq ?_
  refine TC.region ?_
  refine TL.pure (PV.assign rfl) rfl (by decide) ?_
  refine TL.nil ?_
  refine TQ.thenC ?_
  refine TC.block ?_
  refine TC.loopK [1, 2, 3] (X := Nat × HD × List Int) (fun x => FI n.toNat (firstsL n rs) x.1 x.2) (fun x => [(5, .int .i64 x.1), (4, gvI x.2)]) (fun x => gbI x.2 ++ [arrI bF (firstsL n rs), (b0, .cells #[.int .i64 n, .slice p rs.length cap] 24 (0, 0))]) (fun x => n.toNat - x.1) (0, none, []) (FI.zero _ _) (by repeat (first | exact True.intro | refine And.intro rfl ?_)) (by repeat (first | exact List.Sublist.slnil | exact List.nil_sublist _ | exact List.Sublist.refl _ | refine List.Sublist.cons_cons _ ?_ | refine List.Sublist.cons _ ?_ | refine List.Sublist.trans ?_ (List.sublist_append_right _ _))) ?_
  intro x hx
  have hxle := hx.le
  refine TC.seq ?_
  refine TC.seq ?_
  refine TC.region ?_
  refine TL.pure (PV.move rfl) rfl (by decide) ?_
  refine TL.pure (PV.fieldAddr rfl Tb.fo_24_0) rfl (by decide) ?_
  refine TL.pure (PV.load rfl Tb.one_3 (by repeat (first | exact List.Mem.head _ | refine List.Mem.tail _ ?_ | refine List.mem_append_right _ ?_)) rfl) rfl (by decide) ?_
  refine TL.pure (PV.lss rfl rfl) rfl (by decide) ?_
  refine TL.nil ?_
  refine TQ.thenC ?_
  first | refine TC.condD rfl (fun hlt => ?_) (fun hlt => ?_) | refine TC.cond rfl (fun hlt => ?_) (fun hlt => ?_)
  · skip
    refine TC.skip ?_
    refine TQ.thenC ?_
    refine TC.seq ?_
    refine TC.block ?_
    refine TC.seq ?_
    refine TC.region ?_
    refine TL.pure (PV.move rfl) rfl (by decide) ?_
    refine TL.pure (PV.move rfl) rfl (by decide) ?_
    refine TL.pure (PV.index1 rfl rfl Tb.elm_31 rfl (by omega)) rfl (by decide) ?_
    refine TL.pure (PV.loadI rfl Tb.one_3 (by repeat (first | exact List.Mem.head _ | refine List.Mem.tail _ ?_ | refine List.mem_append_right _ ?_)) (by omega)) rfl (by decide) ?_
    refine TL.pure (PV.move rfl) rfl (by decide) ?_
    refine TL.pure (PV.neq rfl rfl) rfl (by decide) ?_
    refine TL.nil ?_
    refine TQ.thenC ?_
    first | refine TC.condD rfl (fun hne => ?_) (fun hne => ?_) | refine TC.cond rfl (fun hne => ?_) (fun hne => ?_)
    · skip
      refine TC.region ?_
      refine TL.pure (PV.move rfl) rfl (by decide) ?_
      refine TL.pure (PV.move rfl) rfl (by decide) ?_
      refine TL.buildSlice rfl Tb.sl_31 Tb.zi_3 (by decide) (fill_i _) (by decide) rfl (by decide) (fun bI hbI => ?_)
      refine TL.appendI rfl rfl (by repeat (first | exact List.Mem.head _ | refine List.Mem.tail _ ?_ | refine List.mem_append_right _ ?_)) hx.ok (by repeat (first | exact TakeH.here _ _ _ _ | apply TakeH.tail | apply TakeH.app)) (by have := hx.len; omega) rfl (by decide) (fun hI_ hI => ?_)
      refine TL.pure (PV.assign rfl) rfl (by decide) ?_
      refine TL.nil ?_
      refine TQ.blkN ?_
      refine TQ.thenC ?_
      refine TC.region ?_
      refine TL.pure (PV.move rfl) rfl (by decide) ?_
      refine TL.pure (PV.add rfl rfl (by omega)) rfl (by decide) ?_
      refine TL.pure (PV.assign rfl) rfl (by decide) ?_
      refine TL.nil ?_
      refine TQ.thenN ?_
      refine TQ.backK (x.1 + 1, _) (by repeat (first | exact True.intro | refine And.intro rfl ?_)) (by repeat (first | exact True.intro | refine And.intro rfl ?_)) (by first | exact List.Sublist.refl _ | exact List.Sublist.append_left (List.Sublist.cons _ (List.Sublist.refl _)) _) (by first | exact hx.no (by omega) hne | exact hx.yes (by omega) hne hI) (by simp only; omega)
    · skip
      refine TC.skip ?_
      refine TQ.blkN ?_
      refine TQ.thenC ?_
      refine TC.region ?_
      refine TL.pure (PV.move rfl) rfl (by decide) ?_
      refine TL.pure (PV.add rfl rfl (by omega)) rfl (by decide) ?_
      refine TL.pure (PV.assign rfl) rfl (by decide) ?_
      refine TL.nil ?_
      refine TQ.thenN ?_
      refine TQ.backK (x.1 + 1, _) (by repeat (first | exact True.intro | refine And.intro rfl ?_)) (by repeat (first | exact True.intro | refine And.intro rfl ?_)) (by first | exact List.Sublist.refl _ | exact List.Sublist.append_left (List.Sublist.cons _ (List.Sublist.refl _)) _) (by first | exact hx.no (by omega) hne | exact hx.yes (by omega) hne hI) (by simp only; omega)
  · skip
    refine TC.exit ?_
    refine TQ.thenE ?_
    refine TQ.thenE ?_
    refine TQ.blkS ?_
    refine TQ.thenC ?_
    refine TC.seq ?_
    refine TC.region ?_
    refine TL.pure (PV.move rfl) rfl (by decide) ?_
    refine TL.pure (PV.assign rfl) rfl (by decide) ?_
    refine TL.nil ?_
    refine TQ.thenC ?_
    refine TC.ret ?_
    refine TQ.retE1 rfl rfl ?_
    exact ⟨x.2, rfl, by rw [show x.1 = n.toNat by omega] at hx; exact hx, List.sublist_append_left _ _⟩

end Go.Proofs.Ytmmgcajegokkoaa
