/- All passes that a bog allows: contract. -/
import Derived.Test.YtfgjojoipbbacaaQPF
import Derived.Test.YtfgjojoipbbacaaQPC
import Derived.Test.YtfgjojoipbbacaaQCD
import Derived.Test.YtfgjojoipbbacaaQDW
set_option linter.unusedVariables false
set_option linter.unusedSimpArgs false
namespace Go.Proofs.Ytfgjojoipbbacaa
open Go.Sx Go.RowKit


theorem fill_ps (a b c : Int) : Instr.fill ([(0, 1), (1, 1), (2, 1), (3, 1)][·]?) #[(Value.int .i64 0), (Value.int .i64 0), (Value.int .i64 0), (Value.int .i64 0)] [(0, Value.int .i64 a), (1, Value.int .i64 b), (2, Value.int .i64 c)] = some #[.int .i64 a, .int .i64 b, .int .i64 c, .int .i64 0] := by kernel_rfl
theorem fill_pss (a b c d : Int) : Instr.fill (fun i => some (i * 4, 4)) ((Array.range (1 * 4)).map ((Value.agg #[(.int .i64 0), (.int .i64 0), (.int .i64 0), (.int .i64 0)]).cells[· % (Value.agg #[(.int .i64 0), (.int .i64 0), (.int .i64 0), (.int .i64 0)]).cells.size]!)) [(0, .agg #[.int .i64 a, .int .i64 b, .int .i64 c, .int .i64 d])] = some #[.int .i64 a, .int .i64 b, .int .i64 c, .int .i64 d] := by kernel_rfl
theorem near_get {ys : List Int} {s : List Value} {j : Nat} (hj : j < ys.length) : (ys.map (Value.int .i64) ++ s).toArray[j]? = some (.int .i64 (ys.getD j 0)) := by
  simp [List.getElem?_append_left, hj, List.getD]
def pasC (ls : List (List Int)) (c r : Nat) : List Ps := (nearL ls c).map fun t => ⟨(c : Nat), ((r + 1 : Nat) : Int), t, 0⟩
def pasB (ls : List (List Int)) (c k : Nat) : List Ps := (List.range k).flatMap fun r => pasC ls c r
def pasA (ls : List (List Int)) (k : Nat) : List Ps := (List.range k).flatMap fun c => pasB ls c (dep ls - 1)
def curP (ls : List (List Int)) (c r i : Nat) : List Ps := pasA ls c ++ (pasB ls c r ++ (pasC ls c r).take i)
theorem pasC_len (ls : List (List Int)) (c r : Nat) : (pasC ls c r).length = (nearL ls c).length := List.length_map _
theorem pasB_next (ls : List (List Int)) (c k : Nat) : pasB ls c (k + 1) = pasB ls c k ++ pasC ls c k := by simp [pasB, List.range_succ]
theorem pasA_next (ls : List (List Int)) (k : Nat) : pasA ls (k + 1) = pasA ls k ++ pasB ls k (dep ls - 1) := by simp [pasA, List.range_succ]
theorem cur_next {ls : List (List Int)} {c r i : Nat} (hi : i < (nearL ls c).length) : curP ls c r (i + 1) = curP ls c r i ++ [⟨(c : Nat), ((r + 1 : Nat) : Int), (nearL ls c).getD i 0, 0⟩] := by
  unfold curP
  rw [List.take_succ_eq_append_getElem (by rw [pasC_len]; exact hi)]
  simp [pasC, List.getD, hi]
theorem cur_row {ls : List (List Int)} {c r i : Nat} (hi : i = (nearL ls c).length) : curP ls c r i = curP ls c (r + 1) 0 := by
  unfold curP
  rw [hi, ← pasC_len ls c r, List.take_length, List.take_zero, List.append_nil, pasB_next]
theorem cur_col {ls : List (List Int)} {c r : Nat} (hr : r = dep ls - 1) : curP ls c r 0 = curP ls (c + 1) 0 0 := by
  unfold curP
  rw [hr, List.take_zero, List.take_zero, List.append_nil, List.append_nil, pasA_next]
  simp [pasB]
theorem pasB_len (ls : List (List Int)) (c : Nat) : ∀ k, (pasB ls c k).length ≤ 3 * k
  | 0 => by simp [pasB]
  | k + 1 => by
    have ih := pasB_len ls c k
    have := nearL_len ls c
    rw [pasB_next, List.length_append, pasC_len]; omega
theorem pasA_len {ls : List (List Int)} (hd : dep ls ≤ 4) : ∀ k, (pasA ls k).length ≤ 9 * k
  | 0 => by simp [pasA]
  | k + 1 => by
    have ih := pasA_len hd k
    have := pasB_len ls k (dep ls - 1)
    rw [pasA_next, List.length_append]; omega
theorem cur_len {ls : List (List Int)} (hv : VB ls) {c r i : Nat} (hc : c ≤ 6) (hr : r ≤ 4) : (curP ls c r i).length ≤ 100 := by
  have h1 := pasA_len hv.d.2 c
  have h2 := pasB_len ls c r
  have h3 := pasC_len ls c r
  have h4 := nearL_len ls c
  unfold curP
  rw [List.length_append, List.length_append, List.length_take]
  omega
def allP (ls : List (List Int)) : List Ps := pasA ls ls.length
theorem cur_all (ls : List (List Int)) : curP ls ls.length 0 0 = allP ls := by unfold curP allP; simp [pasB]
theorem mem_near {ls : List (List Int)} (h1 : 1 ≤ ls.length) {c : Nat} {t : Int} : t ∈ nearL ls c ↔ (0 ≤ t ∧ t < ls.length) ∧ (c : Int) - 1 ≤ t ∧ t ≤ (c : Int) + 1 := by
  unfold nearL nrB wiB
  simp only [List.mem_filter, List.mem_cons, List.not_mem_nil, or_false, decide_eq_true_iff]
  omega
theorem mem_allP {ls : List (List Int)} (hv : VB ls) {q : Ps} : q ∈ allP ls ↔ psB ls q = true ∧ q.a = 0 := by
  have hn := hv.n
  have hd := hv.d
  unfold allP pasA pasB pasC psB
  simp only [List.mem_flatMap, List.mem_range, List.mem_map, decide_eq_true_iff]
  constructor
  · rintro ⟨c, hc, r, hr, t, ht, rfl⟩
    have h9 := (mem_near hn.1).1 ht
    exact ⟨⟨⟨Int.natCast_nonneg _, by show (c : Int) < _; omega⟩, ⟨by show (1 : Int) ≤ ((r + 1 : Nat) : Int); omega, by show ((r + 1 : Nat) : Int) < _; omega⟩, h9.1, h9.2.1, h9.2.2⟩, rfl⟩
  · rintro ⟨h, ha⟩
    refine ⟨q.c.toNat, by omega, (q.h - 1).toNat, by omega, q.t, (mem_near hn.1).2 (by omega), ?_⟩
    obtain ⟨qc, qh, qt, qa⟩ := q
    simp only at h ha ⊢
    subst ha
    congr 1 <;> omega
theorem allP_len {ls : List (List Int)} (hv : VB ls) : (allP ls).length ≤ 60 := by
  have := pasA_len hv.d.2 ls.length
  have := hv.n
  unfold allP; omega
theorem allP_full {ls : List (List Int)} (hv : VB ls) : Full ls (allP ls) := fun q hq => ⟨⟨q.c, q.h, q.t, 0⟩, (mem_allP hv).2 ⟨hq, rfl⟩, rfl, rfl, rfl⟩
theorem eff_zero : ∀ {ps : List Ps}, (∀ q ∈ ps, q.a = 0) → ∀ c j, eff ps c j = 0
  | [], _, _, _ => rfl
  | q :: l, h, c, j => by
    have h0 := h q (.head _)
    simp only [eff, ef1, h0, eff_zero (fun p hp => h p (.tail _ hp)) c j]
    split <;> split <;> rfl
theorem PInv.start {ls : List (List Int)} (hv : VB ls) : PInv ls (allP ls) ls :=
  ⟨fun q hq => ((mem_allP hv).1 hq).1, fun q hq => by have := ((mem_allP hv).1 hq).2; omega, rfl, fun k hk => hv.c k hk, fun c j => by rw [eff_zero fun q hq => ((mem_allP hv).1 hq).2]; omega, Int.le_refl _⟩


set_option maxRecDepth 100000 in
set_option maxHeartbeats 2000000 in
theorem allPasses_ok (w0 : World) (p : Option Addr) (cap : Nat) (ls : List (List Int)) (hr : LsAt w0 p ls) (hv : VB ls) :
    Calls Try.prog 97 #[bv p ls.length cap] w0 (Post (X := HD) (fun h => gval h (allP ls).length) (fun h => goR rP h (allP ls)) (fun h => gbR rP 90 h (allP ls)) w0) := by
  have hn9 := hv.n
  have hd9 := hv.d
  refine calls Try.func97 rfl (n := 38) rfl (by simp) ?_
  refine TC.seq ?_
  refine TC.region ?_
  refine TL.box rfl rfl (by decide) (fun b0 hb0 => ?_)
  refine TL.pure (PV.assign rfl) rfl (by decide) ?_
  refine TL.nil ?_
  refine TQ.thenC ?_
  refine TC.seq ?_
  refine TC.region ?_
  refine TL.pure (PV.assign rfl) rfl (by decide) ?_
  refine TL.nil ?_
  refine TQ.thenC ?_
  refine TC.seq ?_
  refine TC.seq ?_
  refine TC.region ?_
  refine TL.pure (PV.fieldAddr rfl Tb.fo_24_0) rfl (by decide) ?_
  refine TL.pure (PV.load rfl Tb.one_22 (by repeat (first | exact List.Mem.head _ | refine List.Mem.tail _ ?_ | refine List.mem_append_right _ ?_)) rfl) rfl (by decide) ?_
  refine TL.pure (PV.len rfl Tb.sl_22) rfl (by decide) ?_
  refine TL.pure (PV.move rfl) rfl (by decide) ?_
  refine TL.nil ?_
  refine TQ.thenC ?_
  refine TC.block ?_
  refine TC.loopK [1, 2, 10] (X := Nat × HD) (fun x => x.1 ≤ ls.length ∧ goR rP x.2 (curP ls x.1 0 0)) (fun x => [(3, gval x.2 (curP ls x.1 0 0).length), (11, .int .i64 (x.1 : Nat))]) (fun x => gbR rP 90 x.2 (curP ls x.1 0 0) ++ [(b0, Obj.cells #[.slice p ls.length cap] 24 (0, 0))]) (fun x => ls.length - x.1) (0, none) ⟨Nat.zero_le _, rfl, rfl⟩ (by repeat (first | exact True.intro | refine And.intro rfl ?_)) (by repeat (first | exact List.Sublist.slnil | exact List.nil_sublist _ | exact List.Sublist.refl _ | exact List.sublist_append_left _ _ | refine List.Sublist.cons_cons _ ?_ | refine (List.append_sublist_append_left _).2 ?_ | refine List.Sublist.cons _ ?_ | refine List.Sublist.trans ?_ (List.sublist_append_right _ _))) ?_
  intro x hx
  have hx1 := hx.1
  refine TC.seq ?_
  refine TC.region ?_
  refine TL.pure (PV.lss rfl rfl) rfl (by decide) ?_
  refine TL.nil ?_
  refine TQ.thenC ?_
  refine TC.seq ?_
  first | refine TC.condD rfl (fun hlt => ?_) (fun hlt => ?_) | refine TC.cond rfl (fun hlt => ?_) (fun hlt => ?_)
  · skip
    refine TC.skip ?_
    refine TQ.thenC ?_
    refine TC.seq ?_
    refine TC.block ?_
    refine TC.seq ?_
    refine TC.region ?_
    refine TL.pure (PV.move rfl) rfl (by decide) ?_
    refine TL.pure (PV.assign rfl) rfl (by decide) ?_
    refine TL.nil ?_
    refine TQ.thenC ?_
    refine TC.seq ?_
    refine TC.region ?_
    refine TL.pure (PV.assign rfl) rfl (by decide) ?_
    refine TL.nil ?_
    refine TQ.thenC ?_
    refine TC.block ?_
    refine TC.loopK [1, 2, 4, 10, 11] (X := Nat × HD) (fun z => z.1 ≤ dep ls - 1 ∧ goR rP z.2 (curP ls x.1 z.1 0)) (fun z => [(3, gval z.2 (curP ls x.1 z.1 0).length), (5, .int .i64 ((z.1 + 1 : Nat) : Int))]) (fun z => gbR rP 90 z.2 (curP ls x.1 z.1 0) ++ [(b0, Obj.cells #[.slice p ls.length cap] 24 (0, 0))]) (fun z => dep ls - 1 - z.1) (0, x.2) ⟨Nat.zero_le _, hx.2⟩ (by repeat (first | exact True.intro | refine And.intro rfl ?_)) (by repeat (first | exact List.Sublist.slnil | exact List.nil_sublist _ | exact List.Sublist.refl _ | exact List.sublist_append_left _ _ | refine List.Sublist.cons_cons _ ?_ | refine (List.append_sublist_append_left _).2 ?_ | refine List.Sublist.cons _ ?_ | refine List.Sublist.trans ?_ (List.sublist_append_right _ _))) ?_
    intro z hz
    have hz1 := hz.1
    refine TC.seq ?_
    refine TC.seq ?_
    refine TC.region ?_
    refine TL.pure (PV.move rfl) rfl (by decide) ?_
    refine TL.pure (PV.loadBox rfl Tb.agg_24 (by repeat (first | exact List.Mem.head _ | refine List.Mem.tail _ ?_ | refine List.mem_append_right _ ?_)) rfl) rfl (by decide) ?_
    refine TL.call rfl Tb.gofn_62 (fun a w hs => depth_ok w _ _ _ (hr.new hs.new) (by omega)) rfl (by decide) (fun _ _ => ?_)
    refine TL.pure (PV.lss rfl rfl) rfl (by decide) ?_
    refine TL.nil ?_
    refine TQ.thenC ?_
    first | refine TC.condD rfl (fun hlt2 => ?_) (fun hlt2 => ?_) | refine TC.cond rfl (fun hlt2 => ?_) (fun hlt2 => ?_)
    · skip
      refine TC.skip ?_
      refine TQ.thenC ?_
      refine TC.seq ?_
      refine TC.block ?_
      refine TC.seq ?_
      refine TC.region ?_
      refine TL.pure (PV.loadBox rfl Tb.agg_24 (by repeat (first | exact List.Mem.head _ | refine List.Mem.tail _ ?_ | refine List.mem_append_right _ ?_)) rfl) rfl (by decide) ?_
      refine TL.pure (PV.move rfl) rfl (by decide) ?_
      refine TL.call rfl Tb.gofn_104 (fun a w hs => near_ok w _ _ _ (hr.new hs.new) hn9 x.1 (by omega)) rfl (by decide) (fun xn _ => ?_)
      refine TL.pure (PV.len rfl Tb.sl_25) rfl (by decide) ?_
      refine TL.pure (PV.move rfl) rfl (by decide) ?_
      refine TL.nil ?_
      refine TQ.thenC ?_
      refine TC.block ?_
      refine TC.loopK [1, 2, 4, 5, 10, 11, 22, 23] (X := Nat × HD) (fun u => u.1 ≤ (nearL ls x.1).length ∧ goR rP u.2 (curP ls x.1 z.1 u.1)) (fun u => [(3, gval u.2 (curP ls x.1 z.1 u.1).length), (24, .int .i64 (u.1 : Nat))]) (fun u => (xn.1, Obj.cells ((nearL ls x.1).map (Value.int .i64) ++ xn.2).toArray 3 (0, 0)) :: (gbR rP 90 u.2 (curP ls x.1 z.1 u.1) ++ [(b0, Obj.cells #[.slice p ls.length cap] 24 (0, 0))])) (fun u => (nearL ls x.1).length - u.1) (0, z.2) ⟨Nat.zero_le _, hz.2⟩ (by repeat (first | exact True.intro | refine And.intro rfl ?_)) (by repeat (first | exact List.Sublist.slnil | exact List.nil_sublist _ | exact List.Sublist.refl _ | exact List.sublist_append_left _ _ | refine List.Sublist.cons_cons _ ?_ | refine (List.append_sublist_append_left _).2 ?_ | refine List.Sublist.cons _ ?_ | refine List.Sublist.trans ?_ (List.sublist_append_right _ _))) ?_
      intro u hu
      have hu1 := hu.1
      have hnl := nearL_len ls x.1
      refine TC.seq ?_
      refine TC.region ?_
      refine TL.pure (PV.lss rfl rfl) rfl (by decide) ?_
      refine TL.nil ?_
      refine TQ.thenC ?_
      refine TC.seq ?_
      first | refine TC.condD rfl (fun hlt3 => ?_) (fun hlt3 => ?_) | refine TC.cond rfl (fun hlt3 => ?_) (fun hlt3 => ?_)
      · skip
        refine TC.skip ?_
        refine TQ.thenC ?_
        refine TC.seq ?_
        refine TC.block ?_
        refine TC.seq ?_
        refine TC.region ?_
        refine TL.pure (PV.index1 (j := u.1) rfl rfl Tb.elm_25 rfl (by omega)) rfl (by decide) ?_
        refine TL.pure (PV.loadG' rfl Tb.one_3 (by repeat (first | exact List.Mem.head _ | refine List.Mem.tail _ ?_ | refine List.mem_append_right _ ?_)) (near_get (by omega))) rfl (by decide) ?_
        refine TL.pure (PV.assign rfl) rfl (by decide) ?_
        refine TL.nil ?_
        refine TQ.thenC ?_
        refine TC.region ?_
        refine TL.pure (PV.move rfl) rfl (by decide) ?_
        refine TL.pure (PV.move rfl) rfl (by decide) ?_
        refine TL.pure (PV.move rfl) rfl (by decide) ?_
        refine TL.pure (PV.move rfl) rfl (by decide) ?_
        refine TL.pure (PV.build rfl Tb.zero_90 Tb.pl_90 (fill_ps _ _ _)) rfl (by decide) ?_
        refine TL.buildSlice (cs := (rP.cells (⟨(x.1 : Nat), ((z.1 + 1 : Nat) : Int), (nearL ls x.1).getD u.1 0, 0⟩ : Ps)).toArray) rfl Tb.sl_55 Tb.zi_90 (by decide) (by push_cast; exact fill_pss _ _ _ _) (by decide) rfl (by decide) (fun bE hbE => ?_)
        refine TL.appendRec (R := rP) (h0 := u.2) (ys := curP ls x.1 z.1 u.1) (r := ⟨(x.1 : Nat), ((z.1 + 1 : Nat) : Int), (nearL ls x.1).getD u.1 0, 0⟩) Tb.sl_55 Tb.zi_90 rfl rfl rfl (by repeat (first | exact List.Mem.head _ | refine List.Mem.tail _ ?_ | refine List.mem_append_right _ ?_)) hu.2 (by repeat (first | exact TakeH.here _ _ _ _ | apply TakeH.tail | apply TakeH.app)) (by have := cur_len hv (c := x.1) (r := z.1) (i := u.1) (by omega) (by omega); omega) (by have := cur_len hv (c := x.1) (r := z.1) (i := u.1) (by omega) (by omega); omega) rfl (by decide) (fun hh hho => ?_)
        refine TL.pure (PV.assign rfl) rfl (by decide) ?_
        refine TL.nil ?_
        refine TQ.blkN ?_
        refine TQ.thenC ?_
        have hcn := cur_next (ls := ls) (c := x.1) (r := z.1) (i := u.1) (by omega)
        rw [← hcn] at hho
        rw [← hcn]
        refine TC.region ?_
        refine TL.pure (PV.add rfl rfl (by omega)) rfl (by decide) ?_
        refine TL.pure (PV.move rfl) rfl (by decide) ?_
        refine TL.nil ?_
        refine TQ.thenN ?_
        refine TQ.perm (G' := (bE, Obj.cells (rP.cells (⟨(x.1 : Nat), ((z.1 + 1 : Nat) : Int), (nearL ls x.1).getD u.1 0, 0⟩ : Ps)).toArray 90 (0, 0)) :: (xn.1, Obj.cells ((nearL ls x.1).map (Value.int .i64) ++ xn.2).toArray 3 (0, 0)) :: (gbR rP 90 hh (curP ls x.1 z.1 (u.1 + 1)) ++ [(b0, Obj.cells #[.slice p ls.length cap] 24 (0, 0))])) (perm_of fun c9 => by simp only [gbR, List.map_append, List.sum_append, List.map_cons, List.sum_cons, List.map_nil, List.sum_nil]; omega) ?_
        refine TQ.backK (u.1 + 1, hh) (by repeat (first | exact True.intro | refine And.intro rfl ?_)) (by repeat (first | exact True.intro | refine And.intro rfl ?_)) (by repeat (first | exact List.Sublist.slnil | exact List.nil_sublist _ | exact List.Sublist.refl _ | exact List.sublist_append_left _ _ | refine List.Sublist.cons_cons _ ?_ | refine (List.append_sublist_append_left _).2 ?_ | refine List.Sublist.cons _ ?_ | refine List.Sublist.trans ?_ (List.sublist_append_right _ _))) ⟨by simp only; omega, hho⟩ (by simp only; omega)
      · skip
        refine TC.exit ?_
        refine TQ.thenE ?_
        refine TQ.thenE ?_
        refine TQ.blkS ?_
        refine TQ.blkN ?_
        refine TQ.thenC ?_
        have hcr := cur_row (ls := ls) (c := x.1) (r := z.1) (i := u.1) (by omega)
        have hu2 := hu.2
        rw [hcr] at hu2
        rw [hcr]
        refine TC.region ?_
        refine TL.pure (PV.move rfl) rfl (by decide) ?_
        refine TL.pure (PV.add rfl rfl (by omega)) rfl (by decide) ?_
        refine TL.pure (PV.assign rfl) rfl (by decide) ?_
        refine TL.nil ?_
        refine TQ.thenN ?_
        refine TQ.backK (z.1 + 1, u.2) (by repeat (first | exact True.intro | refine And.intro rfl ?_)) (by repeat (first | exact True.intro | refine And.intro rfl ?_)) (by repeat (first | exact List.Sublist.slnil | exact List.nil_sublist _ | exact List.Sublist.refl _ | exact List.sublist_append_left _ _ | refine List.Sublist.cons_cons _ ?_ | refine (List.append_sublist_append_left _).2 ?_ | refine List.Sublist.cons _ ?_ | refine List.Sublist.trans ?_ (List.sublist_append_right _ _))) ⟨by simp only; omega, hu2⟩ (by simp only; omega)
    · skip
      refine TC.exit ?_
      refine TQ.thenE ?_
      refine TQ.thenE ?_
      refine TQ.blkS ?_
      refine TQ.blkN ?_
      refine TQ.thenC ?_
      have hcc := cur_col (ls := ls) (c := x.1) (r := z.1) (by omega)
      have hz2 := hz.2
      rw [hcc] at hz2
      rw [hcc]
      refine TC.region ?_
      refine TL.pure (PV.add rfl rfl (by omega)) rfl (by decide) ?_
      refine TL.pure (PV.move rfl) rfl (by decide) ?_
      refine TL.nil ?_
      refine TQ.thenN ?_
      refine TQ.backK (x.1 + 1, z.2) (by repeat (first | exact True.intro | refine And.intro rfl ?_)) (by repeat (first | exact True.intro | refine And.intro rfl ?_)) (by repeat (first | exact List.Sublist.slnil | exact List.nil_sublist _ | exact List.Sublist.refl _ | exact List.sublist_append_left _ _ | refine List.Sublist.cons_cons _ ?_ | refine (List.append_sublist_append_left _).2 ?_ | refine List.Sublist.cons _ ?_ | refine List.Sublist.trans ?_ (List.sublist_append_right _ _))) ⟨by simp only; omega, hz2⟩ (by simp only; omega)
  · skip
    refine TC.exit ?_
    refine TQ.thenE ?_
    refine TQ.thenE ?_
    refine TQ.blkS ?_
    refine TQ.thenC ?_
    refine TC.seq ?_
    have hxe : x.1 = ls.length := by omega
    have hx2 := hx.2
    rw [hxe, cur_all] at hx2
    rw [hxe, cur_all]
    refine TC.region ?_
    refine TL.pure (PV.move rfl) rfl (by decide) ?_
    refine TL.pure (PV.assign rfl) rfl (by decide) ?_
    refine TL.nil ?_
    refine TQ.thenC ?_
    refine TC.ret ?_
    refine TQ.retE1 rfl rfl ?_
    exact ⟨x.2, by first | rfl | rw [hxe, cur_all], hx2, List.sublist_append_left _ _⟩

end Go.Proofs.Ytfgjojoipbbacaa
