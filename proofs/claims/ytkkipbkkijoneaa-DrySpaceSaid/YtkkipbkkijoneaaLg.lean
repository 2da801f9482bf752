/- All sets of so many numbers: contract. -/
import Derived.Test.YtkkipbkkijoneaaLf
import Derived.Test.YtkkipbkkijoneaaDo
set_option linter.unusedVariables false
set_option linter.unusedSimpArgs false
namespace Go.Proofs.Ytkkipbkkijoneaa
open Go.Sx Go.RowKit Go.Sand

def idL (N : Nat) : List Int := (List.range N).map Int.ofNat
theorem idL_at {N i : Nat} (h : i < N) : (idL N).getD i 0 = i := by unfold idL; simp [List.getD, h]
/-- The sets of k numbers below N, of the first so many masks. -/
def setsK (N k m : Nat) : List (List Int) := ((List.range m).map fun i => subL (idL N) i N).filter fun l => decide (l.length = k)
theorem setsK_yes {N k m : Nat} (h : (subL (idL N) m N).length = k) : setsK N k (m + 1) = setsK N k m ++ [subL (idL N) m N] := by
  unfold setsK
  rw [List.range_succ, List.map_append, List.filter_append]
  simp [h]
theorem setsK_no {N k m : Nat} (h : ¬ (subL (idL N) m N).length = k) : setsK N k (m + 1) = setsK N k m := by
  unfold setsK
  rw [List.range_succ, List.map_append, List.filter_append]
  simp [h]
theorem setsK_len (N k m : Nat) : (setsK N k m).length ≤ m := by
  unfold setsK
  refine Nat.le_trans (List.length_filter_le _ _) ?_
  rw [List.length_map, List.length_range]
  exact Nat.le_refl _
structure SG9 (N k m : Nat) (h : HD) (rs : List RW) : Prop where
  le : m ≤ 2 ^ N
  go : goR rwR h rs
  ok : rwOk rs
  eq : rs.map RW.l = setsK N k m
theorem SG9.zero (N k : Nat) : SG9 N k 0 none [] := ⟨Nat.zero_le _, ⟨rfl, rfl⟩, (fun r hr => by cases hr), rfl⟩
theorem SG9.len {N k m : Nat} {h : HD} {rs : List RW} (e : SG9 N k m h rs) : rs.length ≤ m := by
  have := setsK_len N k m
  rw [← e.eq, List.length_map] at this
  exact this
theorem SG9.put {N k m : Nat} {h : HD} {rs : List RW} (e : SG9 N k m h rs) (hm : m < 2 ^ N) (hl : (subL (idL N) m N).length = k) {h' h9 : HD} (ho : goR rwR h' (rs ++ [⟨h9, subL (idL N) m N⟩])) (h1 : goI (h9, subL (idL N) m N)) : SG9 N k (m + 1) h' (rs ++ [⟨h9, subL (idL N) m N⟩]) :=
  ⟨by omega, ho, fun r hr => by
    rcases List.mem_append.1 hr with hr | hr
    · exact e.ok r hr
    · rw [List.mem_singleton] at hr; subst hr; exact h1, by rw [List.map_append, e.eq, setsK_yes hl]; rfl⟩
theorem SG9.skip {N k m : Nat} {h : HD} {rs : List RW} (e : SG9 N k m h rs) (hm : m < 2 ^ N) (hl : ¬ (subL (idL N) m N).length = k) : SG9 N k (m + 1) h rs := ⟨by omega, e.go, e.ok, by rw [e.eq, setsK_no hl]⟩


set_option maxRecDepth 100000 in
set_option maxHeartbeats 4000000 in
theorem sets_ok (w0 : World) (N k : Nat) (hN6 : N ≤ 6) :
    Calls Try.prog 95 #[.int .i64 N, .int .i64 k] w0 (Post (X := HD × List RW) (fun y => gval y.1 y.2.length) (fun y => SG9 N k (2 ^ N) y.1 y.2) (fun y => gbR rwR 25 y.1 y.2 ++ rwB y.2) w0) := by
  have h64 := two_le hN6
  refine calls Try.func95 rfl (n := 40) rfl (by simp) ?_
  refine TC.seq ?_
  refine TC.region ?_
  refine TL.pure (PV.assign rfl) rfl (by decide) ?_
  refine TL.nil ?_
  refine TQ.thenC ?_
  refine TC.seq ?_
  refine TC.region ?_
  refine TL.pure (PV.assign rfl) rfl (by decide) ?_
  refine TL.nil ?_
  refine TQ.thenC ?_
  refine TC.seq ?_
  refine TC.seq ?_
  refine TC.region ?_
  refine TL.pure (PV.assign rfl) rfl (by decide) ?_
  refine TL.nil ?_
  refine TQ.thenC ?_
  refine TC.block ?_
  refine TC.lit [(0, _), (1, _), (4, _), (5, _), (6, _)] (by repeat (first | exact True.intro | refine And.intro rfl ?_)) ?_
  refine TC.loopK [0, 1, 4] (X := Nat × HD × List RW) (fun x => SG9 N k x.1 x.2.1 x.2.2) (fun x => [(6, .int .i64 x.1), (5, gval x.2.1 x.2.2.length)]) (fun x => gbR rwR 25 x.2.1 x.2.2 ++ rwB x.2.2) (fun x => 2 ^ N - x.1) (0, none, []) (SG9.zero _ _) (by repeat (first | exact True.intro | refine And.intro rfl ?_)) (by repeat (first | exact List.Sublist.slnil | exact List.nil_sublist _ | exact List.Sublist.refl _ | refine List.Sublist.cons_cons _ ?_ | refine List.Sublist.cons _ ?_ | refine List.Sublist.trans ?_ (List.sublist_append_right _ _))) ?_
  intro x hx9
  have hxle := hx9.le
  refine TC.lit [(0, _), (1, _), (4, _), (5, _), (6, _)] (by repeat (first | exact True.intro | refine And.intro rfl ?_)) ?_
  refine TC.seq ?_
  refine TC.seq ?_
  refine TC.region ?_
  refine TL.pure (PV.move rfl) rfl (by decide) ?_
  refine TL.pure (PV.move rfl) rfl (by decide) ?_
  refine TL.pure (PV.conv int_3 int_109 rfl (wrap_u N (by omega))) rfl (by decide) ?_
  refine TL.pure (PV.shl rfl rfl (by omega) (by omega) (shl_one N (by omega))) rfl (by decide) ?_
  refine TL.pure (PV.lss rfl rfl) rfl (by decide) ?_
  refine TL.nil ?_
  refine TQ.thenC ?_
  first | refine TC.condD rfl (fun hlt => ?_) (fun hlt => ?_) | refine TC.cond rfl (fun hlt => ?_) (fun hlt => ?_)
  · skip
    refine TC.skip ?_
    refine TQ.thenC ?_
    refine TC.seq ?_
    refine TC.block ?_
    refine TC.seq ?_
    refine TC.region ?_
    refine TL.pure (PV.assign rfl) rfl (by decide) ?_
    refine TL.nil ?_
    refine TQ.thenC ?_
    refine TC.seq ?_
    refine TC.seq ?_
    refine TC.region ?_
    refine TL.pure (PV.assign rfl) rfl (by decide) ?_
    refine TL.nil ?_
    refine TQ.thenC ?_
    refine TC.block ?_
    refine TC.lit [(0, _), (1, _), (4, _), (5, _), (6, _), (7, _), (8, _)] (by repeat (first | exact True.intro | refine And.intro rfl ?_)) ?_
    refine TC.loopK [0, 1, 4, 5, 6] (X := Nat × HD) (fun y => y.1 ≤ N ∧ goI (y.2, subL (idL N) x.1 y.1)) (fun y => [(8, .int .i64 y.1), (7, gval y.2 (subL (idL N) x.1 y.1).length)]) (fun y => gbI (y.2, subL (idL N) x.1 y.1) ++ (gbR rwR 25 x.2.1 x.2.2 ++ rwB x.2.2)) (fun y => N - y.1) (0, none) ⟨Nat.zero_le _, goI_nil⟩ (by repeat (first | exact True.intro | refine And.intro rfl ?_)) (List.Sublist.refl _) ?_
    intro y hy9
    refine TC.lit [(0, _), (1, _), (4, _), (5, _), (6, _), (7, _), (8, _)] (by repeat (first | exact True.intro | refine And.intro rfl ?_)) ?_
    refine TC.seq ?_
    refine TC.seq ?_
    refine TC.region ?_
    refine TL.pure (PV.move rfl) rfl (by decide) ?_
    refine TL.pure (PV.move rfl) rfl (by decide) ?_
    refine TL.pure (PV.lss rfl rfl) rfl (by decide) ?_
    refine TL.nil ?_
    refine TQ.thenC ?_
    first | refine TC.condD rfl (fun hlt2 => ?_) (fun hlt2 => ?_) | refine TC.cond rfl (fun hlt2 => ?_) (fun hlt2 => ?_)
    · skip
      refine TC.skip ?_
      refine TQ.thenC ?_
      refine TC.seq ?_
      refine TC.block ?_
      refine TC.seq ?_
      refine TC.region ?_
      refine TL.pure (PV.move rfl) rfl (by decide) ?_
      refine TL.pure (PV.move rfl) rfl (by decide) ?_
      refine TL.pure (PV.conv int_3 int_109 rfl (wrap_u y.1 (by omega))) rfl (by decide) ?_
      refine TL.pure (PV.shr rfl rfl (by omega) (by omega) (shr_nat x.1 y.1)) rfl (by decide) ?_
      refine TL.pure (PV.andI rfl rfl (and_one _ (lt64 (by omega)))) rfl (by decide) ?_
      refine TL.pure (PV.eql rfl rfl) rfl (by decide) ?_
      refine TL.nil ?_
      refine TQ.thenC ?_
      first | refine TC.condD rfl (fun hbit => ?_) (fun hbit => ?_) | refine TC.cond rfl (fun hbit => ?_) (fun hbit => ?_)
      · skip
        have hsb := sub_yes (S := idL N) (m := x.1) (j := y.1) (by exact_mod_cast hbit)
        rw [idL_at (by omega)] at hsb
        have hsl := sub_len (idL N) x.1 y.1
        refine TC.region ?_
        refine TL.pure (PV.move rfl) rfl (by decide) ?_
        refine TL.pure (PV.move rfl) rfl (by decide) ?_
        refine TL.buildSlice (cs := #[.int .i64 y.1]) rfl Tb.sl_25 Tb.zi_3 (by decide) (fill_i _) (by decide) rfl (by decide) (fun bE hbE => ?_)
        refine TL.appendI (x0 := (y.2, subL (idL N) x.1 y.1)) rfl rfl (by repeat (first | exact List.Mem.head _ | refine List.Mem.tail _ ?_ | refine List.mem_append_right _ ?_)) hy9.2 (by repeat (first | exact TakeH.here _ _ _ _ | apply TakeH.tail | apply TakeH.app)) (by show (subL (idL N) x.1 y.1).length ≤ 1000000; omega) rfl (by decide) (fun hh hho => ?_)
        refine TL.pure (PV.assign rfl) rfl (by decide) ?_
        refine TL.nil ?_
        refine TQ.blkN ?_
        refine TQ.thenC ?_
        refine TC.region ?_
        refine TL.pure (PV.move rfl) rfl (by decide) ?_
        refine TL.pure (PV.add rfl rfl (by omega)) rfl (by decide) ?_
        refine TL.pure (PV.assign rfl) rfl (by decide) ?_
        refine TL.nil ?_
        refine TQ.thenN ?_
        refine TQ.backK (y.1 + 1, (by first | exact hh | exact y.2)) (And.intro rfl (And.intro (by show some _ = some (gval _ (subL (idL N) x.1 (y.1 + 1)).length); rw [hsb]) True.intro)) (by repeat (first | exact True.intro | refine And.intro rfl ?_)) (by show List.Sublist (gbI (_, subL (idL N) x.1 (y.1 + 1)) ++ _) _; rw [hsb]; first | exact List.Sublist.refl _ | exact List.Sublist.append_left (List.sublist_cons_self _ _) _) ⟨by simp only; omega, by show goI (_, subL (idL N) x.1 (y.1 + 1)); rw [hsb]; first | exact hho | exact hy9.2⟩ (by simp only; omega)
      · skip
        have hsb := sub_no (S := idL N) (m := x.1) (j := y.1) (fun h => hbit (by exact_mod_cast h))
        refine TC.skip ?_
        refine TQ.blkN ?_
        refine TQ.thenC ?_
        refine TC.region ?_
        refine TL.pure (PV.move rfl) rfl (by decide) ?_
        refine TL.pure (PV.add rfl rfl (by omega)) rfl (by decide) ?_
        refine TL.pure (PV.assign rfl) rfl (by decide) ?_
        refine TL.nil ?_
        refine TQ.thenN ?_
        refine TQ.backK (y.1 + 1, (by first | exact hh | exact y.2)) (And.intro rfl (And.intro (by show some _ = some (gval _ (subL (idL N) x.1 (y.1 + 1)).length); rw [hsb]) True.intro)) (by repeat (first | exact True.intro | refine And.intro rfl ?_)) (by show List.Sublist (gbI (_, subL (idL N) x.1 (y.1 + 1)) ++ _) _; rw [hsb]; first | exact List.Sublist.refl _ | exact List.Sublist.append_left (List.sublist_cons_self _ _) _) ⟨by simp only; omega, by show goI (_, subL (idL N) x.1 (y.1 + 1)); rw [hsb]; first | exact hho | exact hy9.2⟩ (by simp only; omega)
    · skip
      refine TC.exit ?_
      refine TQ.thenE ?_
      refine TQ.thenE ?_
      refine TQ.blkS ?_
      refine TQ.thenC ?_
      refine TC.seq ?_
      have hye : y.1 = N := by omega
      rw [hye]
      have hpt := hy9.2
      rw [hye] at hpt
      have hsl := sub_len (idL N) x.1 N
      refine TC.region ?_
      refine TL.pure (PV.move rfl) rfl (by decide) ?_
      refine TL.pure (PV.lenG rfl hpt Tb.sl_25) rfl (by decide) ?_
      refine TL.pure (PV.move rfl) rfl (by decide) ?_
      refine TL.pure (PV.eql rfl rfl) rfl (by decide) ?_
      refine TL.nil ?_
      refine TQ.thenC ?_
      first | refine TC.condD rfl (fun hlk => ?_) (fun hlk => ?_) | refine TC.cond rfl (fun hlk => ?_) (fun hlk => ?_)
      · skip
        have hlk9 : (subL (idL N) x.1 N).length = k := by omega
        have hxl := hx9.len
        refine TC.region ?_
        refine TL.pure (PV.move rfl) rfl (by decide) ?_
        refine TL.pure (PV.move rfl) rfl (by decide) ?_
        refine TL.buildSlice (cs := #[gval y.2 (subL (idL N) x.1 N).length]) rfl Tb.sl_97 Tb.zi_25 (by decide) (by rw [gval_eq hpt]; exact fill_o _ _ _) (by decide) rfl (by decide) (fun bE hbE => ?_)
        refine TL.appendRec (R := rwR) (h0 := x.2.1) (ys := x.2.2) (b := bE) (r := (⟨y.2, subL (idL N) x.1 N⟩ : RW)) Tb.sl_97 Tb.zi_25 rfl rfl rfl (by repeat (first | exact List.Mem.head _ | refine List.Mem.tail _ ?_ | refine List.mem_append_right _ ?_)) hx9.go (by repeat (first | exact TakeH.here _ _ _ _ | apply TakeH.tail | apply TakeH.app)) (by omega) (by omega) rfl (by decide) (fun hh hho => ?_)
        refine TL.perm (G' := (gbR rwR 25 hh (x.2.2 ++ [(⟨y.2, subL (idL N) x.1 N⟩ : RW)]) ++ rwB (x.2.2 ++ [(⟨y.2, subL (idL N) x.1 N⟩ : RW)])) ++ [(bE, Obj.cells #[gval y.2 (subL (idL N) x.1 N).length] 25 (0, 0))]) (perm_of fun c9 => by simp only [List.map_append, List.sum_append, List.map_cons, List.sum_cons, List.map_nil, List.sum_nil, rwB_snoc]; omega) ?_
        refine TL.pure (PV.assign rfl) rfl (by decide) ?_
        refine TL.nil ?_
        refine TQ.blkN ?_
        refine TQ.thenC ?_
        refine TC.region ?_
        refine TL.pure (PV.move rfl) rfl (by decide) ?_
        refine TL.pure (PV.add rfl rfl (by omega)) rfl (by decide) ?_
        refine TL.pure (PV.assign rfl) rfl (by decide) ?_
        refine TL.nil ?_
        refine TQ.thenN ?_
        refine TQ.backK (by first | exact (x.1 + 1, hh, (x.2.2 ++ [(⟨y.2, subL (idL N) x.1 N⟩ : RW)])) | exact (x.1 + 1, x.2.1, x.2.2)) (by exact And.intro rfl (And.intro rfl True.intro)) (by repeat (first | exact True.intro | refine And.intro rfl ?_)) (by first | exact List.sublist_append_left _ _ | exact List.sublist_append_right _ _) (by first | exact hx9.put (by omega) hlk9 hho hpt | exact hx9.skip (by omega) hlk9) (by simp only; omega)
      · skip
        have hlk9 : ¬ (subL (idL N) x.1 N).length = k := by omega
        refine TC.skip ?_
        refine TQ.blkN ?_
        refine TQ.thenC ?_
        refine TC.region ?_
        refine TL.pure (PV.move rfl) rfl (by decide) ?_
        refine TL.pure (PV.add rfl rfl (by omega)) rfl (by decide) ?_
        refine TL.pure (PV.assign rfl) rfl (by decide) ?_
        refine TL.nil ?_
        refine TQ.thenN ?_
        refine TQ.backK (by first | exact (x.1 + 1, hh, (x.2.2 ++ [(⟨y.2, subL (idL N) x.1 N⟩ : RW)])) | exact (x.1 + 1, x.2.1, x.2.2)) (by exact And.intro rfl (And.intro rfl True.intro)) (by repeat (first | exact True.intro | refine And.intro rfl ?_)) (by first | exact List.sublist_append_left _ _ | exact List.sublist_append_right _ _) (by first | exact hx9.put (by omega) hlk9 hho hpt | exact hx9.skip (by omega) hlk9) (by simp only; omega)
  · skip
    refine TC.exit ?_
    refine TQ.thenE ?_
    refine TQ.thenE ?_
    refine TQ.blkS ?_
    refine TQ.thenC ?_
    refine TC.seq ?_
    have hxe : x.1 = 2 ^ N := by omega
    refine TC.region ?_
    refine TL.pure (PV.move rfl) rfl (by decide) ?_
    refine TL.pure (PV.assign rfl) rfl (by decide) ?_
    refine TL.nil ?_
    refine TQ.thenC ?_
    refine TC.ret ?_
    refine TQ.retE1 rfl rfl ?_
    exact ⟨x.2, rfl, by rw [hxe] at hx9; exact hx9, List.Sublist.refl _⟩

end Go.Proofs.Ytkkipbkkijoneaa
