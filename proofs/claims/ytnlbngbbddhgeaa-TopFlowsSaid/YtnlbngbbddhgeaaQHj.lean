/- The nodes that are not in a set, a flow of the turned net, narrower drains. -/
import Derived.Test.YtnlbngbbddhgeaaQHs
set_option linter.unusedVariables false
set_option linter.unusedSimpArgs false
namespace Go.Proofs.Ytnlbngbbddhgeaa
open Go.Sx Go.RowKit


theorem HadI.skip {ks : List Int} {N i : Nat} {bs : List Bool} (h : HadI ks N i bs) (hi : i < ks.length) (hv : ¬ (0 ≤ ks.getD i 0 ∧ ks.getD i 0 < N)) : HadI ks N (i + 1) bs := by
  refine ⟨h.1, fun v hv2 => ?_⟩
  rw [h.2 v hv2, decide_eq_decide]
  rw [List.take_succ_eq_append_getElem hi, List.mem_append, List.mem_singleton]
  have e : ks[i] = ks.getD i 0 := by simp [List.getD, hi]
  rw [e]
  constructor
  · exact .inl
  · rintro (h9 | h9)
    · exact h9
    · exact absurd ⟨by omega, by omega⟩ hv
def otS (xs : List Int) (v : Nat) : Bool := !decide ((v : Int) ∈ xs)
theorem out_turn (u : Nat) : ∀ L : List Fl.E, Fl.out u (Fl.turn L) = -Fl.out u L
  | [] => rfl
  | e :: l => by
    have h := out_turn u l
    unfold Fl.turn at h
    simp only [Fl.turn, List.map_cons, Fl.out]
    rw [h]
    omega
theorem cfL_flB (rs : List Bd) (fs : List Int) : cfL (rs.map flB) fs = Fl.turn (cfL rs fs) := by
  apply List.ext_getElem
  · simp [cfL, mkL, Fl.turn]
  · intro j h1 h2
    have hj : j < rs.length := by simpa [cfL, mkL] using h1
    simp only [cfL, mkL, Fl.turn, List.getElem_map, List.getElem_range]
    rw [flB_getD hj]; rfl
theorem cfV_flB {n s t : Nat} {rs : List Bd} (hv : Vd n s t rs) {fs : List Int} (hl : fs.length = rs.length) (h : (cfV n s t rs fs).2 = 0) : cfV n t s (rs.map flB) fs = cfV n s t rs fs := by
  obtain ⟨hf, hval⟩ := cfV_flow hv h
  have e : cfV n s t rs fs = (Fl.out s (cfL rs fs), 0) := Prod.ext hval h
  have hk := out_sink hf hv.w1.st
  rw [e]
  unfold cfV
  rw [if_neg (by rw [List.length_map]; omega), if_pos, if_pos, cfL_flB, out_turn, hk, Int.neg_neg]
  · refine List.all_eq_true.2 fun u hu => decide_eq_true ?_
    rw [cfL_flB, out_turn]
    by_cases h1 : u = t
    · exact .inl h1
    · by_cases h2 : u = s
      · exact .inr (.inl h2)
      · exact .inr (.inr (by rw [hf.kp u (List.mem_range.1 hu) h2 h1]; rfl))
  · refine List.all_eq_true.2 fun k hk2 => decide_eq_true ?_
    rw [List.length_map] at hk2
    have hk3 := List.mem_range.1 hk2
    have hm : (cfL rs fs).getD k default ∈ cfL rs fs := mem_getD (by rw [cfL_len]; exact hk3)
    have h1 := hf.bd _ hm
    have e : (cfL rs fs).getD k default = mkE (rs.getD k default) (fs.getD k 0) := mkL_getD hk3
    rw [e] at h1
    rw [flB_getD hk3]
    exact h1
theorem Greatest_N {w : World} {v : Value} {n s t : Nat} {rs : List Bd} (h : IsN w v n s t rs) (hv : Vd n s t rs) :
    Calls Try.prog 29 #[v] w (Post (X := HD) (fun h => .tuple #[gval h (lst (gcS s t rs) n).length, .int .i64 0]) (fun h => goI (h, lst (gcS s t rs) n) ∧ Fl.MinC s t (dr0 rs) (gcS s t rs)) (fun h => gbI (h, lst (gcS s t rs) n)) w) := by
  obtain ⟨p, c, rfl, hr⟩ := h
  exact Greatest_v w n s t p c rs hr hv hv.dI
theorem first_eq {n s t : Nat} {rs : List Bd} : lst (otS (lst (gcS s t rs) n)) n = lst (lcS t s (rs.map flB)) n := by
  refine lst_congr fun v hv => ?_
  have h := gcS_eq (s := s) (t := t) (rs := rs) hv
  unfold otS
  have e : decide ((v : Int) ∈ lst (gcS s t rs) n) = gcS s t rs v := by
    rw [Bool.eq_iff_iff, decide_eq_true_iff, mem_lst, Int.toNat_natCast]
    exact ⟨fun h => h.2.2, fun h => ⟨by omega, by omega, h⟩⟩
  rw [e, h, Bool.not_not]
theorem last_eq {n s t : Nat} {rs : List Bd} : lst (otS (lst (lcS s t rs) n)) n = lst (gcS t s (rs.map flB)) n := by
  refine lst_congr fun v hv => ?_
  have h := gcS_eq (s := t) (t := s) (rs := rs.map flB) hv
  rw [flB_flB] at h
  unfold otS
  have e : decide ((v : Int) ∈ lst (lcS s t rs) n) = lcS s t rs v := by
    rw [Bool.eq_iff_iff, decide_eq_true_iff, mem_lst, Int.toNat_natCast]
    exact ⟨fun h => h.2.2, fun h => ⟨by omega, by omega, h⟩⟩
  rw [e, h]
theorem wd_mono {n s t : Nat} {rs : List Bd} (hv : Vd n s t rs) {k : Nat} (hk : k < rs.length) {w : Int} (h0 : 0 ≤ w) (hle : w ≤ (rs.getD k default).m) : Fl.mw s t (dr0 (wdB rs k w)) ≤ Fl.mw s t (dr0 rs) := by
  have h1 := (Fl.mw_wid_up (k := k) (w := w) hv.w1.st hv.w1.nn (by rw [mkL_len]; exact hk) h0).1
  rw [dr0_at hk] at h1
  rw [dr0_wdB hk]
  have e : (mkE (rs.getD k default) 0).w = (rs.getD k default).m := rfl
  omega
theorem wdB_wdB (rs : List Bd) {k : Nat} (hk : k < rs.length) (v w : Int) : wdB (wdB rs k v) k w = wdB rs k w := by
  refine take_all_eq default (by rw [wdB_len, wdB_len, wdB_len]) fun j hj => ?_
  rw [wdB_len, wdB_len] at hj
  rw [wdB_get _ _ (by rw [wdB_len]; exact hj), wdB_get _ _ hj, wdB_get _ _ hj]
  split
  · rfl
  · rfl
theorem cr_nd {n s t : Nat} {rs : List Bd} (hv : Vd n s t rs) {k : Nat} (hk : k < rs.length) (hc : crS s t rs k = true) (hn : ndS s t rs k = true) : False := by
  obtain ⟨h0, h1⟩ := of_decide_eq_true hc
  have h2 := of_decide_eq_true hn
  have hma := hv.at hk
  have hv2 : Vd n s t (wdB rs k ((rs.getD k default).m - 1)) := hv.wd k (by omega)
  have h3 := wd_mono hv2 (k := k) (w := 0) (by rw [wdB_len]; exact hk) (Int.le_refl _) (by rw [wdB_get _ _ hk, if_pos rfl]; show 0 ≤ (rs.getD k default).m - 1; omega)
  rw [wdB_wdB rs hk] at h3
  omega
theorem in_lst {f : Nat → Bool} {N k : Nat} (hk : k < N) : decide ((k : Int) ∈ lst f N) = f k := by
  rw [Bool.eq_iff_iff, decide_eq_true_iff, mem_lst, Int.toNat_natCast]
  exact ⟨fun h => h.2.2, fun h => ⟨by omega, by omega, h⟩⟩
theorem net2_mw : Fl.mw 1 0 (dr0 [⟨1, 0, 4⟩, ⟨0, 1, 9⟩]) = 4 := by
  obtain ⟨S, hS⟩ := Fl.minC_ex (s := 1) (t := 0) (L := dr0 [⟨1, 0, 4⟩, ⟨0, 1, 9⟩]) (by decide) (by decide)
  rw [← hS.eq]
  have h1 := hS.1
  have h2 := hS.2.1
  simp [dr0, mkL, mkE, Fl.cutW, List.range_succ, h1, h2]


set_option maxRecDepth 100000 in
set_option maxHeartbeats 1000000 in
theorem others_ok (w0 : World) (n : Nat) (hn8 : n ≤ 8) (vx : Value) (xs : List Int) (hv : IsI w0 vx xs) (hl : xs.length ≤ 1000000) :
    Calls Try.prog 54 #[.int .i64 (n : Nat), vx] w0 (Post (X := HD) (fun h => gval h (lst (otS xs) n).length) (fun h => goI (h, lst (otS xs) n)) (fun h => gbI (h, lst (otS xs) n)) w0) := by
  obtain ⟨px, cx, rfl, hx⟩ := hv
  refine calls Try.func54 rfl (n := 51) rfl (by simp) ?_
  refine TC.seq ?_
  refine TC.region ?_
  refine TL.pure (PV.assign rfl) rfl (by decide) ?_
  refine TL.nil ?_
  refine TQ.thenC ?_
  refine TC.seq ?_
  refine TC.region ?_
  refine TL.pure (PV.move rfl) rfl (by decide) ?_
  refine TL.makeB (k := n) rfl rfl Tb.sl_70 Tb.zi_4 rfl (by omega) (by omega) rfl (by decide) (fun bH hbH => ?_)
  refine TL.pure (PV.assign rfl) rfl (by decide) ?_
  refine TL.nil ?_
  refine TQ.thenC ?_
  refine TC.seq ?_
  refine TC.seq ?_
  refine TC.region ?_
  refine TL.pure (PV.assign rfl) rfl (by decide) ?_
  refine TL.nil ?_
  refine TQ.thenC ?_
  refine TC.block ?_
  refine TC.loopK [0, 1, 4, 5] (X := Nat × List Bool) (fun y => y.1 ≤ xs.length ∧ HadI xs n y.1 y.2) (fun y => [(6, .int .i64 (y.1 : Nat))]) (fun y => [(bH, Obj.cells (boolsA y.2) 4 (0, 0))]) (fun y => xs.length - y.1) (0, List.replicate n false) ⟨Nat.zero_le _, HadI.zero _ _⟩ (by repeat (first | exact True.intro | refine And.intro rfl ?_)) (by repeat (first | exact List.Sublist.slnil | exact List.nil_sublist _ | exact List.Sublist.refl _ | refine List.Sublist.cons_cons _ ?_ | refine List.Sublist.cons _ ?_ | refine List.Sublist.trans ?_ (List.sublist_append_right _ _))) ?_
  intro y hy
  have hy1 := hy.1
  refine TC.seq ?_
  refine TC.seq ?_
  refine TC.region ?_
  refine TL.pure (PV.move rfl) rfl (by decide) ?_
  refine TL.pure (PV.move rfl) rfl (by decide) ?_
  refine TL.pure (PV.len rfl Tb.sl_25) rfl (by decide) ?_
  refine TL.pure (PV.lss rfl rfl) rfl (by decide) ?_
  refine TL.nil ?_
  refine TQ.thenC ?_
  first | refine TC.condD rfl (fun hlt => ?_) (fun hlt => ?_) | refine TC.cond rfl (fun hlt => ?_) (fun hlt => ?_)
  · skip
    refine TC.skip ?_
    refine TQ.thenC ?_
    refine TC.seq ?_
    refine TC.block ?_
    refine TC.seq ?_
    have hyl : y.1 < xs.length := by omega
    obtain ⟨q, hqp, hq⟩ := hx y.1 hyl
    refine TC.region ?_
    refine TL.pure (PV.move rfl) rfl (by decide) ?_
    refine TL.pure (PV.move rfl) rfl (by decide) ?_
    refine TL.pure (PV.indexA rfl hqp rfl Tb.elm_25 rfl (by omega)) rfl (by decide) ?_
    refine TL.pure (PV.loadOld rfl Tb.one_3 hq) rfl (by decide) ?_
    refine TL.pure (PV.geq rfl rfl) rfl (by decide) ?_
    refine TL.pure (PV.move rfl) rfl (by decide) ?_
    first | refine TL.splitD 22 rfl (fun h1 => ?_) (fun h1 => ?_) | refine TL.split 22 rfl (fun h1 => ?_) (fun h1 => ?_)
    · skip
      refine TL.pure (PV.move rfl) rfl (by decide) ?_
      refine TL.pure (PV.move rfl) rfl (by decide) ?_
      refine TL.pure (PV.indexA rfl hqp rfl Tb.elm_25 rfl (by omega)) rfl (by decide) ?_
      refine TL.pure (PV.loadOld rfl Tb.one_3 hq) rfl (by decide) ?_
      refine TL.pure (PV.move rfl) rfl (by decide) ?_
      refine TL.pure (PV.lss rfl rfl) rfl (by decide) ?_
      refine TL.pure (PV.pickT rfl rfl) rfl (by decide) ?_
      refine TL.nil ?_
      refine TQ.thenC ?_
      first | refine TC.condD rfl (fun hin => ?_) (fun hin => ?_) | refine TC.cond rfl (fun hin => ?_) (fun hin => ?_)
      · skip
        refine TC.region ?_
        refine TL.pure (PV.move rfl) rfl (by decide) ?_
        refine TL.pure (PV.move rfl) rfl (by decide) ?_
        refine TL.pure (PV.move rfl) rfl (by decide) ?_
        refine TL.pure (PV.indexA rfl hqp rfl Tb.elm_25 rfl (by omega)) rfl (by decide) ?_
        refine TL.pure (PV.loadOld rfl Tb.one_3 hq) rfl (by decide) ?_
        refine TL.pure (PV.index (j := (xs.getD y.1 0).toNat) rfl rfl Tb.elm_70 (by omega) (by omega)) rfl (by decide) ?_
        refine TL.storeBo (bs := y.2) (xs.getD y.1 0).toNat rfl (off1 _) rfl Tb.cells_4 (by repeat (first | exact Upd.head _ | apply Upd.tail | apply Upd.appR)) (by have := hy.2.1; omega) rfl rfl ?_
        refine TL.nil ?_
        refine TQ.blkN ?_
        refine TQ.thenC ?_
        refine TC.region ?_
        refine TL.pure (PV.move rfl) rfl (by decide) ?_
        refine TL.pure (PV.add rfl rfl (by omega)) rfl (by decide) ?_
        refine TL.pure (PV.assign rfl) rfl (by decide) ?_
        refine TL.nil ?_
        refine TQ.thenN ?_
        refine TQ.backK (y.1 + 1, y.2.set (xs.getD y.1 0).toNat true) (by repeat (first | exact True.intro | refine And.intro rfl ?_)) (by repeat (first | exact True.intro | refine And.intro rfl ?_)) (by repeat (first | exact List.Sublist.slnil | exact List.nil_sublist _ | exact List.Sublist.refl _ | refine List.Sublist.cons_cons _ ?_ | refine List.Sublist.cons _ ?_ | refine List.Sublist.trans ?_ (List.sublist_append_right _ _))) ⟨by simp only; omega, hy.2.put hyl (by omega)⟩ (by simp only; omega)
      · skip
        refine TC.skip ?_
        refine TQ.blkN ?_
        refine TQ.thenC ?_
        refine TC.region ?_
        refine TL.pure (PV.move rfl) rfl (by decide) ?_
        refine TL.pure (PV.add rfl rfl (by omega)) rfl (by decide) ?_
        refine TL.pure (PV.assign rfl) rfl (by decide) ?_
        refine TL.nil ?_
        refine TQ.thenN ?_
        refine TQ.backK (y.1 + 1, y.2) (by repeat (first | exact True.intro | refine And.intro rfl ?_)) (by repeat (first | exact True.intro | refine And.intro rfl ?_)) (by repeat (first | exact List.Sublist.slnil | exact List.nil_sublist _ | exact List.Sublist.refl _ | refine List.Sublist.cons_cons _ ?_ | refine List.Sublist.cons _ ?_ | refine List.Sublist.trans ?_ (List.sublist_append_right _ _))) ⟨by simp only; omega, hy.2.skip hyl (by omega)⟩ (by simp only; omega)
    · skip
      refine TL.skip rfl (fun k hk => by cases hk; decide) ?_
      refine TL.skip rfl (fun k hk => by cases hk; decide) ?_
      refine TL.skip rfl (fun k hk => by cases hk; decide) ?_
      refine TL.skip rfl (fun k hk => by cases hk; decide) ?_
      refine TL.skip rfl (fun k hk => by cases hk; decide) ?_
      refine TL.skip rfl (fun k hk => by cases hk; decide) ?_
      refine TL.pure (PV.pickF rfl rfl) rfl (by decide) ?_
      refine TL.nil ?_
      refine TQ.thenC ?_
      refine TC.condF rfl ?_
      refine TC.skip ?_
      refine TQ.blkN ?_
      refine TQ.thenC ?_
      refine TC.region ?_
      refine TL.pure (PV.move rfl) rfl (by decide) ?_
      refine TL.pure (PV.add rfl rfl (by omega)) rfl (by decide) ?_
      refine TL.pure (PV.assign rfl) rfl (by decide) ?_
      refine TL.nil ?_
      refine TQ.thenN ?_
      refine TQ.backK (y.1 + 1, y.2) (by repeat (first | exact True.intro | refine And.intro rfl ?_)) (by repeat (first | exact True.intro | refine And.intro rfl ?_)) (by repeat (first | exact List.Sublist.slnil | exact List.nil_sublist _ | exact List.Sublist.refl _ | refine List.Sublist.cons_cons _ ?_ | refine List.Sublist.cons _ ?_ | refine List.Sublist.trans ?_ (List.sublist_append_right _ _))) ⟨by simp only; omega, hy.2.skip hyl (by omega)⟩ (by simp only; omega)
  · skip
    refine TC.exit ?_
    refine TQ.thenE ?_
    refine TQ.thenE ?_
    refine TQ.blkS ?_
    refine TQ.thenC ?_
    refine TC.seq ?_
    have hye : y.1 = xs.length := by have := hy.1; omega
    have hall : ∀ v, v < n → y.2.getD v false = decide ((v : Int) ∈ xs) := fun v hv9 => by have h9 := hy.2.2 v hv9; rw [hye, List.take_length] at h9; exact h9
    have hyl9 := hy.2.1
    refine TC.region ?_
    refine TL.pure (PV.assign rfl) rfl (by decide) ?_
    refine TL.nil ?_
    refine TQ.thenC ?_
    refine TC.seq ?_
    refine TC.seq ?_
    refine TC.region ?_
    refine TL.pure (PV.assign rfl) rfl (by decide) ?_
    refine TL.nil ?_
    refine TQ.thenC ?_
    refine TC.block ?_
    refine TC.loopK [0, 4, 5] (X := Nat × HD) (fun u => u.1 ≤ n ∧ goI (u.2, lst (otS xs) u.1)) (fun u => [(8, .int .i64 (u.1 : Nat)), (7, gval u.2 (lst (otS xs) u.1).length)]) (fun u => gbI (u.2, lst (otS xs) u.1) ++ [(bH, Obj.cells (boolsA y.2) 4 (0, 0))]) (fun u => n - u.1) (0, none) ⟨Nat.zero_le _, goI_nil⟩ (by repeat (first | exact True.intro | refine And.intro rfl ?_)) (by show List.Sublist ([(bH, Obj.cells (boolsA y.2) 4 (0, 0))]) _; exact (by repeat (first | exact List.Sublist.slnil | exact List.nil_sublist _ | exact List.Sublist.refl _ | exact List.sublist_append_left _ _ | refine List.Sublist.cons_cons _ ?_ | refine (List.append_sublist_append_left _).2 ?_ | refine List.Sublist.cons _ ?_ | refine List.Sublist.trans ?_ (List.sublist_append_right _ _)))) ?_
    intro u hu9
    refine TC.seq ?_
    refine TC.seq ?_
    refine TC.region ?_
    refine TL.pure (PV.move rfl) rfl (by decide) ?_
    refine TL.pure (PV.move rfl) rfl (by decide) ?_
    refine TL.pure (PV.lss rfl rfl) rfl (by decide) ?_
    refine TL.nil ?_
    refine TQ.thenC ?_
    first | refine TC.condD rfl (fun hlt2 => ?_) (fun hlt2 => ?_) | refine TC.cond rfl (fun hlt2 => ?_) (fun hlt2 => ?_)
    · skip
      refine TC.skip ?_
      refine TQ.thenC ?_
      refine TC.seq ?_
      refine TC.block ?_
      refine TC.seq ?_
      refine TC.region ?_
      refine TL.pure (PV.move rfl) rfl (by decide) ?_
      refine TL.pure (PV.move rfl) rfl (by decide) ?_
      refine TL.pure (PV.index (j := u.1) rfl rfl Tb.elm_70 rfl (by omega)) rfl (by decide) ?_
      refine TL.pure (PV.loadBo' (v := decide ((u.1 : Int) ∈ xs)) u.1 rfl (off1 _) Tb.one_4 (by repeat (first | exact List.Mem.head _ | refine List.Mem.tail _ ?_ | refine List.mem_append_right _ ?_)) (by omega) (hall _ (by omega))) rfl (by decide) ?_
      refine TL.pure (PV.notD rfl) rfl (by decide) ?_
      refine TL.nil ?_
      refine TQ.thenC ?_
      first | refine TC.condD rfl (fun hin2 => ?_) (fun hin2 => ?_) | refine TC.cond rfl (fun hin2 => ?_) (fun hin2 => ?_)
      · skip
        have hfu : otS xs u.1 = true := by unfold otS; simp [hin2]
        have hob : lst (otS xs) (u.1 + 1) = lst (otS xs) u.1 ++ [(u.1 : Int)] := lst_yes hfu
        refine TC.region ?_
        refine TL.pure (PV.move rfl) rfl (by decide) ?_
        refine TL.pure (PV.move rfl) rfl (by decide) ?_
        refine TL.buildSlice (cs := #[.int .i64 (u.1 : Nat)]) rfl Tb.sl_25 Tb.zi_3 (by decide) (fill_i _) (by decide) rfl (by decide) (fun bE hbE => ?_)
        refine TL.appendI (x0 := (u.2, lst (otS xs) u.1)) rfl rfl (by repeat (first | exact List.Mem.head _ | refine List.Mem.tail _ ?_ | refine List.mem_append_right _ ?_)) hu9.2 (by repeat (first | exact TakeH.here _ _ _ _ | apply TakeH.tail | apply TakeH.app)) (by have := lst_len (otS xs) u.1; show (lst (otS xs) u.1).length ≤ 1000000; omega) rfl (by decide) (fun hh hho => ?_)
        let nu : Nat × HD := (u.1 + 1, hh)
        have hnu : nu.1 ≤ n ∧ goI (nu.2, lst (otS xs) nu.1) := ⟨by simp only [nu]; omega, by simp only [nu]; rw [hob]; exact hho⟩
        refine TL.pure (PV.assign rfl) rfl (by decide) ?_
        refine TL.nil ?_
        refine TQ.blkN ?_
        refine TQ.thenC ?_
        refine TC.region ?_
        refine TL.pure (PV.move rfl) rfl (by decide) ?_
        refine TL.pure (PV.add rfl rfl (by omega)) rfl (by decide) ?_
        refine TL.pure (PV.assign rfl) rfl (by decide) ?_
        refine TL.nil ?_
        refine TQ.thenN ?_
        refine TQ.backK nu (by first | exact And.intro rfl (And.intro rfl True.intro) | (refine And.intro rfl (And.intro ?_ True.intro); show some (gval _ _) = some (gval _ _); rw [hob])) (by repeat (first | exact True.intro | refine And.intro rfl ?_)) (by first | (rw [hob]; first | exact List.Sublist.append_left (by repeat (first | exact List.Sublist.slnil | exact List.nil_sublist _ | exact List.Sublist.refl _ | refine List.Sublist.cons_cons _ ?_ | refine List.Sublist.cons _ ?_ | refine List.Sublist.trans ?_ (List.sublist_append_right _ _))) _ | exact (by repeat (first | exact List.Sublist.slnil | exact List.nil_sublist _ | exact List.Sublist.refl _ | refine List.Sublist.cons_cons _ ?_ | refine List.Sublist.cons _ ?_ | refine List.Sublist.trans ?_ (List.sublist_append_right _ _)))) | (simp only [nu, hob]; first | exact List.Sublist.refl _ | exact List.Sublist.append_left (by repeat (first | exact List.Sublist.slnil | exact List.nil_sublist _ | exact List.Sublist.refl _ | refine List.Sublist.cons_cons _ ?_ | refine List.Sublist.cons _ ?_ | refine List.Sublist.trans ?_ (List.sublist_append_right _ _))) _ | exact (by repeat (first | exact List.Sublist.slnil | exact List.nil_sublist _ | exact List.Sublist.refl _ | refine List.Sublist.cons_cons _ ?_ | refine List.Sublist.cons _ ?_ | refine List.Sublist.trans ?_ (List.sublist_append_right _ _))))) hnu (by simp only [nu]; omega)
      · skip
        have hfu : otS xs u.1 = false := by unfold otS; rw [Decidable.not_not] at hin2; simp [hin2]
        have hob : lst (otS xs) (u.1 + 1) = lst (otS xs) u.1 := lst_no hfu
        let nu : Nat × HD := (u.1 + 1, u.2)
        have hnu : nu.1 ≤ n ∧ goI (nu.2, lst (otS xs) nu.1) := ⟨by simp only [nu]; omega, by simp only [nu]; rw [hob]; exact hu9.2⟩
        refine TC.skip ?_
        refine TQ.blkN ?_
        refine TQ.thenC ?_
        refine TC.region ?_
        refine TL.pure (PV.move rfl) rfl (by decide) ?_
        refine TL.pure (PV.add rfl rfl (by omega)) rfl (by decide) ?_
        refine TL.pure (PV.assign rfl) rfl (by decide) ?_
        refine TL.nil ?_
        refine TQ.thenN ?_
        refine TQ.backK nu (by first | exact And.intro rfl (And.intro rfl True.intro) | (refine And.intro rfl (And.intro ?_ True.intro); show some (gval _ _) = some (gval _ _); rw [hob])) (by repeat (first | exact True.intro | refine And.intro rfl ?_)) (by first | (rw [hob]; first | exact List.Sublist.append_left (by repeat (first | exact List.Sublist.slnil | exact List.nil_sublist _ | exact List.Sublist.refl _ | refine List.Sublist.cons_cons _ ?_ | refine List.Sublist.cons _ ?_ | refine List.Sublist.trans ?_ (List.sublist_append_right _ _))) _ | exact (by repeat (first | exact List.Sublist.slnil | exact List.nil_sublist _ | exact List.Sublist.refl _ | refine List.Sublist.cons_cons _ ?_ | refine List.Sublist.cons _ ?_ | refine List.Sublist.trans ?_ (List.sublist_append_right _ _)))) | (simp only [nu, hob]; first | exact List.Sublist.refl _ | exact List.Sublist.append_left (by repeat (first | exact List.Sublist.slnil | exact List.nil_sublist _ | exact List.Sublist.refl _ | refine List.Sublist.cons_cons _ ?_ | refine List.Sublist.cons _ ?_ | refine List.Sublist.trans ?_ (List.sublist_append_right _ _))) _ | exact (by repeat (first | exact List.Sublist.slnil | exact List.nil_sublist _ | exact List.Sublist.refl _ | refine List.Sublist.cons_cons _ ?_ | refine List.Sublist.cons _ ?_ | refine List.Sublist.trans ?_ (List.sublist_append_right _ _))))) hnu (by simp only [nu]; omega)
    · skip
      refine TC.exit ?_
      refine TQ.thenE ?_
      refine TQ.thenE ?_
      refine TQ.blkS ?_
      refine TQ.thenC ?_
      refine TC.seq ?_
      have hun : u.1 = n := by omega
      refine TC.region ?_
      refine TL.pure (PV.move rfl) rfl (by decide) ?_
      refine TL.pure (PV.assign rfl) rfl (by decide) ?_
      refine TL.nil ?_
      refine TQ.thenC ?_
      refine TC.ret ?_
      refine TQ.retE1 rfl rfl ?_
      exact ⟨u.2, by rw [hun], by rw [← hun]; exact hu9.2, by rw [← hun]; exact List.sublist_append_left _ _⟩

end Go.Proofs.Ytnlbngbbddhgeaa
